import PyProof.Rows.All
import Wide.All
import OpenK.AllK
import Wide.FinOn
import Lean
import PyProof.EqAt
import PyProof.EqKinds
import PyProof.TupleCall
import PyProof.ListRange
import PyProof.TupleOfSeq
import PyProof.Draws
import PyProof.EnumMake
import PyProof.TupleIter
import PyProof.Rows.SetFrom
import PyProof.SetRoads
import PyProof.WalksMore
import PyProof.Rows.SortShell
import KE.KMinBuiltin
import PyProof.Rows.CallKwBuiltin
import KE.KRevIter
import PyProof.Rows.Tup
import PyProof.Rows.Range3
import PyProof.DictWalks
import PyProof.DictTruth
import PyProof.TupleKey
import PyProof.Rows.SeqMore2
import PyProof.FString
import PyProof.StrWalks
import PyProof.StrBlockH
import PyProof.StrCalls2
import PyProof.SliceStr2
import KE.KIntText
import PyProof.StrLawsTight
import KE.KDictList
import PyProof.DictRoadsH
import KE.KLam
import KE.KNestM
import PyProof.DictItems
import PyProof.IsiHeapPairs
import KE.KPairComp
import PyProof.MinMaxWalk
import PyProof.MeetsSeq
import PyProof.Rows.ZipGen
import PySem.Challenge.RW_hueshare_k51_deeds_of_a_sharing_refused
set_option compiler.extract_closed false
set_option Elab.async false
set_option linter.all false
set_option maxRecDepth 100000

noncomputable abbrev ζ:=PySem.Value
noncomputable abbrev η:=PySem.Shared
noncomputable abbrev θ:=PySem.PyData
noncomputable abbrev ξ:=PySem.Program
noncomputable abbrev ρ:=PySem.FuncData
noncomputable abbrev τ:=PySem.World
noncomputable abbrev L4:=PySem.Str->Option ζ
noncomputable abbrev L3:=ζ->η->Prop
noncomputable abbrev L1:=List (PySem.Addr×PySem.Obj)
noncomputable abbrev L0:=List (Int×Int)
def fM:=@of_decide_eq_true
def cX:=@decide_eq_true
def aB:=@if_neg
def bL:=@PySem.wpAny_bind
def aH:=@if_pos
def lV:=@decide_eq_false
def oM:=@Bool.and_eq_true
def fZ:=@PySem.sizeLine_eq
def uU:=@Bool.false_ne_true
def iD:=@PySem.wpAny_pure
def tu:=@Option.some.inj
def QK:=@PyProof.Rows.callWith_type1
def yD:=@PySem.PassesOwn.never
def QJ:=@PySem.F.plainAttrs_list
def Vf:=@PySem.F.excBase_ValueError
def jX:=@congrArg
def Kf:=@of_decide_eq_false
def Kz:=@PySem.mem_of_lookup
def was:=@Bool.eq_iff_iff
def QH:=@decide_eq_true_eq
def Ri:=@PySem.wpAny_Call_Name_kw
def Y7:=@Classical.byContradiction
def mj:=@Ne.symm
def Fv:=@PySem.W.mg_none_of
def way:=@PySem.wpAny_execs_nil
def Ve:=@PySem.wpAny_truthy_bool
def Rh:=@PyProof.Rows.KeyOrd.kle_refl
def wbb:=@decide_eq_false_iff_not
def Ft:=@PySem.wpAny_mono
def wbd:=@PySem.F.slot_tuple_iterator_next
def Wb:=@PySem.wpAny_passesOwn
def Y6:=@PySem.wpAny_newObj_type
def wbg:=@PySem.F.slot_list_append
def wbh:=@PySem.F.type_list_append
def Vd:=@PySem.wpAny_holding
def wbj:=@PySem.Heap.SameBut.update
def wbk:=@PySem.F.slot_list_index
def wbl:=@PySem.F.type_list_index
def Y5:=@Bool.not_eq_true
def wbn:=@PySem.W.callWith_K
def wbo:=@PyProof.Rows.KeyOrd.kle_of_klt
def wbp:=@Bool.not_eq_true'
def Z9:=@PySem.wpAny_execs_cons
def wbr:=@PySem.W.hideAll_get
def Bh:=@PySem.W.mg_of
def Wa:=@PySem.codeAny_mono
def wbu:=@PySem.F.args_tuple_add_2
def wbv:=@PySem.Calls.spliced_cons
def wbw:=@PySem.F.entry_tuple_add
def Z8:=@PySem.W.KasT.kasWp_bind
def wby:=@PySem.wpAny_pyIter_tuple
def Z6:=@PySem.codeAny_builtin
def wca:=@Int.eq_ofNat_of_zero_le
def wcb:=@decide_eq_true_iff
def wcc:=@List.getElem?_set_self
def wcd:=@PySem.F.slot_tuple_add
def wce:=@PySem.Heap.get?_update_other
def wcf:=@List.length_pos_of_mem
def wcg:=@List.any_eq_false
def wch:=@PySem.Calls.spliced_nil
def Vc:=@PySem.call_meets
def wcj:=@PySem.Heap.get?_push_ne
def wck:=@PySem.wpAny_pyIter_enum
def wcl:=@Int.mul_le_mul_of_nonneg_right
def wcm:=@PyProof.Rows.KeyOrd.kle_trans
def wcn:=@Nat.succ_le_succ
def wco:=@PySem.wpAny_call_entry
def wcp:=@List.getElem?_set_ne
def wcq:=@List.getElem?_append
def Z1:=@PySem.Paired.length
def Z0:=@List.any_cons
def wct:=@PySem.F.args_tuple_iterator_next_1
def ZX:=@Int.ofNat.inj
def wcv:=@PySem.W.plainGet_of
def wcw:=@Nat.add_sub_cancel'
def wcx:=@PyProof.Rows.get?_update_seq
def wcy:=@Int.toNat_of_nonneg
def wcz:=@PySem.F.entry_tuple_iterator_next
def wda:=@PySem.pushCells_keeps
def wdb:=@List.filter_sublist
def wdc:=@Int.fdiv_eq_ediv_of_nonneg
def wdd:=@Int.mul_lt_mul_of_pos_left
def wde:=@Int.eq_of_mul_eq_mul_right
def wdf:=@Int.le_of_mul_le_mul_right
def wdg:=@List.zip_cons_cons
def ZW:=@Nat.mul_comm
def ZV:=@Int.le_of_eq
def wdj:=@Int.natAbs_natCast
def wdk:=@Int.eq_of_mul_eq_mul_left
def wdl:=@Int.lt_of_mul_lt_mul_left
def wdm:=@List.mem_or_eq_of_mem_set
def Y4:=@PySem.wpAny_call
def wdo:=@List.append_assoc
def wdp:=@Nat.le_of_succ_le
def wdq:=@PySem.wpAny_pyIter_list
def wdr:=@PyProof.noPylong_of_log2
def wds:=@Int.mul_ediv_cancel_left
def wdt:=@Nat.gcd_pos_of_pos_right
def wdu:=@List.getElem?_set
def ZS:=@Int.mul_one
def wdw:=@PySem.rangeSize_one
def wdx:=@PyProof.Rows.listUpdate_at
def wdy:=@PySem.wpAny_newList
def ZR:=@Int.mul_pos
def wea:=@Nat.gcd_pos_of_pos_left
def wec:=@Nat.mul_assoc
def wed:=@List.filter_cons_of_pos
def wee:=@List.filter_cons_of_neg
def wef:=@PySem.noFill_tuple_add
def weg:=@PySem.AutoSeq1.idx_int
def weh:=@Int.natCast_ediv
def wei:=@List.not_mem_nil
def wej:=@PySem.W.cellsFrom_some
def wek:=@Nat.le_mul_of_pos_left
def wel:=@PySem.W.methodCall_KW
def wem:=@List.of_mem_zip
def wen:=@List.map_nil
def weo:=@Int.zero_add
def wep:=@Int.ediv_nonneg
def weq:=@Bool.and_eq_false_iff
def wer:=@List.map_id'
def wes:=@List.filter_map
def ZQ:=@PyProof.Rows.boot_range
def weu:=@Int.natAbs_mul
def wev:=@PySem.IsRange.new
def wew:=@PySem.wpAny_field
def wex:=@Int.lt_irrefl
def wey:=@List.all_cons
def wez:=@Nat.le_of_dvd
def wfa:=@Nat.sub_le
def wfb:=@Int.add_zero
def wfc:=@List.map_set
def wfd:=@Nat.mul_zero
def aM:=@List.length_map
def fL:=@List.getElem?_eq_getElem
def aW:=@Nat.le_refl
def cU:=@List.map_append
def fu:=@List.getElem?_map
def oK:=@List.getD_eq_getElem?_getD
def oF:=@List.getElem?_eq_some_iff
def lH:=@PySem.Heap.get?_push_of_some
def jW:=@List.mem_cons_of_mem
def cZ:=@List.mem_cons
def iH:=@List.size_toArray
def jG:=@List.mem_cons_self
def cY:=@Nat.le_of_lt
def gP:=@List.mem_filter
def jY:=@Nat.lt_of_lt_of_le
def dD:=@Nat.le_trans
def oE:=@List.mem_singleton
def dF:=@Nat.zero_le
def fW:=@PySem.Heap.lt_size
def oA:=@List.all_eq_true
def rJ:=@List.length_append
def uT:=@List.mem_of_getElem?
def sY:=@PySem.Heap.get?_push_size
def jh:=@Nat.ne_of_lt
def qg:=@List.mem_append
def yp:=@List.length_filter_le
def uW:=@Nat.lt_succ_of_lt
def sy:=@List.mem_range
def oJ:=@List.mem_map
def vH:=@Nat.lt_succ_self
def yx:=@List.length_range
def Ie:=@List.mem_append_right
def yw:=@List.length_take
def yu:=@Nat.succ_ne_zero
def yt:=@List.take_length
def uR:=@Nat.lt_irrefl
def Fq:=@List.take_add_one
def Bl:=@List.length_cons
def Bg:=@List.append_nil
def Bf:=@List.range_succ
def Ke:=@Nat.lt_of_le_of_lt
def Kd:=@List.filter_append
def Rf:=@Nat.mul_div_cancel_left
def U8:=@List.pairwise_iff_getElem
def v8:=@List.map_map
def Ib:=@List.filter_cons
def yj:=@Nat.succ_pos
def Kc:=@List.lookup_cons
def Ka:=@List.getElem_mem
def Bd:=@Int.mul_zero
def U7:=@List.getElem?_eq_none
def Bk:=@Nat.le_of_eq
def Ks:=@Nat.min_le_left
def Ia:=@List.map_cons
def U6:=@List.getElem_of_mem
def Kr:=@Int.mul_nonneg
def QG:=@List.nodup_cons
def U5:=@Nat.lt_of_le_of_ne
def Y0:=@List.pairwise_singleton
def ych:=@List.take_succ_eq_append_getElem
def V5:=@Array.length_toList
def U4:=@Int.toNat_natCast
def V4:=@List.replicate_succ
def U3:=@Nat.le_of_lt_succ
def U0:=@List.pairwise_map
def ycn:=@Int.mul_le_mul_of_nonneg_left
def Rb:=@PySem.Heap.size_push
def J4:=@Int.le_refl
def YZ:=@List.getElem?_range
def YX:=@List.map_congr_left
def ZM:=@List.take_of_length_le
def yct:=@List.getElem?_append_right
def QF:=@Int.mul_comm
def QD:=@Int.le_of_lt
def YW:=@List.pairwise_cons
def Kq:=@Nat.le_succ
def ZL:=@Nat.sub_one_lt_of_le
def ZK:=@List.pairwise_append
def V3:=@List.length_nil
def V2:=@Nat.le_antisymm
def ydc:=@Nat.succ_add_eq_add_succ
def V1:=@Nat.not_lt_zero
def Ra:=@Nat.lt_trans
def ydf:=@List.pairwise_lt_range
def ZJ:=@Nat.eq_zero_or_pos
def ydh:=@List.length_replicate
def ydi:=@List.cons_lt_cons_iff
def Q9:=@Int.one_mul
def ZG:=@List.flatten_cons
def ZF:=@List.ext_getElem?
def V0:=@Int.mul_assoc
def ZD:=@Nat.gcd_dvd_right
def ydo:=@Array.perm_iff_toList_perm
def ydp:=@List.mem_append_left
def ydq:=@Nat.le_sub_one_of_lt
def ydr:=@List.getElem?_append_left
def yds:=@List.filterMap_cons
def VR:=@Nat.ne_of_gt
def ZC:=@Int.natCast_mul
def ydv:=@List.map_singleton
def YT:=@Int.zero_mul
def YS:=@List.all_map
namespace Hd
open PySem PySem.W PySem.Calls PyProof.Rows
-- a run of the text's top over the heap as a tree, as one fold
noncomputable def Wv(tb:String->Option Builtin)(p:ξ)(w:τ)(m:Nat)(ann:Option ζ)(n:Nat):SharedT->Thread->Option SharedT:=
 @Nat.rec (fun _=>SharedT->Thread->Option SharedT) (fun _ _=>none)
  (fun _ ih s t=> @Bool.rec (fun _=>Option SharedT)
   (@Bool.rec (fun _=>Option SharedT) none
    (@Option.rec (SharedT×Thread) (fun _=>Option SharedT) none (fun r=>ih r.1 r.2) (stepT (denote tb) p w s t)) (stepOk m ann t))
   (some s) (through t)) n
theorem RK{tb:String->Option Builtin}{p:ξ}{w:τ}{m:Nat}{ann:Option ζ}:∀(n:Nat) (s s':SharedT) (t:Thread),
  Wv tb p w m ann n s t=some s'->topRun tb p w m ann n s.abs t=some s'.abs:=by
 intro n
 induction n with
 |zero=>intro s s' t h;exact absurd h (by intro h;cases h)
 |succ n ih=>
  intro s s' t h;have h1: @Bool.rec (fun _=>Option SharedT) (@Bool.rec (fun _=>Option SharedT) none
    (@Option.rec (SharedT×Thread) (fun _=>Option SharedT) none (fun r=>Wv tb p w m ann n r.1 r.2) (stepT (denote tb) p w s t)) (stepOk m ann t))
    (some s) (through t)=some s':=h
  unfold topRun;cases e1:through t with
  |true=>rw[e1]at h1;injection h1 with h1;rw[h1]
  |false=>
   rw[e1]at h1;cases e2:stepOk m ann t with
   |false=>rw[e2]at h1;cases h1
   |true=>
    rw[e2]at h1;cases e3:stepT (denote tb) p w s t with
    |none=>rw[e3]at h1;cases h1
    |some r=>
     rw[e3]at h1;have e4:=stepT_spec (s':=r.1) (t':=r.2) e3;show(match step (denote tb) p w s.abs t with | .go a b=>topRun tb p w m ann n a b| .halt _ _=>none)=_;rw[e4];exact ih _ _ _ h1
noncomputable def treeOf(l:List Obj):BT:=(l.foldl (fun x o=>(x.1.ins x.2 o,x.2+1)) ((BT.nil,0):BT×Nat)).1
-- the run from the start that the kit has laid
noncomputable def ran(p:ξ)(N:Nat)(w:τ)(os:OsState):Option SharedT:=
 Wv treeTable p w 11 (some (.ref 6)) N ⟨treeOf (boot_heap w.params).objs.toList,11,{},Array.mk [],boot_drawn,boot_toks,os⟩ (topStub p)
-- what is looked at behind the run
noncomputable def looked(p q:ξ)(loose:List Str)(Xt:η->Bool)(g0:Bool)(h:Heap)(s:η):=
 ((staticsOk (importedModules p.main.body) h s.heap&&namesBound p s.heap&&gensDone s&&laidKept h s.heap),openSeen q loose (importedModules p.main.body) Xt g0 s)
noncomputable def qR(p q:ξ)(loose:List Str)(Xt:η->Bool)(g0:Bool)(N:Nat):Prop:=
 ∀(w:τ) (os:OsState),(ran p N w os).map (fun s=>looked p q loose Xt g0 (boot_heap w.params) s.abs)=some (true,openGood q loose)
theorem Tr{p q:ξ}{loose:List Str}{Xt:η->Bool}{α:Type}{Yf:η->α}{Ya:τ->α}{N:Nat}{g0:Bool}(r:qR p q loose Xt g0 N)(e:opening p=plainProg p.main.scope.names)(hN:Nat.ble 600 N=true)(f:∀s,fenceModules? p s=some s)(y:∀(w:τ) (os:OsState),(ran p N w os).map (fun s=>Yf s.abs)=some (Ya w)):
  LeftO p q loose Xt Yf Ya N g0:=fun w=>by
 have b:((boot_heap w.params).isNs mainGlobals&&(Array.mk []:Array GenState).size==0,(boot_heap w.params).objs.size,(boot_heap w.params).nsMap mainGlobals "__annotations__")=(true,11,some (.ref 6)):=by kernel_rfl
 have c:absHeap (treeOf (boot_heap w.params).objs.toList) 11 {}=boot_heap w.params:=by kernel_rfl
 obtain⟨⟨h,gs',d',k',os⟩,e1,e'⟩:=Option.map_eq_some_iff.mp (boot_open e hN f w);obtain⟨rfl,rfl,rfl,rfl⟩:h=boot_heap w.params/\gs'=Array.mk []/\d'=boot_drawn/\k'=boot_toks:=by simpa using e'
 obtain⟨b1,b2,b3⟩:_/\_/\_:=by simpa only[Prod.mk.injEq]using b
 obtain⟨s,r1,r2⟩:=Option.map_eq_some_iff.mp (r w os);obtain⟨s',y1,y2⟩:=Option.map_eq_some_iff.mp (y w os);have es:s'=s:=by rw[r1]at y1;injection y1 with y1;exact y1.symm
 subst es;obtain⟨l1,l2⟩:_/\_:=by simpa only[looked,Prod.mk.injEq]using r2
 have t1:=RK N _ _ _ r1;have ab:SharedT.abs ⟨treeOf (boot_heap w.params).objs.toList,11,{},Array.mk [],boot_drawn,boot_toks,os⟩=⟨boot_heap w.params,Array.mk [],boot_drawn,boot_toks,os⟩:=by unfold SharedT.abs;rw[c]
 rw[ab]at t1;have t:topFrom treeTable p w N ⟨boot_heap w.params,Array.mk [],boot_drawn,boot_toks,os⟩=some s'.abs:=by
  unfold topFrom;dsimp only;rw[b1,b2,b3,t1];show(match staticsOk (importedModules p.main.body) (boot_heap w.params) s'.abs.heap&&namesBound p s'.abs.heap&&gensDone s'.abs&&laidKept (boot_heap w.params) s'.abs.heap with |true=>_|false=>_)=_;rw[l1]
 unfold openEnds;rw[e1];show(topFrom treeTable p w N _).map _=_;rw[t];show some (_,_)=_;rw[l2,y2]
-- what is looked at behind the run, in five groups: a run for each, so that none needs the memory of all
theorem two{α β γ:Type}{o:Option α}{f:α->β}{g:α->γ}{a:β}{b:γ}(h:o.map f=some a)(h':o.map g=some b):o.map (fun s=>(f s,g s))=some (a,b):=by
 cases o with
 |none=>cases h
 |some s=>
  injection h with h
  injection h' with h'
  show some (f s,g s)=_;rw[h,h']
theorem KJ{α β γ:Type}{o:Option α}{f:α->β}{g:α->γ}{a:β}{b:γ}(h:o.map (fun s=>(f s,g s))=some (a,b)):o.map f=some a/\o.map g=some b:=by
 cases o with
 |none=>cases h
 |some s=>
  injection h with h
  injection h with h h'
  exact⟨jX some h,jX some h'⟩
theorem both{α:Type}{o:Option α}{f g:α->Bool}(h:o.map f=some true)(h':o.map g=some true):o.map (fun s=>f s&&g s)=some true:=by
 cases o with
 |none=>cases h
 |some s=>
  injection h with h
  injection h' with h'
  show some (f s&&g s)=_;rw[h,h'];rfl
section
variable(p q:ξ)(Xt:η->Bool)(N:Nat)
noncomputable abbrev GA:Prop:=∀(w:τ) (os:OsState),(ran p N w os).map (fun s=>(seen ((recsOf q).map (·.name)) (ownsOf q) [] {s.abs with gens:=#[]},s.abs.heap.bltView,s.abs.heap.isNs mainGlobals,s.abs.heap.isNs builtinsNs,tablesOk q s.abs.heap,s.abs.gens.size==0))=some (expectedOf q,bltViewBooted,true,true,true,true)
noncomputable abbrev GB:Prop:=∀(w:τ) (os:OsState),(ran p N w os).map (fun s=>(s.abs.heap.keysOk (looseW q []) ((recsOf q).map (·.name)) ((litsOf q).map (·.1)) ((clssOf q (looseW q [])).map (·.name)),(staticsOk (importedModules p.main.body) (boot_heap w.params) s.abs.heap&&namesBound p s.abs.heap&&gensDone s.abs&&laidKept (boot_heap w.params) s.abs.heap),s.abs.heap.accountedOkI (importedModules p.main.body),Xt s.abs,plainSeenD q [] s.abs))=some (true,true,true,true,plainGoodD q [])
noncomputable abbrev GC:Prop:=∀(w:τ) (os:OsState),(ran p N w os).map (fun s=>(tabsOk q s.abs,pinSeenD q (drecsOf q) s.abs))=some (true,pinGoodD (drecsOf q))
noncomputable abbrev GD:Prop:=∀(w:τ) (os:OsState),(ran p N w os).map (fun s=>plainSeenE q (looseW q []) s.abs)=some (plainGoodE q (looseW q []))
noncomputable abbrev GE:Prop:=∀(w:τ) (os:OsState),(ran p N w os).map (fun s=>(wideSeen q s.abs,clsSeenW q [] s.abs))=some (wideGood q,clsGoodW q [])
end
theorem Oa{p q:ξ}{Xt:η->Bool}{N:Nat}(ga:GA p q N)(gb:GB p q Xt N)(gc:GC p q N)(gd:GD p q N)(ge:GE p q N):qR p q [] Xt true N:=fun w os=>by
 obtain⟨h1,a2⟩:=KJ (ga w os);obtain⟨h2,a3⟩:=KJ a2;obtain⟨h5,a4⟩:=KJ a3;obtain⟨h6,a5⟩:=KJ a4;obtain⟨h7,h9⟩:=KJ a5;obtain⟨h3,b2⟩:=KJ (gb w os);obtain⟨h0,b3⟩:=KJ b2;obtain⟨h4,b4⟩:=KJ b3;obtain⟨h8,k4⟩:=KJ b4;obtain⟨k1,k2⟩:=KJ (gc w os);obtain⟨k5,k6⟩:=KJ (ge w os);exact two h0 (two h1 (two h2 (two (both (both (both (both (both (both h3 h4) h5) h6) h7) h8) h9) (two k1 (two k2 (two (gd w os) (two k4 (two k5 k6))))))))
end Hd
section
open PySem PySem.W PyProof.Rows
namespace Hd
noncomputable abbrev L:=PySem.Challenge.rw_hueshare_k51_deeds_of_a_sharing_refused
noncomputable def Q:ξ:=view L.row.toRowW.prog [1,2,3,4,5,6,7,8,9,10,12,13,14,15,16,17,18,19,20,21,22,23,24,25,27,28,29,30,31,32,34,35,37,38,39,40,41,43,44,45,46,47,48,49,50,52,53,54,55,56,57,59,60,61,62,63,64,65,66,67,68,69]
noncomputable abbrev X:η->Bool:=fun s=>xlAt Q [] s&&recOk (RowW.records L.row.toRowW) s
set_option maxRecDepth 100000 in
theorem g0:GA L.row.toRowW.prog Q 9468:=fun w os=>by kernel_rfl
set_option maxRecDepth 100000 in
theorem g1:GB L.row.toRowW.prog Q X 9468:=fun w os=>by kernel_rfl
set_option maxRecDepth 100000 in
theorem g2:GC L.row.toRowW.prog Q 9468:=fun w os=>by kernel_rfl
set_option maxRecDepth 100000 in
theorem g3:GD L.row.toRowW.prog Q 9468:=fun w os=>by kernel_rfl
set_option maxRecDepth 100000 in
theorem g4:GE L.row.toRowW.prog Q 9468:=fun w os=>by kernel_rfl
theorem looks:qR L.row.toRowW.prog Q [] X true 9468:=Oa g0 g1 g2 g3 g4
end Hd
local macro_rules
 |`(tactic|o_head $H)=>`(tactic|
  refine holds_open (q:=Hd.Q) (loose:=[]) (N:=9468) (Xt:=Hd.X) (XP:=XL Hd.Q [])
   (Yf:=Hook.obs $H) (Ya:=Hook.val $H) (YP:=Hook.says $H)
   (Hd.Tr Hd.looks (by kernel_rfl) rfl (fun _=>by kernel_rfl) (fun _ _=>by kernel_rfl))
   (Hook.of $H) (Hook.keeps $H) (fun s e=>xl_of s (Bool.and_eq_true_iff.mp e).1) XL.keeps
   (by rfl) (by rfl) (by rfl) (fun s e=>recFacts_of (Bool.and_eq_true_iff.mp e).2) (by rfl)
   (by first |assumption|decide+kernel) (by decide+kernel) ⟨rfl,rfl,rfl,rfl,rfl,by decide+kernel⟩ ?hw ?hc)
set_option maxRecDepth 100000 in
set_option maxHeartbeats 0 in
noncomputable def Hd.early:PSigma fun P:Prop=>P->PySem.Challenge.rw_hueshare_k51_deeds_of_a_sharing_refused.Holds:=by
 refine⟨?P,fun W=> ?_⟩
 rotate_left
 w_on;o_law;k_head;(case hw=>w_witness2)
 exact W
end
namespace L2
open PySem PySem.Spec PyProof.Rows
noncomputable abbrev Key:=Sum Int Str
noncomputable def keyIs:Key->ζ->Bool
 | .inl k,v=>Value.isInt k v
 | .inr x,v=>Value.isStrOf x v
noncomputable def keyH(w:τ):Key->Int
 | .inl k=>hashInt k
 | .inr x=>hashStr w x
theorem QC:∀{k:Key} {v:ζ},keyIs k v=true->(∃i t,k=Sum.inl i/\v=Value.int i t)\/(∃x t,k=Sum.inr x/\v=Value.str x t)
 | .inl i,v,h=>by
  obtain⟨t,e⟩:=Value.isInt_shape (k:=i) (v:=v) h;exact .inl ⟨i,t,rfl,e⟩
 | .inr x,v,h=>by
  obtain⟨t,e⟩:=Value.isStrOf_shape (x:=x) (v:=v) h;exact .inr ⟨x,t,rfl,e⟩
theorem key_ll(a b:Int):decide ((Sum.inl a:Key)=Sum.inl b)=(a==b):=by
 by_cases e:a=b
 ·subst e;simp
 ·have h:¬(Sum.inl a:Key)=Sum.inl b:=fun q=>e (Sum.inl.inj q);rw[lV h];exact(beq_eq_false_iff_ne.mpr e).symm
theorem key_rr(a b:Str):decide ((Sum.inr a:Key)=Sum.inr b)=decide (a=b):=by
 by_cases e:a=b
 ·subst e;simp
 ·have h:¬(Sum.inr a:Key)=Sum.inr b:=fun q=>e (Sum.inr.inj q);rw[lV h,lV e]
theorem key_lr(a:Int)(b:Str):decide ((Sum.inl a:Key)=Sum.inr b)=false:=lV (fun q=>nomatch q)
theorem key_rl(a:Str)(b:Int):decide ((Sum.inr a:Key)=Sum.inl b)=false:=lV (fun q=>nomatch q)
noncomputable def mixKind(prog:ξ)(w:τ):PySem.KeyKind prog w Key where
 is:=keyIs
 hash:=keyH w
 inj:=fun v a b ha hb=>by
  rcases QC ha with⟨i,t,rfl,rfl⟩|⟨x,t,rfl,rfl⟩
  ·rcases QC hb with⟨j,u,rfl,e⟩|⟨y,u,rfl,e⟩
   ·injection e with e1 _;rw[e1]
   ·exact nomatch e
  ·rcases QC hb with⟨j,u,rfl,e⟩|⟨y,u,rfl,e⟩
   ·exact nomatch e
   ·injection e with e1 _;rw[e1]
 byValue:=fun k v h=>by
  rcases QC h with⟨i,t,rfl,rfl⟩|⟨x,t,rfl,rfl⟩<;>rfl
 pyHash:=fun hv h=>by
  rcases QC hv with⟨i,t,rfl,rfl⟩|⟨x,t,rfl,rfl⟩
  ·exact wpAny_pyHash_int h
  ·exact wpAny_pyHash_str h
 eqBool:=fun hu hv h=>by
  rcases QC hu with⟨i,t,rfl,rfl⟩|⟨x,t,rfl,rfl⟩
  ·rcases QC hv with⟨j,u,rfl,rfl⟩|⟨y,u,rfl,rfl⟩
   ·rw[key_ll]at h;exact wpAny_eqBool_int h
   ·rw[key_lr]at h;exact SeqAt.EqAt.int_str i t y u _ _ _ _ h
  ·rcases QC hv with⟨j,u,rfl,rfl⟩|⟨y,u,rfl,rfl⟩
   ·rw[key_rl]at h;exact SeqAt.EqAt.str_int x t j u _ _ _ _ h
   ·rw[key_rr]at h;exact wpAny_eqBool_str h
 «strs»:=fun k x t v h=>by
  rcases QC h with⟨i,u,rfl,e⟩|⟨y,u,rfl,e⟩
  ·exact nomatch e
  ·injection e with e1 _
   subst e1;cases v<;>rfl
inductive V where
 |non|bl (b:Bool)|int (i:Int)|str (x:Str)|byt (b:Array UInt8)|flt (b:UInt64)|ref (a:Addr)|ty (n:String)
 deriving DecidableEq
noncomputable def RelV:V->ζ->Prop
 | .non,u=>u=Value.none
 | .bl b,u=>u=Value.bool b
 | .int i,u=>∃t,u=Value.int i t
 | .str x,u=>∃t,u=Value.str x t
 | .byt b,u=>∃t,u=Value.bytes b t
 | .flt b,u=>∃t,u=Value.float b t
 | .ref a,u=>u=Value.ref a
 | .ty n,u=>u=Value.type n
noncomputable abbrev Vals:List V->List ζ->Prop:=Paired RelV
theorem Vals.length{xs:List V}{us:List ζ}(r:Vals xs us):xs.length=us.length:=Z1 r
theorem Vals.get:∀{xs:List V} {us:List ζ} {i:Nat} {x:V},Vals xs us->xs[i]? =some x->∃u,us[i]? =some u/\RelV x u
 |_,_,_,_,.nil,e=>by simp at e
 |_,_,0,_,.cons r _,e=>by simp at e;subst e;exact⟨_,rfl,r⟩
 |_,_,i+1,x,.cons _ t,e=>by
  obtain⟨u,h1,h2⟩:=Vals.get (i:=i) (x:=x) t (by simpa using e);exact⟨u,by simpa using h1,h2⟩
theorem Vals.set{x:V}{u:ζ}(r:RelV x u):∀{xs:List V} {us:List ζ} (i:Nat),Vals xs us->Vals (xs.set i x) (us.set i u)
 |_,_,_,.nil=> .nil
 |_,_,0,.cons _ t=> .cons r t
 |_,_,i+1,.cons q t=> .cons q (Vals.set r i t)
theorem Vals.append:∀{xs ys:List V} {us ws:List ζ},Vals xs us->Vals ys ws->Vals (xs++ys) (us++ws)
 |_,_,_,_,.nil,s=>s
 |_,_,_,_,.cons r t,s=> .cons r (Vals.append t s)
theorem Vals.take:∀{xs:List V} {us:List ζ} (n:Nat),Vals xs us->Vals (xs.take n) (us.take n)
 |_,_,0,_=> .nil
 |_,_,_+1,.nil=> .nil
 |_,_,n+1,.cons r t=> .cons r (Vals.take n t)
theorem Vals.drop:∀{xs:List V} {us:List ζ} (n:Nat),Vals xs us->Vals (xs.drop n) (us.drop n)
 |_,_,0,r=>r
 |_,_,_+1,.nil=> .nil
 |_,_,n+1,.cons _ t=>Vals.drop n t
noncomputable def RelO:Option V->Option ζ->Prop
 |some v,some u=>RelV v u
 |none,none=>True
 |_,_=>False
noncomputable def KV{κ:Type}:List (κ×V)->List (κ×ζ)->Prop:=Paired fun(p:κ×V) (q:κ×ζ)=>p.1=q.1/\RelV p.2 q.2
noncomputable def kV:Key->V
 | .inl i=> .int i
 | .inr x=> .str x
inductive HO where
 /-- a list -/
 |lst (xs:List V)
 /-- a tuple (never changes) -/
 |tup (xs:List V)
 /-- a dict whose keys are ints and texts; one whose keys are tuples of ints and texts (the empty one is both) -/
 |dK (kvs:List (Key×V))|dT (kvs:List (List Key×V))
 /-- a set of ints: its members, its size -/
 |set (S:Int->Bool) (n:Nat)
 /-- an instance of the class at C, its dict at dx, its attributes -/
 |ins (C dx:Addr) (fs:List (Str×V))
 /-- the dict of the instance at x -/
 |own (x:Addr)
 /-- the dict of an exception -/
 |xd (fs:List (Str×V))
 /-- a bound method, f of x -/
 |met (f x:Addr)
 /-- a range object lo, lo + 1, .. below hi -/
 |rng (lo hi:Int)
 /-- a thing that is known to the object (the script; a dict while a loop walks it): read, never written while it is so -/
 |frz (o:Obj) (u:HO)
 /-- a code object's table -/
 |tbl (ps:Array ζ)
 /-- any other thing, by what is true of its one object (a def of one's own: SetO a S n := HO.ext fun h => ..) -/
 |ext (φ:Heap->Prop)
noncomputable abbrev Hp:=Addr->Option HO
noncomputable def upd(H:Hp)(a:Addr)(o:HO):Hp:=fun b=>if b=a then some o else H b
theorem au{H:Hp}{a:Addr}{o:HO}:upd H a o a=some o:=by unfold upd;rw[aH rfl]
theorem cG{H:Hp}{a b:Addr}{o:HO}(h:b≠a):upd H a o b=H b:=by unfold upd;rw[aB h]
theorem upd_upd{H:Hp}{a:Addr}{o u:HO}:upd (upd H a o) a u=upd H a u:=by
 funext b;unfold upd;split<;>rfl
theorem ne_of{H:Hp}{a b:Addr}{o u:HO}(h:H a=some o)(h':H b=some u)(d:o≠u):a≠b:=by
 intro e;subst e;rw[h]at h';exact d (tu h')
theorem oH{H:Hp}{a b:Addr}{o:HO}(h:H a=some o)(h':H b=none):a≠b:=by
 intro e;subst e;rw[h]at h';cases h'
section
variable(P:ξ)(w:τ)
noncomputable def ObjOk(H:Hp)(h:Heap)(a:Addr):HO->Prop
 | .lst xs=>xs.length<=sizeLine/\∃(its:List ζ) (n:Nat),Vals xs its/\h.get? a=some {cls:= .type "list",data:= .seq its.toArray n}
 | .tup xs=>xs.length<=sizeLine/\∃its:List ζ,Vals xs its/\IsTup h a its.toArray
 | .dK kvs=>kvs.length<=sizeLine/\(a==sysModules)=false/\∃vs,KV kvs vs/\h.DictOf (mixKind P w) a vs
 | .dT kvs=>kvs.length<=sizeLine/\(a==sysModules)=false/\∃xs:List (List Key×Addr×ζ),
   Paired (fun(p:List Key×V) (q:List Key×Addr×ζ)=>p.1=q.1/\H q.2.1=some (.tup (p.1.map kV))/\RelV p.2 q.2.2) kvs xs/\
   ∃o es ep,h.get? a=some o/\o.ExactDict/\o.data= .dict es ep/\es.toList=xs.map (entryOfKey (tupleKind (mixKind P w)))/\(xs.map (·.1)).Nodup
 | .set S n=>h.SetOf (intKind P w) a S n
 | .ins C dx fs=>H dx=some (.own a)/\fs.length<=1000/\dx≠a/\h.get? a=some (PySem.W.instObj C dx)/\
   ∃mA,h.Ns1 dx mA/\(∀f,RelO (fs.lookup f) (mA f))/\PySem.Within mA (fs.map (·.1))
 | .own _=>∃o,h.get? a=some o
 | .xd fs=>∃mA,h.Ns1 a mA/\∀f,RelO (fs.lookup f) (mA f)
 | .rng lo hi=>∃t u v,h.get? a=some {cls:= .type "range",data:= .fields #[.int lo t,.int hi u,.int 1 v]}
 | .frz o u=>h.get? a=some o/\ObjOk H h a u
 | .tbl ps=>h.get? a=some {cls:= .none,data:= .fields ps}
 | .met f x=>h.get? a=some (PySem.W.methodObj (.ref f) (.ref x))
 | .ext φ=>φ h/\(∃o,h.get? a=some o)/\∀h1 h2:Heap,φ h1->(∀o,h1.get? a=some o->h2.get? a=some o)->φ h2
noncomputable def HOk(H:Hp)(h:Heap):Prop:=∀a o,H a=some o->ObjOk P w H h a o
end
section
variable{P:ξ}{w:τ}{H H':Hp}{h h':Heap}{a:Addr}{o:HO}
theorem ObjOk.lt(x:ObjOk P w H h a o):a<h.objs.size:=by
 cases o with
 |lst xs=>obtain⟨_,_,_,_,e⟩:=x;exact fW e
 |tup xs=>obtain⟨_,_,_,p⟩:=x;exact p.lt
 |dK kvs=>obtain⟨_,_,_,_,o,_,_,e,_⟩:=x;exact fW e
 |dT kvs=>obtain⟨_,_,_,_,o,_,_,e,_⟩:=x;exact fW e
 |set S n=>obtain⟨o,_,_,_,e,_⟩:=x;exact fW e
 |ins C dx fs=>obtain⟨_,_,_,e,_⟩:=x;exact fW e
 |own y=>obtain⟨_,e⟩:=x;exact fW e
 |xd fs=>obtain⟨_,⟨_,_,_,e,_⟩,_⟩:=x;exact fW e
 |rng lo hi=>obtain⟨_,_,_,e⟩:=x;exact fW e
 |frz ob u=>obtain⟨e,_⟩:=x;exact fW e
 |tbl ps=>exact fW (show h.get? a=some _ from x)
 |met f y=>exact fW (show h.get? a=some _ from x)
 |ext φ=>obtain⟨_,⟨_,e⟩,_⟩:=x;exact fW e
theorem Paired.mapP{α β:Type}{F G:α->β->Prop}:∀{l₁:List α} {l₂:List β},Paired F l₁ l₂->(∀a b,F a b->G a b)->Paired G l₁ l₂
 |_,_,.nil,_=> .nil
 |_,_,.cons r t,f=> .cons (f _ _ r) (Paired.mapP t f)
theorem ObjOk.stay(x:ObjOk P w H h a o)(k:∀b u,(b=a\/H b=some (.own a))->h.get? b=some u->h'.get? b=some u)(ho:∀b,H b=some (.own a)->H' b=some (.own a))(ht:∀b xs,H b=some (.tup xs)->H' b=some (.tup xs)):ObjOk P w H' h' a o:=by
 induction o with
 |lst xs=>obtain⟨z,its,n,r,e⟩:=x;exact⟨z,its,n,r,k _ _ (.inl rfl) e⟩
 |tup xs=>obtain⟨z,its,r,ob,e,c⟩:=x;exact⟨z,its,r,ob,k _ _ (.inl rfl) e,c⟩
 |dK kvs=>obtain⟨z,y,vs,r,ob,es,ep,e,c⟩:=x;exact⟨z,y,vs,r,ob,es,ep,k _ _ (.inl rfl) e,c⟩
 |dT kvs=>
  obtain⟨z,y,xs,r,ob,es,ep,e,c⟩:=x;exact⟨z,y,xs,Paired.mapP r fun p q z=>⟨z.1,ht _ _ z.2.1,z.2.2⟩,ob,es,ep,k _ _ (.inl rfl) e,c⟩
 |set S n=>obtain⟨ob,es,ep,t,e,c⟩:=x;exact⟨ob,es,ep,t,k _ _ (.inl rfl) e,c⟩
 |ins C dx fs=>
  obtain⟨d,z,ne,e,mA,⟨od,es,ep,e2,c⟩,r⟩:=x;exact⟨ho _ d,z,ne,k _ _ (.inl rfl) e,mA,⟨od,es,ep,k _ _ (.inr d) e2,c⟩,r⟩
 |own y=>obtain⟨ob,e⟩:=x;exact⟨ob,k _ _ (.inl rfl) e⟩
 |xd fs=>obtain⟨mA,⟨od,es,ep,e,c⟩,r⟩:=x;exact⟨mA,⟨od,es,ep,k _ _ (.inl rfl) e,c⟩,r⟩
 |rng lo hi=>obtain⟨t,u,v,e⟩:=x;exact⟨t,u,v,k _ _ (.inl rfl) e⟩
 |frz ob u ih=>obtain⟨e,q⟩:=x;exact⟨k _ _ (.inl rfl) e,ih q⟩
 |tbl ps=>
  have e:h.get? a=some {cls:= .none,data:= .fields ps}:=x;show h'.get? a=some {cls:= .none,data:= .fields ps};exact k a _ (.inl rfl) e
 |met f y=>
  have e:h.get? a=some (PySem.W.methodObj (.ref f) (.ref y)):=x;show h'.get? a=some (PySem.W.methodObj (.ref f) (.ref y));exact k a _ (.inl rfl) e
 |ext φ=>obtain⟨p,⟨o,e⟩,st⟩:=x;exact⟨st _ _ p fun o q=>k _ _ (.inl rfl) q,⟨o,k _ _ (.inl rfl) e⟩,st⟩
theorem HOk.lt(x:HOk P w H h)(e:H a=some o):a<h.objs.size:=(x a o e).lt
theorem HOk.fresh(x:HOk P w H h)(e:h.objs.size<=a):H a=none:=by
 cases q:H a with
 |none=>rfl
 |some u=>exact absurd (jY (x.lt q) e) (uR _)
theorem HOk.kept(x:HOk P w H h)(k:∀b u,h.get? b=some u->h'.get? b=some u):HOk P w H h':=fun a o e=>
 (x a o e).stay (fun b u _ q=>k b u q) (fun _ q=>q) fun _ _ q=>q
theorem HOk.laid(x:HOk P w H h)(k:∀b u,h.get? b=some u->h'.get? b=some u)(hp:h.objs.size<=a)(new:ObjOk P w (upd H a o) h' a o):HOk P w (upd H a o) h':=fun b u e=>by
 have hn:=x.fresh hp;by_cases hb:b=a
 ·subst hb;rw[au]at e;cases e;exact new
 ·rw[cG hb]at e;exact(x b u e).stay (fun c v _ q=>k c v q) (fun c q=>by rw[cG (oH q hn)];exact q) fun c xs q=>by rw[cG (oH q hn)];exact q
end
noncomputable def Rd(H:Hp)(a:Addr)(u:HO):Prop:=H a=some u\/∃o,H a=some (.frz o u)
theorem Rd.ok{P:ξ}{w:τ}{H:Hp}{h:Heap}{a:Addr}{u:HO}(r:Rd H a u)(x:HOk P w H h):ObjOk P w H h a u:=by
 rcases r with r|⟨o,r⟩
 ·exact x a u r
 ·obtain⟨_,q⟩:=x a _ r;exact q
noncomputable def Mut:Option HO->Prop
 |some (.lst _)=>True
 |some (.dK _)=>True
 |some (.dT _)=>True
 |some (.set _ _)=>True
 |some (.ins _ _ _)=>True
 |some (.ext _)=>True
 |_=>False
section
variable{P:ξ}{w:τ}{H:Hp}{h h':Heap}{x e:Addr}{o':HO}
theorem HOk.write(ok:HOk P w H h)(mu:Mut (H x))(he:e=x\/H e=some (.own x))(k:∀b u,b≠e->h.get? b=some u->h'.get? b=some u)(heo:∃u,h'.get? e=some u)(new:ObjOk P w (upd H x o') h' x o'):HOk P w (upd H x o') h':=fun b u q=>by
 have nown:∀c y,H c=some (.own y)->c≠x:=fun c y r z=>by subst z;rw[r]at mu;exact mu
 have ntup:∀c xs,H c=some (.tup xs)->c≠x:=fun c xs r z=>by subst z;rw[r]at mu;exact mu
 by_cases hb:b=x
 ·subst hb;rw[au]at q;cases q;exact new
 ·rw[cG hb]at q;by_cases hbe:b=e
  ·have q':H b=some (.own x):=by
    rcases he with z|z
    ·exact absurd (hbe.trans z) hb
    ·rw[hbe];exact z
   rw[q]at q';cases q';obtain⟨v,hv⟩:=heo;exact⟨v,by rw[hbe];exact hv⟩
  ·refine(ok b u q).stay (fun c v hc r=>k c v ?_ r) (fun c r=>by rw[cG (nown c b r)];exact r) fun c xs r=>by rw[cG (ntup c xs r)];exact r
   rcases hc with rfl|hc
   ·exact hbe
   ·rintro rfl;rcases he with z|z
    ·exact nown c b hc z
    ·rw[hc]at z;cases z;exact hb rfl
end
structure Un(fs ex:List Addr)(H H':Hp)(h h':Heap):Prop where
 keep:∀b o,h.get? b=some o->H b=none->b∉fs->b∉ex->h'.get? b=some o
 slot:∀b o,h.get? b=some o->H b=none->b∈fs->b∉ex->∃sl,h'.get? b=some {o with slots:=sl}
 free:∀b o,h.get? b=some o->H b=none->b∉ex->H' b=none
 there:∀b o,h.get? b=some o->b∉ex->∃o',h'.get? b=some o'
 tups:∀b xs,H b=some (.tup xs)->H' b=some (.tup xs)
 frzs:∀b o u,H b=some (.frz o u)->H' b=some (.frz o u)
 tbls:∀b ps,H b=some (.tbl ps)->∃more,H' b=some (.tbl (ps++more))
section
variable{fs ex:List Addr}{H H1:Hp}{h h1 h':Heap}{a x e:Addr}{o:HO}
theorem Un.any(u:Un fs ex H H1 h h1){b:Addr}{ob:Obj}(q:h.get? b=some ob)(n:H b=none)(hx:b∉ex):∃sl,h1.get? b=some {ob with slots:=sl}:=by
 by_cases hb:b∈fs
 ·exact u.slot b ob q n hb hx
 ·exact⟨ob.slots,u.keep b ob q n hb hx⟩
theorem Un.kept(k:∀b u,h.get? b=some u->h'.get? b=some u):Un fs ex H H h h':=
 ⟨fun b ob q _ _ _=>k b ob q,fun b ob q _ _ _=>⟨ob.slots,k b ob q⟩,fun _ _ _ n _=>n,fun b ob q _=>⟨ob,k b ob q⟩,fun _ _ q=>q,fun _ _ _ q=>q,fun _ ps q=>⟨#[],by rw[q];simp⟩⟩
theorem Un.refl:Un fs ex H H h h:=Un.kept fun _ _ q=>q
theorem Un.laid(k:∀b u,h.get? b=some u->h'.get? b=some u)(hp:h.objs.size<=a)(hn:H a=none):Un fs ex H (upd H a o) h h' where
 keep:=fun b u q _ _ _=>k b u q
 slot:=fun b u q _ _ _=>⟨u.slots,k b u q⟩
 free:=fun b u q n _=>by rw[cG (jh (jY (fW q) hp))];exact n
 there:=fun b u q _=>⟨u,k b u q⟩
 tups:=fun b xs q=>by rw[cG (oH q hn)];exact q
 frzs:=fun b u xs q=>by rw[cG (oH q hn)];exact q
 tbls:=fun b ps q=>⟨#[],by rw[cG (oH q hn),q];simp⟩
theorem Un.write(mu:Mut (H x))(he:e=x\/H e=some (.own x))(k:∀b u,b≠e->h.get? b=some u->h'.get? b=some u)(heo:∃u,h'.get? e=some u):Un fs ex H (upd H x o) h h':=by
 have hx:∀b,H b=none->b≠x:=fun b n z=>by subst z;rw[n]at mu;exact mu
 have hb:∀b,H b=none->b≠e:=fun b n z=>by
  subst z;rcases he with r|r
  ·exact hx b n r
  ·rw[n]at r;cases r
 have hm:∀b u,H b=some u->¬Mut (some u)->b≠x:=fun b u q nm z=>by subst z;rw[q]at mu;exact nm mu
 refine⟨fun b u q n _ _=>k b u (hb b n) q,fun b u q n _ _=>⟨u.slots,k b u (hb b n) q⟩,fun b u q n _=>by rw[cG (hx b n)];exact n,fun b u q _=> ?_,
  fun b xs q=>by rw[cG (hm b _ q fun z=>z)];exact q,fun b u xs q=>by rw[cG (hm b _ q fun z=>z)];exact q,fun b ps q=>⟨#[],by rw[cG (hm b _ q fun z=>z),q];simp⟩⟩
 by_cases hbe:b=e
 ·subst hbe;exact heo
 ·exact⟨u,k b u hbe q⟩
end
noncomputable def trk(h:Heap)(H:Hp):List Addr:=(List.range h.objs.size).filter fun a=>(H a).isSome
noncomputable def hidT(h:Heap)(H:Hp):Heap:=PySem.W.hideAll h (trk h H)
theorem hidT_size(h:Heap)(H:Hp):(hidT h H).objs.size=h.objs.size:=PySem.W.hideAll_size _ _
theorem hidT_get{h:Heap}{H:Hp}{b:Addr}{o:Obj}(e:h.get? b=some o)(n:H b=none):(hidT h H).get? b=some o:=
 wbr _ e fun hm=>by
  have q:(H b).isSome=true:=(gP.mp hm).2;rw[n]at q;simp at q
theorem of_hidT{h:Heap}{H:Hp}{b:Addr}{o:Obj}(e:(hidT h H).get? b=some o):h.get? b=some o/\H b=none:=by
 have e':h.get? b=some o:=PySem.W.of_hideAll (trk h H) e;refine⟨e',?_⟩;cases q:H b with
 |none=>rfl
 |some x=>
  have hm:b∈trk h H:=gP.mpr ⟨sy.mpr (fW e'),by simp[q]⟩;have z:(hidT h H).get? b=none:=PySem.W.hideAll_none (trk h H) hm;rw[z]at e;cases e
structure Mod(K:W.Frag)(mg:L4)(base:Heap):Prop where
 kin:K.In base
 glob:base.Ns mainGlobals mg
 blt:∃mb,base.Ns builtinsNs mb/\∀x:Str,x≠"__name__"->mb x=bootBuiltins x
 nolimit:base.NoLimit
structure Cx where
 prog:ξ
 w:τ
 K:W.Frag
 mg:Str->Option ζ
 base:Heap
 A:Around
 N:List Str
 s₀:η
 H₀:Hp
 env:Env
 outer:List Env
 stack:List Env
 ex:List Addr
 fn:Str->Bool
 calm:Bool
 pn:L1
 xe:ζ->η->Prop
noncomputable def frs(l:List Env):List Addr:=l.filterMap (·.frame)
noncomputable abbrev Cx.fs(X:Cx):List Addr:=frs X.outer
noncomputable def Vis(sc:Scope)(x:Str):Prop:=sc.names.lookup x=some .local\/sc.names.lookup x=some .cell\/sc.names.lookup x=some .free
noncomputable def Loc(sc:Scope)(x:Str):Prop:=sc.names.lookup x=some .local\/sc.names.lookup x=some .cell
noncomputable def Look(env:Env)(h:Heap)(m:L4)(x:Str)(u:ζ):Prop:=
 (env.kindOf x=some .local/\m x=some u)\/((env.kindOf x=some .cell\/env.kindOf x=some .free)/\∃c,env.cells.lookup x=some c/\h.IsCell c (some u))
structure Cx.Ok(X:Cx):Prop where
 mod:Mod X.K X.mg X.base
 kind:X.env.scope.kind= .function
 glob:X.env.globals=mainGlobals
 blt:X.env.builtins=builtinsNs
 above:X.s₀.heap.objs.size<=X.env.locals
 inj:∀x y c,X.env.cells.lookup x=some c->X.env.cells.lookup y=some c->x=y
 has:∀x,(X.env.kindOf x=some .cell\/X.env.kindOf x=some .free)->∃c,X.env.cells.lookup x=some c
 cab:∀x c,X.fn x=true->X.env.cells.lookup x=some c->X.s₀.heap.objs.size<=c
 hd:X.calm=true->X.A.handled=none
 frames:X.A.frames=some X.stack
 stk:X.stack=X.outer\/(X.stack=X.env::X.outer/\X.env.frame=some X.env.locals)
 exf:∀b∈X.ex,b≠X.env.locals/\∀x c,X.env.cells.lookup x=some c->c≠b
 bs:∀b o,X.base.get? b=some o->X.s₀.heap.get? b=some o/\X.H₀ b=none
 bsz:X.base.objs.size<=X.s₀.heap.objs.size
 noex:∀b o,X.base.get? b=some o->b∉X.ex
 exfs:∀b∈X.ex,b∉X.fs
 funs:X.s₀.heap.FunFrames X.base X.outer
 frf:∀b∈X.fs,X.H₀ b=none
structure Inv(X:Cx)(pins:L1)(σ:List (Option V))(H:Hp)(s:η):Prop where
 ok:X.Ok
 os:s.os=X.s₀.os
 bare:AllBare s.gens
 base:Un X.fs X.ex X.H₀ H X.s₀.heap s.heap
 loc:∃m,s.heap.Ns X.env.locals m/\∀(i:Nat) (x:Str) (v:V),X.N[i]? =some x->σ[i]? =some (some v)->Vis X.env.scope x->∃u,RelV v u/\Look X.env s.heap m x u
 cell:∀x c,X.env.cells.lookup x=some c->∃v,s.heap.IsCell c v
 free:H X.env.locals=none
 freeC:∀x c,X.env.cells.lookup x=some c->H c=none
 pin:∀p∈X.pn++pins,s.heap.get? p.1=some p.2/\H p.1=none/\p.1≠X.env.locals/\p.1∉X.fs/\∀v,p.2.data≠.cell v
 hok:HOk X.prog X.w H s.heap
 len:σ.length=X.N.length
section
variable{X:Cx}{pins:L1}{σ:List (Option V)}{H H':Hp}{s:η}{h':Heap}
theorem Cx.Ok.nofr(ok:X.Ok){b:Addr}{o:Obj}(e:X.base.get? b=some o):b∉X.fs:=fun hb=>by
 have:=(ok.funs.mem hb).1;rw[e]at this;cases this
theorem Inv.bs(I:Inv X pins σ H s):∀b o,X.base.get? b=some o->s.heap.get? b=some o/\H b=none:=fun b o e=>
 ⟨I.base.keep b o (I.ok.bs b o e).1 (I.ok.bs b o e).2 (I.ok.nofr e) (I.ok.noex b o e),I.base.free b o (I.ok.bs b o e).1 (I.ok.bs b o e).2 (I.ok.noex b o e)⟩
theorem Inv.bk(I:Inv X pins σ H s):∀b o,X.base.get? b=some o->s.heap.get? b=some o:=fun b o e=>(I.bs b o e).1
theorem Inv.mod(I:Inv X pins σ H s):Mod X.K X.mg X.base:=I.ok.mod
theorem Inv.kIn(I:Inv X pins σ H s):X.K.In s.heap:=I.ok.mod.kin.keeps I.bk
theorem Inv.lt(I:Inv X pins σ H s):X.env.locals<s.heap.objs.size:=let⟨_,hn,_⟩:=I.loc;hn.lt
theorem Inv.sz(I:Inv X pins σ H s):X.s₀.heap.objs.size<=s.heap.objs.size:=dD I.ok.above (cY I.lt)
theorem Inv.nofs(I:Inv X pins σ H s){a:Addr}(h:s.heap.objs.size<=a):a∉X.fs:=fun hb=>by
 obtain⟨_,o,ho,_⟩:=I.ok.funs.mem hb;exact absurd (jY (fW ho) (dD I.sz h)) (uR _)
theorem Inv.cne(I:Inv X pins σ H s):∀x c,X.env.cells.lookup x=some c->c≠X.env.locals:=fun x c e z=>by
 obtain⟨v,o,ho,hd⟩:=I.cell x c e;obtain⟨m,⟨o',es,ep,ho',hd',_⟩,_⟩:=I.loc;rw[z,ho']at ho;cases ho;rw[hd']at hd;cases hd
theorem Inv.funs(I:Inv X pins σ H s):s.heap.FunFrames X.base X.outer:=by
 have all:∀(l:List Env),(∀b∈frs l,b∈X.fs)->X.s₀.heap.FunFrames X.base l->s.heap.FunFrames X.base l:=by
  intro l
  induction l with
  |nil=>intro _ _;trivial
  |cons env r ih=>
   intro hs hl;obtain⟨hk,⟨L,o,hf,hn,ho,hd⟩,hr⟩:=hl;have hL:L∈X.fs:=hs L (by unfold frs;rw[yds,hf];exact jG);obtain⟨sl,e⟩:=I.base.slot L o ho (I.ok.frf L hL) hL fun z=>I.ok.exfs L z hL;exact⟨hk,⟨L,_,hf,hn,e,hd⟩,ih (fun b hb=>hs b (by unfold frs;rw[yds,hf];exact jW _ hb)) hr⟩
 exact all X.outer (fun _ hb=>hb) I.ok.funs
theorem Inv.stack(I:Inv X pins σ H s):s.heap.FunFrames X.base X.stack:=by
 rcases I.ok.stk with e|⟨e,hf⟩
 ·rw[e];exact I.funs
 ·rw[e];obtain⟨m,hn,_⟩:=I.loc;refine .cons (by rw[I.ok.kind];decide) hf hn ?_ I.funs;exact Heap.get?_none_of_le (dD I.ok.bsz I.ok.above)
theorem Inv.stkSub(I:Inv X pins σ H s):∀b∈frs X.stack,b∈X.env.locals::X.fs:=fun b hb=>by
 rcases I.ok.stk with e|⟨e,hf⟩
 ·rw[e]at hb;exact jW _ hb
 ·rw[e]at hb;unfold frs at hb;rw[yds,hf]at hb;exact hb
theorem Inv.stkFree(I:Inv X pins σ H s):∀b∈frs X.stack,H b=none:=fun b hb=>by
 rcases cZ.mp (I.stkSub b hb)with e|hb
 ·rw[e];exact I.free
 ·obtain⟨_,o,ho,_⟩:=I.ok.funs.mem hb;exact I.base.free b o ho (I.ok.frf b hb) fun z=>I.ok.exfs b z hb
theorem Inv.step{g':Array GenState}{t':Nat}{d':Drawn}{ch:List Addr}(I:Inv X pins σ H s)(hch:∀b∈ch,(b∈X.ex\/X.s₀.heap.objs.size<=b)/\b≠X.env.locals/\(∀x c,X.env.cells.lookup x=some c->c≠b)/\∀p∈X.pn++pins,p.1≠b)(keep:∀b o,b≠X.env.locals->b∉X.fs->b∉ch->s.heap.get? b=some o->H b=none->h'.get? b=some o)(slot:∀b o,b≠X.env.locals->b∈X.fs->b∉ch->s.heap.get? b=some o->H b=none->∃sl,h'.get? b=some {o with slots:=sl})(free:∀b o,b∉ch->s.heap.get? b=some o->H b=none->H' b=none)(there:∀b o,b∉ch->s.heap.get? b=some o->∃o',h'.get? b=some o')(tups:∀b xs,H b=some (.tup xs)->H' b=some (.tup xs))(frzs:∀b o u,H b=some (.frz o u)->H' b=some (.frz o u))(tbls:∀b ps,H b=some (.tbl ps)->∃more,H' b=some (.tbl (ps++more)))(ns:∀m,s.heap.Ns X.env.locals m->h'.Ns X.env.locals m)(hok:HOk X.prog X.w H' h')(hg:AllBare g'):
  Inv X pins σ H' {s with heap:=h',gens:=g',drawn:=d',toks:=t'}:=by
 have neL:∀b o,X.s₀.heap.get? b=some o->b≠X.env.locals:=fun b o e=>jh (jY (fW e) I.ok.above);have neC:∀b o,X.s₀.heap.get? b=some o->b∉X.ex->b∉ch:=fun b o e hx hb=>by
  rcases(hch b hb).1 with z|z
  ·exact hx z
  ·exact absurd (jY (fW e) z) (uR _)
 have cellK:∀x c,X.env.cells.lookup x=some c->∀v,s.heap.IsCell c v->h'.IsCell c v:=fun x c e v ⟨o,ho,hd⟩=>by
  have nch:c∉ch:=fun z=>(hch c z).2.2.1 x c e rfl;by_cases hc:c∈X.fs
  ·obtain⟨sl,q⟩:=slot c o (I.cne x c e) hc nch ho (I.freeC x c e);exact⟨_,q,hd⟩
  ·exact⟨o,keep c o (I.cne x c e) hc nch ho (I.freeC x c e),hd⟩
 refine⟨I.ok,I.os,hg,⟨fun b o e n hb hx=> ?_,fun b o e n hb hx=> ?_,fun b o e n hx=> ?_,fun b o e hx=> ?_,fun b xs e=>tups b xs (I.base.tups b xs e),fun b o xs e=>frzs b o xs (I.base.frzs b o xs e),fun b ps e=> ?_⟩,?_,fun x c e=> ?_,?_,fun x c e=> ?_,fun p hp=> ?_,hok,I.len⟩
 ·exact keep b o (neL b o e) hb (neC b o e hx) (I.base.keep b o e n hb hx) (I.base.free b o e n hx)
 ·obtain⟨sl,e1⟩:=I.base.slot b o e n hb hx;obtain⟨sl',e2⟩:=slot b _ (neL b o e) hb (neC b o e hx) e1 (I.base.free b o e n hx);exact⟨sl',e2⟩
 ·obtain⟨o',e1⟩:=I.base.there b o e hx;exact free b o' (neC b o e hx) e1 (I.base.free b o e n hx)
 ·obtain⟨o',e1⟩:=I.base.there b o e hx;exact there b o' (neC b o e hx) e1
 ·obtain⟨m1,e1⟩:=I.base.tbls b ps e;obtain⟨m2,e2⟩:=tbls b _ e1;exact⟨m1++m2,by rw[e2,Array.append_assoc]⟩
 ·obtain⟨m,hn,hl⟩:=I.loc;refine⟨m,ns m hn,fun i x v e1 e2 e3=> ?_⟩;obtain⟨u,r,l⟩:=hl i x v e1 e2 e3;refine⟨u,r,?_⟩;rcases l with l|⟨k,c,e,z⟩
  ·exact .inl l
  ·exact .inr ⟨k,c,e,cellK x c e _ z⟩
 ·obtain⟨v,z⟩:=I.cell x c e;exact⟨v,cellK x c e v z⟩
 ·obtain⟨m,⟨o,_,_,ho,_⟩,_⟩:=I.loc;exact free _ o (fun z=>(hch _ z).2.1 rfl) ho I.free
 ·obtain⟨v,o,ho,hd⟩:=I.cell x c e;exact free c o (fun z=>(hch c z).2.2.1 x c e rfl) ho (I.freeC x c e)
 ·obtain⟨e,n,ne,nf,d⟩:=I.pin p hp;have nch:p.1∉ch:=fun z=>(hch p.1 z).2.2.2 p hp rfl;exact⟨keep p.1 p.2 ne nf nch e n,free p.1 p.2 nch e n,ne,nf,d⟩
theorem Inv.un{t':Nat}(I:Inv X pins σ H s)(u:Un X.fs [] H H' s.heap h')(hok:HOk X.prog X.w H' h'):Inv X pins σ H' {s with heap:=h',toks:=t'}:=by
 obtain⟨m,⟨o,es,ep,ho,r⟩,_⟩:=id I.loc;obtain⟨sl,hL⟩:=u.any ho I.free (by simp);exact I.step (g':=s.gens) (d':=s.drawn) (ch:=[]) (fun _ z=>nomatch z) (fun b o _ hb _ e n=>u.keep b o e n hb (by simp)) (fun b o _ hb _ e n=>u.slot b o e n hb (by simp)) (fun b o _ e n=>u.free b o e n (by simp)) (fun b o _ e=>u.there b o e (by simp)) u.tups u.frzs u.tbls (fun m' hm=>by
  obtain⟨o',es',ep',ho',r'⟩:=hm;rw[ho]at ho';cases ho';exact⟨_,es',ep',hL,r'⟩) hok I.bare
theorem Inv.call{g':Array GenState}{t':Nat}{d':Drawn}{ch:List Addr}(I:Inv X pins σ H s)(u:Un (frs X.stack) ch H H' s.heap h')(hok:HOk X.prog X.w H' h')(hg:AllBare g')(hch:∀b∈ch,(b∈X.ex\/X.s₀.heap.objs.size<=b)/\b≠X.env.locals/\(∀x c,X.env.cells.lookup x=some c->c≠b)/\∀p∈X.pn++pins,p.1≠b):
  Inv X pins σ H' {s with heap:=h',gens:=g',drawn:=d',toks:=t'}:=by
 obtain⟨m,⟨o,es,ep,ho,r⟩,_⟩:=id I.loc;obtain⟨sl,hL⟩:=u.any ho I.free fun z=>(hch _ z).2.1 rfl;exact I.step (ch:=ch) hch (fun b o hL hb hc e n=>u.keep b o e n (fun z=>(cZ.mp (I.stkSub b z)).elim hL hb) hc) (fun b o _ _ hc e n=>u.any e n hc) (fun b o hc e n=>u.free b o e n hc) (fun b o hc e=>u.there b o e hc) u.tups u.frzs u.tbls (fun m' hm=>by
  obtain⟨o',es',ep',ho',r'⟩:=hm;rw[ho]at ho';cases ho';exact⟨_,es',ep',hL,r'⟩) hok hg
theorem Inv.turned{t':Nat}{it:Addr}(I:Inv X pins σ H s)(k:∀b o,b≠it->s.heap.get? b=some o->h'.get? b=some o)(hn:H it=none)(hL:it≠X.env.locals)(h1:it∈X.ex\/X.s₀.heap.objs.size<=it)(h2:∀x c,X.env.cells.lookup x=some c->c≠it)(h3:∀p∈X.pn++pins,p.1≠it):Inv X pins σ H {s with heap:=h',toks:=t'}:=by
 have nit:∀b u,H b=some u->b≠it:=fun b u e z=>by rw[z,hn]at e;cases e
 refine I.step (g':=s.gens) (d':=s.drawn) (ch:=[it]) (fun b hb=> ?_) (fun b o _ _ hc e _=>k b o (fun z=>hc (by simp[z])) e) (fun b o _ _ hc e _=>⟨o.slots,k b o (fun z=>hc (by simp[z])) e⟩) (fun _ _ _ _ n=>n)
  (fun b o hc e=>⟨o,k b o (fun z=>hc (by simp[z])) e⟩) (fun _ _ e=>e) (fun _ _ _ e=>e) (fun b ps e=>⟨#[],by rw[e];simp⟩) (fun m hm=> ?_) (fun b u e=> ?_) I.bare
 ·have e:b=it:=by simpa using hb
  subst e;exact⟨h1,hL,h2,h3⟩
 ·obtain⟨o,es,ep,ho,r⟩:=hm;exact⟨o,es,ep,k _ o (mj hL) ho,r⟩
 ·refine(I.hok b u e).stay (fun c v hc q=>k c v ?_ q) (fun _ q=>q) fun _ _ q=>q;rcases hc with z|z
  ·rw[z];exact nit b u e
  ·exact nit c _ z
theorem Inv.tok(I:Inv X pins σ H s)(t:Nat):Inv X pins σ H {s with toks:=t}:=I.un (h':=s.heap) (t':=t) Un.refl I.hok
theorem Inv.kept{t':Nat}(I:Inv X pins σ H s)(k:∀b u,s.heap.get? b=some u->h'.get? b=some u):Inv X pins σ H {s with heap:=h',toks:=t'}:=I.un (Un.kept k) (I.hok.kept k)
theorem Inv.laid{a:Addr}{o:HO}{t':Nat}(I:Inv X pins σ H s)(k:∀b u,s.heap.get? b=some u->h'.get? b=some u)(hp:s.heap.objs.size<=a)(new:ObjOk X.prog X.w (upd H a o) h' a o):
  Inv X pins σ (upd H a o) {s with heap:=h',toks:=t'}:=I.un (Un.laid k hp (I.hok.fresh hp)) (I.hok.laid k hp new)
theorem Inv.write{x e:Addr}{o:HO}{t':Nat}(I:Inv X pins σ H s)(mu:Mut (H x))(he:e=x\/H e=some (.own x))(k:∀b u,b≠e->s.heap.get? b=some u->h'.get? b=some u)(heo:∃u,h'.get? e=some u)(new:ObjOk X.prog X.w (upd H x o) h' x o):Inv X pins σ (upd H x o) {s with heap:=h',toks:=t'}:=I.un (Un.write mu he k heo) (I.hok.write mu he k heo new)
theorem Inv.pins_of{pins':L1}(I:Inv X pins σ H s)(h:∀p∈pins',s.heap.get? p.1=some p.2/\H p.1=none/\p.1≠X.env.locals/\p.1∉X.fs/\∀v,p.2.data≠.cell v):Inv X pins' σ H s:=
 ⟨I.ok,I.os,I.bare,I.base,I.loc,I.cell,I.free,I.freeC,fun p hp=>(qg.mp hp).elim (fun z=>I.pin p (ydp _ z)) (h p),I.hok,I.len⟩
theorem nodup_ix{N:List Str}(hN:N.Nodup){i j:Nat}{x:Str}(a:N[i]? =some x)(b:N[j]? =some x):i=j:=by
 obtain⟨h1,e1⟩:=oF.mp a;obtain⟨h2,e2⟩:=oF.mp b;exact(List.getElem_inj hN).mp (e1.trans e2.symm)
theorem store_ok2{M:Model}{A:Around}{E:L3}{i:Nat}{x:Str}{v:V}{u:ζ}{Q:Unit->η->Prop}(I:Inv X pins σ H s)(hN:X.N.Nodup)(hi:X.N[i]? =some x)(hx:Loc X.env.scope x)(r:RelV v u)(h:∀s',Inv X pins (σ.set i (some v)) H s'->(∃a,Heap.SameBut a s.heap s'.heap/\(a=X.env.locals\/X.env.cells.lookup x=some a))->Q () s')(hf:X.fn x=true\/X.env.scope.names.lookup x=some .local:=by first |exact .inl rfl|exact .inr rfl|assumption):wpAny M A (storeName X.env x u) Q E s:=by
 obtain⟨m,hn,hl⟩:=id I.loc;have hcls:(X.env.scope.kind== .class||(X.env.scope.kind== .module&&X.env.locals !=X.env.globals))=false:=by rw[I.ok.kind];rfl
 have hiσ:i<σ.length:=by rw[I.len];exact(oF.mp hi).1
 have cne:=I.cne;have tracked:∀{a:Addr} {h':Heap},(∃o,s.heap.get? a=some o/\H a=none)->Heap.SameBut a s.heap h'->HOk X.prog X.w H h':=fun{a h'} ha hs b ob e=>by
  obtain⟨_,_,hfree⟩:=ha;refine(I.hok b ob e).stay (fun c w' hc q=>(hs.2 c ?_).trans q) (fun _ q=>q) fun _ _ q=>q;rintro rfl;rcases hc with rfl|hc
  ·rw[hfree]at e;cases e
  ·rw[hfree]at hc;cases hc
 rcases hx with hk|hk
 ·refine wpAny_storeName_local hk hn (fun h' hn' hs=> ?_) hcls;obtain⟨oL,_,_,hoL,_⟩:=id hn;refine h _ ⟨I.ok,I.os,I.bare,⟨fun b o e n hb hx=> ?_,fun b o e n hb hx=> ?_,I.base.free,fun b o e hx=> ?_,I.base.tups,I.base.frzs,I.base.tbls⟩,⟨_,hn',fun j y v' e1 e2 e3=> ?_⟩,fun y c e=> ?_,I.free,I.freeC,fun p hp=> ?_,tracked ⟨oL,hoL,I.free⟩ hs,by simpa using I.len⟩ ⟨_,hs,.inl rfl⟩
  ·exact(hs.2 b (jh (jY (fW e) I.ok.above))).trans (I.base.keep b o e n hb hx)
  ·obtain⟨sl,e1⟩:=I.base.slot b o e n hb hx;exact⟨sl,(hs.2 b (jh (jY (fW e) I.ok.above))).trans e1⟩
  ·obtain⟨o',e1⟩:=I.base.there b o e hx;exact⟨o',(hs.2 b (jh (jY (fW e) I.ok.above))).trans e1⟩
  ·by_cases hj:j=i
   ·subst hj;rw[hi]at e1;cases e1;rw[wcc hiσ]at e2;cases e2;exact⟨u,r,.inl ⟨hk,by simp⟩⟩
   ·rw[wcp (mj hj)]at e2;obtain⟨u',r',q⟩:=hl j y v' e1 e2 e3;refine⟨u',r',?_⟩;rcases q with⟨k,e⟩|⟨k,c,e,z⟩
    ·refine .inl ⟨k,?_⟩;have:y≠x:=fun e=>hj (nodup_ix hN e1 (e▸hi));simp[this,e]
    ·exact .inr ⟨k,c,e,z.sameBut hs (cne y c e)⟩
  ·obtain⟨w',z⟩:=I.cell y c e;exact⟨w',z.sameBut hs (cne y c e)⟩
  ·obtain⟨e,n,ne,nf,d⟩:=I.pin p hp;exact⟨(hs.2 p.1 ne).trans e,n,ne,nf,d⟩
 ·have hfn:X.fn x=true:=by
   rcases hf with z|z
   ·exact z
   ·rw[z]at hk;cases hk
  obtain⟨c,hc⟩:=I.ok.has x (.inl hk);obtain⟨w',z⟩:=I.cell x c hc;refine wpAny_storeName_cell I.ok.kind hk hc z (fun h' hc' hs=> ?_);obtain⟨oc,hoc,hocd⟩:=id z;refine h {s with heap:=h'} ⟨I.ok,I.os,I.bare,⟨fun b o e n hb hx=> ?_,fun b o e n hb hx=> ?_,I.base.free,fun b o e hx=> ?_,I.base.tups,I.base.frzs,I.base.tbls⟩,⟨m,hn.sameBut hs (mj (cne x c hc)),fun j y v' e1 e2 e3=> ?_⟩,fun y c' e=> ?_,I.free,I.freeC,fun p hp=> ?_,tracked ⟨oc,hoc,I.freeC x c hc⟩ hs,by simpa using I.len⟩ ⟨c,hs,.inr hc⟩
  ·exact(hs.2 b (jh (jY (fW e) (I.ok.cab x c hfn hc)))).trans (I.base.keep b o e n hb hx)
  ·obtain⟨sl,e1⟩:=I.base.slot b o e n hb hx;exact⟨sl,(hs.2 b (jh (jY (fW e) (I.ok.cab x c hfn hc)))).trans e1⟩
  ·obtain⟨o',e1⟩:=I.base.there b o e hx;exact⟨o',(hs.2 b (jh (jY (fW e) (I.ok.cab x c hfn hc)))).trans e1⟩
  ·by_cases hj:j=i
   ·subst hj;rw[hi]at e1;cases e1;rw[wcc hiσ]at e2;cases e2;exact⟨u,r,.inr ⟨.inl hk,c,hc,hc'⟩⟩
   ·rw[wcp (mj hj)]at e2;obtain⟨u',r',q⟩:=hl j y v' e1 e2 e3;refine⟨u',r',?_⟩;rcases q with q|⟨k,c',e,z'⟩
    ·exact .inl q
    ·refine .inr ⟨k,c',e,z'.sameBut hs ?_⟩;rintro rfl;exact hj (nodup_ix hN e1 (I.ok.inj _ _ _ e hc▸hi))
  ·by_cases hcc:c'=c
   ·subst hcc;exact⟨_,hc'⟩
   ·obtain⟨w2,z2⟩:=I.cell y c' e;exact⟨w2,z2.sameBut hs hcc⟩
  ·obtain⟨e,n,ne,nf,d⟩:=I.pin p hp;refine⟨(hs.2 p.1 ?_).trans e,n,ne,nf,d⟩;intro q;rw[q,hoc]at e;have q':oc=p.2:=tu e;exact d w' (by rw[<-q'];exact hocd)
theorem store_ok{M:Model}{A:Around}{E:L3}{i:Nat}{x:Str}{v:V}{u:ζ}{Q:Unit->η->Prop}(I:Inv X pins σ H s)(hN:X.N.Nodup)(hi:X.N[i]? =some x)(hx:Loc X.env.scope x)(r:RelV v u)(h:∀s',Inv X pins (σ.set i (some v)) H s'->Q () s')(hf:X.fn x=true\/X.env.scope.names.lookup x=some .local:=by first |exact .inl rfl|exact .inr rfl|assumption):wpAny M A (storeName X.env x u) Q E s:=
 store_ok2 I hN hi hx r (fun s' I' _=>h s' I') hf
theorem Inv.call'{s':η}{ch:List Addr}(I:Inv X pins σ H s)(ho:s'.os=s.os)(u:Un (frs X.stack) ch H H' s.heap s'.heap)(hok:HOk X.prog X.w H' s'.heap)(hg:AllBare s'.gens)(hch:∀b∈ch,(b∈X.ex\/X.s₀.heap.objs.size<=b)/\b≠X.env.locals/\(∀x c,X.env.cells.lookup x=some c->c≠b)/\∀p∈X.pn++pins,p.1≠b):Inv X pins σ H' s':=by
 obtain⟨h',g',d',t',o'⟩:=s';have e:o'=s.os:=ho;subst e;exact I.call (g':=g') (t':=t') (d':=d') u hok hg hch
end
noncomputable abbrev XK:=ζ->Option Addr->Hp->Prop
noncomputable abbrev St:=List (Option V)
noncomputable abbrev VK:=V->Hp->Prop
noncomputable abbrev TE:=St->Hp->VK->Prop
noncomputable abbrev TT:=St->Hp->(Bool->Hp->Prop)->Prop
noncomputable abbrev TA:=St->Hp->(List V->Hp->Prop)->Prop
structure Ends where
 nx:St->Hp->Prop
 rt:VK
 bk:St->Hp->Prop:=fun _ _=>False
 ct:St->Hp->Prop:=fun _ _=>False
noncomputable abbrev TS:=Ends->St->Hp->Prop
noncomputable def EP(X:Cx)(pins:L1)(σ:St)(Q:VK)(u:ζ)(s':η):Prop:=∃v H',Inv X pins σ H' s'/\RelV v u/\Q v H'
noncomputable def TP(X:Cx)(pins:L1)(σ:St)(Q:Bool->Hp->Prop)(b:Bool)(s':η):Prop:=∃H',Inv X pins σ H' s'/\Q b H'
noncomputable def AP(X:Cx)(pins:L1)(σ:St)(Q:List V->Hp->Prop)(us:List ζ)(s':η):Prop:=∃vs H',Inv X pins σ H' s'/\Vals vs us/\Q vs H'
noncomputable def SP(X:Cx)(pins:L1)(D:Ends)(f:Flow)(s':η):Prop:=
 match f with
 | .next=>∃σ' H',Inv X pins σ' H' s'/\D.nx σ' H'
 | .brk=>∃σ' H',Inv X pins σ' H' s'/\D.bk σ' H'
 | .cont=>∃σ' H',Inv X pins σ' H' s'/\D.ct σ' H'
 | .ret u=>∃v σ' H',Inv X pins σ' H' s'/\RelV v u/\D.rt v H'
noncomputable def PE(X:Cx)(e:Expr)(t:TE):Prop:=
 ∀(pins:L1) (s:η) (σ:St) (H:Hp) (Q:VK),Inv X pins σ H s->t σ H Q->wpAny (model X.prog X.w) X.A (eval e X.env) (EP X pins σ Q) X.xe s
noncomputable def PT(X:Cx)(e:Expr)(t:TT):Prop:=
 ∀(pins:L1) (s:η) (σ:St) (H:Hp) (Q:Bool->Hp->Prop),Inv X pins σ H s->t σ H Q->wpAny (model X.prog X.w) X.A (isTrue e X.env (eval e X.env)) (TP X pins σ Q) X.xe s
noncomputable def PW(X:Cx)(e:Expr)(t:TT):Prop:=
 ∀(whole:Sem ζ) (pins:L1) (s:η) (σ:St) (H:Hp) (Q:Bool->Hp->Prop),Inv X pins σ H s->t σ H Q->wpAny (model X.prog X.w) X.A (isTrue e X.env whole) (TP X pins σ Q) X.xe s
theorem PW.pt{X:Cx}{e:Expr}{t:TT}(h:PW X e t):PT X e t:=h _
noncomputable def PA(X:Cx)(es:List Expr)(t:TA):Prop:=
 ∀(pos:Pos) (pins:L1) (s:η) (σ:St) (H:Hp) (Q:List V->Hp->Prop),Inv X pins σ H s->t σ H Q->wpAny (model X.prog X.w) X.A (spliced (backTo pos (starEach es X.env))) (AP X pins σ Q) X.xe s
noncomputable def PS(X:Cx)(st:Stmt)(t:TS):Prop:=
 ∀(pins:L1) (s:η) (σ:St) (H:Hp) (D:Ends),Inv X pins σ H s->t D σ H->wpAny (model X.prog X.w) X.A (exec st X.env) (SP X pins D) X.xe s
noncomputable def PSs(X:Cx)(st:List Stmt)(t:TS):Prop:=
 ∀(pins:L1) (s:η) (σ:St) (H:Hp) (D:Ends),Inv X pins σ H s->t D σ H->wpAny (model X.prog X.w) X.A (execs st X.env) (SP X pins D) X.xe s
theorem thn{α:Type}{t:Sem α}{Q Q':α->η->Prop}{M:Model}{A:Around}{E:L3}{s:η}(h:wpAny M A t Q E s)(hQ:∀a s,Q a s->Q' a s):wpAny M A t Q' E s:=Ft h hQ fun _ _ x=>x
section
variable{X:Cx}
noncomputable def tVar(i:Nat):TE:=fun σ H Q=>∃v,σ[i]? =some (some v)/\Q v H
noncomputable def tC(v:V):TE:=fun _ H Q=>Q v H
theorem pe_var{i:Nat}{x:Str}{pos:Pos}(hN:X.N[i]? =some x)(hv:Vis X.env.scope x)(hd:(x==("__debug__":Str))=false:=by decide)(hcd:(x==("__classdict__":Str))=false:=by decide):PE X (.Name x pos) (tVar i):=by
 intro pins s σ H Q I h;obtain⟨v,e,h⟩:=h;obtain⟨m,hn,hl⟩:=I.loc;obtain⟨u,r,l⟩:=hl i x v hN e hv;have fin:EP X pins σ Q u s:=⟨v,H,I,r,h⟩;rcases l with⟨hk,hm⟩|⟨hk,c,hc,hcell⟩
 ·exact wpAny_Name (wpAny_loadName_local I.ok.kind hk hn hm fin) hd
 ·rcases hk with hk|hk
  ·exact wpAny_Name (wpAny_loadName_cell I.ok.kind hk hc hcell fin) hd
  ·exact wpAny_Name (wpAny_loadName_free I.ok.kind hk hc hcell fin hcd) hd
theorem aq{i j pos}:PE X (.Constant (.int i) j pos) (tC (.int i)):=fun _ _ _ H _ I h=>wpAny_Constant_int ⟨.int i,H,I.tok _,⟨_,rfl⟩,h⟩
theorem pe_bl{b j pos}:PE X (.Constant (.bool b) j pos) (tC (.bl b)):=fun _ _ _ H _ I h=>Constant_bool ⟨.bl b,H,I,rfl,h⟩
theorem pe_non{j pos}:PE X (.Constant .none j pos) (tC .non):=fun _ _ _ H _ I h=>Constant_none ⟨.non,H,I,rfl,h⟩
theorem dJ{x j pos}:PE X (.Constant (.str x) j pos) (tC (.str x)):=fun _ _ _ H _ I h=>Calls.Constant_str ⟨.str x,H,I.tok _,⟨_,rfl⟩,h⟩
noncomputable def Gl(X:Cx)(x:Str):Prop:=X.env.kindOf x=some .globalImplicit
theorem ld_glob{E:L3}{pins:L1}{s:η}{σ:St}{H:Hp}{x:Str}{u:ζ}{pos:Pos}{Q:L3}(I:Inv X pins σ H s)(hg:Gl X x)(hm:X.mg x=some u)(h:Q u s)(hd:(x==("__debug__":Str))=false:=by decide):wpAny (model X.prog X.w) X.A (eval (.Name x pos) X.env) Q E s:=
 Calls.Name_function_global I.ok.kind hg (Calls.loadGlobal_global (by rw[I.ok.glob];exact I.mod.glob.keeps I.bk) hm h) hd
theorem ld_blt{E:L3}{pins:L1}{s:η}{σ:St}{H:Hp}{x:Str}{u:ζ}{pos:Pos}{Q:L3}(I:Inv X pins σ H s)(hg:Gl X x)(hm:X.mg x=none)(hv:bootBuiltins x=some u)(h:Q u s)(hn:x≠"__name__":=by decide)(hd:(x==("__debug__":Str))=false:=by decide):wpAny (model X.prog X.w) X.A (eval (.Name x pos) X.env) Q E s:=by
 obtain⟨mb,h1,h2⟩:=I.mod.blt;exact Calls.Name_function_global I.ok.kind hg (Calls.loadGlobal_builtin (by rw[I.ok.glob];exact I.mod.glob.keeps I.bk) hm (by rw[I.ok.blt];exact h1.keeps I.bk) ((h2 x hn).trans hv) h) hd
theorem Fj{x:Str}{v:V}{u:ζ}{pos:Pos}(hg:Gl X x)(hm:X.mg x=some u)(r:RelV v u)(hd:(x==("__debug__":Str))=false:=by decide):PE X (.Name x pos) (tC v):=
 fun _ _ _ H _ I h=>ld_glob I hg hm ⟨v,H,I,r,h⟩ hd
theorem pe_bltn{x:Str}{v:V}{u:ζ}{pos:Pos}(hg:Gl X x)(hm:X.mg x=none)(hv:bootBuiltins x=some u)(r:RelV v u)(hn:x≠"__name__":=by decide)(hd:(x==("__debug__":Str))=false:=by decide):PE X (.Name x pos) (tC v):=
 fun _ _ _ H _ I h=>ld_blt I hg hm hv ⟨v,H,I,r,h⟩ hn hd
theorem pN{x:Str}{pos:Pos}(T:String)(hm:X.mg x=none)(hv:bootBuiltins x=some (.type T):=by decide+kernel)(hg:Gl X x:=by rfl)(hn:x≠"__name__":=by decide)(hd:(x==("__debug__":Str))=false:=by decide):PE X (.Name x pos) (tC (.ty T)):=pe_bltn hg hm hv rfl hn hd
variable{a b:Expr}{ta tb:TE}{pos:Pos}
noncomputable def tB(t:TE):TT:=fun σ H Q=>t σ H fun x H1=>∃c,x= .bl c/\Q c H1
theorem qd{e:Expr}{t:TE}(h:PE X e t)(he:∀whole,isTrue e X.env whole=(do let v<-whole;standAt e.pos;holding [v] (truthy v)):=by intro _;rfl):PT X e (tB t):=by
 intro pins s σ H Q I hw;refine isTrue_plain (thn (h pins s σ H _ I hw) fun v s1 ⟨x,H1,I1,r1,q1⟩=> ?_) (he _);obtain⟨d,rfl,q⟩:=q1;cases r1;exact Ve ⟨H1,I1,q⟩
variable{tA tB':TT}{rest:List Expr}
noncomputable def tAnd(t u:TT):TT:=fun σ H Q=>t σ H fun c H1=>if c=true then u σ H1 Q else Q false H1
noncomputable def tOr(t u:TT):TT:=fun σ H Q=>t σ H fun c H1=>if c=true then Q true H1 else u σ H1 Q
noncomputable def tNot(t:TT):TT:=fun σ H Q=>t σ H fun c H1=>Q (!c) H1
theorem pw_and1(ha:PT X a tA):PW X (.BoolOp .And [a] pos) tA:=by
 intro wh pins s σ H Q I h;refine isTrue_and (thn (ha pins s σ H Q I h) fun c s1 e=> ?_);cases c with
 |true=>exact isTrue_and_nil e
 |false=>exact e
theorem pw_or1(ha:PT X a tA):PW X (.BoolOp .Or [a] pos) tA:=by
 intro wh pins s σ H Q I h;refine isTrue_or (thn (ha pins s σ H Q I h) fun c s1 e=> ?_);cases c with
 |false=>exact isTrue_or_nil e
 |true=>exact e
theorem pw_and(ha:PT X a tA)(hb:PW X (.BoolOp .And (b::rest) pos) tB'):PW X (.BoolOp .And (a::b::rest) pos) (tAnd tA tB'):=by
 intro wh pins s σ H Q I h;refine isTrue_and (thn (ha pins s σ H _ I h) fun c s1 ⟨H1,I1,q1⟩=> ?_);cases c with
 |true=>exact hb wh pins s1 σ H1 Q I1 q1
 |false=>exact⟨H1,I1,q1⟩
theorem pw_or(ha:PT X a tA)(hb:PW X (.BoolOp .Or (b::rest) pos) tB'):PW X (.BoolOp .Or (a::b::rest) pos) (tOr tA tB'):=by
 intro wh pins s σ H Q I h;refine isTrue_or (thn (ha pins s σ H _ I h) fun c s1 ⟨H1,I1,q1⟩=> ?_);cases c with
 |true=>exact⟨H1,I1,q1⟩
 |false=>exact hb wh pins s1 σ H1 Q I1 q1
theorem rH(ha:PT X a tA):PT X (.UnaryOp .Not a pos) (tNot tA):=by
 intro pins s σ H Q I h;exact isTrue_not (ha pins s σ H (fun c H1=>Q (!c) H1) I h)
noncomputable def tAndV(ta tb:TE):TE:=fun σ H Q=>ta σ H fun x H1=>∃c,x= .bl c/\if c=true then tb σ H1 Q else Q (.bl false) H1
noncomputable def tOrV(ta tb:TE):TE:=fun σ H Q=>ta σ H fun x H1=>∃c,x= .bl c/\if c=true then Q (.bl true) H1 else tb σ H1 Q
noncomputable def tNotV(ta:TE):TE:=fun σ H Q=>ta σ H fun x H1=>∃c,x= .bl c/\Q (.bl (!c)) H1
theorem pe_one{op}{t:TE}(h:PE X a t):PE X (.BoolOp op [a] pos) t:=fun pins s σ H Q I hw=>BoolOp_one (h pins s σ H Q I hw)
theorem pe_and(ha:PE X a ta)(hb:PE X (.BoolOp .And (b::rest) pos) tb):PE X (.BoolOp .And (a::b::rest) pos) (tAndV ta tb):=by
 intro pins s σ H Q I h;refine BoolOp_and (thn (ha pins s σ H _ I h) fun v s1 ⟨x,H1,I1,r1,q1⟩=> ?_);obtain⟨c,rfl,q1⟩:=q1;cases r1;refine Ve ?_;cases c with
 |true=>exact hb pins s1 σ H1 Q I1 q1
 |false=>exact⟨.bl false,H1,I1,rfl,q1⟩
theorem pe_or(ha:PE X a ta)(hb:PE X (.BoolOp .Or (b::rest) pos) tb):PE X (.BoolOp .Or (a::b::rest) pos) (tOrV ta tb):=by
 intro pins s σ H Q I h;refine BoolOp_or (thn (ha pins s σ H _ I h) fun v s1 ⟨x,H1,I1,r1,q1⟩=> ?_);obtain⟨c,rfl,q1⟩:=q1;cases r1;refine Ve ?_;cases c with
 |false=>exact hb pins s1 σ H1 Q I1 q1
 |true=>exact⟨.bl true,H1,I1,rfl,q1⟩
theorem pe_not(ha:PE X a ta):PE X (.UnaryOp .Not a pos) (tNotV ta):=by
 intro pins s σ H Q I h;refine UnaryOp_ (thn (ha pins s σ H _ I h) fun v s1 ⟨x,H1,I1,r1,q1⟩=> ?_);obtain⟨c,rfl,q1⟩:=q1;cases r1;exact not_of (Ve ⟨.bl (!c),H1,I1,rfl,q1⟩)
noncomputable def tIf(t:TT)(ta tb:TE):TE:=fun σ H Q=>t σ H fun c H1=>if c=true then ta σ H1 Q else tb σ H1 Q
theorem pe_ifExp{c:Expr}(hc:PT X c tA)(ha:PE X a ta)(hb:PE X b tb):PE X (.IfExp c a b pos) (tIf tA ta tb):=by
 intro pins s σ H Q I h;refine wpAny_IfExp (thn (hc pins s σ H _ I h) fun d s1 ⟨H1,I1,q1⟩=> ?_);cases d with
 |true=>exact ha pins s1 σ H1 Q I1 q1
 |false=>exact hb pins s1 σ H1 Q I1 q1
end
noncomputable def SqL(K:W.Frag)(H:Hp)(a:Addr)(xs:List V):Prop:=
 Rd H a (.lst xs)\/
  ∃(o:Obj) (its:Array ζ) (n:Nat),K.lookup a=some o/\o.cls= .type "list"/\o.dict=none/\o.data= .seq its n/\its.size<=sizeLine/\Vals xs its.toList
noncomputable def SqT(K:W.Frag)(H:Hp)(a:Addr)(xs:List V):Prop:=
 Rd H a (.tup xs)\/
  ∃(o:Obj) (its:Array ζ) (n:Nat),K.lookup a=some o/\o.cls= .type "tuple"/\o.data= .seq its n/\its.size<=sizeLine/\Vals xs its.toList
noncomputable def absV:ζ->Option V
 | .none=>some .non
 | .bool b=>some (.bl b)
 | .int i _=>some (.int i)
 | .str x _=>some (.str x)
 | .bytes b _=>some (.byt b)
 | .float b _=>some (.flt b)
 | .ref a=>some (.ref a)
 | .type n=>some (.ty n)
 |_=>none
theorem RelV.abs{x:V}{u:ζ}(r:RelV x u):absV u=some x:=by
 cases x with
 |non=>cases r;rfl
 |bl _=>cases r;rfl
 |int _=>obtain⟨t,rfl⟩:=r;rfl
 |str _=>obtain⟨t,rfl⟩:=r;rfl
 |byt _=>obtain⟨t,rfl⟩:=r;rfl
 |flt _=>obtain⟨t,rfl⟩:=r;rfl
 |ref _=>cases r;rfl
 |ty _=>cases r;rfl
theorem RelV.inj{x y:V}{u:ζ}(r:RelV x u)(q:RelV y u):x=y:=tu (r.abs.symm.trans q.abs)
theorem Vals.inj{xs ys:List V}{us:List ζ}(h:Vals xs us)(h':Vals ys us):xs=ys:=by
 induction h generalizing ys with
 |nil=>cases h';rfl
 |cons r _ ih=>cases h' with |cons r' t'=>rw[r.inj r',ih t']
section
variable{X:Cx}{pins:L1}{σ:St}{H:Hp}{s:η}{a:Addr}{xs ys:List V}
theorem SqL.of{K:W.Frag}(h:H a=some (.lst xs)):SqL K H a xs:= .inl (.inl h)
theorem SqT.of{K:W.Frag}(h:H a=some (.tup xs)):SqT K H a xs:= .inl (.inl h)
theorem Inv.list(I:Inv X pins σ H s)(h:SqL X.K H a xs):∃its:List ζ,Vals xs its/\PlainL s.heap a its.toArray/\xs.length<=sizeLine:=by
 rcases h with h|⟨o,its,n,hk,hc,hd,hs,hz,r⟩
 ·obtain⟨z,its,n,r,e⟩:=h.ok I.hok;exact⟨its,r,⟨_,n,e,rfl,rfl,rfl⟩,z⟩
 ·refine⟨its.toList,r,⟨o,n,I.kIn a o hk,hc,hd,by simpa using hs⟩,?_⟩;have e:=r.length;simp only[V5]at e;omega
theorem Inv.tuple(I:Inv X pins σ H s)(h:SqT X.K H a xs):∃its:List ζ,Vals xs its/\IsTup s.heap a its.toArray/\xs.length<=sizeLine:=by
 rcases h with h|⟨o,its,n,hk,hc,hs,hz,r⟩
 ·obtain⟨z,its,r,p⟩:=h.ok I.hok;exact⟨its,r,p,z⟩
 ·refine⟨its.toList,r,⟨o,I.kIn a o hk,hc,n,by simpa using hs⟩,?_⟩;have e:=r.length;simp only[V5]at e;omega
theorem Inv.list_inj(I:Inv X pins σ H s)(h:SqL X.K H a xs)(h':SqL X.K H a ys):xs=ys:=by
 obtain⟨its,r,⟨o,n,e,_,_,d⟩,_⟩:=I.list h;obtain⟨its',r',⟨o',n',e',_,_,d'⟩,_⟩:=I.list h';rw[e]at e';cases e';rw[d]at d';injection d' with d1 _
 have:its=its':=by simpa using jX Array.toList d1
 subst this;exact r.inj r'
theorem Inv.tuple_inj(I:Inv X pins σ H s)(h:SqT X.K H a xs)(h':SqT X.K H a ys):xs=ys:=by
 obtain⟨its,r,⟨o,e,_,n,d⟩,_⟩:=I.tuple h;obtain⟨its',r',⟨o',e',_,n',d'⟩,_⟩:=I.tuple h';rw[e]at e';cases e';rw[d]at d';injection d' with d1 _
 have:its=its':=by simpa using jX Array.toList d1
 subst this;exact r.inj r'
end
noncomputable abbrev Cx.wish(X:Cx)(E:L3):Cx:={X with xe:=E}
noncomputable abbrev Cx.nox(X:Cx):Cx:=X.wish fun _ _=>False
theorem Cx.Ok.wish{X:Cx}(ok:X.Ok)(E:L3):(X.wish E).Ok:=
 ⟨ok.mod,ok.kind,ok.glob,ok.blt,ok.above,ok.inj,ok.has,ok.cab,ok.hd,ok.frames,ok.stk,ok.exf,ok.bs,ok.bsz,ok.noex,ok.exfs,ok.funs,ok.frf⟩
theorem Cx.Ok.unwish{X:Cx}{E:L3}(ok:(X.wish E).Ok):X.Ok:=
 ⟨ok.mod,ok.kind,ok.glob,ok.blt,ok.above,ok.inj,ok.has,ok.cab,ok.hd,ok.frames,ok.stk,ok.exf,ok.bs,ok.bsz,ok.noex,ok.exfs,ok.funs,ok.frf⟩
section
variable{X:Cx}{pins:L1}{σ:St}{H:Hp}{s:η}{E:L3}
theorem Inv.wish(I:Inv X pins σ H s)(E:L3):Inv (X.wish E) pins σ H s:=⟨I.ok.wish E,I.os,I.bare,I.base,I.loc,I.cell,I.free,I.freeC,I.pin,I.hok,I.len⟩
theorem Inv.unwish(I:Inv (X.wish E) pins σ H s):Inv X pins σ H s:=⟨I.ok.unwish,I.os,I.bare,I.base,I.loc,I.cell,I.free,I.freeC,I.pin,I.hok,I.len⟩
theorem SP.unwish{D:Ends}{f:Flow}{s':η}(h:SP (X.wish E) pins D f s'):SP X pins D f s':=by
 cases f with
 |next=>obtain⟨σ',H',I,q⟩:=h;exact⟨σ',H',I.unwish,q⟩
 |brk=>obtain⟨σ',H',I,q⟩:=h;exact⟨σ',H',I.unwish,q⟩
 |cont=>obtain⟨σ',H',I,q⟩:=h;exact⟨σ',H',I.unwish,q⟩
 |ret u=>obtain⟨v,σ',H',I,r,q⟩:=h;exact⟨v,σ',H',I.unwish,r,q⟩
theorem PSs.nox{st:List Stmt}{t:TS}(h:PSs X.nox st t):PSs X st t:=fun pins s σ H D I hw=>
 Ft (h pins s σ H D (I.wish _) hw) (fun _ _ q=>q.unwish) fun _ _ z=>False.elim z
end
section
variable{X:Cx}{st:Stmt}{rest:List Stmt}{t u:TS}{e:Expr}{te:TE}{pos:Pos}
noncomputable def tNext:TS:=fun D σ H=>D.nx σ H
noncomputable def tSeq(t u:TS):TS:=fun D σ H=>t {D with nx:=u D} σ H
theorem dW:PSs X [] tNext:=fun _ _ σ H _ I h=>way ⟨σ,H,I,h⟩
theorem aJ(h1:PS X st t)(h2:PSs X rest u):PSs X (st::rest) (tSeq t u):=by
 intro pins s σ H D I h;refine Z9 (thn (h1 pins s σ H {D with nx:=u D} I h) fun f s1 q=> ?_);cases f with
 |next=>
  obtain⟨σ',H',I',q⟩:=q;exact h2 pins s1 σ' H' D I' q
 |ret v=>exact q
 |brk=>exact q
 |cont=>exact q
theorem aP(h1:PS X st t):PSs X [st] t:=by
 intro pins s σ H D I h;refine Z9 (thn (h1 pins s σ H D I h) fun f s1 q=> ?_);cases f with
 |next=>exact way q
 |ret v=>exact q
 |brk=>exact q
 |cont=>exact q
noncomputable def tBreak:TS:=fun D σ H=>D.bk σ H
theorem ps_break:PS X (.Break pos) tBreak:=fun _ _ σ H _ I h=>wpAny_Break ⟨σ,H,I,h⟩
theorem Inv.quiet{pins:L1}{σ:St}{H:Hp}{s:η}(I:Inv X pins σ H s):interactive X.env=false:=by simp[interactive,I.ok.kind]
noncomputable def tDrop(te:TE):TS:=fun D σ H=>te σ H fun _ H1=>D.nx σ H1
theorem iG(he:PE X e te)(hs:swapsWith e none pos.line X.env=pure false:=by rfl):PS X (.Expr e pos) (tDrop te):=by
 intro pins s σ H D I h;exact wpAny_Expr_any (thn (he pins s σ H _ I h) fun v s1 ⟨x,H1,I1,r1,q1⟩=>⟨σ,H1,I1,q1⟩) I.quiet hs
noncomputable def tRet(te:TE):TS:=fun D σ H=>te σ H D.rt
theorem bO(he:PE X e te):PS X (.Return (some e) pos) (tRet te):=by
 intro pins s σ H D I h;exact wpAny_Return_some (thn (he pins s σ H _ I h) fun v s1 ⟨x,H1,I1,r1,q1⟩=>⟨x,σ,H1,I1,r1,q1⟩)
noncomputable def tIfS(c:TT)(t u:TS):TS:=fun D σ H=>c σ H fun b H1=>if b=true then t D σ H1 else u D σ H1
theorem dN{c:Expr}{a b:List Stmt}{tc:TT}(hc:PT X c tc)(ha:PSs X a t)(hb:PSs X b u):PS X (.If c a b pos) (tIfS tc t u):=by
 intro pins s σ H D I h;refine wpAny_If (thn (hc pins s σ H _ I h) fun d s1 ⟨H1,I1,q1⟩=> ?_);cases d with
 |true=>exact ha pins s1 σ H1 D I1 q1
 |false=>exact hb pins s1 σ H1 D I1 q1
noncomputable def tNever:TS:=fun _ _ _=>False
theorem vG{sts:List Stmt}:PSs X sts tNever:=fun _ _ _ _ _ _ h=>h.elim
end
noncomputable abbrev TG:=V->St->Hp->(St->Hp->Prop)->Prop
noncomputable abbrev TGs:=List V->St->Hp->(St->Hp->Prop)->Prop
noncomputable def PG(X:Cx)(target:Expr)(t:TG):Prop:=
 ∀(pins:L1) (s:η) (σ:St) (H:Hp) (v:V) (u:ζ) (Q:St->Hp->Prop),Inv X pins σ H s->RelV v u->t v σ H Q->
  wpAny (model X.prog X.w) X.A (assign target X.env u) (fun _ s'=>∃σ' H',Inv X pins σ' H' s'/\Q σ' H') X.xe s
noncomputable def PGs(X:Cx)(ts:List Expr)(t:TGs):Prop:=
 ∀(pins:L1) (s:η) (σ:St) (H:Hp) (vs:List V) (us:List ζ) (Q:St->Hp->Prop),Inv X pins σ H s->Vals vs us->t vs σ H Q->
  wpAny (model X.prog X.w) X.A (assignInOrder ((assignEach ts X.env).map (·.2)) us) (fun _ s'=>∃σ' H',Inv X pins σ' H' s'/\Q σ' H') X.xe s
noncomputable abbrev TSet:=V->V->V->Hp->(Hp->Prop)->Prop
noncomputable def PSet(X:Cx)(t:TSet):Prop:=
 ∀(pins:L1) (s:η) (σ:St) (H:Hp) (o i v:V) (ov iv u:ζ) (Q:Hp->Prop),Inv X pins σ H s->RelV o ov->RelV i iv->RelV v u->t o i v H Q->
  wpAny (model X.prog X.w) X.A (setItem ov iv u) (fun _ s'=>∃H',Inv X pins σ H' s'/\Q H') X.xe s
section
variable{X:Cx}{pos:Pos}
noncomputable def gName(i:Nat):TG:=fun v σ H Q=>Q (σ.set i (some v)) H
theorem pg_name{i:Nat}{x:Str}(hN:X.N.Nodup)(hi:X.N[i]? =some x)(hx:Loc X.env.scope x)(hf:X.fn x=true\/X.env.scope.names.lookup x=some .local:=by first |exact .inl rfl|exact .inr rfl|assumption):PG X (.Name x pos) (gName i):=by
 intro pins s σ H v u Q I r h;exact wpAny_assign_Name (store_ok I hN hi hx r (fun s' I'=>⟨_,H,I',h⟩) hf)
theorem pG{X:Cx}{x:Str}{pos:Pos}(i:Nat)(hN:decide X.N.Nodup=true:=by kernel_rfl)(hi:X.N[i]? =some x:=by rfl)(hx:Loc X.env.scope x:=by first |exact Or.inl rfl|exact Or.inr rfl)(hf:X.fn x=true\/X.env.scope.names.lookup x=some .local:=by first |exact .inl rfl|exact .inr rfl|assumption):PG X (.Name x pos) (gName i):=pg_name (fM hN) hi hx hf
noncomputable def gNil:TGs:=fun vs σ H Q=>vs=[]/\Q σ H
noncomputable def gCons(t:TG)(u:TGs):TGs:=fun vs σ H Q=>∃v r,vs=v::r/\t v σ H fun σ' H'=>u r σ' H' Q
theorem Fo:PGs X [] gNil:=by
 intro pins s σ H vs us Q I r h;obtain⟨e,h⟩:=h;subst e;cases r;exact assignInOrder_nil ⟨σ,H,I,h⟩
theorem qe{e:Expr}{es:List Expr}{t:TG}{u:TGs}(h1:PG X e t)(h2:PGs X es u)(hs:(assignEach (e::es) X.env).map (·.2)=assign e X.env::(assignEach es X.env).map (·.2):=by rfl):PGs X (e::es) (gCons t u):=by
 intro pins s σ H vs us Q I r h;obtain⟨v,vr,e1,h⟩:=h;subst e1;cases r with
 |cons r rr=>
  rw[hs];refine assignInOrder_cons (thn (h1 pins s σ H _ _ _ I r h) fun _ s1 ⟨σ1,H1,I1,q1⟩=> ?_);exact h2 pins s1 σ1 H1 _ _ Q I1 rr q1
noncomputable def gTup(K:W.Frag)(n:Nat)(t:TGs):TG:=fun v σ H Q=>∃a xs,v= .ref a/\SqT K H a xs/\xs.length=n/\t xs σ H Q
theorem pg_tup{es:List Expr}{k:Nat}{t:TGs}{n:Nat}(hc:X.calm=true)(h:PGs X es t)(hn:(assignEach es X.env).length=n:=by rfl)(hst:(assignEach es X.env).findIdx? (·.1)=none:=by rfl):PG X (.Tuple es k pos) (gTup X.K n t):=by
 intro pins s σ H v u Q I r hw;obtain⟨a,xs,e1,hq,hl,hw⟩:=hw;subst e1;cases r;obtain⟨its,rv,ht,hz⟩:=I.tuple hq;refine assign_Tuple_tuple (I.ok.hd hc) ht (by simp[hn,<-hl,rv.length]) hst fun h' hx=> ?_;have I1:Inv X pins σ H {s with heap:=h'}:=I.kept (t':=s.toks) fun b o e=>hx b o (jh (fW e)) e;exact h pins _ σ H xs _ Q I1 (by simpa using rv) hw
noncomputable def gSub(to ti:TE)(t:TSet):TG:=fun v σ H Q=>to σ H fun o H1=>ti σ H1 fun i H2=>t o i v H2 fun H3=>Q σ H3
theorem pg_sub{o i:Expr}{to ti:TE}{t:TSet}(ho:PE X o to)(hi:PE X i ti)(hs:PSet X t)(ha:∀v,assign (.Subscript o i pos) X.env v=(do
   let ov<-holding [v] (eval o X.env);let iv<-holding [v,ov] (eval i X.env)
   standAt pos
   holding [v,ov,iv] (setItem ov iv v)
   release [v,ov,iv] []):=by intro _;rfl):PG X (.Subscript o i pos) (gSub to ti t):=by
 intro pins s σ H v u Q I r h;rw[ha];refine bL (Vd (thn (ho pins s σ H _ I h) fun ov s1 ⟨x,H1,I1,r1,q1⟩=> ?_));refine bL (Vd (thn (hi pins s1 σ H1 _ I1 q1) fun iv s2 ⟨y,H2,I2,r2,q2⟩=> ?_));refine bL (wpAny_standAt (bL (Vd (thn (hs pins s2 σ H2 x y v ov iv u _ I2 r1 r2 r q2) fun _ s3 ⟨H3,I3,q3⟩=> ?_))));exact wpAny_release ⟨σ,H3,I3,q3⟩
noncomputable def tAsg(te:TE)(g:TG):TS:=fun D σ H=>te σ H fun x H1=>g x σ H1 D.nx
theorem ps_asg{tg e:Expr}{te:TE}{g:TG}(he:PE X e te)(hg:PG X tg g)(hs:swapsWithSole [tg] e pos.line X.env=pure false:=by rfl)(hw:swappedStores [tg] e X.env=pure none:=by rfl)(h1:(assignEach [tg] X.env).map (·.2)=[assign tg X.env]:=by rfl):PS X (.Assign [tg] e pos) (tAsg te g):=by
 intro pins s σ H D I h;refine wpAny_Assign_stores (thn (he pins s σ H _ I h) fun v s1 ⟨x,H1,I1,r1,q1⟩=> ?_) hs hw;rw[h1];exact thn (hg pins s1 σ H1 x v _ I1 r1 q1) fun _ s2 q=>q
theorem ps_set{i:Nat}{x:Str}{e:Expr}{te:TE}{pos':Pos}(hN:X.N.Nodup)(hi:X.N[i]? =some x)(hx:Loc X.env.scope x)(he:PE X e te)(hs:swapsWith e (some (.Name x pos')) pos.line X.env=pure false:=by rfl)(hf:X.fn x=true\/X.env.scope.names.lookup x=some .local:=by first |exact .inl rfl|exact .inr rfl|assumption):
  PS X (.Assign [.Name x pos'] e pos) (tAsg te (gName i)):=by
 intro pins s σ H D I h;refine wpAny_Assign_Name (thn (he pins s σ H _ I h) fun v s1 ⟨y,H1,I1,r1,q1⟩=> ?_) hs;exact store_ok I1 hN hi hx r1 (fun s2 I2=>⟨_,H1,I2,q1⟩) hf
theorem pS{X:Cx}{x:Str}{e:Expr}{te:TE}{pos pos':Pos}(i:Nat)(he:PE X e te)(hN:decide X.N.Nodup=true:=by kernel_rfl)(hi:X.N[i]? =some x:=by rfl)(hx:Loc X.env.scope x:=by first |exact Or.inl rfl|exact Or.inr rfl)(hs:swapsWith e (some (.Name x pos')) pos.line X.env=pure false:=by rfl)(hf:X.fn x=true\/X.env.scope.names.lookup x=some .local:=by first |exact .inl rfl|exact .inr rfl|assumption):PS X (.Assign [.Name x pos'] e pos) (tAsg te (gName i)):=ps_set (fM hN) hi hx he hs hf
noncomputable def tWhile(c:TT)(tb:TS):TS:=fun D σ H=>∃W:Nat->St->Hp->Prop,(∃m,W m σ H)/\∀m σ H,W m σ H->
 c σ H fun b H1=>if b=true then∃N:St->Hp->Prop,(∀σ' H',N σ' H'->∃m',m'<m/\W m' σ' H')/\tb {D with nx:=N,ct:=N,bk:=D.nx} σ H1 else D.nx σ H1
theorem ps_while{c:Expr}{body:List Stmt}{tc:TT}{tb:TS}(hp:PassesOwn (model X.prog X.w) X.A X.env X.xe)(hc:PT X c tc)(hb:PSs X body tb):PS X (.While c body [] pos) (tWhile tc tb):=by
 intro pins s σ H D I h;obtain⟨W,⟨m0,w0⟩,turn⟩:=h;refine wpAny_While (codeAny_whileLoop (fun n s'=>∃σ' H',Inv X pins σ' H' s'/\W n σ' H') ?_ m0 ⟨σ,H,I,w0⟩);rintro n s1 ⟨σ1,H1,I1,w1⟩;refine Wb hp (thn (hc pins s1 σ1 H1 _ I1 (turn n σ1 H1 w1)) fun b s2 ⟨H2,I2,q2⟩=> ?_);cases b with
 |true=>
  obtain⟨N,hN,q2⟩:=q2;rw[aH rfl];refine Wb hp (thn (hb pins s2 σ1 H2 _ I2 q2) fun f s3 q3=> ?_);cases f with
  |next=>
   obtain⟨σ3,H3,I3,n3⟩:=q3;obtain⟨m',hm,w3⟩:=hN σ3 H3 n3;exact⟨m',hm,σ3,H3,I3,w3⟩
  |cont=>
   obtain⟨σ3,H3,I3,n3⟩:=q3;obtain⟨m',hm,w3⟩:=hN σ3 H3 n3;exact⟨m',hm,σ3,H3,I3,w3⟩
  |brk=>exact q3
  |ret v=>exact q3
 |false=>
  rw[aB uU];exact way ⟨σ1,H2,I2,q2⟩
end
structure It where
 go:Nat->Hp->Prop
 yld:Nat->Hp->V->Hp->Prop
 stop:Nat->Hp->Prop
noncomputable def FpOk(X:Cx)(pins:L1)(H:Hp)(b:Addr):Prop:=
 H b=none/\b≠X.env.locals/\b∉X.fs/\(b∈X.ex\/X.s₀.heap.objs.size<=b)/\(∀x c,X.env.cells.lookup x=some c->c≠b)/\∀p∈X.pn++pins,p.1≠b
theorem Inv.fpOk{X:Cx}{pins:L1}{σ:St}{H H':Hp}{s:η}{b:Addr}(I:Inv X pins σ H s)(hb:s.heap.objs.size<=b)(hn:H' b=none):FpOk X pins H' b:=by
 refine⟨hn,VR (jY I.lt hb),I.nofs hb,.inr (dD I.sz hb),fun x c e z=> ?_,fun p hp z=> ?_⟩
 ·obtain⟨v,q⟩:=I.cell x c e;exact absurd (jY q.lt (by rw[z];exact hb)) (uR _)
 ·exact absurd (jY (fW (I.pin p hp).1) (by rw[z];exact hb)) (uR _)
structure Turn(P:ξ)(w:τ)(K:W.Frag)(tg:Expr)(J:It)(fp:List Addr)(it:Addr)(tn:Nat->Heap->Prop):Prop where
 mem:it∈fp
 obj:∀i h,tn i h->∀b∈fp,∃o,h.get? b=some o/\∀v,o.data≠.cell v
 keep:∀i h h',tn i h->(∀b∈fp,∀o,h.get? b=some o->h'.get? b=some o)->tn i h'
 item:∀(X:Cx),X.prog=P->X.w=w->X.K=K->X.calm=true->∀(i:Nat) (pins:L1) (s:η) (σ:St) (H:Hp) (E:L3),Inv X pins σ H s->(∀b∈fp,FpOk X pins H b)->tn i s.heap->J.go i H->
  wpAny (model P w) X.A (pyNext (.ref it)) (fun r s1=>∃u,r=some u/\
   wpAny (model P w) X.A (letOwnedTupleGo tg (.ref it) u) (fun _ s2=>∃x H',Inv X pins σ H' s2/\RelV x u/\J.yld i H x H'/\tn (i+1) s2.heap/\∀b∈fp,H' b=none) E s1) E s
 done:∀(X:Cx),X.prog=P->X.w=w->X.K=K->X.calm=true->∀(i:Nat) (pins:L1) (s:η) (σ:St) (H:Hp) (E:L3),Inv X pins σ H s->(∀b∈fp,FpOk X pins H b)->tn i s.heap->J.stop i H->
  wpAny (model P w) X.A (pyNext (.ref it)) (fun r s1=>r=none/\Inv X pins σ H s1) E s
 self:∀(A:Around) (i:Nat) (s:η) (Q:L3) (E:L3),tn i s.heap->Q (.ref it) s->wpAny (model P w) A (pyIter (.ref it)) Q E s
noncomputable abbrev TI:=St->Hp->(It->Hp->Prop)->Prop
noncomputable def PIE(X:Cx)(pins:L1)(σ:St)(tg:Expr)(R:It->Hp->Prop)(itv:ζ)(s2:η):Prop:=
 ∃(it:Addr) (fp:List Addr) (tn:Nat->Heap->Prop) (J:It) (H':Hp),itv= .ref it/\Inv X pins σ H' s2/\Turn X.prog X.w X.K tg J fp it tn/\tn 0 s2.heap/\(∀b∈fp,FpOk X pins H' b)/\R J H'
noncomputable def PI(X:Cx)(tg iter:Expr)(wi:TI):Prop:=
 ∀(pins:L1) (s:η) (σ:St) (H:Hp) (R:It->Hp->Prop),Inv X pins σ H s->wi σ H R->
  wpAny (model X.prog X.w) X.A (eval iter X.env) (fun v s1=>wpAny (model X.prog X.w) X.A (pyIter v) (PIE X pins σ tg R) X.xe s1) X.xe s
theorem go_of{M:Model}{A:Around}{E:L3}{s:η}{tg:Expr}{it:Addr}{u:ζ}{o:Obj}{n:String}{vs:Array ζ}{Q:Unit->η->Prop}(ho:s.heap.get? it=some o)(hc:o.cls= .type n)(hd:o.data= .fields vs)(hn:["enumerate","zip","dict_itemiterator","dict_reverseitemiterator","odict_iterator","itertools.zip_longest","itertools.pairwise"].contains n=false)(hQ:Q () s):wpAny M A (letOwnedTupleGo tg (.ref it) u) Q E s:=by
 unfold letOwnedTupleGo;cases tg<;>first
  |exact iD hQ
  |(cases u<;>first
    |exact iD hQ
    |(refine bL (wpAny_load ho ?_)
      rw[hc,hd];show wpAny M A (if(["enumerate","zip","dict_itemiterator","dict_reverseitemiterator","odict_iterator","itertools.zip_longest","itertools.pairwise"].contains n&&vs[0]? ==some (rawInt _))=true then _ else _) Q E s;rw[aB (by intro h;rw[hn,Bool.false_and]at h;cases h)];exact iD hQ))
noncomputable def Itl(K:W.Frag)(a:Addr):It:=
 ⟨fun i H=>∃xs x,SqL K H a xs/\xs[i]? =some x,fun i H x H'=>H'=H/\∀xs,SqL K H a xs->xs[i]? =some x,fun i H=>∃xs,SqL K H a xs/\xs.length<=i⟩
noncomputable def Itt(K:W.Frag)(a:Addr):It:=
 ⟨fun i H=>∃xs x,SqT K H a xs/\xs[i]? =some x,fun i H x H'=>H'=H/\∀xs,SqT K H a xs->xs[i]? =some x,fun i H=>∃xs,SqT K H a xs/\xs.length<=i⟩
noncomputable def Itr(lo:Int)(n:Nat):It:=⟨fun i _=>i<n,fun i H x H'=>H'=H/\x= .int (lo+i),fun i _=>n<=i⟩
theorem turn_list{P:ξ}{w:τ}{K:W.Frag}{tg:Expr}(a it:Addr):Turn P w K tg (Itl K a) [it] it (fun i h=>h.IsListIter it a i) where
 mem:=by simp
 obj:=fun i h st b hb=>by
  have e:b=it:=by simpa using hb
  subst e;obtain⟨o,e,c,d⟩:=st;exact⟨o,e,fun v z=>by rw[d]at z;cases z⟩
 keep:=fun i h h' st k=>st.at fun o e=>k it (by simp) o e
 item:=by
  intro X hP hw hK hc i pins s σ H E I hf st hg;subst hP hw hK;obtain⟨xs,x,hq,hx⟩:=hg;obtain⟨its,rv,p,hz⟩:=I.list hq;obtain⟨u,hu,ru⟩:=rv.get hx;obtain⟨f0,f1,f2,f3,f4,f5⟩:=hf it (by simp);refine wpAny_pyNext_list_item st p.isList (x:=u) (by simpa using hu) fun h' st' sb=> ?_;have I1:Inv X pins σ H {s with heap:=h'}:=I.turned (t':=s.toks) (fun b o hb e=>(sb.2 b hb).trans e) f0 f1 f3 f4 f5;obtain⟨o,e,c,d⟩:=id st';exact⟨u,rfl,go_of (s:={s with heap:=h'}) e c d (by decide) ⟨x,H,I1,ru,⟨rfl,fun ys hy=>by rw[I.list_inj hy hq];exact hx⟩,st',fun b hb=>(hf b hb).1⟩⟩
 done:=by
  intro X hP hw hK hc i pins s σ H E I hf st hg;subst hP hw hK;obtain⟨xs,hq,hx⟩:=hg;obtain⟨its,rv,p,hz⟩:=I.list hq;obtain⟨f0,f1,f2,f3,f4,f5⟩:=hf it (by simp);have hl:=rv.length;exact wpAny_pyNext_list_end (I.ok.hd hc) st p.isList (by simp;omega) fun h' eb=>⟨rfl,I.turned (t':=s.toks) (fun b o hb e=>eb b o hb e) f0 f1 f3 f4 f5⟩
 self:=fun _ _ _ _ _ st h=>wpAny_pyIter_listiter st h
theorem turn_tuple{P:ξ}{w:τ}{K:W.Frag}{tg:Expr}(a it:Addr):Turn P w K tg (Itt K a) [it] it (fun i h=>h.IsTupleIter it a i) where
 mem:=by simp
 obj:=fun i h st b hb=>by
  have e:b=it:=by simpa using hb
  subst e;obtain⟨o,e,c,d⟩:=st;exact⟨o,e,fun v z=>by rw[d]at z;cases z⟩
 keep:=fun i h h' st k=>st.at fun o e=>k it (by simp) o e
 item:=by
  intro X hP hw hK hc i pins s σ H E I hf st hg;subst hP hw hK;obtain⟨xs,x,hq,hx⟩:=hg;obtain⟨its,rv,p,hz⟩:=I.tuple hq;obtain⟨u,hu,ru⟩:=rv.get hx;obtain⟨f0,f1,f2,f3,f4,f5⟩:=hf it (by simp);refine wpAny_pyNext_tuple_item st (show s.heap.IsTuple a its.toArray from p) (x:=u) (by simpa using hu) fun h' st' sb=> ?_;have I1:Inv X pins σ H {s with heap:=h'}:=I.turned (t':=s.toks) (fun b o hb e=>(sb.2 b hb).trans e) f0 f1 f3 f4 f5;obtain⟨o,e,c,d⟩:=id st';exact⟨u,rfl,go_of (s:={s with heap:=h'}) e c d (by decide) ⟨x,H,I1,ru,⟨rfl,fun ys hy=>by rw[I.tuple_inj hy hq];exact hx⟩,st',fun b hb=>(hf b hb).1⟩⟩
 done:=by
  intro X hP hw hK hc i pins s σ H E I hf st hg;subst hP hw hK;obtain⟨xs,hq,hx⟩:=hg;obtain⟨its,rv,p,hz⟩:=I.tuple hq;obtain⟨f0,f1,f2,f3,f4,f5⟩:=hf it (by simp);have hl:=rv.length;exact wpAny_pyNext_tuple_end (I.ok.hd hc) st (show s.heap.IsTuple a its.toArray from p) (by simp;omega) fun h' eb=>⟨rfl,I.turned (t':=s.toks) (fun b o hb e=>eb b o hb e) f0 f1 f3 f4 f5⟩
 self:=fun _ _ _ _ _ st h=>wpAny_pyIter_tupleiter st h
theorem turn_range{P:ξ}{w:τ}{K:W.Frag}{tg:Expr}(it:Addr)(lo:Int)(n:Nat):Turn P w K tg (Itr lo n) [it] it (fun i h=>IsRangeIter h it (lo+(i:Nat)*1) ((n:Int)-(i:Nat)) 1) where
 mem:=by simp
 obj:=fun i h st b hb=>by
  have e:b=it:=by simpa using hb
  subst e;exact⟨_,st,fun v z=>by
   have z':Data.fields _=Data.cell v:=z;cases z'⟩
 keep:=fun i h h' st k=>k it (by simp) _ st
 item:=by
  intro X hP hw hK hc i pins s σ H E I hf st hg;subst hP hw hK;obtain⟨f0,f1,f2,f3,f4,f5⟩:=hf it (by simp);have W:=Walks.range (prog:=X.prog) (w:=X.w) (I.ok.hd hc) it lo 1 n;refine W.item i s _ _ hg st fun v h' tk hv st' kk=> ?_;obtain⟨t,rfl⟩:=hv;have I1:Inv X pins σ H {s with heap:=h',toks:=tk}:=I.turned (fun b o hb e=>kk b o (by simpa using hb) e) f0 f1 f3 f4 f5;refine⟨_,rfl,go_of (s:={s with heap:=h',toks:=tk}) (n:="range_iterator") st' rfl rfl (by decide) ⟨.int (lo+i),H,I1,⟨t,?_⟩,⟨rfl,rfl⟩,st',fun b hb=>(hf b hb).1⟩⟩;rw[ZS]
 done:=by
  intro X hP hw hK hc i pins s σ H E I hf st hg;subst hP hw hK;obtain⟨f0,f1,f2,f3,f4,f5⟩:=hf it (by simp);exact wpAny_pyNext_range_end (I.ok.hd hc) st (by have:n<=i:=hg;omega) fun h' eb=>⟨rfl,I.turned (t':=s.toks) (fun b o hb e=>eb b o hb e) f0 f1 f3 f4 f5⟩
 self:=fun _ _ _ _ _ st h=>wpAny_pyIter_rangeiter st h
section
variable{X:Cx}{tg:Expr}
theorem range_it{pins:L1}{σ:St}{H:Hp}{s:η}{R:It->Hp->Prop}{E:L3}{lo hi:Int}{t u v:Tok}{tk:Nat}(I:Inv X pins σ H s)(h1: -(2^62)<=lo)(h2:lo<2^62)(h3: -(2^62)<=hi)(h4:hi<2^62)(q:R (Itr lo (hi-lo).toNat) H):wpAny (model X.prog X.w) X.A (pyIter (.ref s.heap.objs.size)) (PIE X pins σ tg R) E {s with heap:=s.heap.push {cls:= .type "range",data:= .fields #[.int lo t,.int hi u,.int 1 v]},toks:=tk}:=by
 refine wpAny_pyIter_range (wev ..) (small_one h1 h2 h3 h4) ?_;have I1:Inv X pins σ H {s with heap:=s.heap.push {cls:= .type "range",data:= .fields #[.int lo t,.int hi u,.int 1 v]},toks:=tk}:=I.kept fun b o e=>lH _ e;refine⟨(s.heap.push {cls:= .type "range",data:= .fields #[.int lo t,.int hi u,.int 1 v]}).objs.size,[(s.heap.push {cls:= .type "range",data:= .fields #[.int lo t,.int hi u,.int 1 v]}).objs.size],_,_,H,rfl,
  I1.kept (t':=tk) fun b o e=>lH _ e,turn_range _ lo (hi-lo).toNat,?_,fun b hb=> ?_,q⟩
 ·have e1:lo+((0:Nat):Int)*1=lo:=by simp
  have e2:(((hi-lo).toNat:Nat):Int)-((0:Nat):Int)=Builtin.Range.rangeSize lo hi 1:=by rw[wdw];split<;>omega
  show IsRangeIter _ _ (lo+((0:Nat):Int)*1) ((((hi-lo).toNat:Nat):Int)-((0:Nat):Int)) 1;rw[e1,e2];exact sY _ rfl
 ·have e:b=(s.heap.push {cls:= .type "range",data:= .fields #[.int lo t,.int hi u,.int 1 v]}).objs.size:=by simpa using hb
  subst e;exact I1.fpOk (aW _) (I1.hok.fresh (aW _))
noncomputable def iRng1(ta:TA):TI:=fun σ H R=>ta σ H fun vs H1=>∃j:Int,vs=[.int j]/\ -(2^62)<=j/\j<2^62/\R (Itr 0 j.toNat) H1
noncomputable def iRng2(ta:TA):TI:=fun σ H R=>ta σ H fun vs H1=>∃i j:Int,vs=[.int i,.int j]/\(-(2^62)<=i/\i<2^62/\ -(2^62)<=j/\j<2^62)/\R (Itr i (j-i).toNat) H1
theorem J2{a:Expr}{ta:TA}{p pos:Pos}(hg:Gl X "range")(hm:X.mg "range"=none)(ha:PA X [a] ta)(hs:starEach [a] X.env=[(false,eval a X.env)]:=by rfl):PI X tg (.Call (.Name "range" p) [a] [] pos) (iRng1 ta):=by
 intro pins s σ H R I h;refine Call_ (ld_blt I hg hm ZQ (QK (thn (ha pos pins s σ H _ I h) fun us s1 ⟨vs,H1,I1,r1,q1⟩=> ?_) hs rfl));obtain⟨j,e,q1,q2,q⟩:=q1;subst e;cases r1 with
 |cons r rr=>
  cases rr;obtain⟨t,rfl⟩:=r;exact call_range_1 (range_it I1 (by omega) (by omega) q1 q2 (by simpa using q))
theorem pi_range2{a b:Expr}{ta:TA}{p pos:Pos}(hg:Gl X "range")(hm:X.mg "range"=none)(ha:PA X [a,b] ta)(hs:starEach [a,b] X.env=[(false,eval a X.env),(false,eval b X.env)]:=by rfl)(hs2:starEach [b] X.env=[(false,eval b X.env)]:=by rfl):
  PI X tg (.Call (.Name "range" p) [a,b] [] pos) (iRng2 ta):=by
 intro pins s σ H R I h;refine Call_ (ld_blt I hg hm ZQ (QK (thn (ha pos pins s σ H _ I h) fun us s1 ⟨vs,H1,I1,r1,q1⟩=> ?_) (by rw[hs,hs2]) (by rw[hs2];rfl)));obtain⟨i,j,e,⟨q1,q2,q3,q4⟩,q⟩:=q1;subst e;cases r1 with
 |cons r rr=>
  cases rr with
  |cons r' rr=>
   cases rr;obtain⟨t,rfl⟩:=r;obtain⟨t',rfl⟩:=r';exact call_range_2 (range_it I1 q1 q2 q3 q4 q)
noncomputable def tFor(wi:TI)(g:TG)(tb:TS):TS:=fun D σ H=>wi σ H fun J H1=>∃W:Nat->Nat->St->Hp->Prop,(∃m,W 0 m σ H1)/\∀i m σ H,W i m σ H->
 (J.stop i H/\D.nx σ H)\/(J.go i H/\∃N:St->Hp->Prop,(∀σ' H',N σ' H'->∃m',m'<m/\W (i+1) m' σ' H')/\∀x H',J.yld i H x H'->g x σ H' fun σ2 H2=>tb {D with nx:=N,ct:=N,bk:=D.nx} σ2 H2)
noncomputable def pinsAt(fp:List Addr)(h:Heap):L1:=fp.filterMap fun b=>(h.get? b).map fun o=>(b,o)
theorem mem_pinsAt{fp:List Addr}{h:Heap}{b:Addr}{o:Obj}(hb:b∈fp)(e:h.get? b=some o):(b,o)∈pinsAt fp h:=List.mem_filterMap.mpr ⟨b,hb,by rw[e];rfl⟩
theorem of_pinsAt{fp:List Addr}{h:Heap}{p:Addr×Obj}(hp:p∈pinsAt fp h):p.1∈fp/\h.get? p.1=some p.2:=by
 obtain⟨b,hb,e⟩:=List.mem_filterMap.mp hp;cases q:h.get? b with
 |none=>rw[q]at e;cases e
 |some o=>
  rw[q]at e;have e':(b,o)=p:=tu e;subst e';exact⟨hb,q⟩
theorem Inv.pinned{pins:L1}{σ:St}{H:Hp}{s:η}{fp:List Addr}(I:Inv X pins σ H s)(hf:∀b∈fp,FpOk X pins H b)(ho:∀b∈fp,∃o,s.heap.get? b=some o/\∀v,o.data≠.cell v):Inv X (pins++pinsAt fp s.heap) σ H s:=
 I.pins_of fun p hp=>(qg.mp hp).elim (fun z=>I.pin p (Ie _ z)) fun z=>by
  obtain⟨hb,e⟩:=of_pinsAt z;obtain⟨f0,f1,f2,_⟩:=hf p.1 hb;obtain⟨o,e',d⟩:=ho p.1 hb;rw[e]at e';cases e';exact⟨e,f0,f1,f2,d⟩
theorem Inv.unpinned{pins pl:L1}{σ:St}{H:Hp}{s:η}(I:Inv X (pins++pl) σ H s):Inv X pins σ H s:=I.pins_of fun p hp=>I.pin p (Ie _ (ydp _ hp))
theorem ps_for{iter:Expr}{body:List Stmt}{wi:TI}{g:TG}{tb:TS}{pos:Pos}(hp:PassesOwn (model X.prog X.w) X.A X.env X.xe)(hc:X.calm=true)(hi:PI X tg iter wi)(hg:PG X tg g)(hb:PSs X body tb)(hs:∀x,foldedSetIterable iter X.env x=pure x:=by intro _;rfl):PS X (.For tg iter body [] pos) (tFor wi g tb):=by
 intro pins s σ H D I h;refine wpAny_For (thn (hi pins s σ H _ I h) fun v s1 h1=>thn h1 fun itv s2 h2=> ?_) hs;obtain⟨it,fp,tn,J,H2,e,I2,T,st2,f2,W,⟨m0,w0⟩,turn⟩:=h2;subst e
 -- what stays true of the iterator's objects through the loop
 have stat:∀{H':Hp},(∀b∈fp,H' b=none)->∀b∈fp,FpOk X pins H' b:=fun hn b hb=>⟨hn b hb,(f2 b hb).2⟩;refine codeAny_forLoop_any (fun n s'=>∃i σ' H',Inv X pins σ' H' s'/\tn i s'.heap/\(∀b∈fp,H' b=none)/\W i n σ' H') ?_ m0 ⟨0,σ,H2,I2,st2,fun b hb=>(f2 b hb).1,w0⟩;rintro n s3 ⟨i,σ3,H3,I3,st3,fr3,w3⟩;rcases turn i n σ3 H3 w3 with⟨stop,qn⟩|⟨go,N,hN,step⟩
 ·refine Wb hp (thn (T.done X rfl rfl rfl hc i pins s3 σ3 H3 X.xe I3 (stat fr3) st3 stop) fun r s4 ⟨hr,I4⟩=> ?_);subst hr;exact way ⟨σ3,H3,I4,qn⟩
 ·refine Wb hp (thn (T.item X rfl rfl rfl hc i pins s3 σ3 H3 X.xe I3 (stat fr3) st3 go) fun r s4 ⟨u,hr,h4⟩=> ?_);subst hr;refine Wb hp (thn h4 fun _ s5 ⟨x,H5,I5,r5,y5,st5,fr5⟩=> ?_);have I5':=I5.pinned (stat fr5) (T.obj _ _ st5);refine Wb hp (thn (hg _ s5 σ3 H5 x u _ I5' r5 (step x H5 y5)) fun _ s6 ⟨σ6,H6,I6,q6⟩=> ?_);refine Wb hp (thn (hb _ s6 σ6 H6 _ I6 q6) fun f s7 q7=> ?_);have again:∀{σ7:St} {H7:Hp},Inv X (pins++pinsAt fp s5.heap) σ7 H7 s7->N σ7 H7->∃m,m<n/\∃i σ' H',Inv X pins σ' H' s7/\tn i s7.heap/\(∀b∈fp,H' b=none)/\W i m σ' H':=fun{σ7 H7} I7 n7=>by
   obtain⟨m',hm,w7⟩:=hN σ7 H7 n7;refine⟨m',hm,i+1,σ7,H7,I7.unpinned,T.keep _ _ _ st5 fun b hb o e=>(I7.pin (b,o) (Ie _ (Ie _ (mem_pinsAt hb e)))).1,fun b hb=> ?_,w7⟩;obtain⟨o,e,d⟩:=T.obj _ _ st5 b hb;exact(I7.pin (b,o) (Ie _ (Ie _ (mem_pinsAt hb e)))).2.1
  cases f with
  |next=>obtain⟨σ7,H7,I7,n7⟩:=q7;exact again I7 n7
  |cont=>obtain⟨σ7,H7,I7,n7⟩:=q7;exact again I7 n7
  |brk=>obtain⟨σ7,H7,I7,q7⟩:=q7;exact⟨σ7,H7,I7.unpinned,q7⟩
  |ret v=>obtain⟨x7,σ7,H7,I7,r7,q7⟩:=q7;exact⟨x7,σ7,H7,I7.unpinned,r7,q7⟩
end
theorem for_list{K:W.Frag}{a:Addr}{xs:List V}{g:TG}{tb:TS}{D:Ends}{σ:St}{H:Hp}(Pv:Nat->St->Hp->Prop)(h0:Pv 0 σ H)(hl:∀i σ H,i<=xs.length->Pv i σ H->SqL K H a xs)(hs:∀i x σ H,xs[i]? =some x->Pv i σ H->g x σ H fun σ2 H2=>tb {D with nx:=Pv (i+1),ct:=Pv (i+1),bk:=D.nx} σ2 H2)(hd:∀σ H,Pv xs.length σ H->D.nx σ H):
  ∃W:Nat->Nat->St->Hp->Prop,(∃m,W 0 m σ H)/\∀i m σ H,W i m σ H->
   ((Itl K a).stop i H/\D.nx σ H)\/((Itl K a).go i H/\∃N:St->Hp->Prop,(∀σ' H',N σ' H'->∃m',m'<m/\W (i+1) m' σ' H')/\∀x H',(Itl K a).yld i H x H'->g x σ H' fun σ2 H2=>tb {D with nx:=N,ct:=N,bk:=D.nx} σ2 H2):=by
 refine⟨fun i m σ H=>m=xs.length-i/\i<=xs.length/\Pv i σ H,⟨xs.length,by simp,dF _,h0⟩,?_⟩;rintro i m σ H ⟨rfl,hi,p⟩;have q:=hl i σ H hi p;by_cases hlt:i<xs.length
 ·refine .inr ⟨⟨xs,xs[i],q,by simp[hlt]⟩,Pv (i+1),fun σ' H' p'=>⟨xs.length-(i+1),by omega,rfl,hlt,p'⟩,fun x H' y=> ?_⟩;obtain⟨e,y⟩:=y;subst e;exact hs i x σ _ (y xs q) p
 ·have e:i=xs.length:=by omega
  subst e;exact .inl ⟨⟨xs,q,aW _⟩,hd σ H p⟩
theorem Q6{lo:Int}{n:Nat}{g:TG}{tb:TS}{D:Ends}{σ:St}{H:Hp}(Pv:Nat->St->Hp->Prop)(h0:Pv 0 σ H)(hs:∀i σ H,i<n->Pv i σ H->g (.int (lo+i)) σ H fun σ2 H2=>tb {D with nx:=Pv (i+1),ct:=Pv (i+1),bk:=D.nx} σ2 H2)(hd:∀σ H,Pv n σ H->D.nx σ H):
  ∃W:Nat->Nat->St->Hp->Prop,(∃m,W 0 m σ H)/\∀i m σ H,W i m σ H->
   ((Itr lo n).stop i H/\D.nx σ H)\/((Itr lo n).go i H/\∃N:St->Hp->Prop,(∀σ' H',N σ' H'->∃m',m'<m/\W (i+1) m' σ' H')/\∀x H',(Itr lo n).yld i H x H'->g x σ H' fun σ2 H2=>tb {D with nx:=N,ct:=N,bk:=D.nx} σ2 H2):=by
 refine⟨fun i m σ H=>m=n-i/\i<=n/\Pv i σ H,⟨n,by simp,dF _,h0⟩,?_⟩;rintro i m σ H ⟨rfl,hi,p⟩;by_cases hlt:i<n
 ·refine .inr ⟨hlt,Pv (i+1),fun σ' H' p'=>⟨n-(i+1),by omega,rfl,hlt,p'⟩,fun x H' y=> ?_⟩;obtain⟨e,y⟩:=y;subst e y;exact hs i σ _ hlt p
 ·have e:i=n:=by omega
  subst e;exact .inl ⟨aW _,hd σ H p⟩
noncomputable abbrev R2:=V->V->Hp->VK->Prop
noncomputable def OpR(X:Cx)(f:ζ->ζ->Sem ζ)(r:R2):Prop:=
 ∀(pins:L1) (s:η) (σ:St) (H:Hp) (x y:V) (v u:ζ) (Q:VK),Inv X pins σ H s->RelV x v->RelV y u->r x y H Q->
  wpAny (model X.prog X.w) X.A (f v u) (EP X pins σ Q) X.xe s
noncomputable def UnR(X:Cx)(f:ζ->Sem ζ)(r:V->Hp->VK->Prop):Prop:=
 ∀(pins:L1) (s:η) (σ:St) (H:Hp) (x:V) (v:ζ) (Q:VK),Inv X pins σ H s->RelV x v->r x H Q->
  wpAny (model X.prog X.w) X.A (f v) (EP X pins σ Q) X.xe s
noncomputable def CallR(X:Cx)(f:ζ)(r:List V->Hp->VK->Prop):Prop:=
 ∀(pins:L1) (s:η) (σ:St) (H:Hp) (xs:List V) (us:List ζ) (Q:VK),Inv X pins σ H s->Vals xs us->r xs H Q->
  wpAny (model X.prog X.w) X.A (call f us) (EP X pins σ Q) X.xe s
noncomputable def TruR(X:Cx)(r:V->Hp->(Bool->Hp->Prop)->Prop):Prop:=
 ∀(pins:L1) (s:η) (σ:St) (H:Hp) (x:V) (v:ζ) (Q:Bool->Hp->Prop),Inv X pins σ H s->RelV x v->r x H Q->
  wpAny (model X.prog X.w) X.A (truthy v) (TP X pins σ Q) X.xe s
noncomputable def tOp(r:R2)(ta tb:TE):TE:=fun σ H Q=>ta σ H fun x H1=>tb σ H1 fun y H2=>r x y H2 Q
noncomputable def tUn(r:V->Hp->VK->Prop)(ta:TE):TE:=fun σ H Q=>ta σ H fun x H1=>r x H1 Q
noncomputable def rI(C:Int->Int->Prop)(g:Int->Int->V):R2:=fun x y H Q=>∃i j,x= .int i/\y= .int j/\C i j/\Q (g i j) H
noncomputable def rI0(g:Int->Int->V):R2:=fun x y H Q=>∃i j,x= .int i/\y= .int j/\Q (g i j) H
noncomputable def rU(g:Int->V):V->Hp->VK->Prop:=fun x H Q=>∃i,x= .int i/\Q (g i) H
section
variable{X:Cx}{a b:Expr}{ta tb:TE}{pos:Pos}
theorem binT(ha:PE X a ta)(hb:PE X b tb){pins:L1}{s:η}{σ:St}{H:Hp}{R:V->V->Hp->Prop}(I:Inv X pins σ H s)(h:ta σ H fun x H1=>tb σ H1 fun y H2=>R x y H2){Q:L3}{f:ζ->ζ->Sem ζ}(hf:∀v u s2 x y H2,Inv X pins σ H2 s2->RelV x v->RelV y u->R x y H2->wpAny (model X.prog X.w) X.A (f v u) Q X.xe s2):
  wpAny (model X.prog X.w) X.A (eval a X.env) (fun v s₁=>wpAny (model X.prog X.w) X.A (eval b X.env) (fun u s₂=>wpAny (model X.prog X.w) X.A (f v u) Q X.xe s₂) X.xe s₁) X.xe s:=by
 refine thn (ha pins s σ H _ I h) fun v s1 ⟨x,H1,I1,r1,q1⟩=> ?_;refine thn (hb pins s1 σ H1 _ I1 q1) fun u s2 ⟨y,H2,I2,r2,q2⟩=> ?_;exact hf v u s2 x y H2 I2 r1 r2 q2
theorem bB{op:Operator}{r:R2}(ho:OpR X (binaryOp op) r)(ha:PE X a ta)(hb:PE X b tb):PE X (.BinOp a op b pos) (tOp r ta tb):=by
 intro pins s σ H Q I h;exact wpAny_BinOp (binT ha hb I h fun v u s2 x y H2 I2 rx ry q=>ho pins s2 σ H2 x y v u Q I2 rx ry q)
theorem pe_un{op:UnaryOp}{r:V->Hp->VK->Prop}(ho:UnR X (unaryOp op) r)(ha:PE X a ta):PE X (.UnaryOp op a pos) (tUn r ta):=by
 intro pins s σ H Q I h;exact UnaryOp_ (thn (ha pins s σ H _ I h) fun v s1 ⟨x,H1,I1,r1,q1⟩=>ho pins s1 σ H1 x v Q I1 r1 q1)
theorem opI{f:ζ->ζ->Sem ζ}{C:Int->Int->Prop}{g:Int->Int->Int}(rule:∀(i j:Int) (t u:Tok) (s:η) (Q:L3) (E:L3),C i j->Q (.int (g i j) s.toks) {s with toks:=s.toks+1}->wpAny (model X.prog X.w) X.A (f (.int i t) (.int j u)) Q E s):
  OpR X f (rI C fun i j=> .int (g i j)):=by
 intro pins s σ H x y v u Q I rx ry h;obtain⟨i,j,rfl,rfl,hc,q⟩:=h;obtain⟨t,rfl⟩:=rx;obtain⟨t',rfl⟩:=ry;exact rule i j t t' s _ _ hc ⟨.int (g i j),H,I.tok _,⟨_,rfl⟩,q⟩
theorem opI0{f:ζ->ζ->Sem ζ}{g:Int->Int->Int}(rule:∀(i j:Int) (t u:Tok) (s:η) (Q:L3) (E:L3),Q (.int (g i j) s.toks) {s with toks:=s.toks+1}->wpAny (model X.prog X.w) X.A (f (.int i t) (.int j u)) Q E s):
  OpR X f (rI0 fun i j=> .int (g i j)):=by
 intro pins s σ H x y v u Q I rx ry h;obtain⟨i,j,rfl,rfl,q⟩:=h;obtain⟨t,rfl⟩:=rx;obtain⟨t',rfl⟩:=ry;exact rule i j t t' s _ _ ⟨.int (g i j),H,I.tok _,⟨_,rfl⟩,q⟩
theorem opB0{f:ζ->ζ->Sem ζ}{g:Int->Int->Bool}(rule:∀(i j:Int) (t u:Tok) (s:η) (Q:L3) (E:L3),Q (.bool (g i j)) s->wpAny (model X.prog X.w) X.A (f (.int i t) (.int j u)) Q E s):
  OpR X f (rI0 fun i j=> .bl (g i j)):=by
 intro pins s σ H x y v u Q I rx ry h;obtain⟨i,j,rfl,rfl,q⟩:=h;obtain⟨t,rfl⟩:=rx;obtain⟨t',rfl⟩:=ry;exact rule i j t t' s _ _ ⟨.bl (g i j),H,I,rfl,q⟩
noncomputable def CPow(i j:Int):Prop:=0<=j/\j<=1000000/\i.natAbs<2^64
noncomputable def CMul(i j:Int):Prop:=(-(2^64)<i/\i<2^64)\/(-(2^64)<j/\j<2^64)
theorem CMul.ok{i j:Int}(h:CMul i j):IntMulOk i j:=by
 rcases h with⟨h1,h2⟩|⟨h1,h2⟩
 ·exact .of_left (intBits_le_64 h1 h2)
 ·exact .of_right (intBits_le_64 h1 h2)
theorem mQ:OpR X (binaryOp .Add) (rI0 fun i j=> .int (i+j)):=opI0 fun _ _ _ _ _ _ _ q=>add_int q
theorem op_sub:OpR X (binaryOp .Sub) (rI0 fun i j=> .int (i-j)):=opI0 fun _ _ _ _ _ _ _ q=>sub_int q
theorem uP:OpR X (binaryOp .Mult) (rI CMul fun i j=> .int (i*j)):=opI fun _ _ _ _ _ _ _ hc q=>mul_int q hc.ok
theorem op_mod:OpR X (binaryOp .Mod) (rI (fun _ j=>0<j) fun i j=> .int (i %j)):=opI fun i j _ _ _ _ _ hc q=>by
 have h1:(0:Int)<j:=hc;exact mod_int' (by omega) (by rw[Int.fmod_eq_emod_of_nonneg i (by omega)];exact q)
theorem op_pow:OpR X (binaryOp .Pow) (rI CPow fun i j=> .int (i^j.toNat)):=opI fun _ _ _ _ _ _ _ hc q=>pow_int_small hc.1 hc.2.1 hc.2.2 q
theorem unI{f:ζ->Sem ζ}{g:Int->Int}(rule:∀(i:Int) (t:Tok) (s:η) (Q:L3) (E:L3),Q (.int (g i) s.toks) {s with toks:=s.toks+1}->wpAny (model X.prog X.w) X.A (f (.int i t)) Q E s):
  UnR X f (rU fun i=> .int (g i)):=by
 intro pins s σ H x v Q I rx h;obtain⟨i,rfl,q⟩:=h;obtain⟨t,rfl⟩:=rx;exact rule i t s _ _ ⟨.int (g i),H,I.tok _,⟨_,rfl⟩,q⟩
theorem un_neg:UnR X (unaryOp .USub) (rU fun i=> .int (-i)):=unI fun _ _ _ _ _ q=>neg_int q
end
noncomputable def scal:V->V->Bool
 | .non,.non=>true| .non,.int _=>true| .int _,.non=>true| .non,.bl _=>true| .bl _,.non=>true| .non,.str _=>true| .str _,.non=>true
 | .int _,.int _=>true| .bl _,.bl _=>true| .str _,.str _=>true| .byt _,.byt _=>true
 | .int _,.str _=>true| .str _,.int _=>true| .bl _,.str _=>true| .str _,.bl _=>true
 |_,_=>false
noncomputable def rEq:R2:=fun x y H Q=>scal x y=true/\Q (.bl (decide (x=y))) H
noncomputable def rNe:R2:=fun x y H Q=>scal x y=true/\Q (.bl (!decide (x=y))) H
theorem dec_int{i j:Int}:decide (V.int i=V.int j)=(i==j):=by
 rw[was];simp
theorem dec_bl{i j:Bool}:decide (V.bl i=V.bl j)=(i==j):=by
 rw[was];simp
theorem dec_str{i j:Str}:decide (V.str i=V.str j)=(i==j):=by
 rw[was];simp
theorem dec_byt{i j:Array UInt8}:decide (V.byt i=V.byt j)=(i.toList==j.toList):=by
 rw[was];cases i;cases j;simp
section
variable{X:Cx}{a b c:Expr}{ta tb tc:TE}{pos:Pos}
theorem lZ{pins:L1}{σ:St}{H:Hp}{s:η}{Q:VK}{k k':Bool}(I:Inv X pins σ H s)(q:Q (.bl k) H)(e:k=k'):EP X pins σ Q (.bool k') s:=by
 subst e;exact⟨.bl k,H,I,rfl,q⟩
theorem op_eq:OpR X (compareOp .Eq) rEq:=by
 intro pins s σ H x y v u Q I rx ry h;obtain⟨hs,q⟩:=h;cases x with
 |non=>
  cases rx;cases y with
  |non=>cases ry;exact PySem.EqNone.eq_none_none (lZ I q (by simp))
  |bl j=>cases ry;exact PySem.EqNone.eq_none_bool (lZ I q (by simp))
  |int j=>obtain⟨t',rfl⟩:=ry;exact PySem.EqNone.eq_none_int (lZ I q (by simp))
  |str j=>obtain⟨t',rfl⟩:=ry;exact PySem.EqNone.eq_none_str (lZ I q (by simp))
  |_=>exact absurd (show false=true from hs) uU
 |bl i=>
  cases rx;cases y with
  |non=>cases ry;exact PySem.EqNone.eq_bool_none (lZ I q (by simp))
  |bl j=>cases ry;exact eq_bool (lZ I q dec_bl)
  |str j=>obtain⟨t',rfl⟩:=ry;exact PySem.EqMixed.eq_bool_str (lZ I q (by simp))
  |_=>exact absurd (show false=true from hs) uU
 |int i=>
  obtain⟨t,rfl⟩:=rx;cases y with
  |non=>cases ry;exact PySem.EqNone.eq_int_none (lZ I q (by simp))
  |int j=>obtain⟨t',rfl⟩:=ry;exact eq_int (lZ I q dec_int)
  |str j=>obtain⟨t',rfl⟩:=ry;exact PySem.EqMixed.eq_int_str (lZ I q (by simp))
  |_=>exact absurd (show false=true from hs) uU
 |str i=>
  obtain⟨t,rfl⟩:=rx;cases y with
  |non=>cases ry;exact PySem.EqNone.eq_str_none (lZ I q (by simp))
  |bl j=>cases ry;exact PySem.EqMixed.eq_str_bool (lZ I q (by simp))
  |int j=>obtain⟨t',rfl⟩:=ry;exact PySem.EqMixed.eq_str_int (lZ I q (by simp))
  |str j=>obtain⟨t',rfl⟩:=ry;exact eq_str (lZ I q dec_str)
  |_=>exact absurd (show false=true from hs) uU
 |byt i=>
  obtain⟨t,rfl⟩:=rx;cases y with
  |byt j=>obtain⟨t',rfl⟩:=ry;exact PySem.W.eq_bytes (lZ I q dec_byt)
  |_=>exact absurd (show false=true from hs) uU
 |_=>cases y<;>exact absurd (show false=true from hs) uU
theorem op_ne:OpR X (compareOp .NotEq) rNe:=by
 intro pins s σ H x y v u Q I rx ry h;obtain⟨hs,q⟩:=h;cases x with
 |non=>
  cases rx;cases y with
  |non=>cases ry;exact PySem.EqNone.ne_none_none (lZ I q (by simp))
  |bl j=>cases ry;exact PySem.EqNone.ne_none_bool (lZ I q (by simp))
  |int j=>obtain⟨t',rfl⟩:=ry;exact PySem.EqNone.ne_none_int (lZ I q (by simp))
  |str j=>obtain⟨t',rfl⟩:=ry;exact PySem.EqNone.ne_none_str (lZ I q (by simp))
  |_=>exact absurd (show false=true from hs) uU
 |bl i=>
  cases rx;cases y with
  |non=>cases ry;exact PySem.EqNone.ne_bool_none (lZ I q (by simp))
  |bl j=>cases ry;exact ne_bool (lZ I q (jX not dec_bl))
  |str j=>obtain⟨t',rfl⟩:=ry;exact PySem.EqMixed.ne_bool_str (lZ I q (by simp))
  |_=>exact absurd (show false=true from hs) uU
 |int i=>
  obtain⟨t,rfl⟩:=rx;cases y with
  |non=>cases ry;exact PySem.EqNone.ne_int_none (lZ I q (by simp))
  |int j=>obtain⟨t',rfl⟩:=ry;exact ne_int (lZ I q (jX not dec_int))
  |str j=>obtain⟨t',rfl⟩:=ry;exact PySem.EqMixed.ne_int_str (lZ I q (by simp))
  |_=>exact absurd (show false=true from hs) uU
 |str i=>
  obtain⟨t,rfl⟩:=rx;cases y with
  |non=>cases ry;exact PySem.EqNone.ne_str_none (lZ I q (by simp))
  |bl j=>cases ry;exact PySem.EqMixed.ne_str_bool (lZ I q (by simp))
  |int j=>obtain⟨t',rfl⟩:=ry;exact PySem.EqMixed.ne_str_int (lZ I q (by simp))
  |str j=>obtain⟨t',rfl⟩:=ry;exact ne_str (lZ I q (jX not dec_str))
  |_=>exact absurd (show false=true from hs) uU
 |byt i=>
  obtain⟨t,rfl⟩:=rx;cases y with
  |byt j=>obtain⟨t',rfl⟩:=ry;exact PySem.W.ne_bytes (lZ I q (jX not dec_byt))
  |_=>exact absurd (show false=true from hs) uU
 |_=>cases y<;>exact absurd (show false=true from hs) uU
theorem op_lt:OpR X (compareOp .Lt) (rI0 fun i j=> .bl (decide (i<j))):=opB0 fun _ _ _ _ _ _ _ q=>lt_int q
theorem op_le:OpR X (compareOp .LtE) (rI0 fun i j=> .bl (decide (i<=j))):=opB0 fun _ _ _ _ _ _ _ q=>le_int q
theorem op_gt:OpR X (compareOp .Gt) (rI0 fun i j=> .bl (decide (j<i))):=opB0 fun _ _ _ _ _ _ _ q=>gt_int q
theorem op_ge:OpR X (compareOp .GtE) (rI0 fun i j=> .bl (decide (j<=i))):=opB0 fun _ _ _ _ _ _ _ q=>ge_int q
theorem op_isN:OpR X (compareOp .Is) (fun x y H Q=>y= .non/\Q (.bl (decide (x= .non))) H):=by
 intro pins s σ H x y v u Q I rx ry h;obtain⟨rfl,q⟩:=h;cases ry;refine is_none_gen (lZ I q ?_);cases x<;>first
  |(cases rx;rfl)
  |(obtain⟨t,rfl⟩:=rx;rfl)
theorem op_notN:OpR X (compareOp .IsNot) (fun x y H Q=>y= .non/\Q (.bl (!decide (x= .non))) H):=by
 intro pins s σ H x y v u Q I rx ry h;obtain⟨rfl,q⟩:=h;cases ry;refine isnot_none_gen (lZ I q ?_);cases x<;>first
  |(cases rx;rfl)
  |(obtain⟨t,rfl⟩:=rx;rfl)
theorem OpR.or{f:ζ->ζ->Sem ζ}{r r':R2}(h:OpR X f r)(h':OpR X f r'):OpR X f (fun x y H Q=>r x y H Q\/r' x y H Q):=by
 intro pins s σ H x y v u Q I rx ry q;rcases q with q|q
 ·exact h pins s σ H x y v u Q I rx ry q
 ·exact h' pins s σ H x y v u Q I rx ry q
theorem nomark(b:Expr){op:CmpOp}(h:op≠.In:=by decide)(h2:op≠.NotIn:=by decide):behindInMarks op b=false:=by
 have e1:(op==CmpOp.In)=false:=by cases op<;>first |rfl|exact absurd rfl h
 have e2:(op==CmpOp.NotIn)=false:=by cases op<;>first |rfl|exact absurd rfl h2
 cases b<;>simp[behindInMarks,e1,e2]
theorem JW{op:CmpOp}{r:R2}(ho:OpR X (compareOp op) r)(ha:PE X a ta)(hb:PE X b tb)(hm:behindInMarks op b=false:=by exact nomark _):PE X (.Compare a [op] [b] pos) (tOp r ta tb):=by
 intro pins s σ H Q I h;exact wpAny_Compare1 (binT ha hb I h fun v u s2 x y H2 I2 rx ry q=>ho pins s2 σ H2 x y v u Q I2 rx ry q) hm
noncomputable def tTest(t:TE):TT:=fun σ H Q=>t σ H fun x H'=>∃k,x= .bl k/\Q k H'
theorem dg{op:CmpOp}{r:R2}(ho:OpR X (compareOp op) r)(ha:PE X a ta)(hb:PE X b tb)(hm:behindInMarks op b=false:=by exact nomark _):PT X (.Compare a [op] [b] pos) (tTest (tOp r ta tb)):=by
 intro pins s σ H Q I h;refine wpAny_isTrue_Compare1 (thn (ha pins s σ H _ I h) fun v s1 ⟨x,H1,I1,r1,q1⟩=>thn (hb pins s1 σ H1 _ I1 q1) fun u s2 ⟨y,H2,I2,r2,q2⟩=>
  thn (ho pins s2 σ H2 x y v u _ I2 r1 r2 q2) fun c s3 ⟨z,H3,I3,r3,k,e,q3⟩=> ?_) hm
 subst e;cases r3;exact Ve ⟨H3,I3,q3⟩
noncomputable def tChain(r r':R2)(ta tb tc:TE):TE:=fun σ H Q=>ta σ H fun x H1=>tb σ H1 fun y H2=>r x y H2 fun z H3=>∃k,z= .bl k/\
 (if k=true then tc σ H3 fun w' H4=>r' y w' H4 Q else Q (.bl false) H3)
theorem pe_chain{op op':CmpOp}{r r':R2}(ho:OpR X (compareOp op) r)(ho':OpR X (compareOp op') r')(ha:PE X a ta)(hb:PE X b tb)(hc:PE X c tc)(hm:lastMarks [op,op'] [b,c]=false:=by with_unfolding_all rfl):PE X (.Compare a [op,op'] [b,c] pos) (tChain r r' ta tb tc):=by
 intro pins s σ H Q I h;refine Compare_chain (thn (ha pins s σ H _ I h) fun v s1 ⟨x,H1,I1,r1,q1⟩=>chain_link (thn (hb pins s1 σ H1 _ I1 q1) fun u s2 ⟨y,H2,I2,r2,q2⟩=>
  thn (ho pins s2 σ H2 x y v u _ I2 r1 r2 q2) fun d s3 ⟨z,H3,I3,r3,k,e,q3⟩=> ?_)) hm
 subst e;cases r3;refine Ve ?_;cases k with
 |false=>exact ite_ff ⟨.bl false,H3,I3,rfl,q3⟩
 |true=>exact ite_tt (chain_last (thn (hc pins s3 σ H3 _ I3 q3) fun w' s4 ⟨z',H4,I4,r4,q4⟩=>ho' pins s4 σ H4 y z' u w' Q I4 r2 r4 q4))
noncomputable def TruV(K:W.Frag)(x:V)(H:Hp)(k:Bool):Prop:=
 match x with
 | .non=>k=false
 | .bl b=>k=b
 | .int i=>k=(i !=0)
 | .str y=>y.length<=sizeLine/\k=((y.length:Int) !=0)
 | .byt y=>y.size<=sizeLine/\k=((y.size:Int) !=0)
 | .ref p=>(∃xs,SqL K H p xs/\k= !xs.isEmpty)\/(∃xs,SqT K H p xs/\k= !xs.isEmpty)\/∃kvs,H p=some (.dK kvs)/\k= !kvs.isEmpty
 |_=>False
theorem isEmpty_kv{κ:Type}{kvs:List (κ×V)}{vs:List (κ×ζ)}(r:KV kvs vs):(!vs.isEmpty)= !kvs.isEmpty:=by
 cases r<;>rfl
theorem isEmpty_of{xs:List V}{its:List ζ}(r:Vals xs its):(!its.toArray.isEmpty)= !xs.isEmpty:=by
 cases r<;>simp
theorem line63:(sizeLine:Nat)<2^63:=by rw[fZ];decide
theorem tru_ok:TruR X (fun x H Q=>∃k,TruV X.K x H k/\Q k H):=by
 intro pins s σ H x v Q I rx h;obtain⟨k,e,q⟩:=h;have hl:=line63;have hs:sizeLine=16777216:=fZ;cases x with
 |non=>
  cases rx;have e':k=false:=e;subst e';exact truthy_none ⟨H,I,q⟩
 |bl b=>
  cases rx;have e':k=b:=e;subst e';exact Ve ⟨H,I,q⟩
 |int i=>
  obtain⟨t,rfl⟩:=rx;have e':k=(i !=0):=e;subst e';exact PySem.P.truthy_int ⟨H,I,q⟩
 |str y=>
  obtain⟨t,rfl⟩:=rx;obtain⟨hy,e'⟩:y.length<=sizeLine/\k=((y.length:Int) !=0):=e;subst e';exact PySem.P.truthy_str (by omega) ⟨H,I.tok _,q⟩
 |byt y=>
  obtain⟨t,rfl⟩:=rx;obtain⟨hy,e'⟩:y.size<=sizeLine/\k=((y.size:Int) !=0):=e;subst e';exact PySem.W.truthy_bytes (by omega) ⟨H,I.tok _,q⟩
 |ref p=>
  cases rx;have e':(∃xs,SqL X.K H p xs/\k= !xs.isEmpty)\/(∃xs,SqT X.K H p xs/\k= !xs.isEmpty)\/∃kvs,H p=some (.dK kvs)/\k= !kvs.isEmpty:=e;rcases e' with⟨xs,hx,e'⟩|⟨xs,hx,e'⟩|⟨kvs,hx,e'⟩
  ·subst e';obtain⟨its,r,pl,hz⟩:=I.list hx;have hlen:=r.length;exact wpAny_truthy_list pl.isList (by simp only[iH];omega) ⟨H,I.tok _,by rw[isEmpty_of r];exact q⟩
  ·subst e';obtain⟨its,r,pl,hz⟩:=I.tuple hx;have hlen:=r.length;exact truthy_tuple pl (by simp only[iH];omega) ⟨H,I.tok _,by rw[isEmpty_of r];exact q⟩
  ·subst e';obtain⟨hz,hS,vs,r,m⟩:kvs.length<=sizeLine/\(p==sysModules)=false/\∃vs,KV kvs vs/\s.heap.DictOf (mixKind X.prog X.w) p vs:=I.hok p _ hx;have hlen:kvs.length=vs.length:=Z1 r;exact wpAny_truthy_dict hS m (by omega) ⟨H,I.tok _,by rw[isEmpty_kv r];exact q⟩
 |_=>exact(show False from e).elim
theorem pt_truth(ha:PE X a ta)(he:∀whole,isTrue a X.env whole=(do let v<-whole;standAt a.pos;holding [v] (truthy v))):
  PT X a (fun σ H Q=>ta σ H fun x H'=>∃k,TruV X.K x H' k/\Q k H'):=by
 intro pins s σ H Q I h;exact isTrue_plain (thn (ha pins s σ H _ I h) fun v s1 ⟨x,H1,I1,r1,q1⟩=>tru_ok pins s1 σ H1 x v Q I1 r1 q1) (he _)
theorem vals1{x:V}{us:List ζ}(r:Vals [x] us):∃u,us=[u]/\RelV x u:=by
 cases r with
 |cons r1 r2=>cases r2;exact⟨_,rfl,r1⟩
theorem vals2{x y:V}{us:List ζ}(r:Vals [x,y] us):∃u w',us=[u,w']/\RelV x u/\RelV y w':=by
 cases r with
 |cons r1 r2=>
  cases r2 with
  |cons r3 r4=>cases r4;exact⟨_,_,rfl,r1,r3⟩
theorem call_abs:CallR X (.builtin "abs") (fun xs H Q=>∃i,xs=[.int i]/\Q (.int (if i<0 then -i else i)) H):=by
 intro pins s σ H xs us Q I r h;obtain⟨i,rfl,q⟩:=h;obtain⟨u,rfl,t,rfl⟩:=vals1 r;exact call_abs_int fun u tk=>⟨.int (if i<0 then -i else i),H,I.tok _,⟨_,rfl⟩,q⟩
theorem call_max2(hc:X.calm=true):CallR X (.builtin "max") (fun xs H Q=>∃i j,xs=[.int i,.int j]/\Q (.int (if j>i then j else i)) H):=by
 intro pins s σ H xs us Q I r h;obtain⟨i,j,rfl,q⟩:=h;obtain⟨u,w',rfl,⟨t,rfl⟩,⟨t',rfl⟩⟩:=vals2 r;refine max_two_ints (I.ok.hd hc) fun h' tk k=>⟨_,H,I.kept k,?_,q⟩;by_cases hj:j>i
 ·rw[aH hj,aH hj];exact⟨_,rfl⟩
 ·rw[aB hj,aB hj];exact⟨_,rfl⟩
theorem call_min2(hc:X.calm=true):CallR X (.builtin "min") (fun xs H Q=>∃i j,xs=[.int i,.int j]/\Q (.int (if j<i then j else i)) H):=by
 intro pins s σ H xs us Q I r h;obtain⟨i,j,rfl,q⟩:=h;obtain⟨u,w',rfl,⟨t,rfl⟩,⟨t',rfl⟩⟩:=vals2 r;refine min_two_ints (I.ok.hd hc) fun h' tk k=>⟨_,H,I.kept k,?_,q⟩;by_cases hj:j<i
 ·rw[aH hj,aH hj];exact⟨_,rfl⟩
 ·rw[aB hj,aB hj];exact⟨_,rfl⟩
theorem call_int1:CallR X (.type "int") (fun xs H Q=>(∃i,xs=[.int i]/\Q (.int i) H)\/∃k,xs=[.bl k]/\Q (.int (if k then 1 else 0)) H):=by
 intro pins s σ H xs us Q I r h;rcases h with⟨i,rfl,q⟩|⟨k,rfl,q⟩
 ·obtain⟨u,rfl,t,rfl⟩:=vals1 r;exact call_int_int ⟨.int i,H,I,⟨_,rfl⟩,q⟩
 ·obtain⟨u,rfl,r1⟩:=vals1 r;cases r1;exact call_int_bool ⟨.int (if k then 1 else 0),H,I.tok _,⟨_,rfl⟩,q⟩
end
structure ObjM(h:Heap)(x dx C:Addr)(mA:L4):Prop where
 obj:h.get? x=some (PySem.W.instObj C dx)
 ns:h.Ns1 dx mA
 ne:dx≠x
theorem lookIn_ns{h:Heap}{dx:Addr}{mA:L4}(n:h.Ns1 dx mA):∃od,h.get? dx=some od/\∀name,PySem.W.lookIn name od=some (mA name):=by
 obtain⟨o,es,ep,ho,hd,hk,_,hm⟩:=n;refine⟨o,ho,fun name=> ?_⟩;have e:=hm name;unfold nsFind findBy at e;rw[<-Array.find?_toList]at e;unfold PySem.W.lookIn;rw[hd];dsimp only;split
 ·rename_i y q;rw[q]at e;exact jX some e
 ·rename_i q;rw[q]at e;have a:es.toList.any (·.refKey)=false:=by
   rw[wcg];intro y hy;obtain⟨z,t,hkey⟩:=hk y (Array.mem_toList_iff.mp hy);simp[DictEntry.refKey,hkey]
  have a':¬es.toList.any (·.refKey)=true:=by rw[a];exact uU
  rw[aB a'];exact jX some e
theorem ObjM.look{h:Heap}{x dx C:Addr}{mA:L4}(I:ObjM h x dx C mA):∃od,PySem.W.InstAt h x (PySem.W.instObj C dx) C (some od)/\∀name,PySem.W.lookIn name od=some (mA name):=
 let⟨od,ho,hl⟩:=lookIn_ns I.ns
 ⟨od,⟨I.obj,rfl,rfl,ho⟩,hl⟩
section
variable{prog:ξ}{w:τ}{A:Around}{E:L3}{s:η}{K:W.Frag}{x dx C f:Addr}{mA:L4}{name:Str}{v:ζ}
theorem get_map{expr:Bool}{Q:L3}(X:K.In s.heap)(I:ObjM s.heap x dx C mA)(hg:PySem.W.plainGet K C name=true)(hh:PySem.W.hasDictIn K C=true)(ha:PySem.W.findIn K (.ref C) name=some none)(hv:mA name=some v)(hv':PySem.W.handedIn v=true)(h:Q v {s with toks:=s.toks+1}):
  wpAny (model prog w) A (getAttr (.ref x) name expr) Q E s:=by
 obtain⟨od,J,hl⟩:=I.look;exact PySem.W.get_value X J (wcv hg).1 (PySem.W.findObj_own hh ha rfl (by rw[hl,hv])) hv' h
theorem get_meth{pl:Sem Bool}{Q:ζ×List ζ->η->Prop}(X:K.In s.heap)(I:ObjM s.heap x dx C mA)(hg:PySem.W.plainGet K C name=true)(hf:PySem.W.findIn K (.ref C) name=some (some (.ref f)))(ht:PySem.W.isFn K (.ref f)=true)(hv:mA name=none)(h:Q (.ref f,[.ref x]) s):
  wpAny (model prog w) A (getMethod (.ref x) name pl) Q E s:=by
 obtain⟨od,J,hl⟩:=I.look;exact PySem.W.method_fn X J (wcv hg).1 (wcv hg).2 hf (beq_iff_eq.mp ht) (by show(PySem.W.lookIn name od).map (·.isSome)=some false;rw[hl,hv];rfl) h
theorem set_map{ns:List Str}{Q:Unit->η->Prop}(X:K.In s.heap)(I:ObjM s.heap x dx C mA)(hs:PySem.W.findIn K (.ref C) "__setattr__"=some (some (.builtin "object.__setattr__")))(hp:PySem.W.plainOver K C=true)(ht:PySem.W.takerIn K C name=some none)(hh:PySem.W.hasDictIn K C=true)(hw:PySem.Within mA ns)(hsz:ns.length<=sizeLine)(h:∀h',ObjM h' x dx C (fun y=>if y=name then some v else mA y)->Heap.SameBut dx s.heap h'->Q () {s with heap:=h',toks:=s.toks+2}):
  wpAny (model prog w) A (setAttr (.ref x) name v) Q E s:=by
 obtain⟨od,J,hl⟩:=I.look;refine PySem.W.set_plain X J hs (PySem.W.osa_open (s:={s with toks:=s.toks+1}) (r:=none) X J hp ht fun b=> ?_);obtain⟨cd,hc,hd'⟩:=PySem.W.any_some hh;have hx:s.heap.get? x=some ⟨.ref C,some dx,.plain,#[]⟩:=I.obj;refine bL (iD (bL (bL (wpAny_loadPart hx (bL (PySem.W.Looks.here (s:={s with toks:=s.toks+1}) (PySem.W.looks_clsIn X hc) ?_))))));rw[hd'];refine iD (a:=some dx) (bL (iD (bL ?_)));refine wpAny_nsSet1 (s:={s with toks:=s.toks+1}) I.ns fun h' hn2 hs2=> ?_;obtain⟨oD,esD,epD,hoD,hdD,hcD⟩:=hn2.count (PySem.Within.cons name v hw);refine bL (wpAny_lookBehind hoD (by rw[hdD];exact pastItsLine_dict (dD hcD (by rw[Bl];omega))) ?_);exact iD (h _ ⟨(hs2.2 _ (mj I.ne)).trans I.obj,hn2,I.ne⟩ hs2)
theorem make_map{R:Result->η->Prop}{vs:List ζ}{kw:List (Str×ζ)}(X:K.In s.heap)(hm:PySem.W.makesIn K C=true)(hi:PySem.W.findIn K (.ref C) "__init__"=some (some (.ref f)))(hf:PySem.W.typeIn K (.ref f)=some (.type "function"))(h:codeAny (model prog w) (A.under (.builtin "type.__call__" ⟨.ref C::vs,kw⟩)) (.call (.ref f) ⟨.ref (s.heap.objs.size+1)::vs,kw⟩) (PySem.W.InitBack (s.heap.objs.size+1) R)
   {s with heap:=(s.heap.push PySem.W.emptyDict).push (PySem.W.instObj C s.heap.objs.size)}):
  codeAny (model prog w) A (.call (.ref C) ⟨vs,kw⟩) R s:=by
 obtain⟨hh,g,d,t,os⟩:=s;exact PySem.W.make_core (PySem.W.makes_of X hm) (PySem.W.looks_findIn X hi) (fun self=>PySem.W.bind_fn X self hf) (.inl rfl) h
end
noncomputable def putF(f:Str)(v:V):List (Str×V)->List (Str×V)
 |[]=>[(f,v)]
 |(g,x)::r=>if g=f then(g,v)::r else(g,x)::putF f v r
theorem lookup_putF(f g:Str)(v:V):∀fs:List (Str×V),(putF f v fs).lookup g=if g=f then some v else fs.lookup g
 |[]=>by
  show List.lookup g [(f,v)]=_;by_cases h:g=f
  ·have hb:(g==f)=true:=beq_iff_eq.mpr h;simp only[List.lookup,hb,aH h]
  ·have hb:(g==f)=false:=beq_eq_false_iff_ne.mpr h;simp only[List.lookup,hb,aB h]
 |(k,x)::r=>by
  have ih:=lookup_putF f g v r;rw[show putF f v ((k,x)::r)=(if k=f then(k,v)::r else(k,x)::putF f v r)from rfl];by_cases hk:k=f
  ·rw[aH hk];by_cases h:g=k
   ·have hb:(g==k)=true:=beq_iff_eq.mpr h;simp only[List.lookup,hb,aH (h.trans hk)]
   ·have hb:(g==k)=false:=beq_eq_false_iff_ne.mpr h;simp only[List.lookup,hb,aB (fun e:g=f=>h (e.trans hk.symm))]
  ·rw[aB hk];by_cases h:g=k
   ·have hb:(g==k)=true:=beq_iff_eq.mpr h;simp only[List.lookup,hb,aB (fun e:g=f=>hk (h.symm.trans e))]
   ·have hb:(g==k)=false:=beq_eq_false_iff_ne.mpr h;simp only[List.lookup,hb];exact ih
theorem keys_putF(f:Str)(v:V):∀fs:List (Str×V),f∈(putF f v fs).map (·.1)/\∀g,g∈fs.map (·.1)->g∈(putF f v fs).map (·.1)
 |[]=>⟨by simp[putF],fun g h=>by simp at h⟩
 |(k,x)::r=>by
  obtain⟨i1,i2⟩:=keys_putF f v r;rw[show putF f v ((k,x)::r)=(if k=f then(k,v)::r else(k,x)::putF f v r)from rfl];by_cases hk:k=f
  ·rw[aH hk];subst hk;exact⟨by simp,fun g h=>by simpa using h⟩
  ·rw[aB hk];refine⟨?_,fun g h=> ?_⟩
   ·rw[Ia];exact jW _ i1
   ·rw[Ia]at h⊢;rcases cZ.mp h with e|e
    ·exact cZ.mpr (.inl e)
    ·exact jW _ (i2 g e)
theorem length_putF(f:Str)(v:V):∀fs:List (Str×V),(putF f v fs).length<=fs.length+1
 |[]=>by simp[putF]
 |(k,x)::r=>by
  have ih:=length_putF f v r;rw[show putF f v ((k,x)::r)=(if k=f then(k,v)::r else(k,x)::putF f v r)from rfl];by_cases hk:k=f
  ·rw[aH hk,Bl,Bl];omega
  ·rw[aB hk,Bl,Bl];omega
theorem RelO.some_of{v:V}{o:Option ζ}(r:RelO (some v) o):∃u,o=some u/\RelV v u:=by
 cases o with
 |none=>exact(show False from r).elim
 |some u=>exact⟨u,rfl,r⟩
theorem RelO.none_of{o:Option ζ}(r:RelO none o):o=none:=by
 cases o with
 |none=>rfl
 |some u=>exact(show False from r).elim
theorem handed_of{v:V}{u:ζ}(r:RelV v u):PySem.W.handedIn u=true:=by
 cases v with
 |non=>cases(show u=Value.none from r);rfl
 |bl b=>cases(show u=Value.bool b from r);rfl
 |int i=>obtain⟨t,e⟩:=(show∃t,u=Value.int i t from r);cases e;rfl
 |str x=>obtain⟨t,e⟩:=(show∃t,u=Value.str x t from r);cases e;rfl
 |byt b=>obtain⟨t,e⟩:=(show∃t,u=Value.bytes b t from r);cases e;rfl
 |flt b=>obtain⟨t,e⟩:=(show∃t,u=Value.float b t from r);cases e;rfl
 |ref a=>cases(show u=Value.ref a from r);rfl
 |ty n=>cases(show u=Value.type n from r);rfl
section
variable{P:ξ}{w:τ}{H:Hp}{h:Heap}{a C dx:Addr}{fs:List (Str×V)}
theorem ins_get(hok:HOk P w H h)(e:H a=some (.ins C dx fs)):∃mA,ObjM h a dx C mA/\(∀f,RelO (fs.lookup f) (mA f))/\PySem.Within mA (fs.map (·.1))/\fs.length<=1000/\H dx=some (.own a):=by
 obtain⟨d,z,ne,ob,mA,n,r,q⟩:=(show ObjOk P w H h a (.ins C dx fs)from hok a _ e);exact⟨mA,⟨ob,n,ne⟩,r,q,z,d⟩
end
structure Cls(K:W.Frag)(C:Addr):Prop where
 pg:PySem.W.plainGet K C Str.empty=true
 hd:PySem.W.hasDictIn K C=true
 po:PySem.W.plainOver K C=true
 sa:PySem.W.findIn K (.ref C) "__setattr__"=some (some (.builtin "object.__setattr__"))
theorem Cls.get{K:W.Frag}{C:Addr}(c:Cls K C)(f:Str):PySem.W.plainGet K C f=true:=c.pg
noncomputable def NoAttr(K:W.Frag)(C:Addr)(f:Str):Prop:=PySem.W.findIn K (.ref C) f=some none
theorem NoAttr.taker{K:W.Frag}{C:Addr}{f:Str}(n:NoAttr K C f):PySem.W.takerIn K C f=some none:=by
 unfold PySem.W.takerIn;rw[show PySem.W.findIn K (.ref C) f=some none from n];rfl
structure Meth(K:W.Frag)(C:Addr)(m:Str)(f:Addr):Prop where
 at_:PySem.W.findIn K (.ref C) m=some (some (.ref f))
 fn:PySem.W.isFn K (.ref f)=true
 kp:PySem.W.keepIn K (.ref f)=true
section
variable{X:Cx}{pins:L1}{σ:St}{H:Hp}{s:η}{a C dx:Addr}{fs:List (Str×V)}{f:Str}{v:V}{A:Around}{E:L3}
theorem getattr_ok{b:Bool}{Q:L3}(I:Inv X pins σ H s)(e:H a=some (.ins C dx fs))(c:Cls X.K C)(n:NoAttr X.K C f)(l:fs.lookup f=some v)(h:∀u s',Inv X pins σ H s'->RelV v u->Q u s'):wpAny (model X.prog X.w) A (getAttr (.ref a) f b) Q E s:=by
 obtain⟨mA,O,r,_,_,_⟩:=ins_get I.hok e;obtain⟨u,hu,ru⟩:=RelO.some_of (v:=v) (o:=mA f) (by rw[<-l];exact r f);exact get_map I.kIn O (c.get f) c.hd n hu (handed_of ru) (h u _ (I.tok _) ru)
theorem getmeth_ok{m:Str}{g:Addr}{pl:Sem Bool}{Q:ζ×List ζ->η->Prop}(I:Inv X pins σ H s)(e:H a=some (.ins C dx fs))(c:Cls X.K C)(k:Meth X.K C m g)(l:fs.lookup m=none)(h:Q (.ref g,[.ref a]) s):wpAny (model X.prog X.w) A (getMethod (.ref a) m pl) Q E s:=by
 obtain⟨mA,O,r,_,_,_⟩:=ins_get I.hok e;have hn:mA m=none:=RelO.none_of (by rw[<-l];exact r m);exact get_meth I.kIn O (c.get m) k.at_ k.fn hn h
theorem setattr_ok{y:V}{u:ζ}{Q:Unit->η->Prop}(I:Inv X pins σ H s)(e:H a=some (.ins C dx fs))(c:Cls X.K C)(n:NoAttr X.K C f)(hl:fs.length<1000)(ry:RelV y u)(h:∀s',Inv X pins σ (upd H a (.ins C dx (putF f y fs))) s'->Q () s'):wpAny (model X.prog X.w) A (setAttr (.ref a) f u) Q E s:=by
 obtain⟨mA,O,r,wi,_,ho⟩:=ins_get I.hok e;have hz:(fs.map (·.1)).length<=sizeLine:=by rw[aM,fZ];omega
 refine set_map I.kIn O c.sa c.po n.taker c.hd wi hz fun h' O' sb=>h _ ?_;have hd:∃o,h'.get? dx=some o:=let⟨o,_,_,e',_⟩:=O'.ns;⟨o,e'⟩;refine I.write (x:=a) (e:=dx) (by rw[e];exact True.intro) (.inr ho) (fun b q hb z=>(sb.2 b hb).trans z) hd ?_;refine⟨by rw[cG O.ne];exact ho,?_,O.ne,O'.obj,_,O'.ns,fun g=> ?_,fun g hg=> ?_⟩
 ·have:=length_putF f y fs;omega
 ·show RelO ((putF f y fs).lookup g) (if g=f then some u else mA g);rw[lookup_putF];by_cases q:g=f
  ·rw[aH q,aH q];exact ry
  ·rw[aB q,aB q];exact r g
 ·by_cases q:g=f
  ·rw[q];exact(keys_putF f y fs).1
  ·refine(keys_putF f y fs).2 g (wi g fun z=>hg ?_);show(if g=f then some u else mA g)=none;rw[aB q];exact z
theorem Inv.made(I:Inv X pins σ H s):Inv X pins σ (upd (upd H s.heap.objs.size (.own (s.heap.objs.size+1))) (s.heap.objs.size+1) (.ins C s.heap.objs.size []))
  {s with heap:=(s.heap.push PySem.W.emptyDict).push (PySem.W.instObj C s.heap.objs.size)}:=by
 have e1:(s.heap.push PySem.W.emptyDict).get? s.heap.objs.size=some PySem.W.emptyDict:=sY s.heap rfl;have e2:((s.heap.push PySem.W.emptyDict).push (PySem.W.instObj C s.heap.objs.size)).get? (s.heap.objs.size+1)=some (PySem.W.instObj C s.heap.objs.size):=by
  have:=sY (s.heap.push PySem.W.emptyDict) (o:=PySem.W.instObj C s.heap.objs.size) rfl
  rwa [Rb]at this
 have e3:(s.heap.push PySem.W.emptyDict).Ns s.heap.objs.size (fun _=>none):=⟨PySem.W.emptyDict,#[],_,e1,rfl,(fun e he=>absurd he (by simp)),fun _=>rfl⟩;have I1:=I.laid (a:=s.heap.objs.size) (o:= .own (s.heap.objs.size+1)) (h':=s.heap.push PySem.W.emptyDict) (t':=s.toks) (fun b u q=>lH _ q) (aW _) ⟨_,e1⟩;refine I1.laid (a:=s.heap.objs.size+1) (o:= .ins C s.heap.objs.size []) (t':=s.toks) (fun b u q=>lH _ q) (Bk (Rb _ _)) ?_;have ne:s.heap.objs.size≠s.heap.objs.size+1:=jh (vH _);refine⟨by rw[cG ne,au],dF _,ne,e2,fun _=>none,(Heap.Ns1.of_empty e3).at fun o q=>lH _ q,fun _=>True.intro,fun y hy=>absurd rfl hy⟩
theorem attr_of{prog:ξ}{w:τ}{env:Env}{e:Expr}{f:Str}{pos:Pos}{s:η}{Q:L3}(hb:attributeBase e f env (eval e env)=eval e env)(h:wpAny (model prog w) A (eval e env) (fun o s₁=>wpAny (model prog w) A (getAttr o f true) Q E s₁) E s):wpAny (model prog w) A (eval (.Attribute e f pos) env) Q E s:=
 Attribute_any_ h (by rw[arm_eval_Attribute,hb])
end
noncomputable def tFld(K:W.Frag)(ta:TE)(f:Str):TE:=fun σ H Q=>ta σ H fun x H1=>∃a C dx fs v,x= .ref a/\H1 a=some (.ins C dx fs)/\Cls K C/\NoAttr K C f/\fs.lookup f=some v/\Q v H1
noncomputable def sFld(K:W.Frag)(ta tv:TE)(f:Str):TS:=fun D σ H=>tv σ H fun y H1=>ta σ H1 fun x H2=>∃a C dx fs,x= .ref a/\H2 a=some (.ins C dx fs)/\Cls K C/\NoAttr K C f/\fs.length<1000/\
 D.nx σ (upd H2 a (.ins C dx (putF f y fs)))
noncomputable def InOp(X:Cx)(op:Operator)(rd:V->V->Hp->VK->Prop):Prop:=
 ∀(pins:L1) (s:η) (σ:St) (H:Hp) (x y:V) (u v:ζ) (Q:VK),Inv X pins σ H s->RelV x u->RelV y v->rd x y H Q->wpAny (model X.prog X.w) X.A (inplaceOp op u v) (EP X pins σ Q) X.xe s
noncomputable def sFldAug(K:W.Frag)(ta tv:TE)(rd:V->V->Hp->VK->Prop)(f:Str):TS:=fun D σ H=>ta σ H fun x H1=>∃a C dx fs v,x= .ref a/\H1 a=some (.ins C dx fs)/\Cls K C/\NoAttr K C f/\fs.lookup f=some v/\
 tv σ H1 fun y H2=>rd v y H2 fun z H3=>∃dx' fs',H3 a=some (.ins C dx' fs')/\fs'.length<1000/\D.nx σ (upd H3 a (.ins C dx' (putF f z fs')))
section
variable{X:Cx}{o e value:Expr}{f:Str}{pos pos' tpos:Pos}{ta tv:TE}
theorem dB(he:PE X e ta)(hb:attributeBase e f X.env (eval e X.env)=eval e X.env):PE X (.Attribute e f pos) (tFld X.K ta f):=by
 intro pins s σ H Q I h;refine attr_of hb (thn (he pins s σ H _ I h) fun u s1 ⟨x,H1,I1,rx,a,C,dx,fs,v,ex,ea,c,n,l,q⟩=> ?_);subst ex;obtain rfl:u=Value.ref a:=rx;exact getattr_ok I1 ea c n l fun u' s2 I2 ru=>⟨v,H1,I2,ru,q⟩
theorem ps_fld(ha:PE X o ta)(hv:PE X value tv)(hs:swapsWith value (some (.Attribute o f pos')) pos.line X.env=pure false):PS X (.Assign [.Attribute o f pos'] value pos) (sFld X.K ta tv f):=by
 intro pins s σ H D I h;refine plainObj_wpAny_Assign_Attribute (thn (hv pins s σ H _ I h) fun u s1 ⟨y,H1,I1,ry,q⟩=>thn (ha pins s1 σ H1 _ I1 q) fun ov s2 ⟨x,H2,I2,rx,a,C,dx,fs,ex,ea,c,n,l,q2⟩=> ?_) hs;subst ex;obtain rfl:ov=Value.ref a:=rx;exact setattr_ok I2 ea c n l ry fun s3 I3=>⟨σ,_,I3,q2⟩
theorem ps_fldaug{op:Operator}{rd:V->V->Hp->VK->Prop}(ha:PE X o ta)(hv:PE X value tv)(hop:InOp X op rd):PS X (.AugAssign (.Attribute o f tpos) op value pos) (sFldAug X.K ta tv rd f):=by
 intro pins s σ H D I h;refine wpAny_AugAssign_AttributeAny (thn (ha pins s σ H _ I h) fun ov s1 ⟨x,H1,I1,rx,a,C,dx,fs,v,ex,ea,c,n,l,q⟩=> ?_);subst ex;obtain rfl:ov=Value.ref a:=rx;refine getattr_ok I1 ea c n l fun u s2 I2 ru=>thn (hv pins s2 σ H1 _ I2 q) fun w3 s3 ⟨y,H2,I3,ry,q3⟩=>thn (hop pins s3 σ H2 v y u w3 _ I3 ru ry q3) fun w4 s4 ⟨z,H3,I4,rz,dx',fs',ea',l',q4⟩=> ?_;exact setattr_ok I4 ea' c n l' rz fun s5 I5=>⟨σ,_,I5,q4⟩
noncomputable def rAdd:V->V->Hp->VK->Prop:=fun x y H Q=>∃i j,x= .int i/\y= .int j/\Q (.int (i+j)) H
theorem in_add:InOp X .Add rAdd:=by
 rintro pins s σ H x y u v Q I rx ry ⟨i,j,rfl,rfl,q⟩;obtain⟨t,rfl⟩:=(show∃t,u=Value.int i t from rx);obtain⟨t',rfl⟩:=(show∃t',v=Value.int j t' from ry);exact PyProof.Rows.iadd_int ⟨.int (i+j),H,I.tok _,⟨_,rfl⟩,q⟩
end
structure Room(k:Nat)(A:Around):Prop where
 hd:A.handled=none
 dp:A.depth+3*k+5<recursionLimit
 un:A.units+16*k+200<cLine
 gd:A.guards=some []
theorem Room.mono{j k:Nat}{A:Around}(r:Room k A)(h:j<=k):Room j A:=⟨r.hd,by have:=r.dp;omega,by have:=r.un;omega,r.gd⟩
theorem Room.deeper{k:Nat}{A:Around}(r:Room (k+1) A)(env:Env):Room k (A.deeper env):=
 ⟨r.hd,by have:=r.dp;show A.depth+1+3*k+5<_;omega,by have:=r.un;show A.units+3+16*k+200<_;omega,r.gd⟩
theorem make_depth{A:Around}{C:Addr}{us:List ζ}{kw:List (Str×ζ)}:(A.under (.builtin "type.__call__" ⟨.ref C::us,kw⟩)).depth=A.depth+1:=by
 first |rfl|simp[Around.under,Code.weight,Code.isCreation,Code.isGuard,Code.isCaller,Code.frames,Code.isFrame,guardIds]
theorem make_units{A:Around}{C:Addr}{us:List ζ}{kw:List (Str×ζ)}:(A.under (.builtin "type.__call__" ⟨.ref C::us,kw⟩)).units=A.units+1:=by
 first |rfl|simp[Around.under,Code.cUnits,Code.frames,Code.isFrame]
theorem Room.make{k:Nat}{A:Around}(r:Room (k+1) A)(C:Addr)(us:List ζ)(kw:List (Str×ζ)):Room k (A.under (.builtin "type.__call__" ⟨.ref C::us,kw⟩)):=
 ⟨r.hd,by have:=r.dp;rw[make_depth];omega,by have:=r.un;rw[make_units];omega,by
  have q:=r.gd
  first |exact q|(simp[Around.under,Code.isGuard,guardIds];exact q)|(unfold Around.under;simp[Code.isGuard,guardIds,q])⟩
theorem Room.depth{k:Nat}{A:Around}(r:Room k A):A.depth<recursionLimit:=by have:=r.dp;omega
theorem Room.units{k:Nat}{A:Around}(r:Room k A):A.units+64<cLine:=by have:=r.un;omega
theorem Room.units0{k:Nat}{A:Around}(r:Room k A):A.units<cLine:=by have:=r.un;omega
noncomputable def tNil:TA:=fun _ H Q=>Q [] H
noncomputable def tCons(ta:TE)(tr:TA):TA:=fun σ H Q=>ta σ H fun x H1=>tr σ H1 fun xs H2=>Q (x::xs) H2
section
variable{X:Cx}{e:Expr}{es:List Expr}{te:TE}{t:TA}{pos:Pos}
theorem ak:PA X [] tNil:=fun _ _ _ _ H Q I h=>wch ⟨[],H,I,.nil,h⟩
theorem aj(ha:PE X e te)(hr:PA X es t)(hs:starEach (e::es) X.env=(false,eval e X.env)::starEach es X.env:=by rfl):PA X (e::es) (tCons te t):=by
 intro pos pins s σ H Q I h;rw[hs];show wpAny _ _ (spliced ((false,eval e X.env)::backTo pos (starEach es X.env))) _ _ s;refine wbv (thn (ha pins s σ H _ I h) fun u s1 ⟨x,H1,I1,r1,q1⟩=> ?_);exact thn (hr pos pins s1 σ H1 _ I1 q1) fun us s2 ⟨xs,H2,I2,r2,q2⟩=>⟨x::xs,H2,I2,.cons r1 r2,q2⟩
noncomputable def tTup(t:TA):TE:=fun σ H Q=>t σ H fun xs H1=>xs.length<=sizeLine/\∀p,H1 p=none->Q (.ref p) (upd H1 p (.tup xs))
noncomputable def tLst(t:TA):TE:=fun σ H Q=>t σ H fun xs H1=>xs.length<=sizeLine/\∀p,H1 p=none->Q (.ref p) (upd H1 p (.lst xs))
theorem fV{x1}(h:PA X es t):PE X (.Tuple es x1 pos) (tTup t):=by
 intro pins s σ H Q I hq;refine wpAny_Tuple_spliced (thn (h pos pins s σ H _ I hq) fun us s1 ⟨xs,H1,I1,r,z,q⟩=>⟨by rw[<-r.length];exact z,?_⟩);have hf:H1 s1.heap.objs.size=none:=I1.hok.fresh (aW _);refine⟨.ref s1.heap.objs.size,upd H1 s1.heap.objs.size (.tup xs),I1.laid (t':=s1.toks) (fun b u e=>lH _ e) (aW _) ?_,rfl,q _ hf⟩;exact⟨z,us,r,⟨_,sY _ rfl,rfl,_,rfl⟩⟩
theorem uQ(h:PA X es t):PE X (.List es pos) (tLst t):=by
 intro pins s σ H Q I hq;refine wpAny_List_spliced (thn (h pos pins s σ H _ I hq) fun us s1 ⟨xs,H1,I1,r,z,q⟩=>⟨by rw[<-r.length];exact z,?_⟩);have hf:H1 s1.heap.objs.size=none:=I1.hok.fresh (aW _);refine⟨.ref s1.heap.objs.size,upd H1 s1.heap.objs.size (.lst xs),I1.laid (t':=s1.toks) (fun b u e=>lH _ e) (aW _) ?_,rfl,q _ hf⟩;exact⟨z,us,0,r,sY _ rfl⟩
end
noncomputable abbrev Sp:=List V->Hp->VK->XK->Prop
noncomputable abbrev CXT:=List Env->Hp->η->XK->ζ->η->Prop
structure Env0(P:ξ)(w:τ)(K:W.Frag)(mg:L4)(base:Heap)(A:Around)(outer:List Env)(s:η)(H:Hp):Prop where
 frames:A.frames=some outer
 mod:Mod K mg base
 bs:∀b o,base.get? b=some o->s.heap.get? b=some o/\H b=none
 bsz:base.objs.size<=s.heap.objs.size
 funs:s.heap.FunFrames base outer
 frf:∀b∈frs outer,H b=none
 hok:HOk P w H s.heap
 bare:AllBare s.gens
noncomputable def CE(outer:List Env)(P:ξ)(w:τ)(H:Hp)(s:η)(Q:VK)(u:ζ)(s':η):Prop:=
 ∃v H',s'.os=s.os/\AllBare s'.gens/\Un (frs outer) [] H H' s.heap s'.heap/\HOk P w H' s'.heap/\RelV v u/\Q v H'
noncomputable def CR(CX:CXT)(outer:List Env)(P:ξ)(w:τ)(H:Hp)(s:η)(Q:VK)(E:XK)(r:Result)(s':η):Prop:=
 match r with
 | .ok (.ret u)=>CE outer P w H s Q u s'
 | .ok _=>False
 | .error e=>CX outer H s E e s'
structure FnOk(P:ξ)(w:τ)(K:W.Frag)(mg:L4)(base:Heap)(CX:CXT)(k:Nat)(f:Addr)(fd:ρ)(ps:List Str)(sp:Sp):Prop where
 len:∀vs H Q E,sp vs H Q E->vs.length=ps.length
 run:∀(A:Around) (outer:List Env) (s:η) (H:Hp) (args:Args) (us:List ζ) (vs:List V) (Q:VK) (E:XK),Room k A->Env0 P w K mg base A outer s H->BindsTo s fd args (ps.zip us)->Vals vs us->sp vs H Q E->
  codeAny (model P w) A (.call (.ref f) args) (CR CX outer P w H s Q E) s
theorem FnOk.mono{P:ξ}{w:τ}{K:W.Frag}{mg:L4}{base:Heap}{CX:CXT}{j k:Nat}{f:Addr}{fd:ρ}{ps:List Str}{sp:Sp}(F:FnOk P w K mg base CX j f fd ps sp)(h:j<=k):
  FnOk P w K mg base CX k f fd ps sp:=⟨F.len,fun A outer s H args us vs Q E hr=>F.run A outer s H args us vs Q E (hr.mono h)⟩
theorem Env0.make{P:ξ}{w:τ}{K:W.Frag}{mg:L4}{base:Heap}{A:Around}{outer:List Env}{s:η}{H:Hp}(e:Env0 P w K mg base A outer s H)(C:Addr)(us:List ζ)(kw:List (Str×ζ)):
  Env0 P w K mg base (A.under (.builtin "type.__call__" ⟨.ref C::us,kw⟩)) outer s H:=⟨by first |exact e.frames|(simpa[Around.under,Code.envs,Code.isFrame,pushEnvs]using e.frames),e.mod,e.bs,e.bsz,e.funs,e.frf,e.hok,e.bare⟩
section
variable{X:Cx}{pins:L1}{σ:St}{H:Hp}{s s':η}
theorem Inv.env0(I:Inv X pins σ H s):Env0 X.prog X.w X.K X.mg X.base X.A X.stack s H:=
 ⟨I.ok.frames,I.ok.mod,I.bs,dD I.ok.bsz I.sz,I.stack,I.stkFree,I.hok,I.bare⟩
theorem Inv.after{Q:VK}{u:ζ}(I:Inv X pins σ H s)(h:CE X.stack X.prog X.w H s Q u s'):EP X pins σ Q u s':=by
 obtain⟨v,H',os,bare,un,hok,r,q⟩:=h;obtain⟨hh,g,d,t,os'⟩:=s';obtain rfl:os'=s.os:=os;exact⟨v,H',I.call (h':=hh) (g':=g) (d':=d) (t':=t) (ch:=[]) un hok bare (fun b z=>absurd z (by simp)),r,q⟩
end
noncomputable def tCall(sp:Sp)(dvs:List V)(E:XK)(t:TA):TE:=fun σ H Q=>t σ H fun vs H1=>sp (vs++dvs) H1 Q E
noncomputable def tMeth(C:Addr)(m:Str)(sp:Sp)(dvs:List V)(E:XK)(ta:TE)(t:TA):TE:=fun σ H Q=>ta σ H fun x H1=>∃a dx fs,x= .ref a/\H1 a=some (.ins C dx fs)/\fs.lookup m=none/\
 t σ H1 fun vs H2=>sp (x::(vs++dvs)) H2 Q E
noncomputable def tMake(C:Addr)(sp:Sp)(dvs:List V)(E:XK)(t:TA):TE:=fun σ H Q=>t σ H fun vs H1=>∀x dx,H1 x=none->H1 dx=none->dx≠x->
 sp (.ref x::(vs++dvs)) (upd (upd H1 dx (.own x)) x (.ins C dx [])) (fun v H2=>v= .non/\Q (.ref x) H2) E
noncomputable def Binds(K:W.Frag)(fd:ρ)(ps:List Str)(ds:List ζ):Prop:=
 ∀(s:η) (us:List ζ),K.In s.heap->(us++ds).length=ps.length->BindsTo s fd ⟨us,[]⟩ (ps.zip (us++ds))
theorem Binds.all{K:W.Frag}{fd:ρ}{ps:List Str}(h:∀us:List ζ,us.length=ps.length->bindArgs fd ⟨us,[]⟩=pure (ps.zip us)):Binds K fd ps []:=fun s us _ hl=>by
 rw[Bg]at hl⊢;exact .of_eq (h us hl)
noncomputable def Passes(CX:CXT)(X:Cx)(E:XK):Prop:=∀(pins:L1) (σ:St) (H:Hp) (s:η) (e:ζ) (s':η),Inv X pins σ H s->CX X.stack H s E e s'->X.xe e s'
section
variable{X:Cx}{CX:CXT}{k:Nat}{f C:Addr}{fd:ρ}{ps:List Str}{sp:Sp}{dvs:List V}{ds:List ζ}{E:XK}{x m:Str}{p pos apos:Pos}{e o:Expr}{es:List Expr}{ta:TE}{t:TA}
theorem run_fn{pins:L1}{σ:St}{H:Hp}{s:η}{Q:VK}{us:List ζ}{vs:List V}(F:FnOk X.prog X.w X.K X.mg X.base CX k f fd ps sp)(hr:Room k X.A)(hb:Binds X.K fd ps ds)(hd:Vals dvs ds)(hx:Passes CX X E)
  (I:Inv X pins σ H s)(r:Vals vs us)(h:sp (vs++dvs) H Q E):wpAny (model X.prog X.w) X.A (call (.ref f) us) (EP X pins σ Q) X.xe s:=by
 have r2:Vals (vs++dvs) (us++ds):=r.append hd;have hl:(us++ds).length=ps.length:=by rw[<-r2.length];exact F.len _ _ _ _ h
 refine Y4 (Wa (F.run X.A X.stack s H ⟨us,[]⟩ (us++ds) (vs++dvs) Q E hr I.env0 (hb s us I.kIn hl) r2 h) fun r s' hq=> ?_);cases r with
 |error e=>exact hx pins σ H s e s' I hq
 |ok fl=>
  cases fl with
  |ret u=>exact I.after hq
  |next=>exact False.elim hq
  |brk=>exact False.elim hq
  |cont=>exact False.elim hq
theorem pe_call(F:FnOk X.prog X.w X.K X.mg X.base CX k f fd ps sp)(hr:Room k X.A)(hg:Gl X x)(hm:X.mg x=some (.ref f))(hk:PySem.W.keepIn X.K (.ref f)=true)(hb:Binds X.K fd ps ds)(hd:Vals dvs ds)(hx:Passes CX X E)(ha:PA X (e::es) t)(hdb:(x==("__debug__":Str))=false:=by decide)(he:starEach (e::es) X.env=(false,eval e X.env)::starEach es X.env:=by rfl)(hpl:(backTo pos (starEach es X.env)).any (·.1)=false:=by rfl):
  PE X (.Call (.Name x p) (e::es) [] pos) (tCall sp dvs E t):=by
 intro pins s σ H Q I h;refine Ri (ld_glob I hg hm ?_ hdb);refine wbn (h₀:=X.base) I.ok.mod.kin hk (thn (ha pos pins s σ H _ I h) fun us s1 ⟨vs,H1,I1,r,q⟩=>⟨I1.kIn,?_⟩) he hpl;exact run_fn F hr hb hd hx I1 r q
theorem qj{pl:Sem Bool}(he:PE X o ta)(c:Cls X.K C)(hm:Meth X.K C m f)(F:FnOk X.prog X.w X.K X.mg X.base CX k f fd ps sp)(hr:Room k X.A)(hb:Binds X.K fd ps ds)(hd:Vals dvs ds)(hx:Passes CX X E)(ha:PA X (e::es) t)(hst:starEach (e::es) X.env=(false,eval e X.env)::starEach es X.env:=by rfl)(hpl:(backTo pos (starEach es X.env)).any (·.1)=false:=by rfl)(ht:eval (.Call (.Attribute o m apos) (e::es) [] pos) X.env=(do
   let ov<-eval o X.env
   standAt apos.atName
   let(f,first)<-holding [ov] (getMethod ov m pl)
   callWith pos f first (backTo pos (starEach (e::es) X.env)) (backToKw pos (keywordEach [] X.env))):=by rfl):
  PE X (.Call (.Attribute o m apos) (e::es) [] pos) (tMeth C m sp dvs E ta t):=by
 intro pins s σ H Q I h;refine wel (pl:=pl) (thn (he pins s σ H _ I h) fun u s1 ⟨x,H1,I1,rx,a,dx,fs,ex,ea,l,q⟩=> ?_) ht;subst ex;obtain rfl:u=Value.ref a:=rx;refine getmeth_ok I1 ea c hm l ?_;refine wbn (first:=[.ref a]) (h₀:=X.base) I.ok.mod.kin hm.kp (thn (ha pos pins s1 σ H1 _ I1 q) fun us s2 ⟨vs,H2,I2,r,q2⟩=>⟨I2.kIn,?_⟩) hst hpl;exact run_fn (us:= .ref a::us) (vs:= .ref a::vs) F hr hb hd hx I2 (.cons rfl r) q2
theorem Q0{pl:Sem Bool}(he:PE X o ta)(c:Cls X.K C)(hm:Meth X.K C m f)(F:FnOk X.prog X.w X.K X.mg X.base CX k f fd ps sp)(hr:Room k X.A)(hb:Binds X.K fd ps ds)(hd:Vals dvs ds)(hx:Passes CX X E)(ht:eval (.Call (.Attribute o m apos) [] [] pos) X.env=(do
   let ov<-eval o X.env
   standAt apos.atName
   let(f,first)<-holding [ov] (getMethod ov m pl)
   callWith pos f first (backTo pos (starEach [] X.env)) (backToKw pos (keywordEach [] X.env))):=by rfl):
  PE X (.Call (.Attribute o m apos) [] [] pos) (tMeth C m sp dvs E ta tNil):=by
 intro pins s σ H Q I h;refine wel (pl:=pl) (thn (he pins s σ H _ I h) fun u s1 ⟨x,H1,I1,rx,a,dx,fs,ex,ea,l,q⟩=> ?_) ht;subst ex;obtain rfl:u=Value.ref a:=rx;refine getmeth_ok I1 ea c hm l ?_;exact PySem.W.callWith_K0 (first:=[.ref a]) I1.kIn hm.kp (run_fn (us:=[.ref a]) (vs:=[.ref a]) F hr hb hd hx I1 (.cons rfl .nil) q)
structure Mk(K:W.Frag)(C f:Addr):Prop where
 makes:PySem.W.makesIn K C=true
 init:PySem.W.findIn K (.ref C) "__init__"=some (some (.ref f))
 fn:PySem.W.isFn K (.ref f)=true
 kp:PySem.W.keepIn K (.ref C)=true
theorem run_make{pins:L1}{σ:St}{H:Hp}{s:η}{Q:VK}{us:List ζ}{vs:List V}(M:Mk X.K C f)(F:FnOk X.prog X.w X.K X.mg X.base CX k f fd ps sp)(hr:Room (k+1) X.A)(hb:Binds X.K fd ps ds)(hd:Vals dvs ds)(hx:Passes CX X E)(I:Inv X pins σ H s)(r:Vals vs us)(h:∀x dx,H x=none->H dx=none->dx≠x->sp (.ref x::(vs++dvs)) (upd (upd H dx (.own x)) x (.ins C dx [])) (fun v H2=>v= .non/\Q (.ref x) H2) E):
  wpAny (model X.prog X.w) X.A (call (.ref C) us) (EP X pins σ Q) X.xe s:=by
 have hq:=h (s.heap.objs.size+1) s.heap.objs.size (I.hok.fresh (Kq _)) (I.hok.fresh (aW _)) (jh (vH _));have I2:=Inv.made (C:=C) I;have r2:Vals (V.ref (s.heap.objs.size+1)::(vs++dvs)) (Value.ref (s.heap.objs.size+1)::(us++ds)):= .cons rfl (r.append hd);have hl:(Value.ref (s.heap.objs.size+1)::us++ds).length=ps.length:=by
  have e:=r2.length;rw[F.len _ _ _ _ hq]at e;exact e.symm
 refine Y4 (make_map (f:=f) I.kIn M.makes M.init (beq_iff_eq.mp M.fn) (Wa (F.run _ X.stack _ _ ⟨Value.ref (s.heap.objs.size+1)::us,[]⟩ (Value.ref (s.heap.objs.size+1)::(us++ds)) _ _ E (hr.make C us [])
  (I2.env0.make C us []) (hb _ (Value.ref (s.heap.objs.size+1)::us) I2.kIn hl) r2 hq) fun r s' hq'=> ?_))
 cases r with
 |error e=>exact hx pins σ _ _ e s' I2 hq'
 |ok fl=>
  cases fl with
  |ret u=>
   obtain⟨v,H',I3,rv,ev,q3⟩:=I2.after hq';subst ev;exact⟨rv,⟨V.ref (s.heap.objs.size+1),H',I3,rfl,q3⟩⟩
  |next=>exact False.elim hq'
  |brk=>exact False.elim hq'
  |cont=>exact False.elim hq'
theorem pe_make(M:Mk X.K C f)(F:FnOk X.prog X.w X.K X.mg X.base CX k f fd ps sp)(hr:Room (k+1) X.A)(hg:Gl X x)(hm:X.mg x=some (.ref C))(hb:Binds X.K fd ps ds)(hd:Vals dvs ds)(hx:Passes CX X E)(ha:PA X (e::es) t)(hdb:(x==("__debug__":Str))=false:=by decide)(he:starEach (e::es) X.env=(false,eval e X.env)::starEach es X.env:=by rfl)(hpl:(backTo pos (starEach es X.env)).any (·.1)=false:=by rfl):
  PE X (.Call (.Name x p) (e::es) [] pos) (tMake C sp dvs E t):=by
 intro pins s σ H Q I h;refine Ri (ld_glob I hg hm ?_ hdb);refine wbn (h₀:=X.base) I.ok.mod.kin M.kp (thn (ha pos pins s σ H _ I h) fun us s1 ⟨vs,H1,I1,r,q⟩=>⟨I1.kIn,?_⟩) he hpl;exact run_make M F hr hb hd hx I1 r q
end
structure FnScope(N P:List Str)(sc:Scope):Prop where
 kind:sc.kind= .function
 co:sc.isCoroutine=false
 gen:sc.isGenerator=false
 nd:N.Nodup
 pre:N.take P.length=P
 par:∀x∈P,sc.names.lookup x=some .local\/sc.names.lookup x=some .cell
 nofree:∀y∈sc.names,y.2≠.free
theorem bindL_out{kindOf:Str->Option NameKind}{x:Str}:∀{binds:List (Str×ζ)} {m:L4},(∀v,(x,v)∉binds)->bindL kindOf binds m x=m x
 |[],_,_=>rfl
 |(n,v)::r,m,h=>by
  unfold bindL;rw[bindL_out fun w hw=>h w (jW _ hw)];split
  ·have:x≠n:=by rintro rfl;exact h v jG
   simp[this]
  ·rfl
theorem bindC_out{kindOf:Str->Option NameKind}{x:Str}:∀{binds:List (Str×ζ)} {m:L4},(∀v,(x,v)∉binds)->bindC kindOf binds m x=m x
 |[],_,_=>rfl
 |(n,v)::r,m,h=>by
  unfold bindC;rw[bindC_out fun w hw=>h w (jW _ hw)];split
  ·rfl
  ·have:x≠n:=by rintro rfl;exact h v jG
   simp[this]
theorem bindL_get{kindOf:Str->Option NameKind}{x:Str}{v:ζ}:∀{P:List Str} {vs:List ζ} {i:Nat} {m:L4},P.Nodup->P[i]? =some x->vs[i]? =some v->kindOf x=some .local->
  bindL kindOf (P.zip vs) m x=some v
 |[],_,_,_,_,h,_,_=>by simp at h
 |_::_,[],_,_,_,_,h,_=>by simp at h
 |p::P,w::vs,0,m,nd,h1,h2,hk=>by
  simp at h1 h2;subst h1;subst h2;show bindL kindOf ((p,w)::P.zip vs) m p=_;unfold bindL;rw[bindL_out fun v hv=>(QG.mp nd).1 (wem hv).1,aH hk];simp
 |p::P,w::vs,i+1,m,nd,h1,h2,hk=>by
  show bindL kindOf ((p,w)::P.zip vs) m x=_;unfold bindL;exact bindL_get (i:=i) (QG.mp nd).2 (by simpa using h1) (by simpa using h2) hk
theorem bindC_get{kindOf:Str->Option NameKind}{x:Str}{v:ζ}:∀{P:List Str} {vs:List ζ} {i:Nat} {m:L4},P.Nodup->P[i]? =some x->vs[i]? =some v->kindOf x≠some .local->
  bindC kindOf (P.zip vs) m x=some v
 |[],_,_,_,_,h,_,_=>by simp at h
 |_::_,[],_,_,_,_,h,_=>by simp at h
 |p::P,w::vs,0,m,nd,h1,h2,hk=>by
  simp at h1 h2;subst h1;subst h2;show bindC kindOf ((p,w)::P.zip vs) m p=_;unfold bindC;rw[bindC_out fun v hv=>(QG.mp nd).1 (wem hv).1,aB hk];simp
 |p::P,w::vs,i+1,m,nd,h1,h2,hk=>by
  show bindC kindOf ((p,w)::P.zip vs) m x=_;unfold bindC;exact bindC_get (i:=i) (QG.mp nd).2 (by simpa using h1) (by simpa using h2) hk
noncomputable def start(N:List Str)(vs:List V):St:=vs.map some++List.replicate (N.length-vs.length) none
noncomputable def cxOf(CX:CXT)(P:ξ)(w:τ)(K:W.Frag)(mg:L4)(base:Heap)(N:List Str)(qual:Str)(scope:Scope)(f:Addr)(cd:ζ)(A:Around)(outer:List Env)(s:η)(H:Hp)(E:XK):Cx where
 prog:=P
 w:=w
 K:=K
 mg:=mg
 base:=base
 A:=A.deeper (envOfC qual scope s.heap.objs.size f cd)
 N:=N
 s₀:=s
 H₀:=H
 env:=envOfC qual scope s.heap.objs.size f cd
 outer:=outer
 stack:=envOfC qual scope s.heap.objs.size f cd::outer
 ex:=[]
 calm:=true
 fn:=fun _=>true
 pn:=[]
 xe:=fun e s'=>wpAny (model P w) (A.deeper (envOfC qual scope s.heap.objs.size f cd)) (leaving (envOfC qual scope s.heap.objs.size f cd) e) (fun _ s''=>CX outer H s E e s'') (fun e' s''=>CX outer H s E e' s'') s'
theorem cell_has{sc:Scope}{n:Nat}{x:Str}(h:sc.names.lookup x=some .cell):∃c,(cellsFrom n sc.names []).lookup x=some c:=by
 have q:=wej sc.names n [] (.inl h);exact Option.isSome_iff_exists.mp q
theorem inv_start{CX:CXT}{P:ξ}{w:τ}{K:W.Frag}{mg:L4}{base:Heap}{N ps:List Str}{qual:Str}{scope:Scope}{f:Addr}{cd:ζ}{A:Around}{outer:List Env}{s s1:η}{H:Hp}{E:XK}{us:List ζ}{vs:List V}
  (S:FnScope N ps scope)(hd:A.handled=none)(e0:Env0 P w K mg base A outer s H)(hl:vs.length=ps.length)(r:Vals vs us)(x:InCallC s s.heap.objs.size (bindL (envOfC qual scope s.heap.objs.size f cd).kindOf (ps.zip us) fun _=>none) (cellsFrom (s.heap.objs.size+1) scope.names []) (bindC (envOfC qual scope s.heap.objs.size f cd).kindOf (ps.zip us) fun _=>none) s1):
  Inv (cxOf CX P w K mg base N qual scope f cd A outer s H E) [] (start N vs) H s1:=by
 have hpl:ps.length<=N.length:=by have:=jX List.length S.pre;rw[yw]at this;omega
 obtain⟨h1,tk,rfl,hk⟩:=x.done;have noA:∀b:Addr,b∉(cxOf CX P w K mg base N qual scope f cd A outer s H E).ex:=fun b z=>absurd (show b∈([]:List Addr)from z) (by simp);refine⟨⟨e0.mod,S.kind,rfl,rfl,aW _,fun y z c h1 h2=> ?_,fun y hy=> ?_,fun y c _ h=> ?_,fun _=>hd,Around.frames_deeper e0.frames,.inr ⟨rfl,rfl⟩,fun b z=>absurd z (noA b),e0.bs,e0.bsz,fun b _ _=>noA b,fun b z=>absurd z (noA b),e0.funs,e0.frf⟩,
  rfl,e0.bare,Un.kept hk,⟨_,x.toInCall.ns,fun i y v h1 h2 h3=> ?_⟩,fun y c h=>⟨_,x.cell y c h⟩,e0.hok.fresh (aW _),fun y c h=> ?_,fun p hp=>absurd (show p∈([]:L1)from hp) (by simp),e0.hok.kept hk,?_⟩
 ·exact name_of_addr x.apart (Kz h1) (Kz h2)
 ·have hy:scope.names.lookup y=some .cell\/scope.names.lookup y=some .free:=hy;rcases hy with hy|hy
  ·exact cell_has hy
  ·exact absurd rfl (S.nofree _ (Kz hy))
 ·exact cY (x.above y c (Kz h))
 ·have hi:i<vs.length:=by
   unfold start at h2;by_cases hi:i<vs.length
   ·exact hi
   ·rw[yct (by simpa using hi)]at h2;rw[List.getElem?_replicate]at h2;split at h2<;>cases h2
  have ha:vs[i]? =some v:=by
   unfold start at h2;rw[ydr (by simpa using hi),fu]at h2;cases e:vs[i]? with
   |none=>rw[e]at h2;cases h2
   |some a=>rw[e]at h2;cases h2;rfl
  obtain⟨u,hu,rv⟩:=r.get ha;have hp:ps[i]? =some y:=by
   rw[<-S.pre,List.getElem?_take_of_lt (by omega)];exact h1
  have ndP:ps.Nodup:=by rw[<-S.pre];exact S.nd.sublist (List.take_sublist _ _)
  refine⟨u,rv,?_⟩;rcases S.par y (uT hp)with k|k
  ·exact .inl ⟨k,bindL_get ndP hp hu k⟩
  ·obtain⟨c,e⟩:=cell_has (n:=s.heap.objs.size+1) k;refine .inr ⟨.inl k,c,e,?_⟩;have q:=x.cell y c e;rw[bindC_get ndP hp hu (by show scope.names.lookup y≠_;rw[k];decide)]at q;exact q
 ·exact e0.hok.fresh (cY (x.above y c (Kz h)))
 ·unfold start;show _=N.length;rw[rJ,aM,ydh];omega
theorem fn_of{CX:CXT}{P:ξ}{w:τ}{K:W.Frag}{mg:L4}{base:Heap}{k:Nat}{f:Addr}{name qual:Str}{params:Arguments}{body:List Stmt}{scope:Scope}{dV kV doc pm cdv ct oc:ζ}{an od:Option Addr}{osl:Array (Option ζ)}{N ps:List Str}{sp:Sp}(lk:K.lookup f=some ⟨oc,od,.func (PySem.W.fnOf name qual params body scope dV kV doc pm an cdv ct),osl⟩)(hcd:PySem.W.codeIn K cdv qual=true)(S:FnScope N ps scope)(len:∀vs H Q E,sp vs H Q E->vs.length=ps.length)(hbody:∀(A:Around) (outer:List Env) (s:η) (H:Hp) (vs:List V) (Q:VK) (E:XK),Room k (A.deeper (envOfC qual scope s.heap.objs.size f cdv))->sp vs H Q E->
   ∃t,PSs (cxOf CX P w K mg base N qual scope f cdv A outer s H E) body t/\t {nx:=fun _ H'=>Q .non H',rt:=Q} (start N vs) H):
  FnOk P w K mg base CX (k+1) f (PySem.W.fnOf name qual params body scope dV kV doc pm an cdv ct) ps sp:=by
 refine⟨len,fun A outer s H args us vs Q E hr e0 hb r hsp=> ?_⟩;have hl:=len _ _ _ _ hsp;have KX:K.In s.heap:=e0.mod.kin.keeps fun b o e=>(e0.bs b o e).1;have lim:s.heap.NoLimit:=e0.mod.nolimit.keeps fun b o e=>(e0.bs b o e).1;have hkind:∀y∈ps.zip us,scope.names.lookup y.1=some .local\/(scope.names.lookup y.1=some .cell/\((cellsFrom (s.heap.objs.size+1) scope.names []).lookup y.1).isSome=true):=fun⟨n,v⟩ hy=>by
  rcases S.par n (wem hy).1 with q|q
  ·exact .inl q
  ·exact .inr ⟨q,wej _ _ _ (.inl q)⟩
 refine codeAny_call_function hr.depth (KX _ _ lk) rfl S.co S.gen rfl (PySem.W.codeRec_of KX hcd) (hb _ _ _ _ ?_);refine wpAny_newFunctionEnv_cells S.kind hkind fun env he s1 x=> ?_;subst he;refine⟨lim.keeps x.toInCall.keep,codeAny_func ?_⟩;obtain⟨t,ht,hq⟩:=hbody A outer s H vs Q E (hr.deeper _) hsp;have I:Inv (cxOf CX P w K mg base N qual scope f cdv A outer s H E) [] (start N vs) H s1:=inv_start S hr.hd e0 hl r x;refine Ft (ht [] s1 (start N vs) H _ I hq) (fun fl s' hs=> ?_) fun e s' hs=>hs;have fin:∀{σ':St} {H':Hp} {v:V} {u:ζ},Inv (cxOf CX P w K mg base N qual scope f cdv A outer s H E) [] σ' H' s'->RelV v u->Q v H'->CE outer P w H s Q u s':=
  fun{σ' H' v u} J rv q=>⟨v,H',J.os,J.bare,J.base,J.hok,rv,q⟩
 cases fl with
 |ret u=>
  obtain⟨v,σ',H',J,rv,q⟩:=hs;exact fin J rv q
 |next=>
  obtain⟨σ',H',J,q⟩:=hs;exact fin (v:=V.non) (u:=Value.none) J rfl q
 |brk=>
  obtain⟨_,_,_,q⟩:=hs;exact False.elim q
 |cont=>
  obtain⟨_,_,_,q⟩:=hs;exact False.elim q
section
variable{X:Cx}{x:Str}{p pos:Pos}{e:Expr}{es:List Expr}{t:TA}{id T:String}{r:List V->Hp->VK->Prop}
noncomputable def tCB(r:List V->Hp->VK->Prop)(t:TA):TE:=fun σ H Q=>t σ H fun vs H1=>r vs H1 Q
theorem pe_callB(hc:CallR X (.builtin id) r)(hg:Gl X x)(hm:X.mg x=none)(hv:bootBuiltins x=some (.builtin id))(ha:PA X (e::es) t)(hn:x≠"__name__":=by decide)(hdb:(x==("__debug__":Str))=false:=by decide)(he:starEach (e::es) X.env=(false,eval e X.env)::starEach es X.env:=by rfl)(hpl:(backTo pos (starEach es X.env)).any (·.1)=false:=by rfl):PE X (.Call (.Name x p) (e::es) [] pos) (tCB r t):=by
 intro pins s σ H Q I h;refine Ri (ld_blt I hg hm hv ?_ hn hdb);exact PyProof.Rows.callWith_builtin1 (thn (ha pos pins s σ H _ I h) fun us s1 ⟨vs,H1,I1,r1,q1⟩=>hc pins s1 σ H1 vs us Q I1 r1 q1) he hpl
theorem pB{X:Cx}{x:Str}{id:String}{r:List V->Hp->VK->Prop}{e:Expr}{es:List Expr}{t:TA}{p pos:Pos}(hc:CallR X (.builtin id) r)(hm:X.mg x=none)(ha:PA X (e::es) t)(hg:Gl X x:=by rfl)(hv:bootBuiltins x=some (.builtin id):=by decide+kernel)(hn:x≠"__name__":=by decide)(hdb:(x==("__debug__":Str))=false:=by decide)(he:starEach (e::es) X.env=(false,eval e X.env)::starEach es X.env:=by rfl)(hpl:(backTo pos (starEach es X.env)).any (·.1)=false:=by rfl):PE X (.Call (.Name x p) (e::es) [] pos) (tCB r t):=pe_callB hc hg hm hv ha hn hdb he hpl
theorem pe_callTy(hc:CallR X (.type T) r)(hg:Gl X x)(hm:X.mg x=none)(hv:bootBuiltins x=some (.type T))(ha:PA X (e::es) t)(hn:x≠"__name__":=by decide)(hdb:(x==("__debug__":Str))=false:=by decide)(he:starEach (e::es) X.env=(false,eval e X.env)::starEach es X.env:=by rfl)(hpl:(backTo pos (starEach es X.env)).any (·.1)=false:=by rfl):PE X (.Call (.Name x p) (e::es) [] pos) (tCB r t):=by
 intro pins s σ H Q I h;refine Ri (ld_blt I hg hm hv ?_ hn hdb);exact QK (thn (ha pos pins s σ H _ I h) fun us s1 ⟨vs,H1,I1,r1,q1⟩=>hc pins s1 σ H1 vs us Q I1 r1 q1) he hpl
theorem pT{X:Cx}{x:Str}{T:String}{r:List V->Hp->VK->Prop}{e:Expr}{es:List Expr}{t:TA}{p pos:Pos}(hc:CallR X (.type T) r)(hm:X.mg x=none)(ha:PA X (e::es) t)(hg:Gl X x:=by rfl)(hv:bootBuiltins x=some (.type T):=by decide+kernel)(hn:x≠"__name__":=by decide)(hdb:(x==("__debug__":Str))=false:=by decide)(he:starEach (e::es) X.env=(false,eval e X.env)::starEach es X.env:=by rfl)(hpl:(backTo pos (starEach es X.env)).any (·.1)=false:=by rfl):PE X (.Call (.Name x p) (e::es) [] pos) (tCB r t):=pe_callTy hc hg hm hv ha hn hdb he hpl
end
end L2
namespace HT
open PySem PyProof.Rows
noncomputable def lexLt:List Int->List Int->Bool
 |[],[]=>false
 |[],_::_=>true
 |_::_,[]=>false
 |x::xs,y::ys=>if x=y then lexLt xs ys else decide (x<y)
theorem lexLt_cons(x y:Int)(xs ys:List Int):lexLt (x::xs) (y::ys)=if x=y then lexLt xs ys else decide (x<y):=rfl
theorem lexLt_nil_nil:lexLt [] []=false:=rfl
theorem lexLt_nil_cons(y:Int)(ys:List Int):lexLt [] (y::ys)=true:=rfl
theorem lexLt_cons_nil(x:Int)(xs:List Int):lexLt (x::xs) []=false:=rfl
theorem eqAt_int(A:Around)(s:η)(a:Int)(t:Tok)(c:Int)(u:Tok):∃e,SeqAt.EqAt A s (.int a t) (.int c u) e/\(e=true↔a=c):=
 ⟨(a==c),SeqAt.EqAt.int_int a t c u,by simp⟩
theorem rcLt_int(A:Around)(s:η)(a:Int)(t:Tok)(c:Int)(u:Tok)(prog:ξ)(w:τ)(E:L3)(Q:L3)(h:Q (.bool (decide (a<c))) s):
  wpAny (model prog w) A (richCompare .Lt (.int a t) (.int c u)) Q E s:=
 (PyProof.Rows.lt_int h:wpAny (model prog w) A (compareOp .Lt (.int a t) (.int c u)) Q E s)
section
open PySem.SeqAt
open PySem.AutoSeq1 (wpAny_loadPart')
open PySem.MeetsSeq PySem.MeetsSeq2 PySem.MeetsSeq3
theorem tuple_lt_ints(l b:Addr)(items items2:Array ζ)(n n2:Nat)(dd dd2:Option Addr)(sl sl2:Array (Option ζ))(ns ms:List Int)(hi:IntsAre items.toList ns)(hj:IntsAre items2.toList ms):
  Meets (Builtin.«tuple.__lt__» ⟨[.ref l,.ref b],[]⟩)
   (fun _ R s=>s.heap.get? l=some {cls:= .type "tuple",dict:=dd,data:= .seq items n,slots:=sl}/\s.heap.get? b=some {cls:= .type "tuple",dict:=dd2,data:= .seq items2 n2,slots:=sl2}/\
    R (.ok (.ret (.bool (lexLt ns ms)))) s):=
 .of_wp fun prog w A R s h=>by
  obtain⟨hp,g,d,tk,os⟩:=s;obtain⟨hl,hb,h⟩:=h;have f2:=AutoSeq1.sub_tuple_tuple;have z1:items.size=ns.length:=by rw[<-hi.length];simp
  have z2:items2.size=ms.length:=by rw[<-hj.length];simp
  wp_walk using wpAny_loadPart' hl,wpAny_loadPart' hb,wpAny_forIn_list _ (fun rest b s'=>b.1=none/\s'=⟨hp,g,d,tk,os⟩/\∃(vs ws:List ζ) (ns' ms':List Int),rest=vs.zip ws/\
   IntsAre vs ns'/\IntsAre ws ms'/\ns'.length+items2.size=ms'.length+items.size/\R (.ok (.ret (.bool (lexLt ns' ms')))) ⟨hp,g,d,tk,os⟩) _
  case turn=>
   rintro⟨y,x⟩ rest b s' ⟨hb',rfl,vs,ws,ns',ms',hz,hvi,hwi,hlen,hR⟩;cases hvi with
   |nil=>rw[List.zip_nil_left]at hz;cases hz
   |cons a t hvi'=>
    cases hwi with
    |nil=>rw[List.zip_nil_right]at hz;cases hz
    |cons c u hwi'=>
     rw[wdg]at hz;injection hz with hyx hrest
     injection hyx with hy hx
     subst hy hx;rw[lexLt_cons]at hR;simp only[Bl]at hlen;obtain⟨e,he,hiff⟩:=eqAt_int A.in1 ⟨hp,g,d,tk,os⟩ a t c u;refine bL (he prog w _ _ ?_);cases e with
     |true=>
      rw[aH (hiff.mp rfl)]at hR
      wp_walk
      exact⟨rfl,rfl,_,_,_,_,hrest,hvi',hwi',by omega,hR⟩
     |false=>
      rw[aB (fun q=>absurd (hiff.mpr q) uU)]at hR;have hri:=rcLt_int A.in1 ⟨hp,g,d,tk,os⟩ a t c u prog w
      wp_walk using hri
      exact⟨_,rfl,by simpa using hR⟩
  case fin=>
   rintro⟨b1,b2⟩ s' ⟨hb',rfl,vs,ws,ns',ms',hz,hvi,hwi,hlen,hR⟩;simp only at hb';subst hb';have hv:lexLt ns' ms'=decide (items.size<items2.size):=by
    cases hvi with
    |nil=>
     cases hwi with
     |nil=>
      simp only[V3]at hlen;rw[lexLt_nil_nil];exact(lV (by omega)).symm
     |cons c u hw=>
      simp only[V3,Bl]at hlen;rw[lexLt_nil_cons];exact(cX (by omega)).symm
    |cons a t hv=>
     cases hwi with
     |nil=>
      simp only[V3,Bl]at hlen;rw[lexLt_cons_nil];exact(lV (by omega)).symm
     |cons c u hw=>
      rw[wdg]at hz;cases hz
   rw[hv]at hR
   wp_walk
   exact⟨_,rfl,by simpa[Builtin.Tuple.tupleCompareSizes]using hR⟩
  case h=>
   exact⟨rfl,rfl,items.toList,items2.toList,ns,ms,rfl,hi,hj,by omega,h⟩
end
section
variable{prog:ξ}{w:τ}{A:Around}{E:L3}{s:η}
theorem lt_tupInts{l b:Addr}{items items2:Array ζ}{ns ms:List Int}{Q:L3}(hl:IsTup s.heap l items)(hb:IsTup s.heap b items2)(hi:IntsAre items.toList ns)(hj:IntsAre items2.toList ms)(hu:A.units<cLine)(h:Q (.bool (lexLt ns ms)) s):wpAny (model prog w) A (compareOp .Lt (.ref l) (.ref b)) Q E s:=by
 obtain⟨⟨cls,dd,data,sl⟩,ho,hc,n,hd⟩:=id hl;obtain⟨⟨cls2,dd2,data2,sl2⟩,ho2,hc2,n2,hd2⟩:=id hb;simp only at hc hd hc2 hd2;subst hc hd hc2 hd2;exact richCompare_meets_room (op:= .Lt) ⟨_,ho,rfl⟩ ⟨_,ho2,rfl⟩ PySem.F.slot_tuple_lt PySem.F.entry_tuple_lt (PySem.F.args_tuple_lt_2 _ _) (tuple_lt_ints l b items items2 n n2 dd dd2 sl sl2 ns ms hi hj)
  ⟨ho,ho2,show Value.bool (lexLt ns ms)≠Value.notImplemented/\Q (.bool (lexLt ns ms)) s from⟨(fun x=>nomatch x),h⟩⟩ hu
theorem cat_tup{t b:Addr}{vs ws:List ζ}{Q:L3}(ht:IsTup s.heap t vs.toArray)(hb:IsTup s.heap b ws.toArray)(hv:vs≠[])(h1:ws=[]->Q (.ref t) s)(h2:ws≠[]->Q (.ref s.heap.objs.size) {s with heap:=s.heap.push {cls:= .type "tuple",data:= .seq (vs++ws).toArray}})(hsz:vs.length+ws.length<=sizeLine):wpAny (model prog w) A (binaryOp .Add (.ref t) (.ref b)) Q E s:=by
 obtain⟨⟨cls,dd,data,sl⟩,ho,hc,n,hd⟩:=id ht;obtain⟨⟨cls2,dd2,data2,sl2⟩,ho2,hc2,n2,hd2⟩:=id hb;simp only at hc hd hc2 hd2;subst hc hd hc2 hd2;have e:vs.toArray++ws.toArray=(vs++ws).toArray:=by simp
 by_cases hw:ws=[]
 ·exact concat_meets ⟨_,ho,rfl⟩ ⟨_,ho2,rfl⟩ wef seq_tuple_add wcd wbw (wbu _ _)
   (tuple_addW1 t b vs.toArray ws.toArray n n2 dd dd2 sl sl2 (by simpa using hv) (by simp[hw])) ⟨ho,ho2,h1 hw⟩
 ·refine concat_meets ⟨_,ho,rfl⟩ ⟨_,ho2,rfl⟩ wef seq_tuple_add wcd wbw (wbu _ _)
   (tuple_addW2 t b vs.toArray ws.toArray n n2 dd dd2 sl sl2 (by simpa using hv) (by simpa using hw) (by rw[iH,iH];exact hsz)) ⟨ho,ho2,?_⟩
  rw[e];exact h2 hw
noncomputable def sIx(n d:Nat):Option Int->Nat
 |none=>d
 |some v=>if v<0 then(v+(n:Int)).toNat else min v.toNat n
theorem sIx_none(n d:Nat):sIx n d none=d:=rfl
theorem sIx_nat(n d k:Nat):sIx n d (some (k:Int))=min k n:=by
 show(if(k:Int)<0 then((k:Int)+(n:Int)).toNat else min (k:Int).toNat n)=min k n;rw[aB (by omega),U4]
end
end HT
namespace L2
open PySem PySem.Spec PyProof.Rows
noncomputable abbrev TO:=St->Hp->(Option Int->Hp->Prop)->Prop
noncomputable def PO(X:Cx)(e:Option Expr)(t:TO):Prop:=
 ∀(pins:L1) (s:η) (σ:St) (H:Hp) (Q:Option Int->Hp->Prop),Inv X pins σ H s->t σ H Q->
  wpAny (model X.prog X.w) X.A (evalPart e X.env) (fun u s'=>∃o H',Inv X pins σ H' s'/\IsPart u o/\Q o H') X.xe s
noncomputable def tNoPart:TO:=fun _ H Q=>Q none H
noncomputable def tPart(t:TE):TO:=fun σ H Q=>t σ H fun x H1=>∃i,x= .int i/\Q (some i) H1
theorem intsAre_of{ns:List Int}:∀{us:List ζ},Vals (ns.map V.int) us->IntsAre us ns:=by
 induction ns with
 |nil=>intro us r;rw[wen]at r;cases r;exact .nil
 |cons n ns ih=>
  intro us r;rw[Ia]at r;cases r with
  |cons r1 r2=>
   obtain⟨t,e⟩:=r1;subst e;exact .cons n t (ih r2)
section
variable{X:Cx}{e:Expr}{te:TE}{lo hi:Option Expr}{tl th:TO}{pos p2:Pos}
theorem po_none:PO X none tNoPart:=by
 intro pins s σ H Q I h;rw[evalPart_none];exact iD ⟨none,H,I,.none,h⟩
theorem po_some(h:PE X e te):PO X (some e) (tPart te):=by
 intro pins s σ H Q I hw;rw[evalPart_some];refine thn (h pins s σ H _ I hw) fun u s1 ⟨x,H1,I1,r1,q1⟩=> ?_;obtain⟨i,rfl,q⟩:=q1;obtain⟨t,rfl⟩:=r1;exact⟨some i,H1,I1,.int i t,q⟩
noncomputable def SlR(X:Cx)(r:V->Option Int->Option Int->Hp->VK->Prop):Prop:=
 ∀(pins:L1) (s:η) (σ:St) (H:Hp) (x:V) (v vl vu:ζ) (lo hi:Option Int) (sl:Addr) (Q:VK),Inv X pins σ H s->RelV x v->s.heap.IsSliceOf sl vl vu .none->IsPart vl lo->IsPart vu hi->r x lo hi H Q->
  ∃T id,typeLookup (.type T) "__getitem__"=pure (some (.builtin id))/\s.TypeIs v T/\wpAny (model X.prog X.w) X.A (getItem v (.ref sl)) (EP X pins σ Q) X.xe s
noncomputable def tSl(r:V->Option Int->Option Int->Hp->VK->Prop)(te:TE)(tl th:TO):TE:=fun σ H Q=>te σ H fun x H1=>tl σ H1 fun l H2=>th σ H2 fun u H3=>r x l u H3 Q
theorem pe_slice{r:V->Option Int->Option Int->Hp->VK->Prop}(hr:SlR X r)(he:PE X e te)(hl:PO X lo tl)(hu:PO X hi th):PE X (.Subscript e (.Slice lo hi none p2) pos) (tSl r te tl th):=by
 intro pins s σ H Q I h;refine Subscript_ (thn (he pins s σ H _ I h) fun v s1 ⟨x,H1,I1,r1,q1⟩=> ?_);refine wpAny_Slice (thn (hl pins s1 σ H1 _ I1 q1) fun vl s2 ⟨l,H2,I2,pl,q2⟩=>thn (hu pins s2 σ H2 _ I2 q2) fun vu s3 ⟨u,H3,I3,pu,q3⟩=> ?_);rw[evalPart_none];refine iD ?_;have I4:Inv X pins σ H3 {s3 with heap:=s3.heap.push {cls:= .type "slice",data:= .fields #[vl,vu,.none]}}:=I3.kept (t':=s3.toks) fun b ob q=>lH _ q;obtain⟨T,id,hT,ht,hg⟩:=hr pins {s3 with heap:=s3.heap.push {cls:= .type "slice",data:= .fields #[vl,vu,.none]}} σ H3 x v vl vu l u s3.heap.objs.size Q I4 r1 (Heap.IsSliceOf.new ..) pl pu q3;show wpAny (model X.prog X.w) X.A (subscriptTail e (.Slice lo hi none p2) v (.ref s3.heap.objs.size)) (EP X pins σ Q) X.xe {s3 with heap:=s3.heap.push {cls:= .type "slice",data:= .fields #[vl,vu,.none]}};exact tail_any (ops:=[.ref s3.heap.objs.size,v]) ht hT hg (by with_unfolding_all rfl)
noncomputable def cutV(xs:List V)(lo hi:Option Int):List V:=(xs.drop (HT.sIx xs.length 0 lo)).take (HT.sIx xs.length xs.length hi-HT.sIx xs.length 0 lo)
theorem cutV_length(xs:List V)(lo hi:Option Int):(cutV xs lo hi).length<=xs.length:=by
 unfold cutV;rw[yw,List.length_drop];omega
noncomputable def rLtT(K:W.Frag):R2:=fun x y H Q=>∃a b ns ms,x= .ref a/\y= .ref b/\SqT K H a (ns.map V.int)/\SqT K H b (ms.map V.int)/\Q (.bl (HT.lexLt ns ms)) H
theorem op_ltT(hu:X.A.units<cLine):OpR X (compareOp .Lt) (rLtT X.K):=by
 intro pins s σ H x y v u Q I rx ry h;obtain⟨a,b,ns,ms,rfl,rfl,ha,hb,q⟩:=h;cases rx;cases ry;obtain⟨its,r1,p1,_⟩:=I.tuple ha;obtain⟨its2,r2,p2,_⟩:=I.tuple hb;have i1:IntsAre its.toArray.toList ns:=intsAre_of r1;have i2:IntsAre its2.toArray.toList ms:=intsAre_of r2;exact HT.lt_tupInts p1 p2 i1 i2 hu ⟨.bl (HT.lexLt ns ms),H,I,rfl,q⟩
noncomputable def rCatT(K:W.Frag):R2:=fun x y H Q=>∃a b xs ys,x= .ref a/\y= .ref b/\SqT K H a xs/\SqT K H b ys/\xs≠[]/\xs.length+ys.length<=sizeLine/\
 (ys=[]->Q (.ref a) H)/\(ys≠[]->∀p,H p=none->Q (.ref p) (upd H p (.tup (xs++ys))))
theorem Vals.nil_iff{xs:List V}{us:List ζ}(r:Vals xs us):us=[]↔xs=[]:=by
 cases r with
 |nil=>simp
 |cons _ _=>simp
theorem op_catT:OpR X (binaryOp .Add) (rCatT X.K):=by
 intro pins s σ H x y v u Q I rx ry h;obtain⟨a,b,xs,ys,rfl,rfl,ha,hb,hx,hz,q1,q2⟩:=h;cases rx;cases ry;obtain⟨its,r1,p1,_⟩:=I.tuple ha;obtain⟨its2,r2,p2,_⟩:=I.tuple hb;refine HT.cat_tup p1 p2 (fun z=>hx (r1.nil_iff.mp z)) (fun z=>⟨.ref a,H,I,rfl,q1 (r2.nil_iff.mp z)⟩) (fun z=> ?_) (by rw[<-r1.length,<-r2.length];exact hz);refine⟨.ref s.heap.objs.size,_,I.laid (t':=s.toks) (o:= .tup (xs++ys)) (fun b ob q=>lH _ q) (aW _) ?_,rfl,q2 (fun w=>z (r2.nil_iff.mpr w)) _ (I.hok.fresh (aW _))⟩;exact⟨by rw[rJ];exact hz,_,r1.append r2,IsTup.new _ _⟩
end
noncomputable def ixN(n:Nat)(i:Int):Option Nat:=if 0<=i then(if i<n then some i.toNat else none)else if -(n:Int)<=i then some (i+n).toNat else none
noncomputable def atI{α:Type}(xs:List α)(i:Int):Option α:=(ixN xs.length i).bind fun j=>xs[j]?
theorem ixN_seq{n:Nat}{i:Int}{j:Nat}(h:ixN n i=some j):seqIndex? i n=some j/\j<n/\ -(n:Int)<=i/\i<n:=by
 unfold ixN at h;by_cases h0:0<=i
 ·rw[aH h0]at h;by_cases h1:i<n
  ·rw[aH h1]at h;have e:i.toNat=j:=tu h;exact⟨by rw[seqIndex_of h0 h1,e],by omega,by omega,h1⟩
  ·rw[aB h1]at h;cases h
 ·rw[aB h0]at h;by_cases h1: -(n:Int)<=i
  ·rw[aH h1]at h;have e:(i+n).toNat=j:=tu h;exact⟨by rw[seqIndex_neg (by omega) h1,e],by omega,h1,by omega⟩
  ·rw[aB h1]at h;cases h
theorem atI_get{α:Type}{xs:List α}{i:Int}{v:α}(h:atI xs i=some v):∃j,seqIndex? i xs.length=some j/\xs[j]? =some v/\j<xs.length/\ -(xs.length:Int)<=i/\i<xs.length:=by
 unfold atI at h;cases e:ixN xs.length i with
 |none=>rw[e]at h;cases h
 |some j=>
  rw[e]at h;obtain⟨h1,h2,h3,h4⟩:=ixN_seq e;exact⟨j,h1,h,h2,h3,h4⟩
theorem atI_nat{α:Type}{xs:List α}{j:Nat}{v:α}(h:xs[j]? =some v):atI xs (j:Int)=some v:=by
 have hj:j<xs.length:=(oF.mp h).1;have e:ixN xs.length (j:Int)=some j:=by
  unfold ixN;rw[aH (by omega),aH (by omega)];simp
 unfold atI;rw[e];exact h
noncomputable def PlainIx(b:Expr):Prop:=∀o i,subscripted b false o i=operate [o,i] (getItem o i)
noncomputable def IxR(X:Cx)(r:R2):Prop:=
 ∀(value slice:Expr) (pins:L1) (s:η) (σ:St) (H:Hp) (x y:V) (v u:ζ) (Q:VK),Inv X pins σ H s->RelV x v->RelV y u->r x y H Q->
  subscripted slice false v u=operate [v,u] (getItem v u)->wpAny (model X.prog X.w) X.A (subscriptTail value slice v u) (EP X pins σ Q) X.xe s
noncomputable def MtR(X:Cx)(id:String)(r:V->List V->Hp->VK->Prop):Prop:=
 ∀(pins:L1) (s:η) (σ:St) (H:Hp) (x:V) (xs:List V) (v:ζ) (us:List ζ) (Q:VK),Inv X pins σ H s->RelV x v->Vals xs us->r x xs H Q->
  wpAny (model X.prog X.w) X.A (call (.builtin id) (v::us)) (EP X pins σ Q) X.xe s
section
variable{X:Cx}{a b:Expr}{ta tb:TE}{pos:Pos}
theorem bf{r:R2}(hr:IxR X r)(ha:PE X a ta)(hb:PE X b tb)(hs:PlainIx b:=by exact fun _ _=>rfl):PE X (.Subscript a b pos) (tOp r ta tb):=by
 intro pins s σ H Q I h;exact Subscript_ (binT ha hb I h fun v u s2 x y H2 I2 rx ry q=>hr a b pins s2 σ H2 x y v u Q I2 rx ry q (hs _ _))
noncomputable def rIxL(K:W.Frag):R2:=fun x y H Q=>∃p xs i v,x= .ref p/\y= .int i/\SqL K H p xs/\atI xs i=some v/\Q v H
noncomputable def rIxT(K:W.Frag):R2:=fun x y H Q=>∃p xs i v,x= .ref p/\y= .int i/\SqT K H p xs/\atI xs i=some v/\Q v H
theorem jF:IxR X (rIxL X.K):=by
 intro value slice pins s σ H x y v u Q I rx ry h hs;obtain⟨p,xs,i,z,rfl,rfl,hq,he,q⟩:=h;cases rx;obtain⟨t,rfl⟩:=ry;obtain⟨its,r,pl,hz⟩:=I.list hq;obtain⟨j,h1,h2,h3,h4,h5⟩:=atI_get he;obtain⟨w,ew,rw'⟩:=r.get h2;have hl:=r.length;have hn:=line63;have fin:EP X pins σ Q w s:=⟨z,H,I,rw',q⟩;by_cases h0:0<=i
 ·have hj:i.toNat=j:=by
   rw[seqIndex_of h0 h5]at h1;exact tu h1
  exact item_listR pl.isList h0 (by omega) (by rw[hj];simpa using ew) fin hs
 ·have hj:(i+(its.toArray.size:Int)).toNat=j:=by
   rw[seqIndex_neg (by omega) h4]at h1;rw[iH,<-hl];exact tu h1
  exact subscriptTail_builtinR (x:=w) pl.isList.typeIs slot_list_getitem.lookup
   (wpAny_getItem_list_neg (Q:=fun r s'=>r=w/\EP X pins σ Q r s') pl.isList (by omega) (by rw[iH]<;>omega) (by omega) (by rw[hj];simpa using ew) ⟨rfl,fin⟩) hs
theorem cW:IxR X (rIxT X.K):=by
 intro value slice pins s σ H x y v u Q I rx ry h hs;obtain⟨p,xs,i,z,rfl,rfl,hq,he,q⟩:=h;cases rx;obtain⟨t,rfl⟩:=ry;obtain⟨its,r,pl,hz⟩:=I.tuple hq;obtain⟨j,h1,h2,h3,h4,h5⟩:=atI_get he;obtain⟨w,ew,rw'⟩:=r.get h2;have hl:=r.length;have hn:=line63;have fin:EP X pins σ Q w s:=⟨z,H,I,rw',q⟩;exact subscriptTail_builtinR (x:=w) pl.typeIs slot_tuple_getitem.lookup
  (getItem_tuple (j:=j) (Q:=fun r s'=>r=w/\EP X pins σ Q r s') pl (by omega) (by omega) (by rw[iH,<-hl];exact h1) (by simpa using ew) ⟨rfl,fin⟩) hs
theorem mapSeq_set(its:List ζ)(n j:Nat)(u:ζ):Obj.mapSeq (·.setIfInBounds j u) {cls:= .type "list",data:= .seq its.toArray n}={cls:= .type "list",data:= .seq (its.set j u).toArray n}:=by
 simp[Obj.mapSeq]
theorem Inv.lst{pins:L1}{σ:St}{H:Hp}{s:η}{p:Addr}{xs:List V}(I:Inv X pins σ H s)(h:H p=some (.lst xs)):
  ∃(its:List ζ) (n:Nat),Vals xs its/\s.heap.get? p=some {cls:= .type "list",data:= .seq its.toArray n}/\xs.length<=sizeLine:=by
 obtain⟨z,its,n,r,e⟩:=I.hok p _ h;exact⟨its,n,r,e,z⟩
theorem Inv.lstUpd{pins:L1}{σ:St}{H:Hp}{s:η}{p:Addr}{xs ys:List V}{its its':List ζ}{n n':Nat}{f:Obj->Obj}(I:Inv X pins σ H s)(h:H p=some (.lst xs))(ho:s.heap.get? p=some {cls:= .type "list",data:= .seq its.toArray n})(hf:f {cls:= .type "list",data:= .seq its.toArray n}={cls:= .type "list",data:= .seq its'.toArray n'})(r:Vals ys its')(hz:ys.length<=sizeLine)(t:Nat):
  Inv X pins σ (upd H p (.lst ys)) {s with heap:=s.heap.update p f,toks:=t}:=by
 have e:(s.heap.update p f).get? p=some {cls:= .type "list",data:= .seq its'.toArray n'}:=by
  rw[Heap.get?_update_self f ho (by rw[hf]<;>rfl),hf]
 refine I.write (x:=p) (e:=p) (by rw[h];trivial) (.inl rfl) (fun b u hb q=>(wce _ _ (mj hb)).trans q) ⟨_,e⟩ ?_;exact⟨hz,its',n',r,e⟩
noncomputable def rSetL:V->V->V->Hp->(Hp->Prop)->Prop:=fun o i v H Q=>∃p xs k j,o= .ref p/\i= .int k/\H p=some (.lst xs)/\ixN xs.length k=some j/\Q (upd H p (.lst (xs.set j v)))
theorem set_list:PSet X rSetL:=by
 intro pins s σ H o i v ov iv u Q I ro ri rv h;obtain⟨p,xs,k,j,rfl,rfl,hp,hj,q⟩:=h;cases ro;obtain⟨t,rfl⟩:=ri;obtain⟨its,n,r,ho,hz⟩:=I.lst hp;obtain⟨h1,h2,h3,h4⟩:=ixN_seq hj;have hl:=r.length;have hn:=line63;have I':Inv X pins σ (upd H p (.lst (xs.set j v))) {s with heap:=s.heap.update p (Obj.mapSeq (·.setIfInBounds j u))}:=
  I.lstUpd hp ho (mapSeq_set its n j u) (r.set rv j) (by rw[List.length_set];exact hz) s.toks
 by_cases h0:0<=k
 ·have hk:k.toNat=j:=by
   rw[seqIndex_of h0 h4]at h1;exact tu h1
  exact PySem.W.ki_setAt ho h0 (by omega) (by rw[iH,<-hl];exact h4) (by rw[hk];exact⟨_,I',q⟩)
 ·have hk:(k+(its.toArray.size:Int)).toNat=j:=by
   rw[seqIndex_neg (by omega) h3]at h1;rw[iH,<-hl];exact tu h1
  exact PySem.W.ki_setBack ho (by omega) (by rw[iH,<-hl];exact h3) (by omega) (by rw[hk];exact⟨_,I',q⟩)
theorem slice_bounds(lo hi:Option Int)(n:Nat):(sliceBounds lo hi none n).1=((HT.sIx n 0 lo:Nat):Int)/\(sliceBounds lo hi none n).2.1=((HT.sIx n n hi:Nat):Int)/\(sliceBounds lo hi none n).2.2=1:=by
 refine⟨?_,?_,rfl⟩
 ·cases lo with
  |none=>simp[sliceBounds,HT.sIx]
  |some i=>
   simp only[sliceBounds,HT.sIx,Option.getD_none,show(1:Int)>0 by decide,if_true];by_cases h:i<0
   ·simp only[h,if_true]<;>omega
   ·simp only[h,if_false]<;>omega
 ·cases hi with
  |none=>simp[sliceBounds,HT.sIx]
  |some i=>
   simp only[sliceBounds,HT.sIx,Option.getD_none,show(1:Int)>0 by decide,if_true];by_cases h:i<0
   ·simp only[h,if_true]<;>omega
   ·simp only[h,if_false]<;>omega
theorem slicePick_cut(its:List ζ)(lo hi:Option Int):slicePick its.toArray lo hi none=((its.drop (HT.sIx its.length 0 lo)).take (HT.sIx its.length its.length hi-HT.sIx its.length 0 lo)).toArray:=by
 obtain⟨h1,h2,h3⟩:=slice_bounds lo hi its.toArray.size;unfold slicePick;rw[h1,h2,h3];simp only[sliceRange_one,pick_run,iH]<;>rfl
noncomputable def rSlL(K:W.Frag):V->Option Int->Option Int->Hp->VK->Prop:=fun x lo hi H Q=>∃a xs,x= .ref a/\SqL K H a xs/\∀p,H p=none->Q (.ref p) (upd H p (.lst (cutV xs lo hi)))
theorem sl_list:SlR X (rSlL X.K):=by
 intro pins s σ H x v vl vu lo hi sl Q I rx hs pl pu h;obtain⟨a,xs,rfl,hx,q⟩:=h;cases rx;obtain⟨its,r,ht,hz⟩:=I.list hx;have hlen:=r.length;refine⟨"list",_,slot_list_getitem.lookup,ht.isList.typeIs,?_⟩;refine wpAny_getItem_list_slice ht.isList hs pl pu .none (by simp) ?_ (by rw[iH]<;>omega);rw[slicePick_cut,<-hlen];refine⟨.ref s.heap.objs.size,_,I.laid (t':=s.toks) (o:= .lst (cutV xs lo hi)) (fun b ob q=>lH _ q) (aW _) ?_,rfl,q _ (I.hok.fresh (aW _))⟩;exact⟨dD (cutV_length xs lo hi) hz,_,0,(r.drop (HT.sIx xs.length 0 lo)).take (HT.sIx xs.length xs.length hi-HT.sIx xs.length 0 lo),sY _ rfl⟩
theorem call_len_seq:CallR X (.builtin "len") (fun xs H Q=>∃p ys,xs=[.ref p]/\(SqL X.K H p ys\/SqT X.K H p ys)/\Q (.int ys.length) H):=by
 intro pins s σ H xs us Q I r h;obtain⟨p,ys,rfl,hq,q⟩:=h;obtain⟨u,rfl,rx⟩:=vals1 r;cases rx;have hn:=line63;rcases hq with hq|hq
 ·obtain⟨its,r',pl,hz⟩:=I.list hq;have hlen:=r'.length;exact Calls.call_len_list pl.isList (by simp only[iH]<;>omega) ⟨.int ys.length,H,I.tok _,⟨s.toks+1,by rw[iH,hlen]⟩,q⟩
 ·obtain⟨its,r',pl,hz⟩:=I.tuple hq;have hlen:=r'.length;exact len_tuple pl (by simp only[iH]<;>omega) ⟨.int ys.length,H,I.tok _,⟨s.toks+1,by rw[iH,hlen]⟩,q⟩
theorem call_list_of:CallR X (.type "list") (fun xs H Q=>∃p ys,xs=[.ref p]/\(SqL X.K H p ys\/SqT X.K H p ys)/\∀l,H l=none->Q (.ref l) (upd H l (.lst ys))):=by
 intro pins s σ H xs us Q I r h;obtain⟨p,ys,rfl,hq,q⟩:=h;obtain⟨u,rfl,rx⟩:=vals1 r;cases rx;have fin:∀(its:List ζ),Vals ys its->ys.length<=sizeLine->∀(h':Heap) (c':Nat),(∀b o',s.heap.get? b=some o'->h'.get? b=some o')->
   h'.get? s.heap.objs.size=some {cls:= .type "list",dict:=none,data:= .seq its.toArray c',slots:=#[]}->EP X pins σ Q (.ref s.heap.objs.size) {s with heap:=h'}:=fun its r' hz h' c' kp e=>
  ⟨.ref s.heap.objs.size,_,I.laid (t':=s.toks) kp (aW _) (show ObjOk X.prog X.w _ h' _ (.lst ys)from⟨hz,its,c',r',e⟩),rfl,q _ (I.hok.fresh (aW _))⟩
 rcases hq with hq|hq
 ·obtain⟨its,r',pl,hz⟩:=I.list hq;have hlen:=r'.length;obtain⟨o,ho,hc,n,hd⟩:=pl.isList;exact call_list_seq p (.inl rfl) ho hc hd (fun h' c' kp e=>fin its r' hz h' c' kp e) (by simp only[iH]<;>omega)
 ·obtain⟨its,r',pl,hz⟩:=I.tuple hq;have hlen:=r'.length;obtain⟨o,ho,hc,n,hd⟩:=pl;exact call_list_seq p (.inr rfl) ho hc hd (fun h' c' kp e=>fin its r' hz h' c' kp e) (by simp only[iH]<;>omega)
theorem J3:CallR X (.type "tuple") (fun xs H Q=>∃p ys,xs=[.ref p]/\((SqL X.K H p ys/\∀l,H l=none->Q (.ref l) (upd H l (.tup ys)))\/(SqT X.K H p ys/\Q (.ref p) H))):=by
 intro pins s σ H xs us Q I r h;obtain⟨p,ys,rfl,h⟩:=h;obtain⟨u,rfl,rx⟩:=vals1 r;cases rx;rcases h with⟨hq,q⟩|⟨hq,q⟩
 ·obtain⟨its,r',pl,hz⟩:=I.list hq;have hlen:=r'.length;refine call_tuple_list pl.isList (fun h' kp=> ?_) (by simp only[iH]<;>omega);have I1:Inv X pins σ H {s with heap:=h'}:=I.kept (t':=s.toks) kp;have I2:Inv X pins σ (upd H h'.objs.size (.tup ys)) {s with heap:=h'.push {cls:= .type "tuple",data:= .seq its.toArray}}:=
   I1.laid (t':=s.toks) (fun b o e=>lH _ e) (aW _) (show ObjOk X.prog X.w _ _ _ (.tup ys)from⟨hz,its,r',IsTup.new _ _⟩)
  exact⟨.ref h'.objs.size,_,I2,rfl,q _ (I1.hok.fresh (aW _))⟩
 ·obtain⟨its,r',pl,hz⟩:=I.tuple hq;exact call_tuple_same pl ⟨.ref p,H,I,rfl,q⟩
noncomputable def tyV(K:W.Frag)(T:String)(x:V)(H:Hp):Prop:=match x with
 | .str _=>T="str"
 | .int _=>T="int"
 | .ref p=>(T="list"/\∃xs,SqL K H p xs)\/(T="tuple"/\∃o,K.lookup p=some o/\o.cls= .type "tuple"/\o.dict=none)\/
   (T="dict"/\((∃kvs,H p=some (.dK kvs))\/∃kvs,H p=some (.dT kvs)))\/(T="set"/\∃S n,H p=some (.set S n))
 |_=>False
theorem tyV_is{pins:L1}{σ:St}{H:Hp}{s:η}{T:String}{x:V}{v:ζ}(I:Inv X pins σ H s)(r:RelV x v)(ty:tyV X.K T x H):
  s.TypeIs v T/\∀a,v= .ref a->∃ob,s.heap.get? a=some ob/\ob.dict=none:=by
 cases x with
 |str z=>
  obtain⟨t,rfl⟩:=r;cases(show T="str" from ty);exact⟨typeIs_str s z t,fun _ e=>nomatch e⟩
 |int i=>
  obtain⟨t,rfl⟩:=r;cases(show T="int" from ty);exact⟨typeIs_int s i t,fun _ e=>nomatch e⟩
 |ref p=>
  cases r;rcases ty with⟨rfl,xs,hq⟩|⟨rfl,o,hk,hc,hd⟩|⟨rfl,hk⟩|⟨rfl,S,n,hk⟩
  ·obtain⟨its,_,pl,_⟩:=I.list hq;refine⟨pl.isList.typeIs,fun a e=> ?_⟩;cases e;obtain⟨o,n,e,c,hd,_⟩:=pl;exact⟨o,e,hd⟩
  ·refine⟨⟨o,I.kIn p o hk,hc⟩,fun a e=> ?_⟩;cases e;exact⟨o,I.kIn _ o hk,hd⟩
  ·have z:∃o,s.heap.get? p=some o/\o.ExactDict:=by
    rcases hk with⟨kvs,hk⟩|⟨kvs,hk⟩
    ·obtain⟨_,_,_,_,o,_,_,e,ex,_⟩:=I.hok p _ hk;exact⟨o,e,ex⟩
    ·obtain⟨_,_,_,_,o,_,_,e,ex,_⟩:=I.hok p _ hk;exact⟨o,e,ex⟩
   obtain⟨o,e,ex⟩:=z;refine⟨⟨o,e,ex.1⟩,fun a e2=> ?_⟩;cases e2;exact⟨o,e,ex.2.1⟩
  ·obtain⟨o,_,_,_,e,ex,_⟩:=I.hok p _ hk;refine⟨⟨o,e,ex.1⟩,fun a e2=> ?_⟩;cases e2;exact⟨o,e,ex.2.1⟩
 |_=>exact False.elim ty
noncomputable def tBM(K:W.Frag)(T:String)(r:V->List V->Hp->VK->Prop)(to:TE)(t:TA):TE:=fun σ H Q=>to σ H fun x H1=>tyV K T x H1/\t σ H1 fun xs H2=>r x xs H2 Q
variable{o e:Expr}{es:List Expr}{to:TE}{t:TA}{name:Str}{apos cpos:Pos}{T id:String}{r:V->List V->Hp->VK->Prop}
theorem pe_bm(pa:PlainAttrs T)(slot:Slot T name id)(hty:typeOf (.builtin id)=pure (.type "method_descriptor"))(hm:MtR X id r)(ho:PE X o to)(ha:PA X (e::es) t)(hbase:attributeBase o name X.env (eval o X.env)=eval o X.env:=by rfl)(hfew:((backTo cpos (starEach (e::es) X.env)).all (fun x=> !x.1)&&(backToKw cpos (keywordEach [] X.env)).all (fun x=>x.1.isSome)
   &&decide ((e::es).length+([]:List Keyword).length+(if([]:List Keyword).isEmpty then 0 else 1)<30))=true:=by rfl)(hline:(apos.endLine==cpos.line)=true:=by rfl)(hs:starEach (e::es) X.env=(false,eval e X.env)::starEach es X.env:=by rfl)(hplain:(backTo cpos (starEach es X.env)).any (·.1)=false:=by rfl):
  PE X (.Call (.Attribute o name apos) (e::es) [] cpos) (tBM X.K T r to t):=by
 intro pins s σ H Q I h;refine wpAny_Call_method_late hbase hfew hline rfl (thn (ho pins s σ H _ I h) fun v s1 ⟨x,H1,I1,r1,ty,q1⟩=> ?_);obtain⟨h1,h2⟩:=tyV_is I1 r1 ty;refine⟨T,id,pa,slot,hty,h1,h2,?_⟩;have hA:=ha cpos pins s1 σ H1 _ I1 q1;rw[hs]at hA⊢;refine Calls.callWith_builtin (by show(false||(backTo cpos (starEach es X.env)).any (·.1))=false;rw[hplain]<;>rfl) (Calls.evalArgs_plain ?_);exact thn hA fun us s2 ⟨vs,H2,I2,r2,q2⟩=>hm pins s2 σ H2 x vs v us Q I2 r1 r2 q2
end
noncomputable def MtM(X:Cx)(id:String)(r:V->List V->Hp->VK->Prop):Prop:=
 ∀(pins:L1) (s:η) (σ:St) (H:Hp) (x:V) (xs:List V) (v:ζ) (us:List ζ) (Q:VK),Inv X pins σ H s->RelV x v->Vals xs us->r x xs H Q->
  wpAny (model X.prog X.w) X.A (call (.builtin id) (v::us)) (EP X pins σ Q) X.xe s
theorem Vals.one{x:V}{us:List ζ}(h:Vals [x] us):∃u,us=[u]/\RelV x u:=by
 cases h with
 |cons r h=>cases h;exact⟨_,rfl,r⟩
theorem Vals.two{x y:V}{us:List ζ}(h:Vals [x,y] us):∃u v,us=[u,v]/\RelV x u/\RelV y v:=by
 cases h with
 |cons r h=>obtain⟨v,rfl,q⟩:=Vals.one h;exact⟨_,_,rfl,r,q⟩
theorem foldl_rep(its:List ζ):∀(k:Nat) (acc:List ζ),
  List.foldl (fun x1 x2=>x1++x2) acc.toArray (List.replicate k its.toArray)=(acc++(List.replicate k its).flatten).toArray
 |0,acc=>by simp
 |k+1,acc=>by
  have e:acc.toArray++its.toArray=(acc++its).toArray:=by simp
  have e2:(acc++its)++(List.replicate k its).flatten=acc++(List.replicate (k+1) its).flatten:=by
   rw[V4,ZG,wdo]
  rw[<-e2,<-foldl_rep its k (acc++its),<-e,V4,List.foldl_cons]
section
variable{X:Cx}{pins:L1}{σ:St}{H:Hp}{s:η}{l:Addr}{xs ys:List V}
theorem Inv.lset{its its':List ζ}{n:Nat}{f:Array ζ->Array ζ}{t':Nat}(I:Inv X pins σ H s)(hH:H l=some (.lst xs))(e:s.heap.get? l=some {cls:= .type "list",data:= .seq its.toArray n})(hf:f its.toArray=its'.toArray)(hv:Vals ys its')(hz:ys.length<=sizeLine):
  Inv X pins σ (upd H l (.lst ys)) {s with heap:=s.heap.update l (Obj.mapSeq f),toks:=t'}:=by
 have q:=PySem.IsL.update e f;rw[hf]at q;refine I.write (x:=l) (e:=l) (by rw[hH];exact trivial) (.inl rfl) (fun b' u hb hu=>(wce s.heap (Obj.mapSeq f) (mj hb)).trans hu) ⟨_,q⟩ ?_;exact⟨hz,its',_,hv,q⟩
theorem Inv.lnew{its:List ζ}{t':Nat}(I:Inv X pins σ H s)(hv:Vals ys its)(hz:ys.length<=sizeLine):
  Inv X pins σ (upd H s.heap.objs.size (.lst ys)) {s with heap:=s.heap.push {cls:= .type "list",data:= .seq its.toArray},toks:=t'}:=
 I.laid (fun _ _ q=>lH _ q) (aW _) ⟨hz,its,0,hv,sY _ rfl⟩
theorem Inv.fresh(I:Inv X pins σ H s):H s.heap.objs.size=none:=I.hok.fresh (aW _)
theorem Inv.lstM(I:Inv X pins σ H s)(hH:H l=some (.lst xs)):xs.length<=sizeLine/\∃(its:List ζ) (n:Nat),Vals xs its/\xs.length=its.length/\s.heap.get? l=some {cls:= .type "list",data:= .seq its.toArray n}:=by
 obtain⟨z,its,n,r,e⟩:=I.hok l _ hH;exact⟨z,its,n,r,r.length,e⟩
theorem notLongL{n:Nat}(h:n<=sizeLine):Builtin.List.listTooLong n=false:=by
 unfold Builtin.List.listTooLong;exact lV (by omega)
end
section
variable{X:Cx}
noncomputable def rAppend:V->List V->Hp->VK->Prop:=fun x vs H Q=>∃l xs y,x= .ref l/\vs=[y]/\H l=some (.lst xs)/\xs.length<sizeLine/\Q .non (upd H l (.lst (xs++[y])))
theorem mt_append:MtM X "list.append" rAppend:=by
 intro pins s σ H x vs v us Q I rx rv h;obtain⟨l,xs,y,rfl,rfl,hH,hz,q⟩:=h;cases rx;obtain⟨u,rfl,ru⟩:=rv.one;obtain⟨z,its,n,r,hl,e⟩:=I.lstM hH;refine Vc F.slot_list_append ⟨_,e,rfl⟩ F.entry_list_append (F.args_list_append_2 _ _) (PySem.list_append l its.toArray n u (by rw[iH];omega)) ⟨e,?_⟩;refine⟨.non,_,I.lset (its':=its++[u]) hH e (by simp) (r.append (.cons ru .nil)) ?_,rfl,q⟩;rw[rJ,List.length_singleton];omega
noncomputable def rExtend:V->List V->Hp->VK->Prop:=fun x vs H Q=>∃l b xs zs,x= .ref l/\vs=[.ref b]/\H l=some (.lst xs)/\H b=some (.lst zs)/\xs.length+zs.length<=sizeLine/\Q .non (upd H l (.lst (xs++zs)))
theorem mt_extend:MtM X "list.extend" rExtend:=by
 intro pins s σ H x vs v us Q I rx rv h;obtain⟨l,b,xs,zs,rfl,rfl,hH,hB,hz,q⟩:=h;cases rx;obtain⟨u,rfl,ru⟩:=rv.one;cases ru;obtain⟨z,its,n,r,hl,e⟩:=I.lstM hH;obtain⟨z2,its2,n2,r2,hl2,e2⟩:=I.lstM hB;have hsz:its.toArray.size+its2.toArray.size<=sizeLine:=by rw[iH,iH];omega
 have hlong:¬(!its.toArray.isEmpty&&Builtin.List.listTooLong (its.toArray.size+its2.toArray.size))=true:=by
  rw[notLongL hsz,Bool.and_false];exact uU
 refine Vc F.slot_list_extend ⟨_,e,rfl⟩ F.entry_list_extend (F.args_list_extend_2 _ _)
  (AutoSeq1.list_extend_list_list_0 l its.toArray n b its2.toArray n2 hlong (by rw[iH];omega) (by omega)) ⟨e,e2,?_⟩
 refine⟨.non,_,I.lset (its':=its++its2) hH e (by simp) (r.append r2) ?_,rfl,q⟩;rw[rJ];omega
noncomputable def rCat:R2:=fun x y H Q=>∃l b xs zs,x= .ref l/\y= .ref b/\H l=some (.lst xs)/\H b=some (.lst zs)/\xs.length+zs.length<=sizeLine/\∀p,H p=none->Q (.ref p) (upd H p (.lst (xs++zs)))
theorem op_cat:OpR X (binaryOp .Add) rCat:=by
 intro pins s σ H x y v u Q I rx ry h;obtain⟨l,b,xs,zs,rfl,rfl,hH,hB,hz,q⟩:=h;cases rx;cases ry;obtain⟨z,its,n,r,hl,e⟩:=I.lstM hH;obtain⟨z2,its2,n2,r2,hl2,e2⟩:=I.lstM hB;refine PySem.P.add_list e e2 ?_ (by rw[iH,iH];omega);have ea:its.toArray++its2.toArray=(its++its2).toArray:=by simp
 rw[ea];exact⟨.ref _,_,I.lnew (t':=s.toks) (r.append r2) (by rw[rJ];omega),rfl,q _ I.fresh⟩
theorem len_rep{α:Type}(xs:List α)(k:Nat):(List.replicate k xs).flatten.length=k*xs.length:=by
 induction k with
 |zero=>simp
 |succ k ih=>rw[V4,ZG,rJ,ih,Nat.succ_mul,Nat.add_comm]
end
end L2
namespace Att
open PySem PySem.W PySem.Calls PyProof.Rows
theorem ints_of_wellAll{P:Params}{h:Heap}:∀(ns:List Int) (vs:List ζ),WellAll P h vs (ns.map WData.int)->IntsAre vs ns:=by
 intro ns
 induction ns with
 |nil=>
  intro vs w;rw[wen]at w;cases w;exact .nil
 |cons n ns ih=>
  intro vs w;rw[Ia]at w;cases w with
  |cons a b=>
   cases a;exact .cons _ _ (ih _ b)
theorem script_of{l:OpenLaw}{n:Nat}(hn:l.most=some n){P:Params}{h:Heap}{args:List WData}{vals:List ζ}(hpre:l.row.toRowW.claim.pre args=true)(hwl:WellAll P h vals args):
  ∃a vs ns,vals=[Value.ref a]/\args=[WData.list (ns.map WData.int)]/\h.get? a=some {cls:= .type "list",data:= .seq vs.toArray}/\IntsAre vs ns/\ns.length<=n:=by
 have hsh:WShape.hasAll [] args [.list .int]=true:=(pre_splitW hpre).1;have hc:l.pre.holds [] {args:=args}=true:=(pre_splitW hpre).2;obtain⟨d,r,rfl,h1,h2⟩:=hasAllW_cons hsh;obtain rfl:=hasAllW_nil h2;obtain⟨xs,rfl,h3⟩:=hasW_list h1;obtain⟨ns,rfl⟩:=items_int h3;have hlen:ns.length<=n:=by
  unfold OpenLaw.pre at hc;have h4:(WTm.not (.lt (.lit (.int (n:Int))) (.len (.arg 0)))).holds [] {args:=[.list (ns.map .int)]}=true:=by
   have h4:=(holds_andW hc).1;rw[hn]at h4;exact h4
  have h5:=condW_of h4 (w_not (w_lt w_lit (w_len_list (w_arg rfl))));rw[aM]at h5;refine Nat.le_of_not_lt fun q=> ?_;have q':(n:Int)<((ns.length:Nat):Int):=by omega
  first
   |(rw[cX q']at h5;exact absurd h5 (by decide))
   |(simp at h5;omega)
 cases hwl with
 |cons w1 w2=>
  cases w2;cases w1 with
  |list ho hall=>exact⟨_,_,ns,rfl,rfl,ho,ints_of_wellAll ns _ hall,hlen⟩
theorem post_true(l:OpenLaw)(args:List WData):l.row.toRowW.claim.post args (.bool true) args=true:=
 postW_of (r:=l.row.toRowW) (X:=(true==true))
  (show WShape.has [] (.bool true) .bool=true by first |rfl|decide|simp[WShape.has,WShape.arms,WShape.armsAll])
  (show(WTm.eq .res (.lit (.bool true))).value [] {args:=args,res:=some (.bool true),after:=args}=some (.bool (true==true))from w_eq_bool (w_res rfl) w_lit) rfl
theorem attach_call{l:OpenLaw}{n:Nat}{q:ξ}{loose:List Str}{XP:(L4)->Heap->Prop}{YP:τ->Heap->Prop}{d:DefRec}(hn:l.most=some n)(hdf:d.params.defaults=[])(call:∀(w:τ) (s₀ s₁:η) (mg mb:L4) (fa:Addr) (o:Obj) (pm cd doc:ζ) (a:Addr) (vs:List ζ) (ns:List Int),
   Ground q loose [] XP w s₀ mg mb s₁.heap->YP w s₁.heap->
   s₁.heap.get? fa=some o->o.data= .func (docDef d.name d.params d.body d.scope pm cd doc)->s₁.heap.CodeRec cd d.name->mg d.name=some (.ref fa)->
   s₁.heap.get? a=some {cls:= .type "list",data:= .seq vs.toArray}->IntsAre vs ns->ns.length<=n->s₁.gens=#[]->
   codeAny (model l.prog w) callerA (.call (.ref fa) ⟨[.ref a],[]⟩) (fun r s'=>r= .ok (.ret (.bool true))/\OldK s₁.heap s'.heap/\s'.os=s₁.os/\AllBare s'.gens) s₁):
  WalkO q loose XP YP l.row.toRowW d [] (fun f vs=>PySem.call f vs):=by
 intro w s₀ s₁ mg mb G Y fa o pm cd doc dV kV ho hd hcd hD hmg hg args vals as hpre hlay hrd hwl hlo;obtain rfl:dV= .none:=Dflts.none hD hdf;obtain rfl:kV= .none:=Dflts.noKw hD;obtain⟨a,vs,ns,rfl,rfl,hobj,hints,hlen⟩:=script_of hn hpre hwl;refine enter_call (Wa (call w s₀ s₁ mg mb fa o pm cd doc a vs ns G Y ho (fd_plain hd) hcd hmg hobj hints hlen hg) fun r s' hq=> ?_);obtain⟨rfl,h2,h3,h4⟩:=hq;exact⟨.inl ⟨.bool true,.bool true,[],rfl,fun _=>rfl,.bool true,post_true l _,fun _=>⟨List.Pairwise.nil,fun _ hm=>(nomatch hm)⟩⟩,h2,h3,h4⟩
end Att
namespace L2
open PySem PySem.Spec PyProof.Rows
theorem vals_ints:∀{vs:List ζ} {ns:List Int},IntsAre vs ns->Vals (ns.map V.int) vs
 |_,_,.nil=> .nil
 |_,_,.cons n t h=> .cons ⟨t,rfl⟩ (vals_ints h)
noncomputable def Only(H:Hp):Prop:=∀b,H b=none\/∃o xs,H b=some (.frz o (.lst xs))
theorem law_call{P:ξ}{w:τ}{K:W.Frag}{mg mb:L4}{CX:CXT}{k:Nat}{fa a:Addr}{fd:ρ}{x:Str}{sp:Sp}{s₁:η}{vs:List ζ}{ns:List Int}
  (KX:K.In s₁.heap)(hns:s₁.heap.Ns mainGlobals mg)(hb:s₁.heap.Ns builtinsNs mb)(hbb:∀x:Str,x≠"__name__"->mb x=bootBuiltins x)(hlim:s₁.heap.NoLimit)(hg:s₁.gens=#[])(ha:s₁.heap.get? a=some {cls:= .type "list",data:= .seq vs.toArray})(hi:IntsAre vs ns)(hl:ns.length<=sizeLine)(hr:Room k callerA)
  (F:∀base:Heap,K.In base->base.Ns mainGlobals mg->FnOk P w K mg base CX k fa fd [x] sp)(hbind:∀(s:η) (u:ζ),BindsTo s fd ⟨[u],[]⟩ [(x,u)])(hsp:∀H:Hp,Only H->SqL K H a (ns.map V.int)->sp [.ref a] H (fun v _=>v= .bl true) fun _ _ _=>False)(hCX:∀H e s',CX [] H s₁ (fun _ _ _=>False) e s'->False):
  codeAny (model P w) callerA (.call (.ref fa) ⟨[.ref a],[]⟩) (fun r s'=>r= .ok (.ret (.bool true))/\OldK s₁.heap s'.heap/\s'.os=s₁.os/\AllBare s'.gens) s₁:=by
 have rv:=vals_ints hi;have lenV:=hi.length
 -- from an abstract heap in which nothing but the script may be tracked
 have core:∀H:Hp,Only H->SqL K H a (ns.map V.int)->HOk P w H s₁.heap->(∀b,H b≠none->b=a)->(H a≠none->K.lookup a=none)->
   codeAny (model P w) callerA (.call (.ref fa) ⟨[.ref a],[]⟩) (fun r s'=>r= .ok (.ret (.bool true))/\OldK s₁.heap s'.heap/\s'.os=s₁.os/\AllBare s'.gens) s₁:=by
  intro H hO hS hok hA hK;have base_of:∀{b:Addr} {o:Obj},s₁.heap.get? b=some o->H b=none->(hidT s₁.heap H).get? b=some o:=fun e n=>hidT_get e n;have noA:∀{b:Addr} {o:Obj} {es:Array DictEntry} {ep:Nat},s₁.heap.get? b=some o->o.data= .dict es ep->H b=none:=fun{b o es ep} e d=>by
   cases q:H b with
   |none=>rfl
   |some u=>
    have e':b=a:=hA b (by rw[q];simp);subst e';rw[ha]at e;cases e;have d':Data.seq vs.toArray _=Data.dict es ep:=d;cases d'
  have nsK:∀{b:Addr} {m:L4},s₁.heap.Ns b m->(hidT s₁.heap H).Ns b m:=fun{b m} ⟨o,es,ep,e,d,r⟩=>⟨o,es,ep,base_of e (noA e d),d,r⟩;have hKb:K.In (hidT s₁.heap H):=fun b o e=>base_of (KX b o e) (by
   cases q:H b with
   |none=>rfl
   |some u=>
    have e':b=a:=hA b (by rw[q];simp);subst e';rw[hK (by rw[q];simp)]at e;cases e)
  have hM:Mod K mg (hidT s₁.heap H):=⟨hKb,nsK hns,⟨mb,nsK hb,hbb⟩,let⟨mc,h1,h2⟩:=hlim;⟨mc,nsK h1,h2⟩⟩;have e0:Env0 P w K mg (hidT s₁.heap H) callerA [] s₁ H:=⟨rfl,hM,fun b o e=>of_hidT e,Bk (hidT_size _ _),trivial,fun b hb=>absurd (show b∈([]:List Addr)from hb) (by simp),hok,.of_eq hg⟩;refine Wa ((F _ hKb (nsK hns)).run callerA [] s₁ H ⟨[.ref a],[]⟩ [.ref a] [.ref a] _ _ hr e0 (hbind s₁ (.ref a)) (.cons rfl .nil) (hsp H hO hS)) fun r s' h=> ?_;cases r with
  |error e=>exact(hCX H e s' h).elim
  |ok fl=>
   cases fl with
   |next=>exact False.elim h
   |brk=>exact False.elim h
   |cont=>exact False.elim h
   |ret u=>
    obtain⟨v,H',os,bare,un,hok',r',q⟩:=h;have q':v= .bl true:=q;subst q';obtain rfl:u=Value.bool true:=r';refine⟨rfl,OldK.of_keep fun b o e=> ?_,os,bare⟩;cases q:H b with
    |none=>exact un.keep b o e q (by intro z;exact absurd (show b∈([]:List Addr)from z) (by simp)) (by simp)
    |some u=>
     rcases hO b with z|⟨ob,xs,z⟩
     ·rw[q]at z;cases z
     ·have z2:=un.frzs b ob _ z;obtain⟨e1,_⟩:=hok b _ z;obtain⟨e2,_⟩:=hok' b _ z2;rw[e]at e1;cases e1;exact e2
 cases hk:K.lookup a with
 |some o=>
  -- the script is one of the module's own objects
  have e:=KX a o hk;rw[ha]at e;cases e;refine core (fun _=>none) (fun _=> .inl rfl) (.inr ⟨_,vs.toArray,_,hk,rfl,rfl,rfl,by rw[iH,lenV];exact hl,by simpa using rv⟩) (fun b u z=>by have z':(none:Option HO)=some u:=z;cases z') (fun b z=>absurd rfl z) fun z=>absurd rfl z
 |none=>
  refine core (fun b=>if b=a then some (.frz {cls:= .type "list",data:= .seq vs.toArray} (.lst (ns.map V.int)))else none) (fun b=> ?_) (.inl (.inr ⟨{cls:= .type "list",data:= .seq vs.toArray},aH rfl⟩)) (fun b u z=> ?_) (fun b z=> ?_) fun _=>hk
  ·by_cases hb:b=a
   ·exact .inr ⟨_,_,aH hb⟩
   ·exact .inl (aB hb)
  ·by_cases hb:b=a
   ·have z':=(aH hb).symm.trans z;cases z';subst hb;exact⟨ha,by rw[aM];exact hl,vs,_,rv,ha⟩
   ·have z':=(aB hb).symm.trans z;cases z'
  ·by_cases hb:b=a
   ·exact hb
   ·exact absurd (aB hb) z
theorem walk_of{l:PySem.W.OpenLaw}{n k:Nat}{q:ξ}{loose:List Str}{XP:(L4)->Heap->Prop}{YP:τ->Heap->Prop}{d:DefRec}{K:Params->PySem.W.Frag}{CX:τ->CXT}{sp:τ->Sp}{x:Str}(hn:l.most=some n)(hn2:n<=sizeLine)(hdf:d.params.defaults=[])(hr:Room k callerA)(hY:∀(w:τ) (h:Heap),YP w h->(K w.params).In h)
  (F:∀(w:τ) (mg:L4) (fa:Addr) (h:Heap),(K w.params).In h->h.Ns mainGlobals mg->mg d.name=some (.ref fa)->
   ∃fd:ρ,(∀(s:η) (u:ζ),BindsTo s fd ⟨[u],[]⟩ [(x,u)])/\
    ∀base:Heap,(K w.params).In base->base.Ns mainGlobals mg->FnOk l.prog w (K w.params) mg base (CX w) k fa fd [x] (sp w))(hsp:∀(w:τ) (H:Hp) (a:Addr) (ns:List Int),ns.length<=n->Only H->SqL (K w.params) H a (ns.map V.int)->sp w [.ref a] H (fun v _=>v= .bl true) fun _ _ _=>False)(hCX:∀(w:τ) (H:Hp) (s:η) (e:ζ) (s':η),CX w [] H s (fun _ _ _=>False) e s'->False):
  PySem.W.WalkO q loose XP YP l.row.toRowW d [] (fun f vs=>PySem.call f vs):=by
 refine Att.attach_call hn hdf fun w s₀ s₁ mg mb fa o pm cd doc a vs ns G Y ho hd hcd hmg hobj hints hlen hg=> ?_;have KX:=hY w _ Y;obtain⟨fd,hb,hF⟩:=F w mg fa _ KX G.T.g hmg;exact law_call KX G.T.g G.T.b G.T.builtins G.T.nolimit hg hobj hints (dD hlen hn2) hr hF hb (fun H hO hS=>hsp w H a ns hlen hO hS) fun H e s'=>hCX w H s₁ e s'
noncomputable def inClass(s:Stmt)(j:Nat):Stmt:=match s with
 | .ClassDef _ _ _ body _ _ _ _ _ _ _=>body.getD j (.Pass ⟨0,0,0,0⟩)
 |_=> .Pass ⟨0,0,0,0⟩
noncomputable def defArgs(s:Stmt):Arguments:=match s with
 | .FunctionDef _ a _ _ _ _ _ _ _ _=>a
 |_=>{posonlyargs:=[],args:=[],vararg:=none,kwonlyargs:=[],kw_defaults:=[],kwarg:=none,defaults:=[]}
noncomputable def defBody(s:Stmt):List Stmt:=match s with
 | .FunctionDef _ _ b _ _ _ _ _ _ _=>b
 |_=>[]
noncomputable def defScope(s:Stmt):Scope:=match s with
 | .FunctionDef _ _ _ _ _ _ sc _ _ _=>sc
 |_=>{kind:= .function,names:=[],isGenerator:=false,isCoroutine:=false}
noncomputable abbrev CX0:CXT:=fun _ _ _ _ _ _=>False
noncomputable abbrev E0:XK:=fun _ _ _=>False
theorem pass0{X:Cx}:Passes CX0 X E0:=fun _ _ _ _ _ _ _ h=>h.elim
structure Fun(K:W.Frag)(x qual:Str)(st:Stmt)(f:Addr)(fd:ρ):Prop where
 ex:∃(oc:ζ) (od:Option Addr) (kV doc pm:ζ) (an:Option Addr) (cdv ct:ζ) (osl:Array (Option ζ)),
  fd=PySem.W.fnOf x qual (defArgs st) (defBody st) (defScope st) .none kV doc pm an cdv ct/\K.lookup f=some ⟨oc,od,.func fd,osl⟩/\PySem.W.codeIn K cdv qual=true
 kp:PySem.W.keepIn K (.ref f)=true
section
variable{P:ξ}{w:τ}{K:W.Frag}{mg:L4}{base:Heap}
theorem Fun.ok{x qual:Str}{st:Stmt}{f:Addr}{fd:ρ}{N ps:List Str}{k:Nat}{sp:Sp}(F:Fun K x qual st f fd)(S:FnScope N ps (defScope st))(len:∀vs H Q E,sp vs H Q E->vs.length=ps.length)(hbody:∀(cdv:ζ) (A:Around) (outer:List Env) (s:η) (H:Hp) (vs:List V) (Q:VK) (E:XK),Room k (A.deeper (envOfC qual (defScope st) s.heap.objs.size f cdv))->sp vs H Q E->
   ∃t,PSs (cxOf CX0 P w K mg base N qual (defScope st) f cdv A outer s H E).nox (defBody st) t/\t {nx:=fun _ H'=>Q .non H',rt:=Q} (start N vs) H):FnOk P w K mg base CX0 (k+1) f fd ps sp:=by
 obtain⟨oc,od,kV,doc,pm,an,cdv,ct,osl,rfl,lk,hcd⟩:=F.ex;refine fn_of lk hcd S len fun A outer s H vs Q E hr hsp=> ?_;obtain⟨t,h,q⟩:=hbody cdv A outer s H vs Q E hr hsp;exact⟨t,h.nox,q⟩
theorem Fun.binds{x qual:Str}{st:Stmt}{f:Addr}{fd:ρ}{ps:List Str}(F:Fun K x qual st f fd)(h:∀(kV doc pm:ζ) (an:Option Addr) (cdv ct:ζ) (us:List ζ),us.length=ps.length->bindArgs (PySem.W.fnOf x qual (defArgs st) (defBody st) (defScope st) .none kV doc pm an cdv ct) ⟨us,[]⟩=pure (ps.zip us)):Binds K fd ps []:=by
 obtain⟨oc,od,kV,doc,pm,an,cdv,ct,osl,rfl,lk,hcd⟩:=F.ex;exact .all (h kV doc pm an cdv ct)
theorem fun_mk{x qual:Str}{st:Stmt}{f:Addr}{oc:ζ}{od an:Option Addr}{osl:Array (Option ζ)}{kV doc pm cdv ct:ζ}(l:K.lookup f=some ⟨oc,od,.func (PySem.W.fnOf x qual (defArgs st) (defBody st) (defScope st) .none kV doc pm an cdv ct),osl⟩)(c:PySem.W.codeIn K cdv qual=true)(k:PySem.W.keepIn K (.ref f)=true):Fun K x qual st f (PySem.W.fnOf x qual (defArgs st) (defBody st) (defScope st) .none kV doc pm an cdv ct):=⟨⟨oc,od,kV,doc,pm,an,cdv,ct,osl,rfl,l,c⟩,k⟩
end
theorem small1000{n:Nat}(h:n<=1000):n<sizeLine:=Ke h (by decide)
section
variable{X:Cx}
theorem pv(i:Nat){x:Str}{pos:Pos}(hN:X.N[i]? =some x:=by rfl)(hv:Vis X.env.scope x:=by first |exact Or.inl rfl|exact Or.inr (Or.inl rfl)|exact Or.inr (Or.inr rfl))(hd:(x==("__debug__":Str))=false:=by decide)(hcd:(x==("__classdict__":Str))=false:=by decide):PE X (.Name x pos) (tVar i):=pe_var hN hv hd hcd
end
theorem iteF{A B:Prop}(h:B):if false=true then A else B:=by
 rw[aB uU];exact h
theorem iteT{A B:Prop}(h:A):if true=true then A else B:=by
 rw[aH rfl];exact h
theorem ite2{c A B:Prop} [Decidable c](h1:c->A)(h2:¬c->B):if c then A else B:=by
 by_cases h:c
 ·rw[aH h];exact h1 h
 ·rw[aB h];exact h2 h
noncomputable def Same(H H':Hp):Prop:=∀b o,H b=some o->H' b=some o
theorem Same.refl(H:Hp):Same H H:=fun _ _ h=>h
theorem Same.trans{H H1 H2:Hp}(a:Same H H1)(b:Same H1 H2):Same H H2:=fun c o h=>b c o (a c o h)
theorem Same.free{H H':Hp}(e:Same H H'){l:Addr}(h:H' l=Option.none):H l=Option.none:=by
 cases q:H l with
 |none=>rfl
 |some o=>
  rw[e l o q]at h;cases h
theorem Same.seq{K:W.Frag}{H H':Hp}{a:Addr}{xs:List V}(e:Same H H')(h:SqL K H a xs):SqL K H' a xs:=by
 rcases h with(h|⟨o,h⟩)|h
 ·exact .inl (.inl (e _ _ h))
 ·exact .inl (.inr ⟨o,e _ _ h⟩)
 ·exact .inr h
end L2
set_option maxHeartbeats 4000000
namespace L2
open PySem PySem.Spec PyProof.Rows
noncomputable def lX(cells:List (Str×Addr)):List (Str×NameKind)->List (Str×Addr)->List (Str×Addr)
 |[],acc=>acc
 |p::r,acc=>lX cells r (if(p.2==NameKind.free)=true then(p.1,(cells.lookup p.1).getD 0)::acc else acc)
theorem pQ{cells:List (Str×Addr)}:∀{names:List (Str×NameKind)} {acc:List (Str×Addr)} {x:Str} {c:Addr},(x,c)∈lX cells names acc->(x,c)∈acc\/c=(cells.lookup x).getD 0/\(x,NameKind.free)∈names
 |[],_,_,_,h=> .inl h
 |(n,k)::r,acc,x,c,h=>by
  rcases pQ (names:=r) h with q|⟨q,m⟩
  ·dsimp only at q;split at q
   ·rename_i hk;rcases cZ.mp q with e|e
    ·cases e;have:k=NameKind.free:=by simpa using hk
     subst this;exact .inr ⟨rfl,jG⟩
    ·exact .inl e
   ·exact .inl q
  ·exact .inr ⟨q,jW _ m⟩
theorem Ak{cells:List (Str×Addr)}:∀{names:List (Str×NameKind)} {acc:List (Str×Addr)} {p:Str×Addr},p∈acc->p∈lX cells names acc
 |[],_,_,h=>h
 |(n,k)::r,acc,p,h=>by
  refine Ak (names:=r) ?_;split
  ·exact jW _ h
  ·exact h
theorem Aj{cells:List (Str×Addr)}:∀{names:List (Str×NameKind)} {acc:List (Str×Addr)} {x:Str},(x,NameKind.free)∈names->∃c,(x,c)∈lX cells names acc
 |(n,k)::r,acc,x,h=>by
  rcases cZ.mp h with e|e
  ·cases e;refine⟨(cells.lookup n).getD 0,Ak (names:=r) ?_⟩;rw[aH (show(NameKind.free==NameKind.free)=true from rfl)];exact jG
  ·exact Aj (names:=r) e
theorem zbq{β:Type}:∀{l:List (Str×β)} {x:Str} {c:β},(x,c)∈l->∃d,l.lookup x=some d/\(x,d)∈l
 |(n,k)::r,x,c,h=>by
  cases hx:x==n with
  |true=>
   have e:x=n:=by simpa using hx
   subst e;exact⟨k,by simp[Kc],jG⟩
  |false=>
   rcases cZ.mp h with e|e
   ·cases e;simp at hx
   ·obtain⟨d,h1,h2⟩:=zbq e;exact⟨d,by simp only[Kc,hx];exact h1,jW _ h2⟩
theorem uH{scope:Scope}{env:Env}(h:∀x,(x,NameKind.free)∈scope.names->∃c,env.cells.lookup x=some c):closureFor scope env=pure (lX env.cells scope.names []):=by
 have key:∀(names:List (Str×NameKind)) (acc:List (Str×Addr)),(∀x,(x,NameKind.free)∈names->∃c,env.cells.lookup x=some c)->
   (forIn names acc fun(x:Str×NameKind) (cs:List (Str×Addr))=>if(x.2==NameKind.free)=true then(do let y<-cellOf env x.1;pure (ForInStep.yield ((x.1,y)::cs)))else pure (ForInStep.yield cs):Sem (List (Str×Addr)))=pure (lX env.cells names acc):=by
  intro names
  induction names with
  |nil=>intro acc _;rfl
  |cons p r ih=>
   intro acc hh;obtain⟨n,k⟩:=p;rw[List.forIn_cons];dsimp only;by_cases hk:(k==NameKind.free)=true
   ·have e:k=NameKind.free:=by simpa using hk
    subst e;obtain⟨c,hc⟩:=hh n jG;rw[aH hk];unfold cellOf;rw[hc];simp only[pure_bind];refine Eq.trans (ih _ fun x hx=>hh x (jW _ hx)) ?_;show _=pure (lX env.cells r (if(NameKind.free==NameKind.free)=true then(n,(env.cells.lookup n).getD 0)::acc else acc));rw[aH hk,hc];rfl
   ·rw[aB hk];simp only[pure_bind];refine Eq.trans (ih _ fun x hx=>hh x (jW _ hx)) ?_;show _=pure (lX env.cells r (if(k==NameKind.free)=true then(n,(env.cells.lookup n).getD 0)::acc else acc));rw[aB hk]
 have q:=key scope.names [] h;unfold closureFor;simp only[bind_pure];exact q
theorem nM{env:Env}:∀{names:List (Str×NameKind)} {x:Str} {k:NameKind},names.lookup x=some k->
  (names.map fun(n,k)=>if(k==NameKind.free&&env.scope.kind== .function&&env.kindOf n==some .cell)then(n,NameKind.cell)else(n,k)).lookup x=some (if(k==NameKind.free&&env.scope.kind== .function&&env.kindOf x==some .cell)=true then .cell else k)
 |[],_,_,h=>by simp at h
 |(n,k)::r,x,k',h=>by
  have ih:= @nM env r x k';show List.lookup x ((if(k==NameKind.free&&env.scope.kind== .function&&env.kindOf n==some .cell)=true then(n,NameKind.cell)else(n,k))::_)=_;cases hx:x==n with
  |true=>
   have e:x=n:=by simpa using hx
   subst e;simp only[Kc,hx]at h;cases h;by_cases hc:(k==NameKind.free&&env.scope.kind== .function&&env.kindOf x==some .cell)=true
   ·rw[aH hc,aH hc];simp[Kc]
   ·rw[aB hc,aB hc];simp[Kc]
  |false=>
   simp only[Kc,hx]at h;by_cases hc:(k==NameKind.free&&env.scope.kind== .function&&env.kindOf n==some .cell)=true
   ·rw[aH hc];simp only[Kc,hx];exact ih h
   ·rw[aB hc];simp only[Kc,hx];exact ih h
theorem tU{env:Env}:∀{names:List (Str×NameKind)} {x:Str},names.lookup x=none->
  (names.map fun(n,k)=>if(k==NameKind.free&&env.scope.kind== .function&&env.kindOf n==some .cell)then(n,NameKind.cell)else(n,k)).lookup x=none
 |[],_,_=>rfl
 |(n,k)::r,x,h=>by
  have ih:= @tU env r x;show List.lookup x ((if(k==NameKind.free&&env.scope.kind== .function&&env.kindOf n==some .cell)=true then(n,NameKind.cell)else(n,k))::_)=_;cases hx:x==n with
  |true=>simp only[Kc,hx]at h;cases h
  |false=>
   simp only[Kc,hx]at h;by_cases hc:(k==NameKind.free&&env.scope.kind== .function&&env.kindOf n==some .cell)=true
   ·rw[aH hc];simp only[Kc,hx];exact ih h
   ·rw[aB hc];simp only[Kc,hx];exact ih h
theorem Ca{scope:Scope}{env:Env}{x:Str}(h:scope.names.lookup x=some .free):(relabel scope env).names.lookup x=some .cell\/(relabel scope env).names.lookup x=some .free:=by
 have q:=nM (env:=env) h;by_cases hc:((NameKind.free==NameKind.free)&&env.scope.kind== .function&&env.kindOf x==some .cell)=true
 ·rw[aH hc]at q;exact .inl q
 ·rw[aB hc]at q;exact .inr q
inductive jE(X:Cx)(scope:Scope):List Str->List Nat->Prop
 |nil:jE X scope [] []
 |cons {x:Str} {j:Nat} {xs:List Str} {js:List Nat} (hN:X.N[j]? =some x) (hf:scope.names.lookup x=some .free) (t:jE X scope xs js):jE X scope (x::xs) (j::js)
theorem jE.get{X:Cx}{scope:Scope}:∀{xs:List Str} {js:List Nat} {k:Nat} {x:Str},jE X scope xs js->xs[k]? =some x->∃j,js[k]? =some j/\X.N[j]? =some x/\scope.names.lookup x=some .free
 |_,_,k,x,.nil,h=>by simp at h
 |_,_,0,x,.cons h1 h2 _,h=>by simp at h;subst h;exact⟨_,rfl,h1,h2⟩
 |_,_,k+1,x,.cons _ _ t,h=>by
  obtain⟨j,a,b⟩:=jE.get (k:=k) t (by simpa using h);exact⟨j,by simpa using a,b⟩
theorem jE.len{X:Cx}{scope:Scope}:∀{xs:List Str} {js:List Nat},jE X scope xs js->xs.length=js.length
 |_,_,.nil=>rfl
 |_,_,.cons _ _ t=>by simp[jE.len t]
noncomputable def zR(own:List Str)(ix:List Nat)(σ:St):St:=own.map (fun _=>none)++ix.map fun j=>(σ[j]?).join
noncomputable def VG(X:Cx)(ifs:List Expr)(t:TT):Prop:=
 ∀(pins:L1) (s:η) (σ:St) (H:Hp) (Q:Bool->Hp->Prop),Inv X pins σ H s->t σ H Q->
  wpAny (model X.prog X.w) X.A (forIn ifs true fun c r=>if r=true then do let ok<-isTrue c X.env (eval c X.env);pure (ForInStep.yield ok)else pure (ForInStep.yield r)) (TP X pins σ Q) X.xe s
theorem sX{X:Cx}:VG X [] (fun _ H Q=>Q true H):=fun _ _ _ H _ I h=>wpAny_tests_nil ⟨H,I,h⟩
theorem HW{X:Cx}{c:Expr}{t:TT}(h:PT X c t):VG X [c] t:=fun pins s σ H Q I hq=>wpAny_tests_one (h pins s σ H Q I hq)
theorem HOk.add{P:ξ}{w:τ}{H:Hp}{h:Heap}{a:Addr}{o:HO}(x:HOk P w H h)(hn:H a=none)(new:ObjOk P w (upd H a o) h a o):HOk P w (upd H a o) h:=fun b u e=>by
 by_cases hb:b=a
 ·subst hb;rw[au]at e;cases e;exact new
 ·rw[cG hb]at e;exact(x b u e).stay (fun c v _ q=>q) (fun c q=>by rw[cG (oH q hn)];exact q) fun c xs q=>by rw[cG (oH q hn)];exact q
theorem Un.add{fs ex:List Addr}{H H':Hp}{h h':Heap}{a:Addr}{o:HO}(u:Un fs ex H H' h h')(ha:h.objs.size<=a)(hn:H' a=none):Un fs ex H (upd H' a o) h h' where
 keep:=u.keep
 slot:=u.slot
 free:=fun b ob q n hx=>by rw[cG (jh (jY (fW q) ha))];exact u.free b ob q n hx
 there:=u.there
 tups:=fun b xs q=>by have:=u.tups b xs q;rw[cG (oH this hn)];exact this
 frzs:=fun b ob xs q=>by have:=u.frzs b ob xs q;rw[cG (oH this hn)];exact this
 tbls:=fun b ps q=>by obtain⟨m,e⟩:=u.tbls b ps q;exact⟨m,by rw[cG (oH e hn)];exact e⟩
noncomputable def Bb(J:It)(ini:St)(H:Hp)(g:TG)(tc:TT)(te:TE)(Fin:List V->Hp->Prop):Prop:=
 ∃W:Nat->Nat->List V->St->Hp->Prop,(∃m,W 0 m [] ini H)/\∀i m acc σ H,W i m acc σ H->
  (J.stop i H/\acc.length<=sizeLine/\Fin acc H)\/(J.go i H/\acc.length<sizeLine/\∃N:List V->St->Hp->Prop,(∀acc' σ' H',N acc' σ' H'->∃m',m'<m/\W (i+1) m' acc' σ' H')/\∀x H',J.yld i H x H'->g x σ H' fun σ2 H2=>tc σ2 H2 fun b H3=>
   if b=true then te σ2 H3 fun v H4=>N (acc++[v]) σ2 H4 else N acc σ2 H3)
noncomputable def FN(wi:TI)(own:List Str)(ix:List Nat)(g:TG)(tc:TT)(te:TE):TE:=fun σ H Q=>wi σ H fun J H1=>
 Bb J (zR own ix σ) H1 g tc te fun acc H'=>∀p,H' p=none->Q (.ref p) (upd H' p (.lst acc))
section
variable{K:W.Frag}{a:Addr}{xs:List V}{g:TG}{tc:TT}{te:TE}{Fin:List V->Hp->Prop}{ini:St}{H:Hp}
theorem J0(Pv:Nat->List V->St->Hp->Prop)(h0:Pv 0 [] ini H)(hl:∀(i:Nat) acc σ H,i<=xs.length->Pv i acc σ H->SqL K H a xs)(hz:∀(i:Nat) acc σ H,i<=xs.length->Pv i acc σ H->acc.length<=i)(hx:xs.length<=sizeLine)(hs:∀(i:Nat) x acc σ H,xs[i]? =some x->Pv i acc σ H->g x σ H fun σ2 H2=>tc σ2 H2 fun b H3=>if b=true then te σ2 H3 fun v H4=>Pv (i+1) (acc++[v]) σ2 H4 else Pv (i+1) acc σ2 H3)(hd:∀acc σ H,Pv xs.length acc σ H->Fin acc H):Bb (Itl K a) ini H g tc te Fin:=by
 refine⟨fun i m acc σ H=>m=xs.length-i/\i<=xs.length/\Pv i acc σ H,⟨xs.length,by simp,dF _,h0⟩,?_⟩;rintro i m acc σ H ⟨rfl,hi,p⟩;have q:=hl i acc σ H hi p;have z:=hz i acc σ H hi p;by_cases hlt:i<xs.length
 ·refine .inr ⟨⟨xs,xs[i],q,by simp[hlt]⟩,by omega,fun acc σ H=>Pv (i+1) acc σ H,fun acc' σ' H' r=>⟨_,by omega,rfl,hlt,r⟩,fun x H' y=> ?_⟩;obtain⟨e,y⟩:=y;subst e;exact hs i x acc σ _ (y xs q) p
 ·have e:i=xs.length:=by omega
  subst e;exact .inl ⟨⟨xs,q,aW _⟩,by omega,hd acc σ H p⟩
theorem JZ(Pv:Nat->List V->St->Hp->Prop)(h0:Pv 0 [] ini H)(hl:∀(i:Nat) acc σ H,i<=xs.length->Pv i acc σ H->SqT K H a xs)(hz:∀(i:Nat) acc σ H,i<=xs.length->Pv i acc σ H->acc.length<=i)(hx:xs.length<=sizeLine)(hs:∀(i:Nat) x acc σ H,xs[i]? =some x->Pv i acc σ H->g x σ H fun σ2 H2=>tc σ2 H2 fun b H3=>if b=true then te σ2 H3 fun v H4=>Pv (i+1) (acc++[v]) σ2 H4 else Pv (i+1) acc σ2 H3)(hd:∀acc σ H,Pv xs.length acc σ H->Fin acc H):Bb (Itt K a) ini H g tc te Fin:=by
 refine⟨fun i m acc σ H=>m=xs.length-i/\i<=xs.length/\Pv i acc σ H,⟨xs.length,by simp,dF _,h0⟩,?_⟩;rintro i m acc σ H ⟨rfl,hi,p⟩;have q:=hl i acc σ H hi p;have z:=hz i acc σ H hi p;by_cases hlt:i<xs.length
 ·refine .inr ⟨⟨xs,xs[i],q,by simp[hlt]⟩,by omega,fun acc σ H=>Pv (i+1) acc σ H,fun acc' σ' H' r=>⟨_,by omega,rfl,hlt,r⟩,fun x H' y=> ?_⟩;obtain⟨e,y⟩:=y;subst e;exact hs i x acc σ _ (y xs q) p
 ·have e:i=xs.length:=by omega
  subst e;exact .inl ⟨⟨xs,q,aW _⟩,by omega,hd acc σ H p⟩
theorem UL{lo:Int}{n:Nat}(Pv:Nat->List V->St->Hp->Prop)(h0:Pv 0 [] ini H)(hz:∀(i:Nat) acc σ H,i<=n->Pv i acc σ H->acc.length<=i)(hx:n<=sizeLine)(hs:∀(i:Nat) acc σ H,i<n->Pv i acc σ H->g (.int (lo+i)) σ H fun σ2 H2=>tc σ2 H2 fun b H3=>if b=true then te σ2 H3 fun v H4=>Pv (i+1) (acc++[v]) σ2 H4 else Pv (i+1) acc σ2 H3)(hd:∀acc σ H,Pv n acc σ H->Fin acc H):Bb (Itr lo n) ini H g tc te Fin:=by
 refine⟨fun i m acc σ H=>m=n-i/\i<=n/\Pv i acc σ H,⟨n,by simp,dF _,h0⟩,?_⟩;rintro i m acc σ H ⟨rfl,hi,p⟩;have z:=hz i acc σ H hi p;by_cases hlt:i<n
 ·refine .inr ⟨hlt,by omega,fun acc σ H=>Pv (i+1) acc σ H,fun acc' σ' H' r=>⟨_,by omega,rfl,hlt,r⟩,fun x H' y=> ?_⟩;obtain⟨e,y⟩:=y;subst e y;exact hs i acc σ _ hlt p
 ·have e:i=n:=by omega
  subst e;exact .inl ⟨aW _,by omega,hd acc σ H p⟩
end
end L2
namespace uJ
open PySem PySem.W PyProof.Rows
section
variable{O:KeyOrd}{key:Nat->O.α}{N:Nat}{cmp:Nat->Nat->(Bool->η->Prop)->η->Prop}{s:η}
noncomputable def lG(O:KeyOrd)(key:Nat->O.α)(N:Nat)(cmp:Nat->Nat->(Bool->η->Prop)->η->Prop)(s:η):Prop:=
 ∀i j (C:Bool->η->Prop),i<N->j<N->C (O.blt (key i) (key j)) s->cmp i j C s
noncomputable def KN(key:Nat->O.α)(p:Array Nat)(i:Nat):O.α:=key (p.getD i 0)
noncomputable def So(key:Nat->O.α)(p:Array Nat)(k:Nat):Prop:=∀i j,i<=j->j<k->O.kle (KN key p i) (KN key p j)
noncomputable def Ni(key:Nat->O.α)(p:Array Nat)(k:Nat):Prop:=∀i j,i<=j->j<k->O.kle (KN key p j) (KN key p i)
structure Ord(N:Nat)(p:Array Nat):Prop where
 perm:p.Perm (List.toArray (List.range N))
theorem Ord.size{p:Array Nat}(h:Ord N p):p.size=N:=by have:=h.perm.size_eq;simpa using this
theorem Ord.lt{p:Array Nat}(h:Ord N p){i:Nat}(hi:i<N):p.getD i 0<N:=by
 have hi':i<p.size:=by rw[h.size];exact hi
 have e:p.getD i 0=p[i]:=by simp[Array.getD,hi']
 rw[e];have m:p[i]∈p.toList:=by simp
 have:=(ydo.mp h.perm).mem_iff.mp m;simpa using this
theorem Ord.rev{p:Array Nat}(h:Ord N p)(i j:Nat):Ord N (kas_rev p i j):=⟨(mirror_perm _ _ _ _).trans h.perm⟩
theorem Ord.bub{p:Array Nat}(h:Ord N p)(i j:Nat):Ord N (bubble p i j):=⟨(bubble_perm _ _ _).trans h.perm⟩
theorem uE(p:Array Nat)(i:Nat):p.getD i 0=(p[i]?).getD 0:=by simp
theorem Fb{p:Array Nat}{i j:Nat}(hj:j<=p.size)(k:Nat):KN key (kas_rev p i j) k=if i<=k/\k<j then KN key p (i+j-1-k)else KN key p k:=by
 have e:=getElem?_mirror_all (i:=i) hj k;unfold KN kas_rev;rw[uE,e];split
 ·rw[uE]
 ·rw[uE]
theorem Zn{p:Array Nat}{i j:Nat}(hj:j<=p.size)(heq:∀k,i<=k->k<j->KN key p k=KN key p (j-1))(k:Nat):KN key (kas_rev p i j) k=KN key p k:=by
 rw[Fb hj];split
 ·rename_i h;rw[heq k h.1 h.2,heq _ (by omega) (by omega)]
 ·rfl
theorem Qx{p:Array Nat}{src d:Nat}(hs:src<p.size)(hd:d<=src)(k:Nat):KN key (bubble p src d) k=if k=src-d then KN key p src else if src-d<k/\k<=src then KN key p (k-1)else KN key p k:=by
 have e:=getElem?_bubble hs d hd k;have q:KN key (bubble p src d) k=key (((bubble p src d)[k]?).getD 0):=jX key (uE _ _);have q2:∀i,KN key p i=key ((p[i]?).getD 0):=fun i=>jX key (uE _ _);rw[q,e,q2,q2,q2];by_cases h1:k=src-d
 ·rw[aH h1,aH h1]
 ·rw[aB h1,aB h1];by_cases h2:src-d<k/\k<=src
  ·rw[aH h2,aH h2]
  ·rw[aB h2,aB h2]
theorem GQ{i j:Nat}(h:i<=j)(hn:¬i=j):i<=j-1:=ydq (U5 h hn)
theorem DW{j n:Nat}(h:j<n+1)(hn:¬j<n):j=n:=V2 (U3 h) (Nat.not_lt.mp hn)
theorem j9{x k:Nat}(h:1<=x)(hk:x<=k):x-1<k:=ZL h hk
theorem CG{x f N:Nat}(h:x+(f+1)<=N):x<N:=jY (Nat.lt_add_of_pos_right (yj f)) h
theorem wz{x f N:Nat}(h:x+(f+1)<=N):x+1+f<=N:=dD (Bk (ydc x f)) h
theorem Vg{x f m:Nat}(h:m<=x+1+f):m<=x+(f+1):=dD h (Bk (ydc x f))
theorem Wy{i j n:Nat}(h:i<=j):0+n-1-j<=0+n-1-i:=Nat.sub_le_sub_left h _
theorem Wx{i n:Nat}(h:i<n):0+n-1-i<n:=by
 rw[Nat.zero_add];exact Ke (wfa _ _) (ZL (Ke (dF _) h) (aW _))
theorem asc(ok:lG O key N cmp s){p:Array Nat}(hp:Ord N p){Q:Nat->η->Prop}:∀(f n:Nat),1<=n->n+f<=N->So key p n->(∀m,n<=m->m<=n+f->So key p m->(m=n+f\/O.klt (KN key p m) (KN key p (m-1)))->Q m s)->(kas_asc p f n).kasWp cmp Q s
 |0,n,_,_,hs,h=>h n (aW _) (aW _) hs (.inl rfl)
 |f+1,n,h1,hn,hs,h=>by
  have XH:n<N:=CG hn;refine ok _ _ _ (hp.lt XH) (hp.lt (j9 h1 (cY XH))) ?_;cases hless:O.blt (key (p.getD n 0)) (key (p.getD (n-1) 0))with
  |true=>
   show Q n s;exact h n (aW _) (Nat.le_add_right _ _) hs (.inr hless)
  |false=>
   show(kas_asc p f (n+1)).kasWp cmp Q s;refine asc ok hp f (n+1) (yj _) (wz hn) (fun i j hij hj=> ?_) fun m a b c d=>h m (wdp a) (Vg b) c (d.imp (fun z=>z.trans (ydc n f)) id);by_cases hjn:j<n
   ·exact hs i j hij hjn
   ·have hj':j=n:=DW hj hjn;subst hj';by_cases hi':i=j
    ·subst hi';exact Rh _
    ·exact wcm (hs i (j-1) (GQ hij hi') (j9 h1 (aW _))) hless
theorem tail3(ok:lG O key N cmp s){p:Array Nat}(hp:Ord N p){n:Nat}{Q:Nat×Array Nat->η->Prop}(h1:1<=n)(hn:n<=N)(hs:Ni key p n)(h:∀m p',Ord N p'->1<=m->m<=N->So key p' m->Q (m,p') s):(kas_tail3 n N p).kasWp cmp Q s:=by
 unfold kas_tail3;rw[Z8];have hsz:n<=p.size:=by rw[hp.size];exact hn
 have hN:n+(N-n)=N:=wcw hn;refine asc ok (hp.rev 0 n) (N-n) n h1 (Bk hN) (fun i j hij hj=> ?_) fun m a b c _=>h m _ (hp.rev 0 n) (dD h1 a) (dD b (Bk hN)) c;rw[Fb hsz,Fb hsz,aH ⟨dF _,Ke hij hj⟩,aH ⟨dF _,hj⟩];exact hs _ _ (Wy hij) (Wx (Ke hij hj))
theorem Qk{p p':Array Nat}{x:Nat}(h1:1<=x)(hs:Ni key p x)(hless:O.kle (KN key p x) (KN key p (x-1)))(hk:∀k,KN key p' k=KN key p k):Ni key p' (x+1):=by
 intro i j hij hj;rw[hk,hk];by_cases hjx:j<x
 ·exact hs i j hij hjx
 ·have hj':j=x:=DW hj hjx;subst hj';by_cases hi':i=j
  ·subst hi';exact Rh _
  ·exact wcm hless (hs i (j-1) (GQ hij hi') (j9 h1 (aW _)))
theorem one_eq{p:Array Nat}{x i:Nat}(h1:x+1-(0+1)<=i)(h2:i<x+1):KN key p i=KN key p (x+1-1):=jX _ (V2 (U3 h2) h1)
theorem desc(ok:lG O key N cmp s){Q:Array Nat×Nat×Nat->η->Prop}:∀(f:Nat) (p:Array Nat) (x neq:Nat),Ord N p->1<=x->x+f<=N->Ni key p x->neq+1<=x->(∀i,x-(neq+1)<=i->i<x->KN key p i=KN key p (x-1))->
  (∀p' m q,Ord N p'->x<=m->m<=x+f->Ni key p' m->q+1<=m->(∀i,m-(q+1)<=i->i<m->KN key p' i=KN key p' (m-1))->Q (p',m,q) s)->(kas_desc f p x neq).kasWp cmp Q s
 |0,p,x,neq,hp,_,_,hs,hq,he,h=>h p x neq hp (aW _) (aW _) hs hq he
 |f+1,p,x,neq,hp,h1,hn,hs,hq,he,h=>by
  have hxN:x<N:=CG hn;have hsz:x<=p.size:=by rw[hp.size];exact cY hxN
  have hx1:x-1<N:=j9 h1 (cY hxN);have hh:∀p' m q,Ord N p'->x+1<=m->m<=x+1+f->Ni key p' m->q+1<=m->(∀i,m-(q+1)<=i->i<m->KN key p' i=KN key p' (m-1))->Q (p',m,q) s:=fun p' m q a b c d e g=>h p' m q a (wdp b) (Vg c) d e g;refine ok _ _ _ (hp.lt hxN) (hp.lt hx1) ?_;cases hless:O.blt (key (p.getD x 0)) (key (p.getD (x-1) 0))with
  |true=>
   show(if neq>0 then kas_desc f (kas_rev p (x-(neq+1)) x) (x+1) 0 else kas_desc f p (x+1) 0).kasWp cmp Q s;by_cases hneq:neq>0
   ·rw[aH hneq];exact desc ok f _ (x+1) 0 (hp.rev _ _) (yj _) (wz hn) (Qk h1 hs (wbo hless) (Zn hsz he)) (yj _) (fun i h1 h2=>one_eq h1 h2) hh
   ·rw[aB hneq];exact desc ok f _ (x+1) 0 hp (yj _) (wz hn) (Qk h1 hs (wbo hless) fun _=>rfl) (yj _) (fun i h1 h2=>one_eq h1 h2) hh
  |false=>
   show(KasT.ask (p.getD (x-1) 0) (p.getD x 0) fun d=>if d=true then KasT.ret (p,x,neq)else kas_desc f p (x+1) (neq+1)).kasWp cmp Q s;refine ok _ _ _ (hp.lt hx1) (hp.lt hxN) ?_;cases hl:O.blt (key (p.getD (x-1) 0)) (key (p.getD x 0))with
   |true=>exact h p x neq hp (aW _) (Nat.le_add_right _ _) hs hq he
   |false=>
    show(kas_desc f p (x+1) (neq+1)).kasWp cmp Q s;have heqx:KN key p x=KN key p (x-1):=KeyOrd.kle_antisymm hl hless;refine desc ok f _ (x+1) (neq+1) hp (yj _) (wz hn) (Qk h1 hs (by rw[heqx];exact Rh _) fun _=>rfl) (wcn hq) (fun i h1 h2=> ?_) hh;show KN key p i=KN key p x;by_cases hix:i=x
    ·subst hix;rfl
    ·rw[heqx];exact he i (dD (Bk (Nat.succ_sub_succ x (neq+1)).symm) h1) (U5 (U3 h2) hix)
theorem descPart(ok:lG O key N cmp s){p:Array Nat}(hp:Ord N p){n:Nat}{Q:Nat×Array Nat->η->Prop}(hn:n+1<=N)(hs:Ni key p (n+1))(h:∀m p',Ord N p'->1<=m->m<=N->So key p' m->Q (m,p') s):(kas_descPart n N p).kasWp cmp Q s:=by
 unfold kas_descPart;rw[Z8];have hN:n+1+(N-(n+1))<=N:=Bk (wcw hn);refine desc ok _ _ _ _ hp (yj _) hN hs (yj _) (fun i h1 h2=>one_eq h1 h2) fun p' m q a b c d e g=> ?_;have hm:m<=N:=dD c hN;have hm1:1<=m:=dD (yj _) b;have hsz:m<=p'.size:=by rw[a.size];exact hm
 dsimp only;by_cases hq:q>0
 ·rw[aH hq];refine tail3 ok (a.rev _ _) hm1 hm (fun i j hij hj=> ?_) h;rw[Zn hsz g,Zn hsz g];exact d i j hij hj
 ·rw[aB hq];exact tail3 ok a hm1 hm d h
theorem count(ok:lG O key N cmp s){p:Array Nat}(hp:Ord N p){Q:Nat×Array Nat->η->Prop}(h1:1<=N)(h:∀m p',Ord N p'->1<=m->m<=N->So key p' m->Q (m,p') s):(kas_count N p).kasWp cmp Q s:=by
 unfold kas_count;rw[Z8];have hN:1+(N-1)=N:=wcw h1;refine asc ok hp (N-1) 1 (aW _) (Bk hN) (fun i j hij hj=>by
  have hj0:j=0:=Nat.lt_one_iff.mp hj;subst hj0;have hi0:i=0:=Nat.le_zero.mp hij;subst hi0;exact Rh _) fun n a b hsn hor=> ?_
 have XH:n<=N:=dD b (Bk hN);by_cases hnn:n=N
 ·rw[aH (by simpa using hnn)];exact h n p hp a XH hsn
 ·rw[aB (by simpa using hnn)];have hlt:O.klt (KN key p n) (KN key p (n-1)):=hor.resolve_left fun z=>hnn (z.trans hN);have QS:n<N:=U5 XH hnn;by_cases hgt:n>1
  ·rw[aH hgt];have hn1:n-1<n:=j9 a (aW _);refine ok _ _ _ (hp.lt h1) (hp.lt (Ra hn1 QS)) ?_;cases hrose:O.blt (key (p.getD 0 0)) (key (p.getD (n-1) 0))with
   |true=>exact h n p hp a XH hsn
   |false=>
    show(kas_descPart n N (kas_rev p 0 n)).kasWp cmp Q s;have hsz:n<=p.size:=by rw[hp.size];exact XH
    have hall:∀k,0<=k->k<n->KN key p k=KN key p (n-1):=fun k _ hk=>
     KeyOrd.kle_antisymm (hsn k (n-1) (ydq hk) hn1) (wcm hrose (hsn 0 k (dF _) hk))
    refine descPart ok (hp.rev 0 n) QS (fun i j hij hj=> ?_) h;rw[Zn hsz hall,Zn hsz hall];by_cases hjn:j<n
    ·rw[hall i (dF _) (Ke hij hjn),hall j (dF _) hjn];exact Rh _
    ·have hj':j=n:=DW hj hjn;subst hj';by_cases hi':i=j
     ·subst hi';exact Rh _
     ·rw[hall i (dF _) (U5 hij hi')];exact wbo hlt
  ·rw[aB hgt];have hn1':n=1:=V2 (Nat.not_lt.mp hgt) a;subst hn1';refine descPart ok hp QS (fun i j hij hj=> ?_) h;by_cases hi':i=j
   ·subst hi';exact Rh _
   ·have hij':i<j:=U5 hij hi';have hj1:j=1:=V2 (U3 hj) (Ke (dF i) hij');subst hj1;have hi0:i=0:=Nat.lt_one_iff.mp hij';subst hi0;exact wbo hlt
theorem half_lt{l r:Nat}(h:l<r):(l+r)/2<r:=by omega
theorem TQ{l r:Nat}(h:l<r):l<=(l+r)/2:=by omega
theorem place(ok:lG O key N cmp s){p:Array Nat}(hp:Ord N p){k:Nat}{Q:Nat->η->Prop}(hk:k<N)(hs:So key p k):∀(f l r:Nat),l<=r->r<=k->r-l<=f->(∀i,i<l->O.kle (KN key p i) (KN key p k))->(∀i,r<=i->i<k->O.klt (KN key p k) (KN key p i))->
  (∀l,l<=k->(∀i,i<l->O.kle (KN key p i) (KN key p k))->(∀i,l<=i->i<k->O.klt (KN key p k) (KN key p i))->Q l s)->(kas_place p k f l r).kasWp cmp Q s
 |0,l,r,hlr,hrk,hm,hlo,hhi,h=>by
  have e:l=r:=V2 hlr (Nat.sub_eq_zero_iff_le.mp (Nat.le_zero.mp hm));subst e;exact h l hrk hlo hhi
 |f+1,l,r,hlr,hrk,hm,hlo,hhi,h=>by
  show(if l≥r then KasT.ret l else KasT.ask (p.getD k 0) (p.getD ((l+r)/2) 0) fun c=>if c=true then kas_place p k f l ((l+r)/2)else kas_place p k f ((l+r)/2+1) r).kasWp cmp Q s;by_cases hge:l≥r
  ·rw[aH hge];have e:l=r:=V2 hlr hge;subst e;exact h l hrk hlo hhi
  ·rw[aB hge];have hc:(l+r)/2<r:=half_lt (Nat.not_le.mp hge);have hd:l<=(l+r)/2:=TQ (Nat.not_le.mp hge);generalize (l+r)/2=c at hc hd⊢;refine ok _ _ _ (hp.lt hk) (hp.lt (Ra (jY hc hrk) hk)) ?_;cases hless:O.blt (key (p.getD k 0)) (key (p.getD c 0))with
   |true=>
    refine place ok hp hk hs f l c hd (cY (jY hc hrk)) (U3 (jY (Nat.sub_lt_sub_right hd hc) hm)) hlo (fun i h1 h2=> ?_) h;by_cases hi:i=c
    ·subst hi;exact hless
    ·exact KeyOrd.klt_of_klt_of_kle hless (hs c i h1 h2)
   |false=>
    refine place ok hp hk hs f (c+1) r hc hrk (U3 (jY (Nat.sub_lt_sub_left (Ke hd hc) (Nat.lt_succ_of_le hd)) hm)) (fun i h1=> ?_) hhi h;by_cases hi:i=c
    ·subst hi;exact hless
    ·exact wcm (hs i c (U3 h1) (jY hc hrk)) hless
theorem aa8{p:Array Nat}{k l:Nat}(hs:So key p k)(hl:l<=k)(hsz:k<p.size)(hlo:∀i,i<l->O.kle (KN key p i) (KN key p k))(hhi:∀i,l<=i->i<k->O.klt (KN key p k) (KN key p i)):So key (bubble p k (k-l)) (k+1):=by
 intro i j hij hj;have e:k-(k-l)=l:=Nat.sub_sub_self hl;rw[Qx hsz (wfa _ _),Qx hsz (wfa _ _),e];have hjk:j<=k:=U3 hj;by_cases hi1:i=l
 ·rw[aH hi1];by_cases hj1:j=l
  ·rw[aH hj1];exact Rh _
  ·have lj:l<j:=U5 (hi1▸hij) (mj hj1);rw[aB hj1,aH ⟨lj,hjk⟩];exact wbo (hhi (j-1) (ydq lj) (ZL (Ke (dF _) lj) hjk))
 ·rw[aB hi1];by_cases hi2:l<i/\i<=k
  ·have lj:l<j:=jY hi2.1 hij;rw[aH hi2,aB (mj (jh lj)),aH ⟨lj,hjk⟩];exact hs _ _ (Nat.sub_le_sub_right hij 1) (ZL (Ke (dF _) lj) hjk)
  ·rw[aB hi2];have il:i<l:=U5 (Nat.not_lt.mp fun z=>hi2 ⟨z,dD hij hjk⟩) hi1;by_cases hj1:j=l
   ·rw[aH hj1];exact hlo i il
   ·rw[aB hj1];by_cases hj2:l<j/\j<=k
    ·rw[aH hj2];exact hs _ _ (ydq (Ra il hj2.1)) (ZL (Ke (dF _) hj2.1) hjk)
    ·rw[aB hj2];exact hs _ _ hij (jY (U5 (Nat.not_lt.mp fun z=>hj2 ⟨z,hjk⟩) hj1) hl)
theorem bins(ok:lG O key N cmp s){Q:Array Nat->η->Prop}:∀(f:Nat) (p:Array Nat) (k:Nat),Ord N p->1<=k->k+f=N->So key p k->(∀p',Ord N p'->So key p' N->Q p' s)->(kas_bin f p k).kasWp cmp Q s
 |0,p,k,hp,_,hf,hs,h=>h p hp ((show k=N from hf)▸hs)
 |f+1,p,k,hp,h1,hf,hs,h=>by
  show((kas_place p k k 0 k).bind fun l=>kas_bin f (bubble p k (k-l)) (k+1)).kasWp cmp Q s;rw[Z8];have hk:k<N:=CG (Bk hf);have hsz:k<p.size:=by rw[hp.size];exact hk
  refine place ok hp hk hs k 0 k (dF _) (aW _) (wfa _ _) (fun i hi=>absurd hi (V1 _)) (fun i h1 h2=>absurd h2 (Nat.not_lt.mpr h1)) fun l hl hlo hhi=> ?_;exact bins ok f _ (k+1) (hp.bub _ _) (yj _) ((ydc k f).trans hf) (aa8 hs hl hsz hlo hhi) h
theorem sort(ok:lG O key N cmp s){Q:Array Nat->η->Prop}(h1:1<=N)(h:∀p',Ord N p'->So key p' N->Q p' s):(kas_sort N).kasWp cmp Q s:=by
 unfold kas_sort;rw[Z8];refine count ok ⟨Array.Perm.refl _⟩ h1 fun m p' hp hm1 hm2 hs=> ?_;dsimp only;by_cases hlt:m<N
 ·rw[aH hlt];have e:max m 1=m:=by omega
  rw[e];exact bins ok _ _ _ hp hm1 (by omega) hs h
 ·rw[aB hlt];have e:m=N:=by omega
  subst e;exact h p' hp hs
end
end uJ
namespace uJ
open PySem PySem.W PyProof.Rows PySem.Calls
noncomputable def Qw{O:KeyOrd}(key:Nat->O.α)(vs out:List ζ):Prop:=∃p:Array Nat,Ord vs.length p/\So key p vs.length/\out=p.toList.map fun i=>vs.getD i Value.none
section
variable{prog:ξ}{w:τ}{A:Around}{E:L3}{s:η}{O:KeyOrd}{key:Nat->O.α}{κ:SortKind}{vs:List ζ}
theorem Cd(h2:vs.length<2):Qw key vs vs:=by
 refine⟨List.toArray (List.range vs.length),⟨Array.Perm.refl _⟩,fun i j hij hj=> ?_,?_⟩
 ·have e:i=j:=by omega
  subst e;exact Rh _
 ·match vs,h2 with
  |[],_=>rfl
  |[v],_=>rfl
  |_::_::_,h=>simp at h;omega
theorem mD{a:Addr}{n:Nat}{P:PySem.Fin->η->Prop}(ho:s.heap.get? a=some (seqObj "list" vs.toArray n))(h64:vs.length<64)(hkind:2<=vs.length->∀h',(∀b o,b≠a->s.heap.get? b=some o->h'.get? b=some o)->∀Q:SortKind->η->Prop,Q κ {s with heap:=h'}->wpAny (model prog w) A (keyKind' vs.toArray) Q E {s with heap:=h'})(Pg:2<=vs.length->∀h',(∀b o,b≠a->s.heap.get? b=some o->h'.get? b=some o)->lG O key vs.length (kas_ask prog w A κ vs) {s with heap:=h'})(h:∀h' out c,Qw key vs out->(∀b o,b≠a->s.heap.get? b=some o->h'.get? b=some o)->h'.get? a=some (seqObj "list" (List.toArray out) c)->P (.done (.ret .none)) {s with heap:=h'}):
  wpAny (model prog w) A (Builtin.«list.sort» ⟨[.ref a],[]⟩) P E s:=by
 have ha:a<s.heap.objs.size:=fW ho;have s1:=wbj s.heap a (Obj.mapSeq fun _=>(#[]:Array ζ));obtain⟨e1,ho1⟩:∃e1,(s.heap.update a (Obj.mapSeq fun _=>(#[]:Array ζ))).get? a=some (seqObj "list" #[] e1):=⟨_,wcx ho fun _=>#[]⟩;have keep:∀b o,b≠a->s.heap.get? b=some o->(((s.heap.update a (Obj.mapSeq fun _=>(#[]:Array ζ))).push (seqObj "tuple" vs.toArray 0)).push (seqObj "list" #[] 0)).get? b=some o:=fun b o hb e=>
  lH _ (lH _ ((s1.2 b hb).trans e))
 have ho6:(((s.heap.update a (Obj.mapSeq fun _=>(#[]:Array ζ))).push (seqObj "tuple" vs.toArray 0)).push (seqObj "list" #[] 0)).get? a=some (seqObj "list" #[] e1):=lH _ (lH _ ho1);rw[list_sort_plain];refine bL (listItems_at ho rfl ?_);refine bL (wdx ho rfl ?_ (by rw[iH,fZ];omega) (dF _));refine bL (seqEpoch_at ho1 rfl ?_);refine bL (wpAny_newTuple ?_ (by show vs.length<=_;rw[fZ];omega));refine bL (wdy ?_ (dF _));refine Vd ?_;show wpAny (model prog w) A _ P E {s with heap:=((s.heap.update a (Obj.mapSeq fun _=>(#[]:Array ζ))).push (seqObj "tuple" vs.toArray 0)).push (seqObj "list" #[] 0)};dsimp only;by_cases h2:vs.toArray.size<2
 ·have h2':vs.length<2:=by simpa using h2
  rw[aH h2,aH h2];refine bL (iD ?_);rw[StateT.run_pure];refine bL (iD ?_);dsimp only;refine bL (seqEpoch_at ho6 rfl ?_);refine bL (wdx ho6 rfl ?_ (dF _) (by rw[Array.size_map];show(pairsOf vs).size<=_;rw[pairsOf_size,fZ];omega));simp only[bne_self_eq_false,Bool.false_eq_true,if_false];refine iD ?_;have eo:(vs.toArray.zip vs.toArray).map (·.2)=List.toArray vs:=by
   apply Array.toList_inj.mp;simp[List.map_snd_zip]
  have s2:=wbj (((s.heap.update a (Obj.mapSeq fun _=>(#[]:Array ζ))).push (seqObj "tuple" vs.toArray 0)).push (seqObj "list" #[] 0)) a (Obj.mapSeq fun _=>List.toArray vs);obtain⟨c2,hc2⟩:∃c2,((((s.heap.update a (Obj.mapSeq fun _=>(#[]:Array ζ))).push (seqObj "tuple" vs.toArray 0)).push (seqObj "list" #[] 0)).update a (Obj.mapSeq fun _=>List.toArray vs)).get? a=some (seqObj "list" (List.toArray vs) c2):=⟨_,wcx ho6 fun _=>List.toArray vs⟩;have fin:=h _ vs c2 (Cd h2') (fun b o hb e=>(s2.2 b hb).trans (keep b o hb e)) hc2
  first
   |exact fin
   |(rw[<-eo]at fin;exact fin)
   |(show P _ {s with heap:=Heap.update _ a (Obj.mapSeq fun _=>(vs.toArray.zip vs.toArray).map (·.2))};rw[eo];exact fin)
 ·have h2':2<=vs.length:=by rw[iH]at h2;omega
  rw[aB h2,aB h2];refine bL (hkind h2' _ keep _ ?_);refine bL (Ft (kat_run (Q:=fun st' s'=>s'={s with heap:=((s.heap.update a (Obj.mapSeq fun _=>(#[]:Array ζ))).push (seqObj "tuple" vs.toArray 0)).push (seqObj "list" #[] 0)}/\∃p:Array Nat,p.size=vs.length/\arrOf st'=p.map (kas_item (vs.toArray.zip vs.toArray))/\failedOf st'=none/\Ord vs.length p/\So key p vs.length)
   (G:=fun p s'=>s'={s with heap:=((s.heap.update a (Obj.mapSeq fun _=>(#[]:Array ζ))).push (seqObj "tuple" vs.toArray 0)).push (seqObj "list" #[] 0)}/\Ord vs.length p/\So key p vs.length)
   rfl h2' h64 (fun p' st' s' a1 a2 a3 a4=>⟨a4.1,p',a1,a2,a3,a4.2.1,a4.2.2⟩) (sort (Pg h2' _ keep) (by omega) fun p' hp hs=>⟨rfl,hp,hs⟩)) ?_ fun _ _ e=>e)
  rintro⟨⟨⟩,st'⟩ s' ⟨rfl,p,hp,har,hf,hor,hso⟩;dsimp only;have hout:=kat_snds rfl har;have hsz:(List.toArray (p.toList.map fun i=>vs.getD i Value.none)).size=vs.length:=by rw[iH,aM,V5,hp]
  rw[hout];refine bL (seqEpoch_at ho6 rfl ?_);refine bL (wdx ho6 rfl ?_ (dF _) (dD (Bk hsz) (by rw[fZ];omega)));rw[hf];simp only[bne_self_eq_false,Bool.false_eq_true,if_false];have s2:=wbj (((s.heap.update a (Obj.mapSeq fun _=>(#[]:Array ζ))).push (seqObj "tuple" vs.toArray 0)).push (seqObj "list" #[] 0)) a (Obj.mapSeq fun _=>List.toArray (p.toList.map fun i=>vs.getD i Value.none));obtain⟨c2,hc2⟩:∃c2,((((s.heap.update a (Obj.mapSeq fun _=>(#[]:Array ζ))).push (seqObj "tuple" vs.toArray 0)).push (seqObj "list" #[] 0)).update a (Obj.mapSeq fun _=>List.toArray (p.toList.map fun i=>vs.getD i Value.none))).get? a=some (seqObj "list" (List.toArray (p.toList.map fun i=>vs.getD i Value.none)) c2):=⟨_,wcx ho6 fun _=>_⟩;exact iD (h _ _ c2 ⟨p,hor,hso,rfl⟩ (fun b o hb e=>(s2.2 b hb).trans (keep b o hb e)) hc2)
theorem tM{l:Addr}{Q:L3}(hl:s.heap.IsList l vs.toArray)(h64:vs.length<64)(hkind:2<=vs.length->∀h',(∀b o,s.heap.get? b=some o->h'.get? b=some o)->∀(E:L3) (Q:SortKind->η->Prop),Q κ {s with heap:=h'}->wpAny (model prog w) A.in1.in1 (keyKind' vs.toArray) Q E {s with heap:=h'})(Pg:2<=vs.length->∀h',(∀b o,s.heap.get? b=some o->h'.get? b=some o)->lG O key vs.length (kas_ask prog w A.in1.in1 κ vs) {s with heap:=h'})(h:∀D h' out c,Qw key vs out->s.heap.objs.size<=D->(∀b o,s.heap.get? b=some o->h'.get? b=some o)->h'.get? D=some (seqObj "list" (List.toArray out) c)->Q (.ref D) {s with heap:=h'}):
  wpAny (model prog w) A (call (.builtin "sorted") [.ref l]) Q E s:=by
 refine Calls.call_function_entry kind_sorted plain_sorted entry_sorted (args_sorted1 _) ?_;unfold Builtin.«sorted»;refine bL (m:=checkCount "sorted" 1 1 _) (iD ?_);refine bL (collect_list hl ?_ (by rw[fZ];omega));refine bL (wdy ?_ (by rw[fZ];omega));have hsz:((s.heap.push (seqObj "list" #[] 0)).update s.heap.objs.size (Obj.mapSeq (· ++vs.toArray))).objs.size=s.heap.objs.size+1:=by
  rw[Heap.size_update,size_push']
 have hoL:(((s.heap.push (seqObj "list" #[] 0)).update s.heap.objs.size (Obj.mapSeq (· ++vs.toArray))).push (seqObj "list" vs.toArray 0)).get? (s.heap.objs.size+1)=some (seqObj "list" vs.toArray 0):=by
  rw[<-hsz];exact sY _ rfl
 have keep:∀b o,s.heap.get? b=some o->(((s.heap.push (seqObj "list" #[] 0)).update s.heap.objs.size (Obj.mapSeq (· ++vs.toArray))).push (seqObj "list" vs.toArray 0)).get? b=some o:=fun b o q=>by
  have hlt:b<s.heap.objs.size:=fW q;rw[wcj _ _ _ (by rw[hsz];exact jh (uW hlt)),Heap.get?_update_ne _ _ _ _ (jh hlt),wcj _ _ _ (jh hlt)];exact q
 have ne:∀b o,s.heap.get? b=some o->b≠s.heap.objs.size+1:=fun b o q=>jh (uW (fW q));show wpAny _ _ _ _ _ {s with heap:=((s.heap.push (seqObj "list" #[] 0)).update s.heap.objs.size (Obj.mapSeq (· ++vs.toArray))).push (seqObj "list" vs.toArray 0)};rw[hsz];refine bL (Vd (wco slot_list_sort ⟨_,hoL,rfl⟩ entry_list_sort ?body (args_list_sort _)))
 case body=>
  refine mD (key:=key) (κ:=κ) (s:={s with heap:=((s.heap.push (seqObj "list" #[] 0)).update s.heap.objs.size (Obj.mapSeq (· ++vs.toArray))).push (seqObj "list" vs.toArray 0)}) hoL h64
   (fun h2 h' k Q hq=>hkind h2 h' (fun b o q=>k b o (ne b o q) (keep b o q)) _ Q hq) (fun h2 h' k=>Pg h2 h' fun b o q=>k b o (ne b o q) (keep b o q)) fun h' out c ho k hc=> ?_
  exact⟨_,rfl,iD ⟨_,rfl,h _ h' out c ho (Kq _) (fun b o q=>k b o (ne b o q) (keep b o q)) hc⟩⟩
end
end uJ
namespace HT
open PySem PyProof.Rows
theorem bN:∀(a b:List Int),lexLt a b=decide (a<b)
 |[],[]=>by simp[lexLt]
 |[],_::_=>by simp[lexLt]
 |_::_,[]=>by simp[lexLt]
 |x::xs,y::ys=>by
  rw[lexLt_cons,bN xs ys];by_cases e:x=y
  ·subst e;simp
  ·rw[aB e];by_cases l:x<y
   ·simp[l,ydi]
   ·have:¬(x::xs<y::ys):=by rw[ydi];simp[l,e]
    simp[l,this]
end HT
namespace uJ
open PySem PySem.W PyProof.Rows PySem.Calls
noncomputable def lexOrd:KeyOrd where
 α:=List Int
 blt a b:=decide (a<b)
 irrefl a:=by simpa using List.lt_irrefl a
 trans a b c h1 h2:=by simp only[QH]at *;exact List.lt_trans h1 h2
 negTrans a b c h:=by
  simp only[QH]at *;by_cases hab:a<b
  ·exact .inl hab
  ·exact .inr (List.lt_of_le_of_lt (List.not_lt.mp hab) h)
 total a b h1 h2:=by simp only[wbb]at *;exact List.le_antisymm (List.not_lt.mp h2) (List.not_lt.mp h1)
section
variable{prog:ξ}{w:τ}{A:Around}{s:η}{Q:Bool->η->Prop}
theorem uz{na nb:Nat}{xs ys:List ζ}{ns ms:List Int}(i:Nat)(hx:IntsAre xs ns)(hy:IntsAre ys ms)(hl:ns.length+nb=ms.length+na)(h:Q (HT.lexLt ns ms) s):KatLex prog w A true (decide (na<nb)) Q (xs.zip ys) i s:=by
 induction hx generalizing ys ms i with
 |nil=>
  rw[List.zip_nil_left];refine kat_nil ?_;cases hy with
  |nil=>
   rw[HT.lexLt_nil_nil]at h;rw[lV (by simp only[V3]at hl;omega)];exact h
  |cons c u hw=>
   rw[HT.lexLt_nil_cons]at h;rw[cX (by simp only[V3,Bl]at hl;omega)];exact h
 |cons a t hv ih=>
  cases hy with
  |nil=>
   rw[List.zip_nil_right];refine kat_nil ?_;rw[HT.lexLt_cons_nil]at h;rw[lV (by simp only[V3,Bl]at hl;omega)];exact h
  |cons c u hw=>
   rw[wdg];rw[HT.lexLt_cons]at h;refine kat_cons (wpAny_eqBool_int ?_);refine kat_go (fun e=> ?_) fun e=> ?_
   ·have e':a=c:=by simpa using e
    rw[aH e']at h;exact kat_yes (ih (i+1) hw (by simp only[Bl]at hl;omega) h)
   ·have e':a≠c:=by simpa using e
    rw[aB e']at h;refine kat_no ?_;cases i with
    |zero=>exact oneLt_int h
    |succ i=>exact kat_one _ _ (lt_int (show PySem.W.BoolBack Q (.bool (decide (a<c))) s from h))
end
theorem wH{O:KeyOrd}{key:Nat->O.α}{α:Type}{vs out:List ζ}{its:List α}{d:α}{f:α->O.α}{R:α->ζ->Prop}(hR:Paired R its vs)(hk:∀i (hi:i<its.length),key i=f its[i])(h:Qw key vs out):
  ∃its':List α,its'.Perm its/\Paired R its' out/\its'.Pairwise fun x y=>O.kle (f x) (f y):=by
 obtain⟨p,hp,hs,rfl⟩:=h;have hl:=hR.length;have get:∀{l₁:List α} {l₂:List ζ} {i:Nat},Paired R l₁ l₂->(h:i<l₁.length)->∃v,l₂[i]? =some v/\R l₁[i] v:=by
  intro l₁ l₂ i q
  induction q generalizing i with
  |nil=>intro h;simp at h
  |cons r t ih=>
   intro h;cases i with
   |zero=>exact⟨_,rfl,r⟩
   |succ i=>
    obtain⟨v,e,rv⟩:=ih (i:=i) (by simpa using h);exact⟨v,by simpa using e,by simpa using rv⟩
 have hlt:∀i∈p.toList,i<its.length:=fun i hi=>by
  have:=(ydo.mp hp.perm).mem_iff.mp hi;rw[hl];simpa using this
 refine⟨p.toList.map fun i=>its.getD i d,?_,?_,?_⟩
 ·have q:=(ydo.mp hp.perm).map (fun i=>its.getD i d);refine q.trans ?_;have e:(List.toArray (List.range vs.length)).toList.map (fun i=>its.getD i d)=its:=by
   rw[<-hl];apply ZF;intro i;simp only[fu];by_cases hi:i<its.length
   ·simp[hi]
   ·simp[hi]
  rw[e]
 ·have mk:∀l:List Nat,(∀i∈l,i<its.length)->Paired R (l.map fun i=>its.getD i d) (l.map fun i=>vs.getD i Value.none):=by
   intro l
   induction l with
   |nil=>intro _;exact .nil
   |cons i l ih=>
    intro hb;refine .cons ?_ (ih fun j hj=>hb j (jW _ hj));have hi:=hb i jG;obtain⟨v,e,r⟩:=get hR hi;have e1:its.getD i d=its[i]:=by simp[hi]
    have e2:vs.getD i Value.none=v:=by rw[oK,e];rfl
    show R (its.getD i d) (vs.getD i Value.none);rw[e1,e2];exact r
  exact mk _ hlt
 ·rw[U8];intro i j hi hj hij;simp only[aM,V5]at hi hj;simp only[List.getElem_map];have hsz:=hp.size;have q:=hs i j (by omega) (by omega);have e:∀k (hk':k<p.size),KN key p k=f (its.getD p.toList[k] d):=fun k hk'=>by
   have e1:p.getD k 0=p.toList[k]:=by simp[Array.getD,hk']
   have hb:=hlt p.toList[k] (Ka _);have e2:its.getD p.toList[k] d=its[p.toList[k]]:=by simp only[oK,fL hb,Option.getD_some]
   unfold KN;rw[e1,e2];exact hk _ hb
  rw[e i hi,e j hj]at q;exact q
end uJ
namespace L2
open PySem PySem.Spec PyProof.Rows PySem.W
section
variable{X:Cx}
theorem jz:CallR X (.builtin "sorted") (fun xs H Q=>∃(a:Addr) (its:List (Addr×List Int)),xs=[.ref a]/\SqL X.K H a (its.map fun p=>V.ref p.1)/\(∀p∈its,SqT X.K H p.1 (p.2.map V.int)/\p.2≠[])/\its.length<64/\
  ∀(l:Addr) (its':List (Addr×List Int)),H l=none->its'.Perm its->its'.Pairwise (fun p q=>HT.lexLt q.2 p.2=false)->Q (.ref l) (upd H l (.lst (its'.map fun p=>V.ref p.1)))):=by
 intro pins s σ H xs us Q I r h;obtain⟨a,its,rfl,hS,hT,h64,q⟩:=h;obtain⟨u,rfl,ru⟩:=r.one;cases ru;obtain⟨vs,rv,pl,hz⟩:=I.list hS;have hlen:its.length=vs.length:=by have:=rv.length;simpa using this
 -- the values beside the tuples
 have pr:Paired (fun(p:Addr×List Int) (v:ζ)=>v= .ref p.1) its vs:=by
  have go:∀(l:List (Addr×List Int)) (us:List ζ),Vals (l.map fun p=>V.ref p.1) us->Paired (fun(p:Addr×List Int) (v:ζ)=>v= .ref p.1) l us:=by
   intro l
   induction l with
   |nil=>intro us h;cases h;exact .nil
   |cons p l ih=>
    intro us h;cases h with
    |cons r t=>exact .cons r (ih _ t)
  exact go its vs rv
 have tup:∀p∈its,∃(items:List ζ),IntsAre items p.2/\IsTup s.heap p.1 items.toArray:=fun p hp=>by
  obtain⟨its',r',t',_⟩:=I.tuple (hT p hp).1;exact⟨its',intsAre_of r',t'⟩
 refine uJ.tM (O:=uJ.lexOrd) (key:=fun i=>(its.getD i (0,[])).2) (κ:=tuples' true) (s:=s) pl.isList (by omega) (fun h2 h' k E' Q' hq=> ?_) (fun h2 h' k=> ?_) (fun D h' out c ho hD k hc=> ?_)
 ·have kt:∀(l:List (Addr×List Int)) (us:List ζ),Paired (fun(p:Addr×List Int) (v:ζ)=>v= .ref p.1) l us->(∀p∈l,p∈its)->∃fs:List ζ,KatTups h' us fs/\fs.length=us.length/\∀v∈fs,∃i t,v=Value.int i t:=by
   intro l us h
   induction h with
   |nil=>intro _;exact⟨[],trivial,rfl,fun _ hv=>nomatch hv⟩
   | @cons p v l us r t ih=>
    intro hs;obtain⟨fs,k1,k2,k3⟩:=ih fun p hp=>hs p (jW _ hp);obtain⟨items,hi,o,e,hc,n,hd⟩:=tup p (hs p jG);have hne:=(hT p (hs p jG)).2;obtain⟨pa,pn⟩:=p;dsimp only at hi hne e r;cases hi with
    |nil=>exact absurd rfl hne
    |cons i t hi'=>
     rw[r];refine⟨Value.int i t::fs,KatTups.cons (k _ _ e) hc hd (by simp) k1,by simp[k2],fun v hv=> ?_⟩;rcases cZ.mp hv with e|e
     ·exact⟨i,t,e⟩
     ·exact k3 v e
  obtain⟨fs,k1,k2,k3⟩:=kt its vs pr fun _ hp=>hp;refine kat_kind (s:={s with heap:=h'}) (T:= .type "int") k1 (by omega) (fun v hv=> ?_) (by rfl) hq;obtain⟨i,t,rfl⟩:=k3 v hv;exact fun A Q E s _ q=>iD q
 ·intro i j C hi hj hC;rw[<-hlen]at hi hj;have get:∀i (hi:i<its.length),vs.getD i Value.none= .ref its[i].1:=by
   have go:∀(l:List (Addr×List Int)) (us:List ζ),Paired (fun(p:Addr×List Int) (v:ζ)=>v= .ref p.1) l us->∀i (hi:i<l.length),us.getD i Value.none= .ref l[i].1:=by
    intro l us h
    induction h with
    |nil=>intro i hi;simp at hi
    |cons r t ih=>
     intro i hi;cases i with
     |zero=>exact r
     |succ i=>simpa using ih i (by simpa using hi)
   exact go its vs pr
  unfold kas_ask;rw[get i hi,get j hj];obtain⟨xi,hxi,oi,ei,ci,ni,di⟩:=tup its[i] (Ka _);obtain⟨xj,Vv,oj,ej,cj,nj,dj⟩:=tup its[j] (Ka _);refine kat_lt (s:={s with heap:=h'}) (k _ _ ei) di (k _ _ ej) dj ?_;refine uJ.uz 0 hxi Vv ?_ ?_
  ·have:=hxi.length;have:=Vv.length;simp only[iH];omega
  ·rw[HT.bN];have e1:its.getD i (0,[])=its[i]:=by simp[hi]
   have e2:its.getD j (0,[])=its[j]:=by simp[hj]
   have hC':C (decide ((its.getD i (0,[])).2<(its.getD j (0,[])).2)) {s with heap:=h'}:=hC;rw[e1,e2]at hC';exact hC'
 ·obtain⟨its',hp,hr,hw⟩:=uJ.wH (d:=((0,[]):Addr×List Int)) (f:=fun p=>p.2) pr (fun i hi=>by show(its.getD i (0,[])).2=_;simp[hi]) ho;have hn:H D=none:=I.hok.fresh hD;have rv':Vals (its'.map fun p=>V.ref p.1) out:=by
   have go:∀(l:List (Addr×List Int)) (us:List ζ),Paired (fun(p:Addr×List Int) (v:ζ)=>v= .ref p.1) l us->Vals (l.map fun p=>V.ref p.1) us:=by
    intro l us h
    induction h with
    |nil=>exact .nil
    |cons r t ih=>exact .cons r ih
   exact go its' out hr
  have zl:(its'.map fun p=>V.ref p.1).length<=sizeLine:=by
   have:=hp.length_eq;rw[aM];exact cY (small1000 (by omega))
  have J:Inv X pins σ (upd H D (.lst (its'.map fun p=>V.ref p.1))) {s with heap:=h',toks:=s.toks}:=I.laid k hD ⟨zl,out,c,rv',hc⟩;refine⟨.ref D,_,J,rfl,q D its' hn hp (hw.imp fun{x y} hxy=> ?_)⟩;rw[HT.bN];exact hxy
end
end L2
namespace L2
open PySem PySem.Spec PyProof.Rows
section
variable{X:Cx}
theorem Al:∀{bs:List Bool} {us:List ζ},Vals (bs.map V.bl) us->us=bs.map Value.bool
 |[],_,h=>by cases h;rfl
 |b::bs,_,h=>by
  cases h with
  |cons r t=>rw[Ia,Al t];exact jX (· ::_) r
theorem gF(hc:X.calm=true):CallR X (.builtin "all") (fun xs H Q=>∃(a:Addr) (bs:List Bool),xs=[.ref a]/\SqL X.K H a (bs.map V.bl)/\Q (.bl (bs.all id)) H):=by
 intro pins s σ H xs us Q I r h;obtain⟨a,bs,rfl,hS,q⟩:=h;obtain⟨u,rfl,ru⟩:=r.one;cases ru;obtain⟨vs,rv,pl,hz⟩:=I.list hS;have hv:=Al rv;have hl:=pl.isList;have hlt:a<s.heap.objs.size:=by obtain⟨_,e,_⟩:=hl;exact fW e
 refine call_all_walk (wdq hl ?_);refine⟨s.heap.objs.size,[s.heap.objs.size,a],[s.heap.objs.size],vs.toArray.size,_,_,fun i=>(bs[i]?).getD true,rfl,Walks.list (A:=X.A.in1) (I.ok.hd hc) _ a (jh hlt) vs.toArray,
  ⟨⟨_,sY _ rfl,rfl,rfl⟩,hl.push _⟩,fun i v s' Q' E' hP hQ=> ?_,fun h' tk hk=> ?_⟩
 ·have hP':vs[i]? =some v:=by simpa using hP
  rw[hv,fu]at hP';cases e:bs[i]? with
  |none=>rw[e]at hP';cases hP'
  |some b=>
   rw[e]at hP';cases hP';simp only[e,Option.getD_some]at hQ;exact Ve hQ
 ·have e:((List.range vs.toArray.size).all fun i=>(bs[i]?).getD true)=bs.all id:=by
   rw[iH,hv,aM];exact LSm.range_all bs
  rw[e];exact⟨.bl _,H,I.kept (LSm.kept_iter hk),rfl,q⟩
noncomputable def VJ(K:W.Frag)(H:Hp):V->String->Prop
 | .non,T=>T="NoneType"
 | .bl _,T=>T="bool"
 | .int _,T=>T="int"
 | .str _,T=>T="str"
 | .ref a,T=>(T="tuple"/\∃xs,SqT K H a xs)\/(T="list"/\∃xs,SqL K H a xs)\/(T="dict"/\∃kvs,H a=some (.dK kvs))
 |_,_=>False
noncomputable def wW(T C:String):Bool:=T==C||(T=="bool"&&C=="int")
theorem QX:CallR X (.builtin "isinstance") (fun xs H Q=>∃(x:V) (T C:String),xs=[x,.ty C]/\VJ X.K H x T/\(C="int"\/C="bool"\/C="tuple"\/C="list")/\Q (.bl (wW T C)) H):=by
 intro pins s σ H xs us Q I r h;obtain⟨x,T,C,rfl,hk,hC,q⟩:=h;obtain⟨u,v,rfl,ru,rv⟩:=r.two;cases rv;have Qa:∀b,b=wW T C->EP X pins σ Q (.bool b) s:=fun b e=>⟨.bl b,H,I,rfl,by rw[e];exact q⟩;have gD:∀b,b=wW T C->EP X pins σ Q (.bool b) {s with toks:=s.toks+1}:=fun b e=>⟨.bl b,H,I.tok _,rfl,by rw[e];exact q⟩;cases x with
 |non=>
  cases ru;cases hk;rcases hC with rfl|rfl|rfl|rfl
  ·exact IsiPair.NoneType_int (gD _ rfl)
  ·exact IsiPair.NoneType_bool (gD _ rfl)
  ·exact IsiPair.NoneType_tuple (gD _ rfl)
  ·exact IsiPair.NoneType_list (gD _ rfl)
 |bl b=>
  cases ru;cases hk;rcases hC with rfl|rfl|rfl|rfl
  ·exact IsiPair.bool_int (Qa _ rfl)
  ·exact IsiPair.bool_bool (Qa _ rfl)
  ·exact IsiPair.bool_tuple (gD _ rfl)
  ·exact IsiPair.bool_list (gD _ rfl)
 |int i=>
  obtain⟨t,rfl⟩:=ru;cases hk;rcases hC with rfl|rfl|rfl|rfl
  ·exact IsiPair.int_int (Qa _ rfl)
  ·exact IsiPair.int_bool (gD _ rfl)
  ·exact IsiPair.int_tuple (gD _ rfl)
  ·exact IsiPair.int_list (gD _ rfl)
 |str z=>
  obtain⟨t,rfl⟩:=ru;cases hk;rcases hC with rfl|rfl|rfl|rfl
  ·exact IsiPair.str_int (gD _ rfl)
  ·exact IsiPair.str_bool (gD _ rfl)
  ·exact IsiPair.str_tuple (gD _ rfl)
  ·exact IsiPair.str_list (gD _ rfl)
 |ref a=>
  cases ru;rcases hk with⟨rfl,xs,hS⟩|⟨rfl,xs,hS⟩|⟨rfl,kvs,hS⟩
  ·obtain⟨its,_,⟨o,e,c,n,d⟩,_⟩:=I.tuple hS;rcases hC with rfl|rfl|rfl|rfl
   ·exact IsiPair.tuple_int e c (gD _ rfl)
   ·exact IsiPair.tuple_bool e c (gD _ rfl)
   ·exact IsiPair.tuple_tuple e c (Qa _ rfl)
   ·exact IsiPair.tuple_list e c (gD _ rfl)
  ·obtain⟨its,_,⟨o,n,e,c,d,_⟩,_⟩:=I.list hS;rcases hC with rfl|rfl|rfl|rfl
   ·exact IsiPair.list_int e c (gD _ rfl)
   ·exact IsiPair.list_bool e c (gD _ rfl)
   ·exact IsiPair.list_tuple e c (gD _ rfl)
   ·exact IsiPair.list_list e c (Qa _ rfl)
  ·obtain⟨_,_,vs,_,o,es,ep,e,c,_⟩:=I.hok a _ hS;have c':o.cls= .type "dict":=c.1;rcases hC with rfl|rfl|rfl|rfl
   ·exact IsiPair.dict_int e c' (gD _ rfl)
   ·exact IsiPair.dict_bool e c' (gD _ rfl)
   ·exact IsiPair.dict_tuple e c' (gD _ rfl)
   ·exact IsiPair.dict_list e c' (gD _ rfl)
 |_=>exact hk.elim
end
mutual
inductive DV(K:W.Frag)(H:Hp):V->θ->Prop
 |non:DV K H .non .none
 |bl (b:Bool):DV K H (.bl b) (.bool b)
 |int (i:Int):DV K H (.int i) (.int i)
 |str (x:Str):DV K H (.str x) (.str x)
 |tup {a:Addr} {xs:List V} {ds:List θ} (h:SqT K H a xs) (t:cJ K H xs ds):DV K H (.ref a) (.tuple ds)
 |lst {a:Addr} {xs:List V} {ds:List θ} (h:SqL K H a xs) (t:cJ K H xs ds):DV K H (.ref a) (.list ds)
 |dc0 {a:Addr} (h:H a=some (.dK [])):DV K H (.ref a) (.dict [])
 |dc1 {a b:Addr} {i:Int} (h:H a=some (.dK [(Sum.inl i,.ref b)])) (t:SqT K H b []):DV K H (.ref a) (.dict [(.int i,.tuple [])])
inductive cJ(K:W.Frag)(H:Hp):List V->List θ->Prop
 |nil:cJ K H [] []
 |cons {x:V} {d:θ} {xs:List V} {ds:List θ} (h:DV K H x d) (t:cJ K H xs ds):cJ K H (x::xs) (d::ds)
end
theorem Same.tup{K:W.Frag}{H H':Hp}{a:Addr}{xs:List V}(e:Same H H')(h:SqT K H a xs):SqT K H' a xs:=by
 rcases h with(h|⟨o,h⟩)|h
 ·exact .inl (.inl (e _ _ h))
 ·exact .inl (.inr ⟨o,e _ _ h⟩)
 ·exact .inr h
theorem cJ.same{K:W.Frag}{H H':Hp}(e:Same H H'){xs:List V}{ds:List θ}(h:cJ K H xs ds):cJ K H' xs ds:=
 cJ.rec (motive_1:=fun x d _=>DV K H' x d) (motive_2:=fun xs ds _=>cJ K H' xs ds) .non (fun b=> .bl b) (fun i=> .int i) (fun x=> .str x) (fun h _ t=> .tup (e.tup h) t) (fun h _ t=> .lst (e.seq h) t) (fun h=> .dc0 (e _ _ h)) (fun h t=> .dc1 (e _ _ h) (e.tup t)) .nil (fun _ _ h t=> .cons h t) h
theorem Je{P:ξ}{w:τ}{es:List DictEntry}(h:Pairs (mixKind P w) es []):es=[]:=by
 cases h;rfl
theorem Jd{P:ξ}{w:τ}{es:List DictEntry}{k:Key}{u:ζ}(h:Pairs (mixKind P w) es [(k,u)]):∃e,es=[e]/\keyIs k e.key=true/\e.val=u:=by
 cases h with
 |cons h1 h2 h3=>
  cases h3;exact⟨_,rfl,h1,h2⟩
section
variable{X:Cx}{pins:L1}{σ:St}{H:Hp}{s:η}
theorem JG(I:Inv X pins σ H s){a:Addr}(h:H a=some (.dK [])):Reads s.heap (.ref a) (.dict []) (a::[]++[])/\(a==sysModules)=false:=by
 obtain⟨_,hne,vs,r0,o,es,ep,e,c,d,_,pr,_⟩:=I.hok _ _ h;cases r0;have hes:es.toList=[]:=Je pr;refine⟨.dict (kvs:=[]) (as:=[]) (bs:=[]) e c.1 d ?_ ?_,hne⟩
 ·rw[hes];exact .nil
 ·rw[hes];exact .nil
theorem JF(I:Inv X pins σ H s){a b:Addr}{i:Int}(h:H a=some (.dK [(Sum.inl i,.ref b)]))(t:SqT X.K H b []):Reads s.heap (.ref a) (.dict [(.int i,.tuple [])]) (a::([]++[])++([]++[]))/\(a==sysModules)=false:=by
 obtain⟨_,hne,vs,r0,o,es,ep,e,c,d,_,pr,_⟩:=I.hok _ _ h;obtain⟨its,rv,⟨o2,e2,c2,n2,d2⟩,_⟩:=I.tuple t;cases rv;cases r0 with
 | @cons p q ps qs hq tl=>
  cases tl;obtain⟨en,he,hk,hv⟩:=Jd pr;obtain⟨k,u⟩:=q;dsimp only at hq;obtain⟨hk1,hu1⟩:=hq;subst hk1;cases hu1;obtain⟨tk,ek⟩:∃tk,en.key=Value.int i tk:=by
   rcases QC hk with⟨i',t',e3,e4⟩|⟨x,t',e3,e4⟩
   ·cases e3;exact⟨t',e4⟩
   ·cases e3
  refine⟨.dict (kvs:=[(.int i,.tuple [])]) (as:=[]++[]) (bs:=[]++[]) e c.1 d ?_ ?_,hne⟩
  ·rw[he];show ReadsAll s.heap [en.key] [PyData.int i] _;rw[ek];exact .cons (.int i tk) .nil
  ·rw[he];show ReadsAll s.heap [en.val] [PyData.tuple []] _;rw[hv];exact .cons (.tuple e2 c2 d2 .nil) .nil
theorem Ja(I:Inv X pins σ H s){a:Addr}{xs:List V}{ds:List θ}(h:SqT X.K H a xs)(t:∀{us:List ζ},Vals xs us->∃as,ReadsAll s.heap us ds as){u:ζ}(r:RelV (.ref a) u):∃as,Reads s.heap u (.tuple ds) as:=by
 cases r;obtain⟨its,rv,⟨o,e,c,n,d⟩,_⟩:=I.tuple h;obtain⟨as,ra⟩:=t rv;exact⟨_,.tuple e c d (by simpa using ra)⟩
theorem Jb(I:Inv X pins σ H s){a:Addr}{xs:List V}{ds:List θ}(h:SqL X.K H a xs)(t:∀{us:List ζ},Vals xs us->∃as,ReadsAll s.heap us ds as){u:ζ}(r:RelV (.ref a) u):∃as,Reads s.heap u (.list ds) as:=by
 cases r;obtain⟨its,rv,⟨o,n,e,c,_,d⟩,_⟩:=I.list h;obtain⟨as,ra⟩:=t rv;exact⟨_,.list e c d (by simpa using ra)⟩
theorem DV.reads(I:Inv X pins σ H s){x:V}{d:θ}{u:ζ}(h:DV X.K H x d)(r:RelV x u):∃as,Reads s.heap u d as:=
 DV.rec (motive_1:=fun x d _=>∀{u:ζ},RelV x u->∃as,Reads s.heap u d as) (motive_2:=fun xs ds _=>∀{us:List ζ},Vals xs us->∃as,ReadsAll s.heap us ds as)
  (fun r=>by cases r;exact⟨_,.none⟩) (fun b _ r=>by cases r;exact⟨_,.bool b⟩) (fun i _ r=>by obtain⟨t,rfl⟩:=r;exact⟨_,.int i t⟩) (fun x _ r=>by obtain⟨t,rfl⟩:=r;exact⟨_,.str x t⟩)
  (fun h _ t _ r=>Ja I h t r) (fun h _ t _ r=>Jb I h t r) (fun h _ r=>by cases r;exact⟨_,(JG I h).1⟩) (fun h t _ r=>by cases r;exact⟨_,(JF I h t).1⟩)
  (fun r=>by cases r;exact⟨_,.nil⟩) (fun _ _ h t _ r=>by
   cases r with
   |cons r rr=>
    obtain⟨as,ra⟩:=h r;obtain⟨bs,rb⟩:=t rr;exact⟨_,.cons ra rb⟩) h r
theorem cJ.reads(I:Inv X pins σ H s){xs:List V}{ds:List θ}{us:List ζ}(h:cJ X.K H xs ds)(r:Vals xs us):∃as,ReadsAll s.heap us ds as:=
 cJ.rec (motive_1:=fun _ _ _=>True) (motive_2:=fun xs ds _=>∀{us:List ζ},Vals xs us->∃as,ReadsAll s.heap us ds as) trivial (fun _=>trivial) (fun _=>trivial) (fun _=>trivial) (fun _ _ _=>trivial) (fun _ _ _=>trivial) (fun _=>trivial) (fun _ _=>trivial)
  (fun r=>by cases r;exact⟨_,.nil⟩) (fun h _ _ t _ r=>by
   cases r with
   |cons r rr=>
    obtain⟨as,ra⟩:=DV.reads I h r;obtain⟨bs,rb⟩:=t rr;exact⟨_,.cons ra rb⟩) h r
end
mutual
def noL:θ->Bool
 | .list _=>false
 | .tuple ds=>aav ds
 |_=>true
def aav:List θ->Bool
 |[]=>true
 |d::ds=>noL d&&aav ds
end
theorem cJ.ints{K:W.Frag}{H:Hp}:∀(ns:List Int),cJ K H (ns.map V.int) (ns.map PyData.int)
 |[]=> .nil
 |n::ns=> .cons (.int n) (cJ.ints ns)
theorem cJ.len{K:W.Frag}{H:Hp}{xs:List V}{ds:List θ}(h:cJ K H xs ds):xs.length=ds.length:=
 cJ.rec (motive_1:=fun _ _ _=>True) (motive_2:=fun xs ds _=>xs.length=ds.length) trivial (fun _=>trivial) (fun _=>trivial) (fun _=>trivial) (fun _ _ _=>trivial) (fun _ _ _=>trivial) (fun _=>trivial) (fun _ _=>trivial) rfl (fun _ _ _ t=>jX Nat.succ t) h
section
variable{X:Cx}
theorem MJ(hu:X.A.units+64<cLine):OpR X (compareOp .NotEq) (fun x y H Q=>∃da db,DV X.K H x da/\DV X.K H y db/\da.canLay0=true/\db.canLay0=true/\min da.depth db.depth<=64/\Q (.bl (!PyData.eqv da db)) H):=by
 intro pins s σ H x y v u Q I rx ry h;obtain⟨da,db,hx,hy,ca,cb,hd,q⟩:=h;obtain⟨as,ra⟩:=DV.reads I hx rx;obtain⟨bs,rb⟩:=DV.reads I hy ry;exact SeqAt.rcNeAt_reads ra rb ca cb (by omega) _ _ _ _ ⟨.bl _,H,I,rfl,q⟩
theorem Ez:∀{ds:List θ},PyData.canLayAll0 ds=true->∀d∈ds,d.canLay0=true
 |[],_,d,h=>nomatch h
 |e::ds,h,d,hd=>by
  have h':(e.canLay0&&PyData.canLayAll0 ds)=true:=h;rw[oM]at h';rcases cZ.mp hd with rfl|hd
  ·exact h'.1
  ·exact Ez h'.2 d hd
open Classical in
theorem wI(hu:X.A.units+64<cLine):OpR X (compareOp .In) (fun x y H Q=>∃(p:Addr) (xs:List V) (ds:List θ) (dx:θ),y= .ref p/\(SqL X.K H p xs\/SqT X.K H p xs)/\cJ X.K H xs ds/\DV X.K H x dx/\PyData.canLayAll0 ds=true/\dx.canLay0=true/\dx.depth<=60/\
  Q (.bl (ds.any fun d=>PyData.eqv d dx)) H):=by
 intro pins s σ H x y v u Q I rx ry h;obtain⟨p,xs,ds,dx,rfl,hq,hds,hx,ca,cb,hd,q⟩:=h;cases ry;obtain⟨bs,rb⟩:=DV.reads I hx rx;have key:∀{its:List ζ},Vals xs its->(∀y∈its,SeqAt.EqAt X.A.in1 s y v (decide (∃d as,Reads s.heap y d as/\d∈ds/\PyData.eqv d dx=true)))/\(its.any fun y=>decide (∃d as,Reads s.heap y d as/\d∈ds/\PyData.eqv d dx=true))=ds.any fun d=>PyData.eqv d dx:=by
  intro its rv;obtain⟨as,ra⟩:=cJ.reads I hds rv;have each:∀{us:List ζ} {es:List θ} {as:List Addr},ReadsAll s.heap us es as->(∀e∈es,e∈ds)->(∀y∈us,SeqAt.EqAt X.A.in1 s y v (decide (∃d as,Reads s.heap y d as/\d∈ds/\PyData.eqv d dx=true)))/\(us.any fun y=>decide (∃d as,Reads s.heap y d as/\d∈ds/\PyData.eqv d dx=true))=es.any fun d=>PyData.eqv d dx:=by
   intro us
   induction us with
   |nil=>intro es as h _;cases h;exact⟨(fun y hy=>(nomatch hy)),rfl⟩
   |cons y us ih=>
    intro es as h hs;cases h with
    | @cons _ _ d ds' as' bs' r rr=>
     obtain⟨i1,i2⟩:=ih rr fun e he=>hs e (jW _ he);have cl:=Ez ca d (hs d jG);have e:decide (∃d as,Reads s.heap y d as/\d∈ds/\PyData.eqv d dx=true)=PyData.eqv d dx:=by
      rw[was,QH];constructor
      ·rintro⟨d',as'',r',_,q'⟩;obtain⟨rfl,_⟩:=(PySem.Reads.unique r _ _ r');exact q'
      ·intro q';exact⟨d,_,r,hs d jG,q'⟩
     refine⟨fun z hz=> ?_,?_⟩
     ·rcases cZ.mp hz with rfl|hz
      ·rw[e];exact SeqAt.eqAt_reads d dx _ s _ _ _ _ r rb cl cb (by show X.A.units+1+min d.depth dx.depth<cLine;omega)
      ·exact i1 z hz
     ·rw[Z0,Z0,i2,e]
  exact each ra fun e he=>he
 rcases hq with hq|hq
 ·obtain⟨its,r,pl,hz⟩:=I.list hq;obtain⟨k1,k2⟩:=key r;refine SeqAt.in_listAt _ pl.isList (fun w hw=>k1 w (by simpa using hw)) ⟨.bl _,H,I,rfl,?_⟩;rw[show∀f:ζ->Bool,its.toArray.any f=its.any f from fun f=>by simp,k2];exact q
 ·obtain⟨its,r,pl,hz⟩:=I.tuple hq;obtain⟨k1,k2⟩:=key r;refine SeqAt.in_tupleAt _ pl (fun w hw=>k1 w (by simpa using hw)) ⟨.bl _,H,I,rfl,?_⟩;rw[show∀f:ζ->Bool,its.toArray.any f=its.any f from fun f=>by simp,k2];exact q
theorem pC:OpR X (binaryOp .FloorDiv) (rI (fun _ j=>0<j/\j<1000000000000000000000000000000) fun i j=> .int (i/j)):=opI fun i j _ _ _ _ _ hc q=>by
 have h1:(0:Int)<j:=hc.1;have h2:j<1000000000000000000000000000000:=hc.2;refine floordiv_int (by omega) ?_ (Or.inl (wdr ?_))
 ·rw[wdc _ (by omega)];exact q
 ·have h3:j.natAbs≠0:=by omega
  have h4:j.natAbs<2^100:=by
   have:(2:Nat)^100=1267650600228229401496703205376:=by decide
   omega
  have:=(Nat.log2_lt h3).mpr h4;omega
noncomputable def Vs(K:W.Frag):R2:=fun x y H Q=>∃a b xs ys,x= .ref a/\y= .ref b/\SqT K H a xs/\SqT K H b ys/\xs.length+ys.length<=sizeLine/\∀r H',Same H H'->SqT K H' r (xs++ys)->Q (.ref r) H'
theorem Gx:OpR X (binaryOp .Add) (Vs X.K):=by
 intro pins s σ H x y v u Q I rx ry h;obtain⟨a,b,xs,ys,rfl,rfl,ha,hb,hz,q⟩:=h;by_cases hx:xs=[]
 ·subst hx;cases rx;cases ry;obtain⟨its,r1,p1,_⟩:=I.tuple ha;obtain⟨its2,r2,p2,_⟩:=I.tuple hb;cases r1;obtain⟨⟨cls,dd,data,sl⟩,ho,hc,n,hd⟩:=id p1;obtain⟨⟨cls2,dd2,data2,sl2⟩,ho2,hc2,n2,hd2⟩:=id p2;simp only at hc hd hc2 hd2;subst hc hd hc2 hd2;exact concat_meets ⟨_,ho,rfl⟩ ⟨_,ho2,rfl⟩ wef seq_tuple_add wcd wbw (wbu _ _)
   (tuple_addW0 a b _ _ n n2 dd dd2 sl sl2 (by simp)) ⟨ho,ho2,⟨.ref b,H,I,rfl,q b H (Same.refl _) hb⟩⟩
 ·refine op_catT pins s σ H _ _ v u Q I rx ry ⟨a,b,xs,ys,rfl,rfl,ha,hb,hx,hz,fun e=> ?_,fun e p hp=> ?_⟩
  ·subst e;exact q a H (Same.refl _) (by rw[Bg];exact ha)
  ·exact q p _ (fun c o e=>by rw[cG (oH e hp)];exact e) (SqT.of au)
end
section
variable{X:Cx}{tg:Expr}
noncomputable def qL(K:W.Frag)(tl:TE):TI:=fun σ H R=>tl σ H fun x H1=>∃a xs,x= .ref a/\SqL K H1 a xs/\(xs.length<=sizeLine->R (Itl K a) H1)
noncomputable def aaE(K:W.Frag)(tl:TE):TI:=fun σ H R=>tl σ H fun x H1=>∃a xs,x= .ref a/\SqT K H1 a xs/\(xs.length<=sizeLine->R (Itt K a) H1)
theorem yh{l:Expr}{tl:TE}(hl:PE X l tl):PI X tg l (qL X.K tl):=by
 intro pins s σ H R I h;refine thn (hl pins s σ H _ I h) fun v s1 ⟨x,H1,I1,r1,q1⟩=> ?_;obtain⟨a,xs,e,hq,q⟩:=q1;subst e;cases r1;obtain⟨its,rv,p,hz⟩:=I1.list hq;refine wdq p.isList ?_;refine⟨s1.heap.objs.size,[s1.heap.objs.size],_,_,H1,rfl,I1.kept (t':=s1.toks) fun b o e=>lH _ e,turn_list a _,⟨_,sY _ rfl,rfl,rfl⟩,fun b hb=> ?_,q hz⟩;have e:b=s1.heap.objs.size:=by simpa using hb
 subst e;exact I1.fpOk (aW _) (I1.hok.fresh (aW _))
theorem JX{l:Expr}{tl:TE}(hl:PE X l tl):PI X tg l (aaE X.K tl):=by
 intro pins s σ H R I h;refine thn (hl pins s σ H _ I h) fun v s1 ⟨x,H1,I1,r1,q1⟩=> ?_;obtain⟨a,xs,e,hq,q⟩:=q1;subst e;cases r1;obtain⟨its,rv,p,hz⟩:=I1.tuple hq;refine wby (show s1.heap.IsTuple a its.toArray from p) ?_;refine⟨s1.heap.objs.size,[s1.heap.objs.size],_,_,H1,rfl,I1.kept (t':=s1.toks) fun b o e=>lH _ e,turn_tuple a _,⟨_,sY _ rfl,rfl,rfl⟩,fun b hb=> ?_,q hz⟩;have e:b=s1.heap.objs.size:=by simpa using hb
 subst e;exact I1.fpOk (aW _) (I1.hok.fresh (aW _))
theorem v7:CallR X (.builtin "len") (fun xs H Q=>∃p ys,xs=[.ref p]/\(SqL X.K H p ys\/SqT X.K H p ys)/\(ys.length<=16777216->Q (.int ys.length) H)):=by
 intro pins s σ H xs us Q I r h;obtain⟨p,ys,rfl,hq,q⟩:=h;have hz:ys.length<=16777216:=by
  rw[<-fZ];rcases hq with hq|hq
  ·exact(I.list hq).choose_spec.2.2
  ·exact(I.tuple hq).choose_spec.2.2
 exact call_len_seq pins s σ H _ us Q I r ⟨p,ys,rfl,hq,q hz⟩
end
mutual
inductive DX(K:W.Frag)(H:Hp):V->θ->Prop
 |non:DX K H .non .none
 |bl (b:Bool):DX K H (.bl b) (.bool b)
 |int (i:Int):DX K H (.int i) (.int i)
 |str (x:Str):DX K H (.str x) (.str x)
 |tup {a:Addr} {xs:List V} {ds:List θ} (h:SqT K H a xs) (t:jg K H xs ds):DX K H (.ref a) (.tuple ds)
 |lst {a:Addr} {xs:List V} {ds:List θ} (h:SqL K H a xs) (t:jg K H xs ds):DX K H (.ref a) (.list ds)
 |dct {a:Addr} {kvs:List (Key×V)} (ds:List (θ×θ)) (h:H a=some (.dK kvs)):DX K H (.ref a) (.dict ds)
inductive jg(K:W.Frag)(H:Hp):List V->List θ->Prop
 |nil:jg K H [] []
 |cons {x:V} {d:θ} {xs:List V} {ds:List θ} (h:DX K H x d) (t:jg K H xs ds):jg K H (x::xs) (d::ds)
end
theorem DX.same{K:W.Frag}{H H':Hp}(e:Same H H'){x:V}{d:θ}(h:DX K H x d):DX K H' x d:=
 DX.rec (motive_1:=fun x d _=>DX K H' x d) (motive_2:=fun xs ds _=>jg K H' xs ds) .non (fun b=> .bl b) (fun i=> .int i) (fun x=> .str x) (fun h _ t=> .tup (e.tup h) t) (fun h _ t=> .lst (e.seq h) t) (fun ds h=> .dct ds (e _ _ h)) .nil (fun _ _ h t=> .cons h t) h
theorem jg.same{K:W.Frag}{H H':Hp}(e:Same H H'){xs:List V}{ds:List θ}(h:jg K H xs ds):jg K H' xs ds:=
 jg.rec (motive_1:=fun x d _=>DX K H' x d) (motive_2:=fun xs ds _=>jg K H' xs ds) .non (fun b=> .bl b) (fun i=> .int i) (fun x=> .str x) (fun h _ t=> .tup (e.tup h) t) (fun h _ t=> .lst (e.seq h) t) (fun ds h=> .dct ds (e _ _ h)) .nil (fun _ _ h t=> .cons h t) h
theorem DV.dx{K:W.Frag}{H:Hp}{x:V}{d:θ}(h:DV K H x d):DX K H x d:=
 DV.rec (motive_1:=fun x d _=>DX K H x d) (motive_2:=fun xs ds _=>jg K H xs ds) .non (fun b=> .bl b) (fun i=> .int i) (fun x=> .str x) (fun h _ t=> .tup h t) (fun h _ t=> .lst h t) (fun h=> .dct [] h) (fun h _=> .dct _ h) .nil (fun _ _ h t=> .cons h t) h
theorem cJ.dx{K:W.Frag}{H:Hp}{xs:List V}{ds:List θ}(h:cJ K H xs ds):jg K H xs ds:=
 cJ.rec (motive_1:=fun _ _ _=>True) (motive_2:=fun xs ds _=>jg K H xs ds) trivial (fun _=>trivial) (fun _=>trivial) (fun _=>trivial) (fun _ _ _=>trivial) (fun _ _ _=>trivial) (fun _=>trivial) (fun _ _=>trivial) .nil (fun h _ _ t=> .cons h.dx t) h
noncomputable def kI:θ->String
 | .none=>"NoneType"
 | .bool _=>"bool"
 | .int _=>"int"
 | .str _=>"str"
 | .list _=>"list"
 | .tuple _=>"tuple"
 | .dict _=>"dict"
theorem DX.kind{K:W.Frag}{H:Hp}:∀{x:V} {d:θ},DX K H x d->VJ K H x (kI d)
 |_,_,.non=>rfl
 |_,_,.bl _=>rfl
 |_,_,.int _=>rfl
 |_,_,.str _=>rfl
 |_,_,.tup h _=> .inl ⟨rfl,_,h⟩
 |_,_,.lst h _=> .inr (.inl ⟨rfl,_,h⟩)
 |_,_,.dct _ h=> .inr (.inr ⟨rfl,_,h⟩)
theorem jg.len{K:W.Frag}{H:Hp}{xs:List V}{ds:List θ}(h:jg K H xs ds):xs.length=ds.length:=
 jg.rec (motive_1:=fun _ _ _=>True) (motive_2:=fun xs ds _=>xs.length=ds.length) trivial (fun _=>trivial) (fun _=>trivial) (fun _=>trivial) (fun _ _ _=>trivial) (fun _ _ _=>trivial) (fun _ _=>trivial) rfl (fun _ _ _ t=>jX Nat.succ t) h
theorem jg.get{K:W.Frag}{H:Hp}:∀{xs:List V} {ds:List θ} {i:Nat} {x:V},jg K H xs ds->xs[i]? =some x->∃d,ds[i]? =some d/\DX K H x d
 |_,_,_,_,.nil,e=>by simp at e
 |_,_,0,_,.cons h _,e=>by simp at e;subst e;exact⟨_,rfl,h⟩
 |_,_,i+1,x,.cons _ t,e=>by
  obtain⟨d,h1,h2⟩:=jg.get (i:=i) t (by simpa using e);exact⟨d,by simpa using h1,h2⟩
structure bK(K:W.Frag)(mg:L4)(x:Str)(st:Stmt)(ps:List Str)(f:Addr)(fd:ρ):Prop where
 F:Fun K x x st f fd
 b:Binds K fd ps []
 m:mg x=some (.ref f)
theorem pc{X:Cx}{x:Str}{st:Stmt}{ps:List Str}{f:Addr}{fd:ρ}{j k:Nat}{sp:Sp}{E:XK}{e:Expr}{es:List Expr}{t:TA}{p pos:Pos}(F:FnOk X.prog X.w X.K X.mg X.base CX0 j f fd ps sp)(hr:Room k X.A)(D:bK X.K X.mg x st ps f fd)(ha:PA X (e::es) t)(hj:j<=k:=by first |decide|omega)(hg:Gl X x:=by rfl)(hx:Passes CX0 X E:=by exact pass0)(hdb:(x==("__debug__":Str))=false:=by decide)(he:starEach (e::es) X.env=(false,eval e X.env)::starEach es X.env:=by rfl)(hpl:(backTo pos (starEach es X.env)).any (·.1)=false:=by rfl):PE X (.Call (.Name x p) (e::es) [] pos) (tCall sp [] E t):=pe_call (F.mono hj) hr hg D.m D.F.kp D.b .nil hx ha hdb he hpl
theorem fsc{N P:List Str}{sc:Scope}(a:sc.kind= .function:=by rfl)(b:sc.isCoroutine=false:=by rfl)(c:sc.isGenerator=false:=by rfl)(d:N.Nodup:=by decide+kernel)(e:N.take P.length=P:=by rfl)(f:∀x∈P,sc.names.lookup x=some .local\/sc.names.lookup x=some .cell:=by decide+kernel)(g:∀y∈sc.names,y.2≠.free:=by decide+kernel):FnScope N P sc:=⟨a,b,c,d,e,f,g⟩
theorem Fun.cQ{P:ξ}{w:τ}{K:W.Frag}{mg:L4}{base:Heap}{x qual:Str}{st:Stmt}{f:Addr}{fd:ρ}{ps:List Str}{k:Nat}{sp:Sp}(F:Fun K x qual st f fd)(N:List Str)(hb:∀(cdv:ζ) (A:Around) (outer:List Env) (s:η) (H:Hp) (vs:List V) (Q:VK) (E:XK),Room k (A.deeper (PyProof.Rows.envOfC qual (defScope st) s.heap.objs.size f cdv))->sp vs H Q E->
   ∃t,PSs (cxOf CX0 P w K mg base N qual (defScope st) f cdv A outer s H E).nox (defBody st) t/\t {nx:=fun _ H'=>Q .non H',rt:=Q} (start N vs) H)(S:FnScope N ps (defScope st):=by exact fsc)(len:∀vs H Q E,sp vs H Q E->vs.length=ps.length:=by intro _ _ _ _ h;repeat(first |(obtain⟨rfl,_⟩:=h;rfl)|obtain⟨_,h⟩:=h)):FnOk P w K mg base CX0 (k+1) f fd ps sp:=F.ok S len hb
theorem aK{H:Hp}{p:Addr}(h:H p=none)(o:HO):Same H (upd H p o):=fun b u q=>by rw[cG (oH q h)];exact q
end L2
namespace oG
open PySem L2
noncomputable def fX:θ->Bool
 | .int _=>true
 |_=>false
noncomputable def bx(n:Int):θ->Bool
 | .int i=>decide (0<=i)&&decide (i<n)
 |_=>false
noncomputable def intD:θ->Int
 | .int i=>i
 |_=>0
noncomputable def kids:θ->List θ
 | .tuple ds=>ds
 |_=>[]
noncomputable def cM(ns:List Int):Bool:=(List.range (ns.length-1)).all fun k=>decide (ns.getD k 0<ns.getD (k+1) 0)
noncomputable def dG(ts:List (List Int)):Bool:=(List.range (ts.length-1)).all fun k=>HT.lexLt (ts.getD k []) (ts.getD (k+1) [])
noncomputable def dZ(n:Int):θ->Bool
 | .tuple ds=>ds.all (bx n)&&cM (ds.map intD)
 |_=>false
noncomputable def mX(n:Int)(d:θ):Bool:=dZ n d&&decide ((kids d).length=2)
noncomputable def oN(n:Int):θ->Bool
 | .tuple ds=>ds.all (mX n)&&dG (ds.map fun t=>(kids t).map intD)
 |_=>false
noncomputable def mW:θ->Bool
 | .tuple [n,t]=>fX n&&(decide (0<=intD n)&&decide (intD n<=10))&&oN (intD n) t
 |_=>false
theorem uc{n:Int}:∀{d:θ},bx n d=true->∃i,d= .int i/\0<=i/\i<n
 | .int i,h=>⟨i,rfl,by simpa[bx]using h⟩
end oG
namespace L2
open PySem PySem.Spec PyProof.Rows
section
variable{X:Cx}
theorem HS(K:W.Frag)(h:X.K=K:=by rfl):IxR X (rIxT K):=by subst h;exact cW
theorem iW(K:W.Frag)(h:X.K=K:=by rfl):IxR X (rIxL K):=by subst h;exact jF
theorem JL(K:W.Frag)(h:X.K=K:=by rfl):CallR X (.builtin "len") (fun xs H Q=>∃p ys,xs=[.ref p]/\(SqL K H p ys\/SqT K H p ys)/\(ys.length<=16777216->Q (.int ys.length) H)):=by subst h;exact v7
theorem Gw(K:W.Frag)(hu:X.A.units<cLine)(h:X.K=K:=by rfl):OpR X (compareOp .Lt) (rLtT K):=by subst h;exact op_ltT hu
theorem lO(K:W.Frag)(hu:X.A.units+64<cLine)(h:X.K=K:=by rfl):OpR X (compareOp .In) (fun x y H Q=>∃(p:Addr) (xs:List V) (ds:List θ) (dx:θ),y= .ref p/\(SqL K H p xs\/SqT K H p xs)/\cJ K H xs ds/\DV K H x dx/\PyData.canLayAll0 ds=true/\dx.canLay0=true/\dx.depth<=60/\
  Q (.bl (ds.any fun d=>PyData.eqv d dx)) H):=by subst h;exact wI hu
theorem fH(K:W.Frag){es:List Expr}{k:Nat}{t:TGs}{n:Nat}{pos:Pos}(hc:X.calm=true)(h:PGs X es t)(hn:(assignEach es X.env).length=n:=by rfl)(hst:(assignEach es X.env).findIdx? (·.1)=none:=by rfl)(hK:X.K=K:=by rfl):PG X (.Tuple es k pos) (gTup K n t):=by subst hK;exact pg_tup hc h hn hst
end
end L2
namespace PySem
open Sem (wp)
open AutoSeq1 (wpAny_loadPart')
section
variable{prog:ξ}{w:τ}{A:Around}{E:L3}{s:η}
theorem lU{Q:List ζ->η->Prop}{r:Addr}{a b c:Int}{t u v:Tok}{n:Nat}(hh:A.handled=none)(hr:IsRange s.heap r a b c t u v)(hsmall:Builtin.Range.small a b c=true)(hn:Builtin.Range.rangeSize a b c=n)(hlen:n<=2^24)(hQ:∀h' tk acc,(∀b o',s.heap.get? b=some o'->h'.get? b=some o')->ItemsOf (fun i v=>∃t,v= .int (a+i*c) t) acc n->Q acc.toList {s with heap:=h',toks:=tk}):
  wpAny (model prog w) A (collect (.ref r)) Q E s:=by
 unfold collect;refine bL (wpAny_runValue (Z6 F.entry_proto_collect ?_));rw[Around.under_plainId F.plain_proto_collect _];show wpAny _ A.in1 (newList []>>=fun l=>again (.builtin "list.__iadd__" ⟨[l,.ref r],[]⟩)) _ _ s;refine bL (Y6 ?_);refine iD ⟨plainId_quiet F.plain_list_iadd _,Z6 F.entry_list_iadd ?_⟩;rw[Around.under_plainId F.plain_list_iadd _];show wpAny _ A.in1 (Builtin.List.listExtendWith (.ref s.heap.objs.size) (.ref r) (.ref s.heap.objs.size)) _ _ _;have hS:(s.heap.push {cls:= .type "list",data:= .seq ([]:List ζ).toArray}).get? s.heap.objs.size=some {cls:= .type "list",data:= .seq #[] 0}:=sY _ rfl;have fin':∀h' tk acc' c',(∀b o,b≠s.heap.objs.size->(s.heap.push {cls:= .type "list",data:= .seq ([]:List ζ).toArray}).get? b=some o->h'.get? b=some o)->
   h'.get? s.heap.objs.size=some {cls:= .type "list",dict:=none,data:= .seq acc' c',slots:=#[]}->ItemsOf (fun i v=>∃t,v= .int (a+i*c) t) acc' n->wpAny (model prog w) A (match Value.ref s.heap.objs.size with
   |Value.ref a=>do
    match(<-load a).data with
     |Data.seq xs _=>pure xs.toList
     |_=>unsupported "internal:collect"
   |_=>unsupported "internal:collect") Q E {s with heap:=h',toks:=tk}:=fun h' tk acc' c' hk hS' hacc=>by
  show wpAny _ A (load s.heap.objs.size>>=_) _ _ _;refine bL (wpAny_load hS' ?_);refine iD ?_;exact hQ h' tk acc' (fun b o e=>hk b o (jh (fW e)) (lH _ e)) hacc
 refine Ft (wpAny_extend_range (A:=A) (R:=fun r s'=>r= .ok (.ret (.ref s.heap.objs.size))/\∃h' tk acc' c',s'={s with heap:=h',toks:=tk}/\(∀b o,b≠s.heap.objs.size->(s.heap.push {cls:= .type "list",data:= .seq ([]:List ζ).toArray}).get? b=some o->h'.get? b=some o)/\
   h'.get? s.heap.objs.size=some {cls:= .type "list",dict:=none,data:= .seq acc' c',slots:=#[]}/\ItemsOf (fun i v=>∃t,v= .int (a+i*c) t) acc' n) (s:={s with heap:=s.heap.push {cls:= .type "list",data:= .seq ([]:List ζ).toArray}}) hh (lH _ hr) hsmall hn hlen s.heap.objs.size (.ref s.heap.objs.size) 0 hS (fun h' tk acc' c' hk hS' hacc=>⟨rfl,h',tk,acc',c',rfl,hk,hS',hacc⟩)) (fun fin s' h=> ?_) (fun e s' h=> ?_)
 ·cases fin with
  |done f=>
   obtain⟨e,h',tk,acc',c',rfl,h1,h2,h3⟩:=h;cases e;exact fin' h' tk acc' c' h1 h2 h3
  |again c'=>exact⟨h.1,Wa h.2 fun r s'' hr=>by obtain⟨rfl,h',tk,acc',c',rfl,h1,h2,h3⟩:=hr;exact fin' h' tk acc' c' h1 h2 h3⟩
 ·exact absurd h.1 (by simp)
end
theorem jO(r:Addr)(a b c:Int)(t u v:Tok)(n:Nat)(hsmall:Builtin.Range.small a b c=true)(hn:Builtin.Range.rangeSize a b c=n)(hlen:n<=2^24):
  Meets (Builtin.«tuple.__new__» ⟨[.type "tuple",.ref r],[]⟩)
   (fun A R s=>A.handled=none/\IsRange s.heap r a b c t u v/\∀(h':Heap) tk acc,(∀b o',s.heap.get? b=some o'->h'.get? b=some o')->ItemsOf (fun i v=>∃t,v= .int (a+i*c) t) acc n->R (.ok (.ret (.ref h'.objs.size))) {s with heap:=h'.push {cls:= .type "tuple",data:= .seq acc},toks:=tk}):=
 .of_wp fun prog w A R s h=>by
  obtain⟨hp,g,d,tk,os⟩:=s;obtain⟨hh,ht,h⟩:=h;have hsub:=sub_tuple_self;have hinit:=init_tuple_lookup;have hmh:=madeHere_tuple;have hT:Shared.TypeIs ⟨hp,g,d,tk,os⟩ (.ref r) "range":=⟨_,ht,rfl⟩
  wp_walk using wpAny_loadPart' ht,wpAny_typeOf hT,lU (A:=A.in1) hh ht hsmall hn hlen
  intro h' tk' acc hk hacc;show wpAny _ _ (Builtin.Tuple.tupleExact acc.toList.toArray>>=fun v=>ret v) _ _ _;unfold Builtin.Tuple.tupleExact;refine bL (Y6 ?_ (by show acc.toList.toArray.size<=sizeLine;rw[fZ];simp;rw[hacc.1];omega));refine iD ⟨_,rfl,?_⟩;have e:acc.toList.toArray=acc:=by simp
  rw[e];exact h h' tk' acc hk hacc
section
variable{prog:ξ}{w:τ}{A:Around}{E:L3}{s:η}
theorem qP{Q:L3}{r:Addr}{a b c:Int}{t u v:Tok}{n:Nat}(hh:A.handled=none)(hr:IsRange s.heap r a b c t u v)(hsmall:Builtin.Range.small a b c=true)(hn:Builtin.Range.rangeSize a b c=n)(hlen:n<=2^24)(h:∀(h':Heap) tk acc,(∀b o',s.heap.get? b=some o'->h'.get? b=some o')->ItemsOf (fun i v=>∃t,v= .int (a+i*c) t) acc n->Q (.ref h'.objs.size) {s with heap:=h'.push {cls:= .type "tuple",data:= .seq acc},toks:=tk}):
  wpAny (model prog w) A (call (.type "tuple") [.ref r]) Q E s:=
 callType_new F.called_tuple (by decide) (F.typeCall_tuple_1 _) (F.newCall_tuple_1 _) (fun obj=>F.args_object_init_2 obj _) F.entry_tuple_new
  (jO r a b c t u v n hsmall hn hlen) ⟨hh,hr,fun h' tk acc hk hacc=>⟨⟨_,sY _ rfl,rfl⟩,h h' tk acc hk hacc⟩⟩
end
end PySem
namespace L2
open PySem PySem.Spec PyProof.Rows
section
variable{X:Cx}{p p' pos pos':Pos}{a:Expr}{ta:TA}
noncomputable def dX(n:Nat):List V:=(List.range n).map fun(k:Nat)=>V.int (k:Int)
noncomputable def aag(ta:TA):TE:=fun σ H Q=>ta σ H fun vs H1=>∃j:Int,vs=[.int j]/\0<=j/\j<=16777216/\∀l,H1 l=none->Q (.ref l) (upd H1 l (.tup (dX j.toNat)))
theorem tD:∀{n:Nat} {us:List ζ},us.length=n->(∀(j:Nat) (u:ζ),us[j]? =some u->∃t:Tok,u=Value.int (0+((j:Nat):Int)*1) t)->Vals (dX n) us:=by
 intro n us hl hi;have go:∀(us:List ζ) (k:Nat),(∀(j:Nat) (u:ζ),us[j]? =some u->∃t:Tok,u=Value.int (0+((j+k:Nat):Int)*1) t)->Vals ((List.range' k us.length).map fun(k:Nat)=>V.int (k:Int)) us:=by
  intro us
  induction us with
  |nil=>intro k _;exact .nil
  |cons u us ih=>
   intro k h;obtain⟨t,e⟩:=h 0 u rfl;refine .cons ⟨t,?_⟩ (ih (k+1) fun j u' hj=> ?_)
   ·rw[e];congr 1;omega
   ·obtain⟨t',e'⟩:=h (j+1) u' (by simpa using hj);refine⟨t',?_⟩;rw[e'];congr 1;omega
 have:=go us 0 (fun j u hj=>by obtain⟨t,e⟩:=hi j u hj;exact⟨t,by rw[e];rfl⟩);unfold dX;rw[List.range_eq_range',<-hl];exact this
theorem zj(hc:X.calm=true)(hgT:Gl X "tuple")(hmT:X.mg "tuple"=none)(hg:Gl X "range")(hm:X.mg "range"=none)(ha:PA X [a] ta)(hs:starEach [a] X.env=[(false,eval a X.env)]:=by rfl)(hs2:starEach [Expr.Call (.Name "range" p') [a] [] pos'] X.env=[(false,eval (Expr.Call (.Name "range" p') [a] [] pos') X.env)]:=by rfl):
  PE X (.Call (.Name "tuple" p) [.Call (.Name "range" p') [a] [] pos'] [] pos) (aag ta):=by
 intro pins s σ H Q I h;refine Ri (ld_blt I hgT hmT (show bootBuiltins "tuple"=some (.type "tuple")from by decide+kernel) ?_ (by decide) (by decide));refine QK ?_ hs2 rfl;rw[hs2];refine wbv ?_;refine Call_ (ld_blt I hg hm ZQ (QK (thn (ha pos' pins s σ H _ I h) fun us s1 ⟨vs,H1,I1,r1,q1⟩=> ?_) hs rfl));obtain⟨j,e,q1,q2,q⟩:=q1;subst e;cases r1 with
 |cons r rr=>
  cases rr;obtain⟨t,rfl⟩:=r;refine call_range_1 ?_;refine wch ?_;have hn:Builtin.Range.rangeSize 0 j 1=((j.toNat:Nat):Int):=by rw[wdw];split<;>omega
  refine qP (I.ok.hd hc) (wev ..) (small_one (by decide) (by decide) (by omega) (by omega)) hn (by omega) fun h' tk acc hk hacc=> ?_;have I2:Inv X pins σ H1 {s1 with heap:=h',toks:=tk}:=I1.kept fun b o e=>hk b o (lH _ e);have hv:Vals (dX j.toNat) acc.toList:=tD (by rw[V5];exact hacc.1) (fun i u hu=>hacc.2 i u (by simpa using hu));have hz:(dX j.toNat).length<=sizeLine:=by unfold dX;rw[fZ];simp;omega
  have I3:Inv X pins σ (upd H1 h'.objs.size (.tup (dX j.toNat))) {s1 with heap:=h'.push {cls:= .type "tuple",data:= .seq acc},toks:=tk}:=
   I2.laid (t':=tk) (fun b o e=>lH _ e) (aW _) (show ObjOk X.prog X.w _ _ _ (.tup (dX j.toNat))from⟨hz,acc.toList,hv,by rw[show acc=acc.toList.toArray by simp];exact IsTup.new _ _⟩)
  exact⟨.ref h'.objs.size,_,I3,rfl,q _ (I2.hok.fresh (aW _))⟩
open Classical in
theorem vO(hu:X.A.units+64<cLine):OpR X (compareOp .NotIn) (fun x y H Q=>∃(p:Addr) (xs:List V) (ds:List θ) (dx:θ),y= .ref p/\(SqL X.K H p xs\/SqT X.K H p xs)/\cJ X.K H xs ds/\DV X.K H x dx/\PyData.canLayAll0 ds=true/\dx.canLay0=true/\dx.depth<=60/\
  Q (.bl (!(ds.any fun d=>PyData.eqv d dx))) H):=by
 intro pins s σ H x y v u Q I rx ry h;obtain⟨p,xs,ds,dx,rfl,hq,hds,hx,ca,cb,hd,q⟩:=h;cases ry;obtain⟨bs,rb⟩:=DV.reads I hx rx;have key:∀{its:List ζ},Vals xs its->(∀y∈its,SeqAt.EqAt X.A.in1 s y v (decide (∃d as,Reads s.heap y d as/\d∈ds/\PyData.eqv d dx=true)))/\(its.any fun y=>decide (∃d as,Reads s.heap y d as/\d∈ds/\PyData.eqv d dx=true))=ds.any fun d=>PyData.eqv d dx:=by
  intro its rv;obtain⟨as,ra⟩:=cJ.reads I hds rv;have each:∀{us:List ζ} {es:List θ} {as:List Addr},ReadsAll s.heap us es as->(∀e∈es,e∈ds)->(∀y∈us,SeqAt.EqAt X.A.in1 s y v (decide (∃d as,Reads s.heap y d as/\d∈ds/\PyData.eqv d dx=true)))/\(us.any fun y=>decide (∃d as,Reads s.heap y d as/\d∈ds/\PyData.eqv d dx=true))=es.any fun d=>PyData.eqv d dx:=by
   intro us
   induction us with
   |nil=>intro es as h _;cases h;exact⟨(fun y hy=>(nomatch hy)),rfl⟩
   |cons y us ih=>
    intro es as h hs;cases h with
    | @cons _ _ d ds' as' bs' r rr=>
     obtain⟨i1,i2⟩:=ih rr fun e he=>hs e (jW _ he);have cl:=Ez ca d (hs d jG);have e:decide (∃d as,Reads s.heap y d as/\d∈ds/\PyData.eqv d dx=true)=PyData.eqv d dx:=by
      rw[was,QH];constructor
      ·rintro⟨d',as'',r',_,q'⟩;obtain⟨rfl,_⟩:=(PySem.Reads.unique r _ _ r');exact q'
      ·intro q';exact⟨d,_,r,hs d jG,q'⟩
     refine⟨fun z hz=> ?_,?_⟩
     ·rcases cZ.mp hz with rfl|hz
      ·rw[e];exact SeqAt.eqAt_reads d dx _ s _ _ _ _ r rb cl cb (by show X.A.units+1+min d.depth dx.depth<cLine;omega)
      ·exact i1 z hz
     ·rw[Z0,Z0,i2,e]
  exact each ra fun e he=>he
 rcases hq with hq|hq
 ·obtain⟨its,r,pl,hz⟩:=I.list hq;obtain⟨k1,k2⟩:=key r;refine SeqAt.notIn_listAt _ pl.isList (fun w hw=>k1 w (by simpa using hw)) ⟨.bl _,H,I,rfl,?_⟩;rw[show∀f:ζ->Bool,its.toArray.any f=its.any f from fun f=>by simp,k2];exact q
 ·obtain⟨its,r,pl,hz⟩:=I.tuple hq;obtain⟨k1,k2⟩:=key r;refine SeqAt.notIn_tupleAt _ pl (fun w hw=>k1 w (by simpa using hw)) ⟨.bl _,H,I,rfl,?_⟩;rw[show∀f:ζ->Bool,its.toArray.any f=its.any f from fun f=>by simp,k2];exact q
end
end L2
namespace PySem
open Sem (wp)
open Builtin
open AutoSeq1 (wpAny_loadPart')
theorem qF:fillsNumberSlot (.type "tuple") "mul"=pure false:=
 fillsNumberSlot_seq (id:="tuple.__mul__") (r:=some (.builtin "tuple.__rmul__")) F.slot_tuple_mul.lookup (by decide+kernel) F.slot_tuple_rmul.lookup (by decide+kernel)
theorem wF:seqRepeat? (.type "tuple")=pure (some (.builtin "tuple.__mul__")):=by
 unfold seqRepeat?;rw[seqSlot_of (T:="tuple") (name:="__mul__") (id:="tuple.__mul__") F.slot_tuple_mul.lookup (by decide+kernel),seqSlot_of (T:="tuple") (name:="__rmul__") (id:="tuple.__rmul__") F.slot_tuple_rmul.lookup (by decide+kernel)];rfl
theorem wX(a:Int)(t:Tok)(l:Addr)(items:Array ζ)(n:Nat)(d:Option Addr)(sl:Array (Option ζ)):
  Meets (Builtin.«int.__rmul__» ⟨[.int a t,.ref l],[]⟩) (fun _ R s=>s.heap.get? l=some {cls:= .type "tuple",dict:=d,data:= .seq items n,slots:=sl}/\R (.ok (.ret Value.notImplemented)) s):=
 .of_wp fun prog w A R s h=>by obtain⟨hp,g,d,tk,os⟩:=s;obtain⟨hl,h⟩:=h;wp_walk;exact⟨_,rfl,h⟩
theorem tup_mul_1(l:Addr)(items:Array ζ)(n:Nat)(d:Option Addr)(sl:Array (Option ζ))(x:Int)(u:Tok)(hx:x=1):
  Meets (Builtin.«tuple.__mul__» ⟨[.ref l,.int x u],[]⟩) (fun _ R s=>s.heap.get? l=some {cls:= .type "tuple",dict:=d,data:= .seq items n,slots:=sl}/\R (.ok (.ret (Value.ref l))) s):=
 .of_wp fun prog w A R s h=>by
  subst hx;obtain⟨hp,g,d,tk,os⟩:=s;obtain⟨hl,h⟩:=h;have f1:=weg
  wp_walk using wpAny_loadPart' hl;exact⟨_,rfl,h⟩
theorem tup_mul_0(l:Addr)(items:Array ζ)(n:Nat)(d:Option Addr)(sl:Array (Option ζ))(x:Int)(u:Tok)(hx:x<=0)(hlo: -(2^63)<=x)(hne:items.isEmpty=false):
  Meets (Builtin.«tuple.__mul__» ⟨[.ref l,.int x u],[]⟩) (fun _ R s=>s.heap.get? l=some {cls:= .type "tuple",dict:=d,data:= .seq items n,slots:=sl}/\R (.ok (.ret (Value.ref s.heap.objs.size))) {s with heap:=s.heap.push {cls:=Value.type "tuple",data:=Data.seq #[]},toks:=s.toks}):=
 .of_wp fun prog w A R s h=>by
  obtain⟨hp,g,d,tk,os⟩:=s;obtain⟨hl,h⟩:=h;have f1:=weg;have c1:¬((decide (x< -(2^63))||decide (x≥2^63))=true):=by simp;omega
  have c2:¬((items.isEmpty||x==1)=true):=by rw[hne];simp;omega
  have c3:(decide (x<=0)||items.isEmpty)=true:=by rw[hne];simp;omega
  wp_walk using wpAny_loadPart' hl;rw[aB c1];wp_walk using wpAny_loadPart' hl;rw[aB c2];wp_walk using wpAny_loadPart' hl;exact⟨_,rfl,h⟩
theorem Ip(l:Addr)(items:Array ζ)(n:Nat)(d:Option Addr)(sl:Array (Option ζ))(x:Int)(u:Tok)(hx:1<x)(hhi:x<2^63)(hne:items.isEmpty=false)(hsz:items.size*x.toNat<=1000):
  Meets (Builtin.«tuple.__mul__» ⟨[.ref l,.int x u],[]⟩) (fun _ R s=>s.heap.get? l=some {cls:= .type "tuple",dict:=d,data:= .seq items n,slots:=sl}/\R (.ok (.ret (Value.ref s.heap.objs.size))) {s with heap:=s.heap.push {cls:=Value.type "tuple",data:=Data.seq (List.foldl (fun x1 x2=>x1++x2) #[] (List.replicate x.toNat items))},toks:=s.toks}):=
 .of_wp fun prog w A R s h=>by
  obtain⟨hp,g,d,tk,os⟩:=s;obtain⟨hl,h⟩:=h;have f1:=weg;have c1:¬((decide (x< -(2^63))||decide (x≥2^63))=true):=by simp;omega
  have c2:¬((items.isEmpty||x==1)=true):=by rw[hne];simp;omega
  have c3:¬((decide (x<=0)||items.isEmpty)=true):=by rw[hne];simp;omega
  have hxs:(items.size:Int)*x=((items.size*x.toNat:Nat):Int):=by rw[ZC,wcy (by omega)]
  have c4:¬((items.size:Int)*x>(2^63-1)/8):=by rw[hxs];omega
  have c5:¬(Builtin.Tuple.tupleTooMany ((items.size:Int)*x)=true):=by
   rw[hxs];intro z;have z':((items.size*x.toNat:Nat):Int)>(sizeLine:Int):=fM z;have:=fZ;generalize items.size*x.toNat=m at *;omega
  have htake:(List.foldl (fun x1 x2=>x1++x2) #[] (List.replicate x.toNat items)).size<=sizeLine:=by
   have e:List.foldl (fun x1 x2=>x1++x2) #[] (List.replicate x.toNat items)=(List.replicate x.toNat items.toList).flatten.toArray:=by
    have:=PyProof.Rows.listMul_foldl_if items x.toNat;rw[aB (by rw[hne];simp)]at this;exact this
   rw[e,iH];have:(List.replicate x.toNat items.toList).flatten.length=x.toNat*items.size:=by simp
   rw[this,ZW,fZ];omega
  wp_walk using wpAny_loadPart' hl;rw[aB c1];wp_walk using wpAny_loadPart' hl;rw[aB c2];wp_walk using wpAny_loadPart' hl;rw[aB c3]
  try dsimp only
  rw[aB c4]
  try dsimp only
  rw[aB c5]
  try dsimp only
  unfold Builtin.Tuple.tupleExact;refine bL (Y6 (iD ?_) htake);exact⟨_,rfl,h⟩
end PySem
namespace L2
open PySem PySem.Spec PyProof.Rows
section
variable{X:Cx}{p p' pos pos':Pos}{a:Expr}{ta:TA}
theorem Vals.aap{xs:List V}{us:List ζ}(h:Vals xs us):∀k:Nat,Vals (List.replicate k xs).flatten (List.replicate k us).flatten
 |0=> .nil
 |k+1=>by rw[V4,V4,ZG,ZG];exact h.append (Vals.aap h k)
noncomputable def aar(K:W.Frag):R2:=fun x y H Q=>∃a k xs,x= .ref a/\y= .int k/\SqT K H a xs/\xs≠[]/\ -(2^63)<=k/\k<2^63/\xs.length*k.toNat<=1000/\∀r H',Same H H'->SqT K H' r (List.replicate k.toNat xs).flatten->Q (.ref r) H'
theorem RZ:OpR X (binaryOp .Mult) (aar X.K):=by
 intro pins s σ H x y v u Q I rx ry h;obtain⟨a,k,xs,rfl,rfl,ha,hne,h1,h2,hz,q⟩:=h;cases rx;obtain⟨t,rfl⟩:=ry;obtain⟨its,r1,p1,_⟩:=I.tuple ha;obtain⟨⟨cls,dd,data,sl⟩,ho,hc,n,hd⟩:=id p1;simp only at hc hd;subst hc hd;have hlen:=r1.length;have hem:its.toArray.isEmpty=false:=by
  cases its with
  |nil=>cases r1;exact absurd rfl hne
  |cons _ _=>rfl
 have road:∀{S:PySem.Spec},Meets (Builtin.«tuple.__mul__» ⟨[.ref a,.int k t],[]⟩) S->S X.A (wants (EP X pins σ Q) X.xe) s->wpAny (model X.prog X.w) X.A (binaryOp .Mult (.ref a) (.int k t)) (EP X pins σ Q) X.xe s:=fun M hS=>
  wpAny_binaryOp_repeat_ref (T:="tuple") (U:="int") (by decide) ⟨_,ho,rfl⟩ (fun s'=>typeIs_int s' k t) qF F.fills_int_mul F.slot_int_rmul wF F.slot_int_index.lookup
   (Vc F.slot_int_rmul (typeIs_int s k t) F.entry_int_rmul (F.args_int_rmul_2 _ _) (wX k t a its.toArray n dd sl)
    ⟨ho,rfl,⟨_,ho,rfl⟩,Vc F.slot_tuple_mul ⟨_,ho,rfl⟩ F.entry_tuple_mul (F.args_tuple_mul_2 _ _) M hS⟩)
 by_cases c1:k=1
 ·refine road (tup_mul_1 a its.toArray n dd sl k t c1) ⟨ho,⟨.ref a,H,I,rfl,q a H (Same.refl _) ?_⟩⟩;subst c1;have:(List.replicate (1:Int).toNat xs).flatten=xs:=by simp
  rw[this];exact ha
 by_cases c0:k<=0
 ·refine road (tup_mul_0 a its.toArray n dd sl k t c0 h1 hem) ⟨ho,?_⟩;have e0:k.toNat=0:=by omega
  refine⟨.ref s.heap.objs.size,_,I.laid (t':=s.toks) (o:= .tup []) (fun b ob q=>lH _ q) (aW _) ⟨dF _,[],.nil,IsTup.new _ _⟩,rfl,q _ _ (fun c o e=>by rw[cG (oH e (I.hok.fresh (aW _)))];exact e) ?_⟩;rw[e0];exact SqT.of au
 ·have hsz:its.toArray.size*k.toNat<=1000:=by rw[iH,<-hlen];exact hz
  refine road (Ip a its.toArray n dd sl k t (by omega) h2 hem hsz) ⟨ho,?_⟩;have hnew:List.foldl (fun x1 x2=>x1++x2) #[] (List.replicate k.toNat its.toArray)=(List.replicate k.toNat its).flatten.toArray:=by
   have:=foldl_rep its k.toNat [];rw[List.nil_append]at this;exact this
  rw[hnew];have hz':(List.replicate k.toNat xs).flatten.length<=sizeLine:=by
   rw[len_rep,ZW];exact dD hz (by rw[fZ];decide)
  refine⟨.ref s.heap.objs.size,_,I.laid (t':=s.toks) (o:= .tup (List.replicate k.toNat xs).flatten) (fun b ob q=>lH _ q) (aW _) ⟨hz',_,Vals.aap r1 k.toNat,IsTup.new _ _⟩,rfl,q _ _ (fun c o e=>by rw[cG (oH e (I.hok.fresh (aW _)))];exact e) (SqT.of au)⟩
noncomputable def aai(ta:TA):TE:=fun σ H Q=>ta σ H fun vs H1=>∃j:Int,vs=[.int j]/\0<=j/\j<=16777216/\∀l,H1 l=none->Q (.ref l) (upd H1 l (.lst (dX j.toNat)))
theorem rA(hc:X.calm=true)(hgT:Gl X "list")(hmT:X.mg "list"=none)(hg:Gl X "range")(hm:X.mg "range"=none)(ha:PA X [a] ta)(hs:starEach [a] X.env=[(false,eval a X.env)]:=by rfl)(hs2:starEach [Expr.Call (.Name "range" p') [a] [] pos'] X.env=[(false,eval (Expr.Call (.Name "range" p') [a] [] pos') X.env)]:=by rfl):
  PE X (.Call (.Name "list" p) [.Call (.Name "range" p') [a] [] pos'] [] pos) (aai ta):=by
 intro pins s σ H Q I h;refine Ri (ld_blt I hgT hmT (show bootBuiltins "list"=some (.type "list")from by decide+kernel) ?_ (by decide) (by decide));refine QK ?_ hs2 rfl;rw[hs2];refine wbv ?_;refine Call_ (ld_blt I hg hm ZQ (QK (thn (ha pos' pins s σ H _ I h) fun us s1 ⟨vs,H1,I1,r1,q1⟩=> ?_) hs rfl));obtain⟨j,e,q1,q2,q⟩:=q1;subst e;cases r1 with
 |cons r rr=>
  cases rr;obtain⟨t,rfl⟩:=r;refine call_range_1 ?_;refine wch ?_;have hn:Builtin.Range.rangeSize 0 j 1=((j.toNat:Nat):Int):=by rw[wdw];split<;>omega
  refine call_list_range (I.ok.hd hc) (wev ..) (small_one (by decide) (by decide) (by omega) (by omega)) hn (by omega) fun h' tk acc c hk hS hacc=> ?_;have hv:Vals (dX j.toNat) acc.toList:=tD (by rw[V5];exact hacc.1) (fun i u hu=>hacc.2 i u (by simpa using hu));have hz:(dX j.toNat).length<=sizeLine:=by unfold dX;rw[fZ];simp;omega
  have I2:Inv X pins σ H1 {s1 with heap:=s1.heap.push {cls:=Value.type "range",data:=Data.fields #[Value.int 0 s1.toks,Value.int j t,Value.int 1 (s1.toks+1)]},toks:=s1.toks+1+1}:=I1.kept fun b o e=>lH _ e;exact⟨.ref _,_,I2.laid (t':=tk) (o:= .lst (dX j.toNat)) hk (aW _) ⟨hz,acc.toList,c,hv,by simpa using hS⟩,rfl,q _ (I2.hok.fresh (aW _))⟩
end
end L2
namespace PySem
open Sem (wp)
open AutoSeq1 (wpAny_loadPart')
theorem xG(l:Addr)(items:Array ζ)(n:Nat)(dct:Option Addr)(sl:Array (Option ζ)):
  Meets (Builtin.«enumerate.__new__» ⟨[.type "enumerate",.ref l],[]⟩) (fun _ R s=>s.heap.get? l=some {cls:= .type "tuple",dict:=dct,data:= .seq items n,slots:=sl}/\
   R (.ok (.ret (.ref (s.heap.push {cls:= .type "tuple_iterator",data:= .fields #[.ref l,.int 0 0]}).objs.size)))
    {s with heap:=(s.heap.push {cls:= .type "tuple_iterator",data:= .fields #[.ref l,.int 0 0]}).push {cls:= .type "enumerate",data:= .fields #[.none,.bool false,.ref s.heap.objs.size,rawInt 0,.none,.none]}}):=
 .of_wp fun prog w A R s h=>by
  obtain⟨hp,g,d,tk,os⟩:=s;obtain⟨hl,h⟩:=h;have hsub:=sub_enumerate;have hL:Heap.IsTuple (Shared.heap ⟨hp,g,d,tk,os⟩) l items:=⟨_,hl,rfl,n,rfl⟩
  wp_walk using wpAny_loadPart' hl
  refine wpAny_stack_any fun st=>iD ?_;split
  ·rename_i c _ _ _ _ _;cases(c==Value.type "enumerate")
   ·wp_walk using wpAny_loadPart' hl,wby hL;exact⟨_,rfl,h⟩
   ·wp_walk using wpAny_loadPart' hl,wby hL;exact⟨_,rfl,h⟩
  ·wp_walk using wpAny_loadPart' hl,wby hL;exact⟨_,rfl,h⟩
section
variable{prog:ξ}{w:τ}{A:Around}{E:L3}{s:η}
theorem Cq{it t:Addr}{i:Nat}{items:Array ζ}{x:ζ}{Q:L3}(hit:s.heap.IsTupleIter it t i)(ht:s.heap.IsTuple t items)(hx:items[i]? =some x)(hQ:∀h',h'.IsTupleIter it t (i+1)->Heap.SameBut it s.heap h'->Q x {s with heap:=h'}):wpAny (model prog w) A (Builtin.SmallTypes.nextOf (.ref it)) Q E s:=by
 obtain⟨o,ho,hc,hd⟩:=id hit;obtain⟨ol,hol,_,nl,hdl⟩:=ht;unfold Builtin.SmallTypes.nextOf;refine bL (wpAny_callSpecial?_slot (name:=Str.ofString "__next__") hit.typeIs wbd (wco wbd hit.typeIs wcz ?_ (wct _)));show wpAny _ _ (field (.ref it) 0>>=_) _ _ s;refine bL (wew ho hd (x:= .ref t) rfl ?_);show wpAny _ _ (if(Value.ref t==Value.none)=true then _ else _) _ _ s;rw[aB (show¬((Value.ref t==Value.none)=true)from uU)];show wpAny _ _ (field (.ref it) 1>>=_) _ _ s;refine bL (wew ho hd (x:= .int i 0) rfl ?_);show wpAny _ _ (seqItems? (.ref t)>>=_) _ _ s;refine bL (wpAny_seqItems hol hdl ?_);simp only[U4,hx];refine bL (wpAny_setField ho hd (by simp) (iD ⟨x,rfl,iD (hQ _ ?_ (wbj ..))⟩));exact⟨_,Heap.get?_update_self _ ho (Obj.isFreed_of_fields (Obj.data_mapFields hd _)),(Obj.cls_mapFields ..).trans hc,by rw[Obj.data_mapFields hd];simp[rawInt]⟩
theorem um{it t:Addr}{i:Nat}{items:Array ζ}{Q:L3}(hh:A.handled=none)(hit:s.heap.IsTupleIter it t i)(ht:s.heap.IsTuple t items)(hx:items[i]? =none)(hE:∀h' e,Heap.ExtBut it s.heap h'->(∃o,h'.get? e=some o/\o.cls= .type "StopIteration")->E (.ref e) {s with heap:=h'}):wpAny (model prog w) A (Builtin.SmallTypes.nextOf (.ref it)) Q E s:=by
 obtain⟨o,ho,hc,hd⟩:=id hit;obtain⟨ol,hol,_,nl,hdl⟩:=ht;unfold Builtin.SmallTypes.nextOf;refine bL (wpAny_callSpecial?_slot (name:=Str.ofString "__next__") hit.typeIs wbd (wco wbd hit.typeIs wcz ?_ (wct _)));show wpAny _ _ (field (.ref it) 0>>=_) _ _ s;refine bL (wew ho hd (x:= .ref t) rfl ?_);show wpAny _ _ (if(Value.ref t==Value.none)=true then _ else _) _ _ s;rw[aB (show¬((Value.ref t==Value.none)=true)from uU)];show wpAny _ _ (field (.ref it) 1>>=_) _ _ s;refine bL (wew ho hd (x:= .int i 0) rfl ?_);show wpAny _ _ (seqItems? (.ref t)>>=_) _ _ s;refine bL (wpAny_seqItems hol hdl ?_);simp only[U4,hx];refine bL (wpAny_rule (bL (wpAny_setField ho hd (by simp) ?_)));show wpAny _ _ (newExc (.type "StopIteration") []>>=_) _ _ _;refine bL ?_;simp only[newExc,newTuple];refine bL (Y6 ?_ (by size_fits));refine bL (m:=firstArgMember _ _) (wpAny_of_eq (a:=Value.none) (by first |rfl|(simp only[firstArgMember];rfl)) ?_);refine Y6 ?_ (by size_fits);simp only[raiseNew];refine bL (wpAny_handled ?_);first |rw[show A.in1.handled=none from hh]|rw[hh]
 refine bL (iD (wpAny_throw ?_));exact hE _ _ (((wbj ..).extBut.push _).push _) ⟨_,sY _ rfl,rfl⟩
end
theorem Draws.tup{prog:ξ}{w:τ}{A:Around}(hh:A.handled=none)(it l:Addr)(hne:l≠it)(items:Array ζ):
  Draws prog w A it [it,l] items.size (fun i v=>items[i]? =some v) (fun i h=>h.IsTupleIter it l i/\h.IsTuple l items) where
 live:=fun i h st=>by obtain⟨⟨o,e,_⟩,_⟩:=st;exact⟨o,e⟩
 frame:=fun i h h' st k=>⟨st.1.at fun o e=>k it (by simp) o e,st.2.at fun o e=>k l (by simp) o e⟩
 item:=fun i s Q E hi st hQ=>by
  have hx:items[i]? =some items[i]:=Array.getElem?_eq_getElem hi;exact Cq st.1 st.2 hx fun h' hit' hs=>hQ _ h' s.toks hx ⟨hit',st.2.at fun o e=>(hs.2 l hne).trans e⟩ hs
 done:=fun s Q E st hE=>um hh st.1 st.2 (Array.getElem?_eq_none (aW _)) hE
section
variable{prog:ξ}{w:τ}{A:Around}{E:L3}{s:η}
theorem vg{l:Addr}{items:Array ζ}{Q:L3}(hL:s.heap.IsTuple l items)(h:∀h',IsEnum h' (s.heap.objs.size+1) s.heap.objs.size 0 .none->h'.IsTupleIter s.heap.objs.size l 0->h'.objs.size=s.heap.objs.size+2->(∀b o,s.heap.get? b=some o->h'.get? b=some o)->Q (.ref (s.heap.objs.size+1)) {s with heap:=h'}):
  wpAny (model prog w) A (call (.type "enumerate") [.ref l]) Q E s:=by
 obtain⟨⟨c,dct,dt,sl⟩,hl,hc,n,hd⟩:=hL;replace hc:c= .type "tuple":=hc;replace hd:dt= .seq items n:=hd;subst hc hd;refine callType_new F.called_enumerate (by decide) (F.typeCall_enumerate_1 _) (F.newCall_enumerate_1 _) (fun obj=>F.args_object_init_2 obj _) F.entry_enumerate_new (xG l items n dct sl) ⟨hl,?_⟩;have hz:(s.heap.push {cls:= .type "tuple_iterator",data:= .fields #[.ref l,.int 0 0]}).objs.size=s.heap.objs.size+1:=Rb ..;show _/\_;rw[hz];have he:IsEnum ((s.heap.push {cls:= .type "tuple_iterator",data:= .fields #[.ref l,.int 0 0]}).push {cls:= .type "enumerate",data:= .fields #[.none,.bool false,.ref s.heap.objs.size,rawInt 0,.none,.none]}) (s.heap.objs.size+1) s.heap.objs.size 0 .none:=by
  have:=sY (s.heap.push {cls:= .type "tuple_iterator",data:= .fields #[.ref l,.int 0 0]}) (o:={cls:= .type "enumerate",data:= .fields #[.none,.bool false,.ref s.heap.objs.size,rawInt 0,.none,.none]}) rfl;rw[hz]at this;exact this
 exact⟨⟨_,he,rfl⟩,h _ he ⟨_,lH _ (sY _ rfl),rfl,rfl⟩ (by rw[Rb,hz]) fun b o x=>lH _ (lH _ x)⟩
end
end PySem
namespace L2
open PySem PySem.Spec PyProof.Rows
section
variable{X:Cx}{pins:L1}{σ:St}{H:Hp}{s:η}{h':Heap}
theorem Inv.vI{t':Nat}{fp:List Addr}{T:Addr}{o:HO}(I:Inv X pins σ H s)(k:∀b o,b∉fp->s.heap.get? b=some o->h'.get? b=some o)(hf:∀b∈fp,FpOk X pins H b)(hT:s.heap.objs.size<=T)(new:ObjOk X.prog X.w (upd H T o) h' T o):
  Inv X pins σ (upd H T o) {s with heap:=h',toks:=t'}:=by
 have hTn:H T=none:=I.hok.fresh hT;have nfp:∀b u,H b=some u->b∉fp:=fun b u e z=>by rw[(hf b z).1]at e;cases e
 have neT:∀b o,s.heap.get? b=some o->b≠T:=fun b o e=>jh (jY (fW e) hT);have neU:∀b u,H b=some u->b≠T:=fun b u e z=>by rw[z,hTn]at e;cases e
 refine I.step (g':=s.gens) (d':=s.drawn) (ch:=fp) (fun b hb=> ?_) (fun b o _ _ hc e _=>k b o hc e) (fun b o _ _ hc e _=>⟨o.slots,k b o hc e⟩) (fun b o _ e n=>by rw[cG (neT b o e)];exact n)
  (fun b o hc e=>⟨o,k b o hc e⟩) (fun b xs e=>by rw[cG (neU b _ e)];exact e) (fun b o u e=>by rw[cG (neU b _ e)];exact e) (fun b ps e=>⟨#[],by rw[cG (neU b _ e),e];simp⟩) (fun m hm=> ?_) (fun b u e=> ?_) I.bare
 ·obtain⟨f0,f1,f2,f3,f4,f5⟩:=hf b hb;exact⟨f3,f1,f4,f5⟩
 ·obtain⟨o,es,ep,ho,r⟩:=hm;exact⟨o,es,ep,k _ o (fun z=>(hf _ z).2.1 rfl) ho,r⟩
 ·by_cases hb:b=T
  ·subst hb;rw[au]at e;cases e;exact new
  ·rw[cG hb]at e;refine(I.hok b u e).stay (fun c v hc q=>k c v ?_ q) (fun c q=>by rw[cG (neU c _ q)];exact q) fun c xs q=>by rw[cG (neU c _ q)];exact q
   rcases hc with z|z
   ·rw[z];exact nfp b u e
   ·exact nfp c _ z
theorem Inv.turns{t':Nat}{fp:List Addr}(I:Inv X pins σ H s)(k:∀b o,b∉fp->s.heap.get? b=some o->h'.get? b=some o)(hf:∀b∈fp,FpOk X pins H b):Inv X pins σ H {s with heap:=h',toks:=t'}:=by
 have nfp:∀b u,H b=some u->b∉fp:=fun b u e z=>by rw[(hf b z).1]at e;cases e
 refine I.step (g':=s.gens) (d':=s.drawn) (ch:=fp) (fun b hb=> ?_) (fun b o _ _ hc e _=>k b o hc e) (fun b o _ _ hc e _=>⟨o.slots,k b o hc e⟩) (fun b o _ e n=>n)
  (fun b o hc e=>⟨o,k b o hc e⟩) (fun b xs e=>e) (fun b o u e=>e) (fun b ps e=>⟨#[],by rw[e];simp⟩) (fun m hm=> ?_) (fun b u e=> ?_) I.bare
 ·obtain⟨f0,f1,f2,f3,f4,f5⟩:=hf b hb;exact⟨f3,f1,f4,f5⟩
 ·obtain⟨o,es,ep,ho,r⟩:=hm;exact⟨o,es,ep,k _ o (fun z=>(hf _ z).2.1 rfl) ho,r⟩
 ·refine(I.hok b u e).stay (fun c v hc q=>k c v ?_ q) (fun c q=>q) fun c xs q=>q;rcases hc with z|z
  ·rw[z];exact nfp b u e
  ·exact nfp c _ z
end
noncomputable def Uw(K:W.Frag)(b:Bool)(H:Hp)(a:Addr)(xs:List V):Prop:=match b with
 |false=>SqL K H a xs
 |true=>SqT K H a xs
noncomputable def Ite(K:W.Frag)(b:Bool)(a:Addr)(xs:List V):It:=
 ⟨fun i H=>Uw K b H a xs/\i<xs.length,fun i H x H'=>∃t v,x= .ref t/\H t=none/\H'=upd H t (.tup [.int (i:Int),v])/\xs[i]? =some v,fun i H=>Uw K b H a xs/\i=xs.length⟩
theorem Bq{P:ξ}{w:τ}{K:W.Frag}{es:List Expr}{k:Nat}{pos:Pos}(a e it:Addr)(xs:List V)(hne:e≠it):
  Turn P w K (.Tuple es k pos) (Ite K false a xs) [e,it] e (fun i h=>(∃old,IsEnum h e it (i:Int) old)/\h.IsListIter it a i) where
 mem:=by simp
 obj:=fun i h st b hb=>by
  obtain⟨⟨old,he⟩,o,e1,c,d⟩:=st;rcases cZ.mp hb with z|hb
  ·subst z;exact⟨_,he,fun v z=>by cases z⟩
  ·have z:b=it:=by simpa using hb
   subst z;exact⟨o,e1,fun v z=>by rw[d]at z;cases z⟩
 keep:=fun i h h' st k=>⟨st.1.imp fun old he=>k e (by simp) _ he,st.2.at fun o e=>k it (by simp) o e⟩
 item:=by
  intro X hP hw hK hc i pins s σ H E I hf st hg;subst hP hw hK;obtain⟨hq0,hi⟩:=hg;have hq:SqL X.K H a xs:=hq0;obtain⟨its,rv,p,hz⟩:=I.list hq;have hx:xs[i]? =some xs[i]:=fL hi;obtain⟨u,hu,ru⟩:=rv.get hx;obtain⟨⟨old,he⟩,hit⟩:=st;refine wpAny_pyNext_enum_item he hit p.isList (x:=u) (by simpa using hu) hne fun h1 ho hit1 hT hsz hk=>⟨_,rfl,?_⟩;refine wpAny_letOwnedTupleGo_enum ho fun h2 he2 hs2=> ?_;have Dr:Heap.SameBut e h1 h2:=hs2;have nTe:s.heap.objs.size≠e:=fun z=>absurd (fW he) (by rw[<-z];exact uR _);have keep:∀b o,b∉[e,it]->s.heap.get? b=some o->h2.get? b=some o:=fun b o hb q=>(Dr.2 b fun z=>hb (by simp[z])).trans (hk b o (fun z=>hb (by simp[z])) (fun z=>hb (by simp[z])) q);have hT2:h2.get? s.heap.objs.size=some {cls:= .type "tuple",data:= .seq #[.int i s.toks,u]}:=(Dr.2 _ nTe).trans hT;have I2:=I.vI (h':=h2) (t':=s.toks+1) (o:= .tup [.int (i:Int),xs[i]]) keep hf (aW _) ⟨(by show 2<=sizeLine;decide),[.int i s.toks,u],.cons ⟨_,rfl⟩ (.cons ru .nil),_,hT2,rfl,_,rfl⟩;exact⟨.ref s.heap.objs.size,_,I2,rfl,⟨_,_,rfl,I.hok.fresh (aW _),rfl,hx⟩,⟨⟨_,by simpa using he2⟩,hit1.at fun o q=>(Dr.2 it hne.symm).trans q⟩,fun b hb=>by
   rw[cG (fun z=> ?_)]
   ·exact(hf b hb).1
   ·obtain⟨_,q1,_⟩:=hit;rcases cZ.mp hb with y|y
    ·exact nTe (z.symm.trans y)
    ·have y:b=it:=by simpa using y
     rw[<-y,z]at q1;exact absurd (fW q1) (uR _)⟩
 done:=by
  intro X hP hw hK hc i pins s σ H E I hf st hg;subst hP hw hK;obtain⟨hq0,hi⟩:=hg;have hq:SqL X.K H a xs:=hq0;obtain⟨its,rv,p,hz⟩:=I.list hq;have hl:=rv.length;obtain⟨⟨old,he⟩,hit⟩:=st;exact wpAny_pyNext_enum_end (I.ok.hd hc) he hit p.isList (by simp;omega) fun h' eb=>⟨rfl,I.turns (t':=s.toks) (fp:=[e,it]) (fun b o hb q=>eb b o (fun z=>hb (by simp[z])) q) hf⟩
 self:=fun _ _ _ _ _ st h=>by
  obtain⟨⟨old,he⟩,_⟩:=st;exact wck he h
theorem Bp{P:ξ}{w:τ}{K:W.Frag}{es:List Expr}{k:Nat}{pos:Pos}(a e it:Addr)(xs:List V)(hne:e≠it)(hat:a≠it)(hae:a≠e):
  Turn P w K (.Tuple es k pos) (Ite K true a xs) [e,it] e (fun i h=>(∃old,IsEnum h e it (i:Int) old)/\h.IsTupleIter it a i) where
 mem:=by simp
 obj:=fun i h st b hb=>by
  obtain⟨⟨old,he⟩,o,e1,c,d⟩:=st;rcases cZ.mp hb with z|hb
  ·subst z;exact⟨_,he,fun v z=>by cases z⟩
  ·have z:b=it:=by simpa using hb
   subst z;exact⟨o,e1,fun v z=>by rw[d]at z;cases z⟩
 keep:=fun i h h' st k=>⟨st.1.imp fun old he=>k e (by simp) _ he,st.2.at fun o e=>k it (by simp) o e⟩
 item:=by
  intro X hP hw hK hc i pins s σ H E I hf st hg;subst hP hw hK;obtain⟨hq0,hi⟩:=hg;have hq:SqT X.K H a xs:=hq0;obtain⟨its,rv,p,hz⟩:=I.tuple hq;have hx:xs[i]? =some xs[i]:=fL hi;obtain⟨u,hu,ru⟩:=rv.get hx;obtain⟨⟨old,he⟩,hit⟩:=st;have hl:=rv.length;have pt:s.heap.IsTuple a its.toArray:=p;have D:=Draws.tup (prog:=X.prog) (w:=X.w) (A:=X.A.in1) (I.ok.hd hc) it a hat its.toArray;refine wpAny_pyNext_enum_itemD D he ⟨hit,pt⟩ (by simp;omega) hne (by simp;exact⟨hne,fun z=>hae z.symm⟩) fun y h1 tk hy ho abS hT hsz hk=>⟨_,rfl,?_⟩;have ey:y=u:=by
   have hu':its.toArray[i]? =some u:=by simpa using hu
   rw[hu']at hy;exact(tu hy).symm
  subst ey;refine wpAny_letOwnedTupleGo_enum ho fun h2 he2 hs2=> ?_;have Dr:Heap.SameBut e h1 h2:=hs2;have nTe:s.heap.objs.size≠e:=fun z=>absurd (fW he) (by rw[<-z];exact uR _);have keep:∀b o,b∉[e,it]->s.heap.get? b=some o->h2.get? b=some o:=fun b o hb q=>(Dr.2 b fun z=>hb (by simp[z])).trans (hk b o (fun z=>hb (by simp[z])) (fun z=>hb (by simp[z])) q);have hT2:h2.get? s.heap.objs.size=some {cls:= .type "tuple",data:= .seq #[.int i tk,y]}:=(Dr.2 _ nTe).trans hT;have I2:=I.vI (h':=h2) (t':=tk+1) (o:= .tup [.int (i:Int),xs[i]]) keep hf (aW _) ⟨(by show 2<=sizeLine;decide),[.int i tk,y],.cons ⟨_,rfl⟩ (.cons ru .nil),_,hT2,rfl,_,rfl⟩;exact⟨.ref s.heap.objs.size,_,I2,rfl,⟨_,_,rfl,I.hok.fresh (aW _),rfl,hx⟩,⟨⟨_,by simpa using he2⟩,abS.1.at fun o q=>(Dr.2 it hne.symm).trans q⟩,fun b hb=>by
   rw[cG (fun z=> ?_)]
   ·exact(hf b hb).1
   ·obtain⟨_,q1,_⟩:=hit;rcases cZ.mp hb with y|y
    ·exact nTe (z.symm.trans y)
    ·have y:b=it:=by simpa using y
     rw[<-y,z]at q1;exact absurd (fW q1) (uR _)⟩
 done:=by
  intro X hP hw hK hc i pins s σ H E I hf st hg;subst hP hw hK;obtain⟨hq0,hi⟩:=hg;have hq:SqT X.K H a xs:=hq0;obtain⟨its,rv,p,hz⟩:=I.tuple hq;have hl:=rv.length;obtain⟨⟨old,he⟩,hit⟩:=st;have pt:s.heap.IsTuple a its.toArray:=p;have ei:i=its.toArray.size:=by rw[iH];omega
  subst ei;have D:=Draws.tup (prog:=X.prog) (w:=X.w) (A:=X.A.in1) (I.ok.hd hc) it a hat its.toArray;exact wpAny_pyNext_enum_endD D he ⟨hit,pt⟩ fun h' eb=>⟨rfl,I.turns (t':=s.toks) (fp:=[e,it]) (fun b o hb q=>eb b o (fun z=>hb (by simp[z])) q) hf⟩
 self:=fun _ _ _ _ _ st h=>by
  obtain⟨⟨old,he⟩,_⟩:=st;exact wck he h
section
variable{X:Cx}{es:List Expr}{k:Nat}{RT:Pos}
noncomputable def aaF(K:W.Frag)(ta:TA):TI:=fun σ H R=>ta σ H fun vs H1=>∃(b:Bool) (a:Addr) (xs:List V),vs=[.ref a]/\Uw K b H1 a xs/\(xs.length<=sizeLine->R (Ite K b a xs) H1)
theorem sJ{a:Expr}{ta:TA}{p pos:Pos}(hg:Gl X "enumerate")(hm:X.mg "enumerate"=none)(ha:PA X [a] ta)(hs:starEach [a] X.env=[(false,eval a X.env)]:=by rfl):
  PI X (.Tuple es k RT) (.Call (.Name "enumerate" p) [a] [] pos) (aaF X.K ta):=by
 intro pins s σ H R I h;refine Call_ (ld_blt I hg hm (show bootBuiltins "enumerate"=some (.type "enumerate")from by decide+kernel) (QK (thn (ha pos pins s σ H _ I h) fun us s1 ⟨vs,H1,I1,r1,q1⟩=> ?_) hs rfl));obtain⟨b,l,xs,e,hq,q⟩:=q1;subst e;cases r1 with
 |cons r rr=>
  cases rr;cases r;cases b with
  |false=>
   obtain⟨its,rv,pl,hz⟩:=I1.list (show SqL X.K H1 l xs from hq);refine call_enumerate_list pl.isList fun h' he hit hsz hk=> ?_;refine wck he ?_;have I2:Inv X pins σ H1 {s1 with heap:=h'}:=I1.kept (t':=s1.toks) hk;have hne:s1.heap.objs.size+1≠s1.heap.objs.size:=Nat.succ_ne_self _;refine⟨s1.heap.objs.size+1,[s1.heap.objs.size+1,s1.heap.objs.size],_,_,H1,rfl,I2,Bq l _ _ xs hne,⟨⟨_,he⟩,hit⟩,fun c hc=> ?_,q hz⟩;rcases cZ.mp hc with z|z
   ·subst z;exact I1.fpOk (Kq _) (I1.hok.fresh (Kq _))
   ·have z:c=s1.heap.objs.size:=by simpa using z
    subst z;exact I1.fpOk (aW _) (I1.hok.fresh (aW _))
  |true=>
   obtain⟨its,rv,pl,hz⟩:=I1.tuple (show SqT X.K H1 l xs from hq);have pt:s1.heap.IsTuple l its.toArray:=pl;have hlt:l<s1.heap.objs.size:=by obtain⟨_,e,_⟩:=id pt;exact fW e
   refine vg pt fun h' he hit hsz hk=> ?_;refine wck he ?_;have I2:Inv X pins σ H1 {s1 with heap:=h'}:=I1.kept (t':=s1.toks) hk;have hne:s1.heap.objs.size+1≠s1.heap.objs.size:=Nat.succ_ne_self _;refine⟨s1.heap.objs.size+1,[s1.heap.objs.size+1,s1.heap.objs.size],_,_,H1,rfl,I2,Bp l _ _ xs hne (jh hlt) (jh (uW hlt)),⟨⟨_,he⟩,hit⟩,fun c hc=> ?_,q hz⟩;rcases cZ.mp hc with z|z
   ·subst z;exact I1.fpOk (Kq _) (I1.hok.fresh (Kq _))
   ·have z:c=s1.heap.objs.size:=by simpa using z
    subst z;exact I1.fpOk (aW _) (I1.hok.fresh (aW _))
end
section
variable{ini:St}{H:Hp}{g:TG}{tc:TT}{te:TE}{Fin:List V->Hp->Prop}{K:W.Frag}{b:Bool}{a:Addr}{xs:List V}
theorem lR(Pv:Nat->List V->St->Hp->Prop)(h0:Pv 0 [] ini H)(hl:∀(i:Nat) acc σ H,i<=xs.length->Pv i acc σ H->Uw K b H a xs)(hz:∀(i:Nat) acc σ H,i<=xs.length->Pv i acc σ H->acc.length<=i)(hx:xs.length<=sizeLine)(hs:∀(i:Nat) v t acc σ H,xs[i]? =some v->Pv i acc σ H->H t=none->g (.ref t) σ (upd H t (.tup [.int (i:Int),v])) fun σ2 H2=>tc σ2 H2 fun b H3=>if b=true then te σ2 H3 fun v H4=>Pv (i+1) (acc++[v]) σ2 H4 else Pv (i+1) acc σ2 H3)(hd:∀acc σ H,Pv xs.length acc σ H->Fin acc H):Bb (Ite K b a xs) ini H g tc te Fin:=by
 refine⟨fun i m acc σ H=>m=xs.length-i/\i<=xs.length/\Pv i acc σ H,⟨xs.length,by simp,dF _,h0⟩,?_⟩;rintro i m acc σ H ⟨rfl,hi,p⟩;have q:=hl i acc σ H hi p;have z:=hz i acc σ H hi p;by_cases hlt:i<xs.length
 ·refine .inr ⟨⟨q,hlt⟩,by omega,fun acc σ H=>Pv (i+1) acc σ H,fun acc' σ' H' r=>⟨_,by omega,rfl,hlt,r⟩,fun x H' y=> ?_⟩;obtain⟨t,v,rfl,ht,rfl,hv⟩:=y;exact hs i v t acc σ H hv p ht
 ·have e:i=xs.length:=by omega
  subst e;exact .inl ⟨⟨q,rfl⟩,by omega,hd acc σ H p⟩
end
section
variable{X:Cx}
theorem MK(K:W.Frag)(h:X.K=K:=by rfl):OpR X (binaryOp .Add) (Vs K):=by subst h;exact Gx
theorem Gv(K:W.Frag)(hu:X.A.units+64<cLine)(h:X.K=K:=by rfl):OpR X (compareOp .NotEq) (fun x y H Q=>∃da db,DV K H x da/\DV K H y db/\da.canLay0=true/\db.canLay0=true/\min da.depth db.depth<=64/\Q (.bl (!PyData.eqv da db)) H):=by subst h;exact MJ hu
end
theorem Uw.same{K:W.Frag}{b:Bool}{H H':Hp}{a:Addr}{xs:List V}(h:Uw K b H a xs)(e:Same H H'):Uw K b H' a xs:=by
 cases b with
 |false=>exact e.seq (show SqL K H a xs from h)
 |true=>exact e.tup (show SqT K H a xs from h)
theorem oY{s u:TS}{D:Ends}{σ:St}{H:Hp}(I:St->Hp->Prop)(h1:∀N:St->Hp->Prop,(∀σ' H',I σ' H'->N σ' H')->s {D with nx:=N} σ H)(h2:∀σ' H',I σ' H'->u D σ' H'):tSeq s u D σ H:=h1 (u D) h2
theorem Ed:∀(names:List (Str×NameKind)) (n:Nat) (acc:List (Str×Addr)) {x:Str} {c:Addr},(x,c)∈cellsFrom n names acc->(x,c)∈acc\/((x,NameKind.cell)∈names/\n<=c)
 |[],_,_,_,_,h=> .inl h
 |(nm,k)::r,n,acc,x,c,h=>by
  unfold cellsFrom at h;split at h
  ·rename_i hk;have ek:k=NameKind.cell:=by simpa using hk
   rcases Ed r _ _ h with q|⟨q,m⟩
   ·rcases cZ.mp q with e|e
    ·cases e;subst ek;exact .inr ⟨jG,aW _⟩
    ·exact .inl e
   ·exact .inr ⟨jW _ q,by omega⟩
  ·rcases Ed r _ _ h with q|⟨q,m⟩
   ·exact .inl q
   ·exact .inr ⟨jW _ q,m⟩
theorem xP:∀(names:List (Str×NameKind)) (n:Nat) (acc:List (Str×Addr)) {p:Str×Addr},p∈acc->p∈cellsFrom n names acc
 |[],_,_,_,h=>h
 |(nm,k)::r,n,acc,p,h=>by
  unfold cellsFrom;split
  ·exact xP r _ _ (jW _ h)
  ·exact xP r _ _ h
theorem Eh:∀(names:List (Str×NameKind)) (n:Nat) (acc:List (Str×Addr)) {x:Str},(x,NameKind.cell)∈names->∃c,(x,c)∈cellsFrom n names acc
 |(nm,k)::r,n,acc,x,h=>by
  unfold cellsFrom;rcases cZ.mp h with e|e
  ·cases e;rw[aH (show(NameKind.cell==NameKind.cell)=true from rfl)];exact⟨n,xP r _ _ jG⟩
  ·split
   ·exact Eh r _ _ e
   ·exact Eh r _ _ e
theorem Ef{n0:Nat}:∀(names:List (Str×NameKind)) (n:Nat) (acc:List (Str×Addr)),n0<=n->(∀x y c,(x,c)∈acc->(y,c)∈acc->n0<=c->x=y)->(∀x c,(x,c)∈acc->c<n)->∀x y c,(x,c)∈cellsFrom n names acc->(y,c)∈cellsFrom n names acc->n0<=c->x=y
 |[],_,_,_,h,_=>h
 |(nm,k)::r,n,acc,hn,h,hl=>by
  unfold cellsFrom;split
  ·refine Ef r (n+1) ((nm,n)::acc) (by omega) (fun x y c hx hy hc=> ?_) (fun x c hx=> ?_)
   ·rcases cZ.mp hx with e1|e1<;>rcases cZ.mp hy with e2|e2
    ·cases e1;cases e2;rfl
    ·cases e1;exact absurd (hl _ _ e2) (uR _)
    ·cases e2;exact absurd (hl _ _ e1) (uR _)
    ·exact h x y c e1 e2 hc
   ·rcases cZ.mp hx with e1|e1
    ·cases e1;exact vH _
    ·exact uW (hl _ _ e1)
  ·exact Ef r n acc hn h hl
theorem xO:∀(names:List (Str×NameKind)) (h:Heap) (acc:List (Str×Addr)) {x:Str} {c:Addr},(x,c)∈cellsFrom h.objs.size names acc->(x,c)∈acc\/(pushCells h names).IsCell c none
 |[],_,_,_,_,h=> .inl h
 |(nm,k)::r,h,acc,x,c,hm=>by
  unfold cellsFrom at hm;unfold pushCells;split at hm
  ·rename_i hk;rw[aH hk];have hm':(x,c)∈cellsFrom (h.push {cls:= .type "cell",data:= .cell none}).objs.size r ((nm,h.objs.size)::acc):=by rw[Rb];exact hm
   rcases xO r (h.push {cls:= .type "cell",data:= .cell none}) _ hm' with q|q
   ·rcases cZ.mp q with e|e
    ·cases e;exact .inr ⟨_,wda _ _ _ _ (sY _ rfl),rfl⟩
    ·exact .inl e
   ·exact .inr q
  ·rename_i hk;rw[aB hk];exact xO r h acc hm
theorem Ti{M:Model}{A:Around}{E:L3}{s:η}{scope:Scope}{globals:Addr}{closure:List (Str×Addr)}{qual:Str}{env:Env}{Q:Env->η->Prop}(hQ:Q (newEnv scope s.heap.objs.size globals (cellsFrom (s.heap.objs.size+1) scope.names closure) qual none Value.none (some env) 0) {s with heap:=pushCells (s.heap.push {cls:= .type "dict",data:= .dict #[]}) scope.names}):
  wpAny M A (newFunctionEnv scope globals closure [] qual none .none (some env)) Q E s:=by
 simp only[newFunctionEnv,Option.isSome_some,if_true];refine bL (wpAny_alloc ?_);refine bL (wpAny_layCells _ (fun name kind cells=>by cases hkc:kind==NameKind.cell<;>simp[hkc]) _ _ _ _ ?_);rw[List.forIn_nil];refine bL (iD (iD ?_));rw[show({s with heap:=s.heap.push {cls:= .type "dict",data:= .dict #[]}}:η).heap.objs.size=s.heap.objs.size+1 from Rb ..];exact hQ
noncomputable def aU(sc scope:Scope):Bool:=scope.names.all fun p=>(p.2 !=NameKind.cell||scope.names.lookup p.1==some NameKind.cell)&&(p.2 !=NameKind.local||scope.names.lookup p.1==some NameKind.local)&&
 (p.2 !=NameKind.free||(scope.names.lookup p.1==some NameKind.free&&(sc.names.lookup p.1==some NameKind.cell||sc.names.lookup p.1==some NameKind.free)))
section
variable{sc scope:Scope}
theorem aU.cell(h:aU sc scope=true){x:Str}(hy:(x,NameKind.cell)∈scope.names):scope.names.lookup x=some .cell:=by
 have q:=oA.mp h _ hy;simpa using q
theorem aU.names(h:aU sc scope=true):∀y∈scope.names,y.2= .local->scope.names.lookup y.1=some .local:=fun y hy e=>by
 have q:=oA.mp h y hy;simpa[e]using q
theorem aU.free(h:aU sc scope=true){x:Str}(hy:(x,NameKind.free)∈scope.names):scope.names.lookup x=some .free/\(sc.names.lookup x=some .cell\/sc.names.lookup x=some .free):=by
 have q:=oA.mp h _ hy;simpa using q
end
theorem yX{scope:Scope}{env:Env}{x:Str}(h:(relabel scope env).names.lookup x=some .cell\/(relabel scope env).names.lookup x=some .free):(x,NameKind.free)∈scope.names\/(x,NameKind.cell)∈scope.names:=by
 cases e:scope.names.lookup x with
 |none=>
  have q:=tU (env:=env) e;rcases h with h|h
  ·rw[show(relabel scope env).names.lookup x=none from q]at h;cases h
  ·rw[show(relabel scope env).names.lookup x=none from q]at h;cases h
 |some k=>
  have q:=nM (env:=env) e;have m:=Kz e;by_cases hk:k= .free
  ·subst hk;exact .inl m
  ·have q':(relabel scope env).names.lookup x=some k:=by
    refine Eq.trans q ?_;have:(k==NameKind.free)=false:=by simpa using hk
    simp[this]
   rw[q']at h;rcases h with h|h
   ·cases h;exact .inr m
   ·cases h;exact absurd rfl hk
noncomputable def bH(X:Cx)(scope:Scope)(N:List Str)(s:η)(H:Hp)(cl:List (Str×Addr))(C:Addr)(ex:List Addr):Cx:=
 {X with N:=N,s₀:=s,H₀:=H,env:=compEnvC scope cl C X.env,outer:=X.stack,ex:=ex,fn:=fun x=>scope.names.lookup x==some NameKind.cell,pn:=[],xe:=fun _ _=>False}
section
variable{X:Cx}{tg iter elt:Expr}{ifs:List Expr}{scope:Scope}{pos:Pos}{own caps:List Str}{ix:List Nat}{g:TG}{tc:TT}{te:TE}
noncomputable abbrev Kh(X:Cx)(scope:Scope)(C:Addr):List (Str×Addr):=cellsFrom (C+1) scope.names (lX X.env.cells scope.names [])
theorem xM{pins:L1}{s:η}{σ:St}{H:Hp}{C:Addr}(ck:aU X.env.scope scope=true)(I:Inv X pins σ H s){x:Str}{c:Addr}(e:(Kh X scope C).lookup x=some c):
  (X.env.cells.lookup x=some c/\(x,NameKind.free)∈scope.names)\/((x,NameKind.cell)∈scope.names/\C<c/\(x,c)∉lX X.env.cells scope.names []):=by
 have old:(x,c)∈lX X.env.cells scope.names []->X.env.cells.lookup x=some c/\(x,NameKind.free)∈scope.names:=fun q=>by
  rcases pQ q with q|⟨q,mm⟩
  ·cases q
  ·obtain⟨d,hd⟩:=I.ok.has x (aU.free ck mm).2;rw[hd]at q;have q:c=d:=q;rw[q];exact⟨hd,mm⟩
 rcases Ed _ _ _ (Kz e)with q|⟨q,m⟩
 ·exact .inl (old q)
 ·refine .inr ⟨q,m,fun z=> ?_⟩;have h1:=aU.cell ck q;have h2:=(aU.free ck (old z).2).1;rw[h1]at h2;cases h2
theorem Ah{pins:L1}{s s':η}{σ:St}{H:Hp}{fp:List Addr}{C:Addr}{m:L4}(ck:aU X.env.scope scope=true)(hkind:scope.kind= .function)(hcap:jE X scope caps ix)
  (I:Inv X pins σ H s)(f2:∀b∈fp,FpOk X pins H b)(hlt:∀b∈fp,b<s.heap.objs.size)(hC:s.heap.objs.size<=C)(hos:s'.os=s.os)(hg:AllBare s'.gens)(hk:∀b o,s.heap.get? b=some o->s'.heap.get? b=some o)(hn:s'.heap.Ns C m)(hcl:∀x c,(Kh X scope C).lookup x=some c->(x,c)∉lX X.env.cells scope.names []->s'.heap.IsCell c none):
  Inv (bH X scope (own++caps) s H (Kh X scope C) C fp) [] (zR own ix σ) H s':=by
 have cl1:=fun x c e=>xM (C:=C) (x:=x) (c:=c) ck I e;have Gy:∀x c,X.env.cells.lookup x=some c->c<s.heap.objs.size:=fun x c e=>by
  obtain⟨v,o,ho,_⟩:=I.cell x c e;exact fW ho
 have cl2:∀x,(x,NameKind.free)∈scope.names\/(x,NameKind.cell)∈scope.names->∃c,(Kh X scope C).lookup x=some c:=fun x mm=>by
  rcases mm with mm|mm
  ·obtain⟨c,hc⟩:=Aj (cells:=X.env.cells) (acc:=[]) mm;obtain⟨d,hd,_⟩:=zbq (xP scope.names (C+1) _ hc);exact⟨d,hd⟩
  ·obtain⟨c,hc⟩:=Eh scope.names (C+1) (lX X.env.cells scope.names []) mm;obtain⟨d,hd,_⟩:=zbq hc;exact⟨d,hd⟩
 have inj:∀x y c,(Kh X scope C).lookup x=some c->(Kh X scope C).lookup y=some c->x=y:=fun x y c h1 h2=>by
  rcases cl1 x c h1 with⟨q1,_⟩|⟨q1,m1,_⟩<;>rcases cl1 y c h2 with⟨q2,_⟩|⟨q2,m2,_⟩
  ·exact I.ok.inj x y c q1 q2
  ·exact absurd (Ra (jY (Gy x c q1) hC) m2) (uR _)
  ·exact absurd (Ra (jY (Gy y c q2) hC) m1) (uR _)
  ·refine Ef (n0:=C+1) scope.names (C+1) _ (aW _) (fun x y c hx hy hc=> ?_) (fun x c hx=> ?_) x y c (Kz h1) (Kz h2) m1
   ·obtain⟨d,hd,_⟩:=zbq hx;rcases pQ hx with q|⟨q,mm⟩
    ·cases q
    ·obtain⟨d,hd⟩:=I.ok.has x (aU.free ck mm).2;rw[hd]at q;have q:c=d:=q;subst q;exact absurd (jY (jY (Gy x c hd) hC) (cY hc)) (uR _)
   ·rcases pQ hx with q|⟨q,mm⟩
    ·cases q
    ·obtain⟨d,hd⟩:=I.ok.has x (aU.free ck mm).2;rw[hd]at q;have q:c=d:=q;subst q;exact uW (jY (Gy x c hd) hC)
 have bsz:X.base.objs.size<=s.heap.objs.size:=dD I.ok.bsz I.sz;refine⟨⟨I.ok.mod,hkind,I.ok.glob,I.ok.blt,hC,inj,fun x hx=>cl2 x (yX hx),fun x c h e=> ?cab,I.ok.hd,I.ok.frames,.inl rfl,fun b hb=>⟨jh (jY (hlt b hb) hC),fun x c e=> ?exf⟩,I.bs,bsz,
  fun b o e hb=> ?_,fun b hb hz=> ?_,I.stack,I.stkFree⟩,?_,hg,Un.kept hk,⟨m,hn,fun i x v h1 h2 h3=> ?_⟩,fun x c e=> ?_,I.hok.fresh hC,fun x c e=> ?frc,fun p hp=>absurd (show p∈([]:L1)from hp) (by simp),I.hok.kept hk,?_⟩
 case cab=>
  rcases cl1 x c e with⟨_,q⟩|⟨_,q,_⟩
  ·have y1:=(aU.free ck q).1;have y2:(scope.names.lookup x==some NameKind.cell)=true:=h;rw[y1]at y2;exact absurd y2 (by decide)
  ·exact dD hC (cY q)
 case exf=>
  rcases cl1 x c e with⟨q,_⟩|⟨_,q,_⟩
  ·exact(f2 b hb).2.2.2.2.1 x c q
  ·exact mj (jh (Ra (jY (hlt b hb) hC) q))
 case frc=>
  rcases cl1 x c e with⟨q,_⟩|⟨_,q,_⟩
  ·exact I.freeC x c q
  ·exact I.hok.fresh (dD hC (cY q))
 ·rcases(f2 b hb).2.2.2.1 with z|z
  ·exact I.ok.noex b o e z
  ·exact absurd (jY (fW e) (dD I.ok.bsz z)) (uR _)
 ·rcases cZ.mp (I.stkSub b hz)with z|z
  ·exact(f2 b hb).2.1 z
  ·exact(f2 b hb).2.2.1 z
 ·exact hos
 ·have h1:(own++caps)[i]? =some x:=h1;have h2:(own.map (fun _=>(none:Option V))++ix.map fun j=>(σ[j]?).join)[i]? =some (some v):=h2;by_cases hi:i<own.length
  ·rw[ydr (by simpa using hi),fu]at h2;cases e:own[i]? <;>rw[e]at h2<;>simp at h2
  ·rw[yct (by simpa using hi)]at h2;rw[yct (by omega)]at h1;rw[aM]at h2;obtain⟨j,e1,e2,e3⟩:=hcap.get h1;rw[fu,e1]at h2;have h2':(σ[j]?).join=some v:=by simpa using h2
   have h4:σ[j]? =some (some v):=by
    cases q:σ[j]? with
    |none=>rw[q]at h2';cases h2'
    |some w=>rw[q]at h2';exact jX some h2'
   obtain⟨m0,hn0,hl0⟩:=I.loc;have mm:=Kz e3;have vis:=(aU.free ck mm).2;obtain⟨u,r,l⟩:=hl0 j x v e2 h4 (.inr vis);refine⟨u,r,.inr ?_⟩;rcases l with⟨k,_⟩|⟨k,c,e,z⟩
   ·rcases vis with q|q
    ·rw[show X.env.kindOf x=some .cell from q]at k;cases k
    ·rw[show X.env.kindOf x=some .free from q]at k;cases k
   ·obtain⟨d,hd⟩:=cl2 x (.inl mm);rcases cl1 x d hd with⟨this,_⟩|⟨qc,_⟩
    ·rw[e]at this;cases this;exact⟨Ca e3,c,hd,z.keeps hk⟩
    ·have y1:=aU.cell ck qc;rw[e3]at y1;cases y1
 ·rcases cl1 x c e with⟨q,_⟩|⟨_,_,q⟩
  ·obtain⟨v,z⟩:=I.cell x c q;exact⟨v,z.keeps hk⟩
  ·exact⟨none,hcl x c e q⟩
 ·show(own.map (fun _=>(none:Option V))++ix.map fun j=>(σ[j]?).join).length=(own++caps).length;simp[hcap.len]
theorem uG(ck:aU X.env.scope scope=true)(hkind:scope.kind= .function)(hcap:jE X scope caps ix)(hc:X.calm=true)(hg:∀s H cl C ex,PG (bH X scope (own++caps) s H cl C ex) tg g)(ht:∀s H cl C ex,VG (bH X scope (own++caps) s H cl C ex) ifs tc)(he:∀s H cl C ex,PE (bH X scope (own++caps) s H cl C ex) elt te){pins:L1}{s2:η}{σ:St}{H2:Hp}{E:L3}(I2:Inv X pins σ H2 s2){it:Addr}{fp:List Addr}{tn:Nat->Heap->Prop}{J:It}(T:Turn X.prog X.w X.K tg J fp it tn)(st2:tn 0 s2.heap)(f2:∀b∈fp,FpOk X pins H2 b)
  {W:Nat->Nat->List V->St->Hp->Prop}{m0:Nat}(w0:W 0 m0 [] (zR own ix σ) H2){Fin:List V->Hp->Prop}(turn:∀i m acc σ H,W i m acc σ H->(J.stop i H/\acc.length<=sizeLine/\Fin acc H)\/(J.go i H/\acc.length<sizeLine/\∃N:List V->St->Hp->Prop,(∀acc' σ' H',N acc' σ' H'->∃m',m'<m/\W (i+1) m' acc' σ' H')/\∀x H',J.yld i H x H'->g x σ H' fun σ2 H2=>tc σ2 H2 fun b H3=>
   if b=true then te σ2 H3 fun v H4=>N (acc++[v]) σ2 H4 else N acc σ2 H3))
  {RR:ζ->Addr->Result->η->Prop}(hRR:∀D C s' acc Hf m,Inv X pins σ (upd Hf D (.lst acc)) s'->Hf D=none->s'.heap.Ns C m->FpOk X pins (upd Hf D (.lst acc)) C->Fin acc Hf->RR (.ref D) C (.ok .next) s'):
  wpAny (model X.prog X.w) X.A (newList []) (fun acc s₃=>wpAny (model X.prog X.w) X.A (newFunctionEnv scope X.env.globals (lX X.env.cells scope.names []) [] X.env.qual none .none (some X.env)) (fun cenv s₄=>
   codeAny (model X.prog X.w) X.A (.compStart (.ListComp elt [⟨tg,iter,ifs,0⟩] scope pos) 0 (.ref it) acc {cenv with scope:=relabel scope X.env}) (RR acc cenv.locals) s₄) E s₃) E s2:=by
 refine Y6 (Ti ?_);generalize hP:s2.heap.push {cls:= .type "list",dict:=none,data:= .seq ([]:List ζ).toArray}=P1;have hC:P1.objs.size=s2.heap.objs.size+1:=by rw[<-hP,Rb]
 have hlt:∀b∈fp,b<s2.heap.objs.size:=fun b hb=>by
  obtain⟨o,e,_⟩:=T.obj _ _ st2 b hb;exact fW e
 generalize hh1:pushCells (P1.push {cls:= .type "dict",data:= .dict #[]}) scope.names=h₁;have hns₁:h₁.Ns P1.objs.size (fun _=>none):=by rw[<-hh1];exact(Heap.Ns.new P1 (.type "dict")).keeps (wda _ _)
 have old:∀b o,s2.heap.get? b=some o->h₁.get? b=some o:=fun b o e=>by
  rw[<-hh1];exact wda _ _ b o (lH _ (hP▸lH _ e))
 have hD1:h₁.get? s2.heap.objs.size=some {cls:= .type "list",data:= .seq ([]:List ζ).toArray 0}:=by
  rw[<-hh1];exact wda _ _ _ _ (lH _ (hP▸sY _ rfl))
 have aaK:∀x c,(Kh X scope P1.objs.size).lookup x=some c->(x,c)∉lX X.env.cells scope.names []->h₁.IsCell c none:=fun x c e n=>by
  have e':(x,c)∈cellsFrom (P1.objs.size+1) scope.names (lX X.env.cells scope.names []):=Kz e;rw[show P1.objs.size+1=(P1.push {cls:= .type "dict",data:= .dict #[]}).objs.size from(Rb ..).symm]at e';rcases xO _ _ _ e' with q|q
  ·exact absurd q n
  ·rw[<-hh1];exact q
 show codeAny (model X.prog X.w) X.A (.compStart (.ListComp elt [⟨tg,iter,ifs,0⟩] scope pos) 0 (.ref it) (.ref s2.heap.objs.size) {newEnv scope P1.objs.size X.env.globals (Kh X scope P1.objs.size) X.env.qual none Value.none (some X.env) 0 with scope:=relabel scope X.env}) (RR (.ref s2.heap.objs.size) P1.objs.size) {s2 with heap:=h₁};generalize TY:s2.heap.objs.size=D at *;rw[hC]at hns₁ aaK⊢;have entry:Inv (bH X scope (own++caps) s2 H2 (Kh X scope (D+1)) (D+1) fp) [] (zR own ix σ) H2 {s2 with heap:=h₁}:=
  Ah ck hkind hcap I2 f2 (by rw[TY];exact hlt) (by rw[TY];exact Kq _) rfl I2.bare old hns₁ aaK
 generalize hX':bH X scope (own++caps) s2 H2 (Kh X scope (D+1)) (D+1) fp=X' at entry;have eP:X'.prog=X.prog:=by rw[<-hX'];rfl
 have ew:X'.w=X.w:=by rw[<-hX'];rfl
 have eK:X'.K=X.K:=by rw[<-hX'];rfl
 have eA:X'.A=X.A:=by rw[<-hX'];rfl
 have VD:X'.calm=true:=by rw[<-hX'];exact hc
 have efs:X'.fs=frs X.stack:=by rw[<-hX'];rfl
 have eex:X'.ex=fp:=by rw[<-hX'];rfl
 have epn:X'.pn=[]:=by rw[<-hX'];rfl
 have es0:X'.s₀=s2:=by rw[<-hX'];rfl
 have eH0:X'.H₀=H2:=by rw[<-hX'];rfl
 have exe:X'.xe=fun _ _=>False:=by rw[<-hX'];rfl
 have Uo:X'.env=compEnvC scope (Kh X scope (D+1)) (D+1) X.env:=by rw[<-hX'];rfl
 have Qh:X'.env.locals=D+1:=by rw[Uo];rfl
 have hg':PG X' tg g:=by rw[<-hX'];exact hg _ _ _ _ _
 have ht':VG X' ifs tc:=by rw[<-hX'];exact ht _ _ _ _ _
 have he':PE X' elt te:=by rw[<-hX'];exact he _ _ _ _ _
 have ecl:∀x c,X'.env.cells.lookup x=some c->c≠D:=fun x c e=>by
  rw[Uo]at e;rcases xM (C:=D+1) ck I2 e with⟨q,_⟩|⟨_,q,_⟩
  ·obtain⟨v',o',ho',_⟩:=I2.cell x c q;exact jh (by rw[<-TY];exact fW ho')
  ·exact mj (jh (Ra (vH D) q))
 have dfs:D∉frs X.stack:=fun hb=>by
  rcases cZ.mp (I2.stkSub D hb)with z|z
  ·exact absurd (Nat.lt_of_lt_of_eq I2.lt TY) (by rw[z];exact uR _)
  ·exact I2.nofs (Bk TY) z
 have fpn:∀{H':Hp} {o:Obj},(∀b∈fp,H' b=none)->∀b∈fp,FpOk X' [(D,o)] H' b:=fun{H' o} hn b hb=>by
  have hbl:=hlt b hb;refine⟨hn b hb,by rw[Qh];exact jh (uW hbl),?_,.inl (by rw[eex];exact hb),fun x c e=> ?_,fun p hp=> ?_⟩
  ·rw[efs];intro z;rcases cZ.mp (I2.stkSub b z)with z|z
   ·exact(f2 b hb).2.1 z
   ·exact(f2 b hb).2.2.1 z
  ·rw[Uo]at e;rcases xM (C:=D+1) ck I2 e with⟨q,_⟩|⟨_,q,_⟩
   ·exact(f2 b hb).2.2.2.2.1 x c q
   ·exact mj (jh (Ra (uW hbl) q))
  ·rw[epn]at hp;have:p=(D,o):=by simpa using hp
   rw[this];exact VR hbl
 have aby:∀{σ':St} {H':Hp} {s':η} {o:Obj},Inv X' [] σ' H' s'->s'.heap.get? D=some o->H' D=none->(∀v,o.data≠.cell v)->Inv X' [(D,o)] σ' H' s':=fun{σ' H' s' o} I e n d=>
  I.pins_of fun p hp=>by
   have:p=(D,o):=by simpa using hp
   subst this;exact⟨e,n,by rw[Qh];exact jh (vH D),by rw[efs];exact dfs,d⟩
 have loop:∀s₃:η,s₃={s2 with heap:=h₁}->
   codeAny (model X.prog X.w) X.A (.compLoop (.ListComp elt [⟨tg,iter,ifs,0⟩] scope pos) 0 (.ref it) (.ref D) X'.env) (RR (.ref D) (D+1)) s₃:=by
  intro s₃ hs₃;refine codeAny_loop rfl (fun n s'=>∃i acc its k σ' H',Inv X' [] σ' H' s'/\tn i s'.heap/\(∀b∈fp,H' b=none)/\s'.heap.get? D=some {cls:= .type "list",data:= .seq (List.toArray its) k}/\Vals acc its/\H' D=none/\W i n acc σ' H') ?_ m0
   ⟨0,[],[],0,zR own ix σ,H2,by rw[hs₃];exact entry,by rw[hs₃];exact T.keep _ _ _ st2 fun b _ o e=>old b o e,fun b hb=>(f2 b hb).1,by rw[hs₃];exact hD1,.nil,I2.hok.fresh (Bk TY),w0⟩
  rintro n s3 ⟨i,acc,its,k,σ3,H3,I3,st3,fr3,eD,rv,nD,w3⟩;show wpAny _ X.A ((compTurn (.ListComp elt [⟨tg,iter,ifs,0⟩] scope pos) 0 (.ref it) (.ref D) X'.env).onRaise (fun x=>do noteFrame x X'.env;theTreesLotGoes x)) _ _ s3;refine wpAny_noted ?_;rw[compTurn_list];have noE:∀{α:Type} {t:Sem α} {Q:α->η->Prop} {E':L3} {s:η},wpAny (model X'.prog X'.w) X'.A t Q X'.xe s->wpAny (model X.prog X.w) X.A t Q E' s:=fun{α t Q E' s} h=>by
   rw[eP,ew,eA,exe]at h;exact Ft h (fun _ _ q=>q) fun _ _ z=>z.elim
  have I3':=aby (o:={cls:= .type "list",data:= .seq (List.toArray its) k}) I3 eD nD (fun v z=>by
   have z':Data.seq (List.toArray its) k=Data.cell v:=z;cases z')
  refine bL (wpAny_standAt (bL ?_));rcases turn i n acc σ3 H3 w3 with⟨stop,hz,fin⟩|⟨go,hz,Nn,hN,step⟩
  ·have q:=T.done X' eP ew eK VD i [(D,_)] s3 σ3 H3 (notedBy (model X.prog X.w) X.A X'.env fun e s'=>RR (.ref D) (D+1) (.error e) s') I3' (fpn fr3) st3 stop;rw[eA]at q;refine thn q fun r s4 ⟨hr,I4⟩=> ?_;subst hr;refine iD ?_;obtain⟨e4,_⟩:=I4.pin (D,_) (Ie _ jG);obtain⟨mC,hnC,_⟩:=I4.loc;have u4:=I4.base;rw[efs,eex,eH0,es0]at u4;have ok4:=I4.hok;rw[eP,ew]at ok4;have nC:H3 (D+1)=none:=by have:=I4.free;rw[Qh]at this;exact this
   have hok:HOk X.prog X.w (upd H3 D (.lst acc)) s4.heap:=ok4.add nD ⟨hz,its,k,rv,e4⟩;refine hRR D (D+1) s4 acc H3 mC ?_ nD (by rw[Qh]at hnC;exact hnC) ?_ fin
   ·refine I2.call' (s':=s4) (ch:=fp) ?_ (u4.add (by rw[TY];exact aW _) nD) hok I4.bare fun b hb=> ?_
    ·have:=I4.os;rw[es0]at this;exact this
    ·obtain⟨f0,f1,f3,f4,f5,f6⟩:=f2 b hb;exact⟨f4,f1,f5,f6⟩
   ·refine I2.fpOk (by rw[TY];exact Kq _) ?_;rw[cG (VR (vH D))];exact nC
  ·have q:=T.item X' eP ew eK VD i [(D,_)] s3 σ3 H3 (notedBy (model X.prog X.w) X.A X'.env fun e s'=>RR (.ref D) (D+1) (.error e) s') I3' (fpn fr3) st3 go;rw[eA]at q;refine thn q fun r s4 ⟨u,hr,h4⟩=> ?_;subst hr;dsimp only;refine bL (thn h4 fun _ s5 ⟨x,H5,I5,r5,y5,st5,fr5⟩=> ?_);have I5':=I5.pinned (fpn fr5) (T.obj _ _ st5);have again:∀{σ7:St} {H7:Hp} {s7:η},Inv X' ([(D,{cls:= .type "list",data:= .seq (List.toArray its) k})]++pinsAt fp s5.heap) σ7 H7 s7->tn (i+1) s7.heap/\(∀b∈fp,H7 b=none)/\s7.heap.get? D=some {cls:= .type "list",data:= .seq (List.toArray its) k}/\H7 D=none:=fun{σ7 H7 s7} I7=>by
    refine⟨T.keep _ _ _ st5 fun b hb o e=>(I7.pin (b,o) (Ie _ (Ie _ (mem_pinsAt hb e)))).1,fun b hb=> ?_,?_⟩
    ·obtain⟨o,e,d⟩:=T.obj _ _ st5 b hb;exact(I7.pin (b,o) (Ie _ (Ie _ (mem_pinsAt hb e)))).2.1
    ·have:=I7.pin (D,_) (Ie _ (ydp _ jG));exact⟨this.1,this.2.1⟩
   refine bL (thn (noE (hg' _ s5 σ3 H5 x u _ I5' r5 (step x H5 y5))) fun _ s6 ⟨σ6,H6,I6,q6⟩=> ?_);refine bL (thn (noE (ht' _ s6 σ6 H6 _ I6 q6)) fun ok s7 ⟨H7,I7,q7⟩=> ?_);cases ok with
   |false=>
    rw[aB uU]at q7;obtain⟨m',hm,w7⟩:=hN _ _ _ q7;obtain⟨a1,a2,a3,a4⟩:=again I7;exact iD ⟨rfl,m',hm,i+1,acc,its,k,σ6,H7,I7.pins_of (fun p hp=>nomatch hp),a1,a2,a3,rv,a4,w7⟩
   |true=>
    rw[aH rfl]at q7;refine bL (bL (thn (noE (he' _ s7 σ6 H7 _ I7 q7)) fun v s8 ⟨y,H8,I8,r8,q8⟩=> ?_));obtain⟨m',hm,w8⟩:=hN _ _ _ q8;obtain⟨a1,a2,a3,a4⟩:=again I8;have hl:=rv.length;refine bL (Vc F.slot_list_append ⟨_,a3,rfl⟩ F.entry_list_append (F.args_list_append_2 _ _) (PySem.list_append D its.toArray k v (by rw[iH];omega)) ⟨a3,?_⟩);refine iD (iD ⟨rfl,m',hm,i+1,acc++[y],its++[v],?_⟩);have qD:=PySem.IsL.update a3 (fun a:Array ζ=>a.push v);rw[List.push_toArray]at qD;have kp:∀b o,b≠D->s8.heap.get? b=some o->(s8.heap.update D (Obj.mapSeq fun a=>a.push v)).get? b=some o:=fun b o hb e=>(wce s8.heap _ (mj hb)).trans e;have I8':Inv X' [] σ6 H8 {s8 with heap:=s8.heap.update D (Obj.mapSeq fun a=>a.push v)}:=by
     refine(I8.pins_of (pins':=[]) (fun p hp=>nomatch hp)).turned (t':=s8.toks) (it:=D) kp a4 (by rw[Qh];exact jh (vH D)) (.inr (by rw[es0,TY];exact aW _)) (fun x c e=>ecl x c e) (fun p hp=> ?_);rw[epn]at hp;exact nomatch hp
    exact⟨_,σ6,H8,I8',T.keep _ _ _ a1 fun b hb o e=>kp b o (jh (hlt b hb)) e,a2,qD,rv.append (.cons r8 .nil),a4,w8⟩
 have aa1:({newEnv scope (D+1) X.env.globals (Kh X scope (D+1)) X.env.qual none Value.none (some X.env) 0 with scope:=relabel scope X.env}:Env)=X'.env:=by rw[Uo];rfl
 have L:=loop _ rfl;rw[<-aa1]at L;exact codeAny_compStart_list L (T.self X.A 0 _ _ _ (T.keep _ _ _ st2 fun b _ o e=>old b o e) L)
end
section
variable{X:Cx}{tg iter elt:Expr}{ifs:List Expr}{scope:Scope}{pos:Pos}{own caps:List Str}{ix:List Nat}{wi:TI}{g:TG}{tc:TT}{te:TE}
theorem Mz(hc:X.calm=true)(hi:PI X tg iter wi)(ck:aU X.env.scope scope=true)(hkind:scope.kind= .function)(hcap:jE X scope caps ix)(hg:∀s H cl C ex,PG (bH X scope (own++caps) s H cl C ex) tg g)(ht:∀s H cl C ex,VG (bH X scope (own++caps) s H cl C ex) ifs tc)(he:∀s H cl C ex,PE (bH X scope (own++caps) s H cl C ex) elt te)(hs:∀x,foldedSetIterable iter X.env x=pure x:=by intro _;rfl):PE X (.ListComp elt [⟨tg,iter,ifs,0⟩] scope pos) (FN wi own ix g tc te):=by
 intro pins s σ H Q I h;rw[eval_ListComp];refine wpAny_comprehension_free (use:=none) rfl hs (uH fun x hx=>I.ok.has x ((aU.free ck hx).2)) hkind (aU.names ck) (thn (hi pins s σ H _ I h) fun xv s1 h1=>thn h1 fun itv s2 h2=> ?_);obtain⟨it,fp,tn,J,H2,e,I2,T,st2,f2,W,⟨m0,w0⟩,turn⟩:=h2;subst e;refine uG (RR:=fun acc C=>compPost (model X.prog X.w) X.A X.xe none (EP X pins σ Q) acc C) ck hkind hcap hc hg ht he I2 T st2 f2 w0 turn ?_;intro D C s' acc Hf m I' nD hn fC fin;refine⟨m,hn,fun h' sb=> ?_⟩;obtain⟨f0,f1,f3,f4,f5,f6⟩:=fC;exact⟨.ref D,_,I'.turned (t':=s'.toks) (it:=C) (fun b o hb e=>(sb.2 b hb).trans e) f0 f1 f4 f5 f6,rfl,fin D nD⟩
theorem pK{X:Cx}{tg iter elt:Expr}{ifs:List Expr}{scope:Scope}{pos:Pos}{wi:TI}{g:TG}{tc:TT}{te:TE}(own caps:List Str)(ix:List Nat)(hi:PI X tg iter wi)(hg:∀{s H cl C ex},PG (bH X scope (own++caps) s H cl C ex) tg g)(ht:∀{s H cl C ex},VG (bH X scope (own++caps) s H cl C ex) ifs tc)(he:∀{s H cl C ex},PE (bH X scope (own++caps) s H cl C ex) elt te)(hcap:jE X scope caps ix:=by repeat(first |exact jE.nil|refine jE.cons rfl rfl ?_))(hc:X.calm=true:=by rfl)(ck:aU X.env.scope scope=true:=by rfl)(hkind:scope.kind= .function:=by rfl)(hs:∀x,foldedSetIterable iter X.env x=pure x:=by intro _;rfl):PE X (.ListComp elt [⟨tg,iter,ifs,0⟩] scope pos) (FN wi own ix g tc te):=Mz hc hi ck hkind hcap (fun _ _ _ _ _=>hg) (fun _ _ _ _ _=>ht) (fun _ _ _ _ _=>he) hs
theorem yZ{i:Nat}{y:Str}{py spos:Pos}(hN:X.N.Nodup)(hiN:X.N[i]? =some y)(hx:Loc X.env.scope y)(hc:X.calm=true)(hi:PI X tg iter wi)(ck:aU X.env.scope scope=true)(hkind:scope.kind= .function)(hcap:jE X scope caps ix)(hg:∀s H cl C ex,PG (bH X scope (own++caps) s H cl C ex) tg g)(ht:∀s H cl C ex,VG (bH X scope (own++caps) s H cl C ex) ifs tc)(he:∀s H cl C ex,PE (bH X scope (own++caps) s H cl C ex) elt te)(hsw:swapsWith (.ListComp elt [⟨tg,iter,ifs,0⟩] scope pos) (some (.Name y py)) spos.line X.env=pure true:=by rfl)(hf:X.fn y=true\/X.env.scope.names.lookup y=some .local:=by first |exact .inl rfl|exact .inr rfl|assumption)(hs:∀x,foldedSetIterable iter X.env x=pure x:=by intro _;rfl):PS X (.Assign [.Name y py] (.ListComp elt [⟨tg,iter,ifs,0⟩] scope pos) spos) (tAsg (FN wi own ix g tc te) (gName i)):=by
 intro pins s σ H Dn I h;rw[exec_Assign_Name_used _ _ _ _ hsw];refine bL (wpAny_standAt (bL ?_));show wpAny _ X.A (do let _<-comprehension (.ListComp elt [⟨tg,iter,ifs,0⟩] scope pos) scope X.env _ (newList []) false (eval iter X.env) (some (assign (.Name y py) X.env))) _ _ s;refine bL (Ft (wpAny_comprehension_free (use:=some (assign (.Name y py) X.env)) (Q:=fun _ s'=>SP X pins Dn .next s') rfl hs (uH fun x hx=>I.ok.has x ((aU.free ck hx).2)) hkind (aU.names ck)
  (thn (hi pins s σ H _ I h) fun xv s1 h1=>thn h1 fun itv s2 h2=> ?_)) (fun _ s' hq=>iD (iD hq)) fun _ _ e=>e)
 obtain⟨it,fp,tn,J,H2,e,I2,T,st2,f2,W,⟨m0,w0⟩,turn⟩:=h2;subst e;refine uG (RR:=fun acc C=>compPost (model X.prog X.w) X.A X.xe (some (assign (.Name y py) X.env)) (fun _ s'=>SP X pins Dn .next s') acc C) ck hkind hcap hc hg ht he I2 T st2 f2 w0 turn ?_;intro D C s' acc Hf m I' nD hn fC fin;obtain⟨f0,f1,f3,f4,f5,f6⟩:=fC;show wpAny _ X.A (assign (.Name y py) X.env (.ref D)) _ _ _;refine wpAny_assign_Name (store_ok2 I' hN hiN hx (show RelV (.ref D) (.ref D)from rfl) (fun s'' I'' ⟨a,sb,ha⟩=> ?_) hf);have hCa:C≠a:=by
  rcases ha with ha|ha
  ·rw[ha];exact f1
  ·exact fun z=>f5 y a ha z.symm
 refine⟨m,hn.sameBut sb hCa,fun h' sb'=> ?_⟩;exact⟨_,_,I''.turned (t':=s''.toks) (it:=C) (fun b o hb e=>(sb'.2 b hb).trans e) f0 f1 f4 f5 f6,fin D nD⟩
theorem pX{X:Cx}{tg iter elt:Expr}{ifs:List Expr}{scope:Scope}{pos:Pos}{wi:TI}{g:TG}{tc:TT}{te:TE}{y:Str}{py spos:Pos}(i:Nat)(own caps:List Str)(ix:List Nat)(hi:PI X tg iter wi)(hg:∀{s H cl C ex},PG (bH X scope (own++caps) s H cl C ex) tg g)(ht:∀{s H cl C ex},VG (bH X scope (own++caps) s H cl C ex) ifs tc)(he:∀{s H cl C ex},PE (bH X scope (own++caps) s H cl C ex) elt te)(hcap:jE X scope caps ix:=by repeat(first |exact jE.nil|refine jE.cons rfl rfl ?_))(hc:X.calm=true:=by rfl)(ck:aU X.env.scope scope=true:=by rfl)(hkind:scope.kind= .function:=by rfl)(hN:decide X.N.Nodup=true:=by kernel_rfl)(hi_:X.N[i]? =some y:=by rfl)(hx:Loc X.env.scope y:=by first |exact Or.inl rfl|exact Or.inr rfl)(hsw:swapsWith (.ListComp elt [⟨tg,iter,ifs,0⟩] scope pos) (some (.Name y py)) spos.line X.env=pure true:=by rfl)(hf:X.fn y=true\/X.env.scope.names.lookup y=some .local:=by first |exact .inl rfl|exact .inr rfl|assumption)(hs:∀x,foldedSetIterable iter X.env x=pure x:=by intro _;rfl):PS X (.Assign [.Name y py] (.ListComp elt [⟨tg,iter,ifs,0⟩] scope pos) spos) (tAsg (FN wi own ix g tc te) (gName i)):=yZ (fM hN) hi_ hx hc hi ck hkind hcap (fun _ _ _ _ _=>hg) (fun _ _ _ _ _=>ht) (fun _ _ _ _ _=>he) hsw hf hs
end
end L2
namespace uJ
open PySem PySem.W PyProof.Rows PySem.Calls
section
variable{prog:ξ}{w:τ}{A:Around}{E:L3}{s:η}{O:KeyOrd}{key:Nat->O.α}{κ:SortKind}{vs:List ζ}
theorem Ai{t:Addr}{Q:List ζ->η->Prop}(ht:s.heap.IsTuple t vs.toArray)(h:Q vs {s with heap:=(s.heap.push (seqObj "list" #[] 0)).update s.heap.objs.size (Obj.mapSeq (· ++vs.toArray))})(hz:vs.length<=sizeLine):
  wpAny (model prog w) A (collect (.ref t)) Q E s:=by
 obtain⟨o,ho,hc,n,hd⟩:=id ht;unfold collect;refine bL (wpAny_runValue (Z6 entry_proto_collect' ?_));show wpAny _ _ (do again (.builtin "list.__iadd__" ⟨[<-newList [],.ref t],[]⟩)) _ _ s;refine bL (wdy (iD ⟨Code.quiet_builtin _ (by decide+kernel),Z6 entry_list_iadd' ?_⟩));show wpAny _ _ (Builtin.List.listExtendWith (.ref s.heap.objs.size) (.ref t) (.ref s.heap.objs.size)) _ _ {s with heap:=s.heap.push (seqObj "list" #[] 0)};unfold Builtin.List.listExtendWith;have h1:(s.heap.push (seqObj "list" #[] 0)).get? t=some o:=lH _ ho;have h2:(Value.type "tuple"==Value.type "tuple")=true:=by rfl
 refine bL (wpAny_typeOf (T:="tuple") ⟨o,h1,hc⟩ ?_);rw[aH (by rw[h2];simp)];refine bL (listItems_at h1 hd (bL (listItems_at (xs:=#[]) (n:=0) (sY _ rfl) rfl ?_)));rw[aB (by simp)];refine bL (wdx (xs:=#[]) (n:=0) (sY _ rfl) rfl (iD ?_) (dF _) (by show(#[]++vs.toArray).size<=sizeLine+1;simp only[Array.size_append,iH,V3];omega));show wpAny (model prog w) A (load s.heap.objs.size>>=_) Q E {s with heap:=(s.heap.push (seqObj "list" #[] 0)).update s.heap.objs.size (Obj.mapSeq (· ++vs.toArray))};refine bL (wpAny_load (wcx (sY _ rfl) _) ?_);show wpAny _ _ (pure ((#[]:Array ζ)++vs.toArray).toList) Q E _;have e:((#[]:Array ζ)++vs.toArray).toList=vs:=by simp
 rw[e];exact iD h
theorem Bx{l:Addr}{Q:L3}(hl:s.heap.IsTuple l vs.toArray)(h64:vs.length<64)(hkind:2<=vs.length->∀h',(∀b o,s.heap.get? b=some o->h'.get? b=some o)->∀(E:L3) (Q:SortKind->η->Prop),Q κ {s with heap:=h'}->wpAny (model prog w) A.in1.in1 (keyKind' vs.toArray) Q E {s with heap:=h'})(Pg:2<=vs.length->∀h',(∀b o,s.heap.get? b=some o->h'.get? b=some o)->lG O key vs.length (kas_ask prog w A.in1.in1 κ vs) {s with heap:=h'})(h:∀D h' out c,Qw key vs out->s.heap.objs.size<=D->(∀b o,s.heap.get? b=some o->h'.get? b=some o)->h'.get? D=some (seqObj "list" (List.toArray out) c)->Q (.ref D) {s with heap:=h'}):
  wpAny (model prog w) A (call (.builtin "sorted") [.ref l]) Q E s:=by
 refine Calls.call_function_entry kind_sorted plain_sorted entry_sorted (args_sorted1 _) ?_;unfold Builtin.«sorted»;refine bL (m:=checkCount "sorted" 1 1 _) (iD (bL (Ai hl (bL (wdy ?_ (by rw[fZ];omega))) (by rw[fZ];omega))));have hsz:((s.heap.push (seqObj "list" #[] 0)).update s.heap.objs.size (Obj.mapSeq (· ++vs.toArray))).objs.size=s.heap.objs.size+1:=by
  rw[Heap.size_update,size_push']
 have hoL:(((s.heap.push (seqObj "list" #[] 0)).update s.heap.objs.size (Obj.mapSeq (· ++vs.toArray))).push (seqObj "list" vs.toArray 0)).get? (s.heap.objs.size+1)=some (seqObj "list" vs.toArray 0):=by
  rw[<-hsz];exact sY _ rfl
 have keep:∀b o,s.heap.get? b=some o->(((s.heap.push (seqObj "list" #[] 0)).update s.heap.objs.size (Obj.mapSeq (· ++vs.toArray))).push (seqObj "list" vs.toArray 0)).get? b=some o:=fun b o q=>by
  have hlt:b<s.heap.objs.size:=fW q;rw[wcj _ _ _ (by rw[hsz];exact jh (uW hlt)),Heap.get?_update_ne _ _ _ _ (jh hlt),wcj _ _ _ (jh hlt)];exact q
 have ne:∀b o,s.heap.get? b=some o->b≠s.heap.objs.size+1:=fun b o q=>jh (uW (fW q));show wpAny _ _ _ _ _ {s with heap:=((s.heap.push (seqObj "list" #[] 0)).update s.heap.objs.size (Obj.mapSeq (· ++vs.toArray))).push (seqObj "list" vs.toArray 0)};rw[hsz];refine bL (Vd (wco slot_list_sort ⟨_,hoL,rfl⟩ entry_list_sort ?body (args_list_sort _)))
 case body=>
  refine mD (key:=key) (κ:=κ) (s:={s with heap:=((s.heap.push (seqObj "list" #[] 0)).update s.heap.objs.size (Obj.mapSeq (· ++vs.toArray))).push (seqObj "list" vs.toArray 0)}) hoL h64
   (fun h2 h' k Q hq=>hkind h2 h' (fun b o q=>k b o (ne b o q) (keep b o q)) _ Q hq) (fun h2 h' k=>Pg h2 h' fun b o q=>k b o (ne b o q) (keep b o q)) fun h' out c ho k hc=> ?_
  exact⟨_,rfl,iD ⟨_,rfl,h _ h' out c ho (Kq _) (fun b o q=>k b o (ne b o q) (keep b o q)) hc⟩⟩
end
end uJ
namespace L2
open PySem PySem.W PySem.Spec PyProof.Rows
section
variable{X:Cx}
theorem xQ:CallR X (.builtin "sorted") (fun xs H Q=>∃(a:Addr) (its:List (Addr×List Int)),xs=[.ref a]/\SqL X.K H a (its.map fun p=>V.ref p.1)/\(∀p∈its,SqT X.K H p.1 (p.2.map V.int)/\(2<=its.length->p.2≠[]))/\its.length<64/\
  ∀(l:Addr) (its':List (Addr×List Int)),H l=none->its'.Perm its->its'.Pairwise (fun p q=>HT.lexLt q.2 p.2=false)->Q (.ref l) (upd H l (.lst (its'.map fun p=>V.ref p.1)))):=by
 intro pins s σ H xs us Q I r h;obtain⟨a,its,rfl,hS,hT,h64,q⟩:=h;obtain⟨u,rfl,ru⟩:=r.one;cases ru;obtain⟨vs,rv,pl,hz⟩:=I.list hS;have hlen:its.length=vs.length:=by have:=rv.length;simpa using this
 -- the values beside the tuples
 have pr:Paired (fun(p:Addr×List Int) (v:ζ)=>v= .ref p.1) its vs:=by
  have go:∀(l:List (Addr×List Int)) (us:List ζ),Vals (l.map fun p=>V.ref p.1) us->Paired (fun(p:Addr×List Int) (v:ζ)=>v= .ref p.1) l us:=by
   intro l
   induction l with
   |nil=>intro us h;cases h;exact .nil
   |cons p l ih=>
    intro us h;cases h with
    |cons r t=>exact .cons r (ih _ t)
  exact go its vs rv
 have tup:∀p∈its,∃(items:List ζ),IntsAre items p.2/\IsTup s.heap p.1 items.toArray:=fun p hp=>by
  obtain⟨its',r',t',_⟩:=I.tuple (hT p hp).1;exact⟨its',intsAre_of r',t'⟩
 refine uJ.tM (O:=uJ.lexOrd) (key:=fun i=>(its.getD i (0,[])).2) (κ:=tuples' true) (s:=s) pl.isList (by omega) (fun h2 h' k E' Q' hq=> ?_) (fun h2 h' k=> ?_) (fun D h' out c ho hD k hc=> ?_)
 ·have kt:∀(l:List (Addr×List Int)) (us:List ζ),Paired (fun(p:Addr×List Int) (v:ζ)=>v= .ref p.1) l us->(∀p∈l,p∈its)->∃fs:List ζ,KatTups h' us fs/\fs.length=us.length/\∀v∈fs,∃i t,v=Value.int i t:=by
   intro l us h
   induction h with
   |nil=>intro _;exact⟨[],trivial,rfl,fun _ hv=>nomatch hv⟩
   | @cons p v l us r t ih=>
    intro hs;obtain⟨fs,k1,k2,k3⟩:=ih fun p hp=>hs p (jW _ hp);obtain⟨items,hi,o,e,hc,n,hd⟩:=tup p (hs p jG);have hne:=(hT p (hs p jG)).2 (by omega);obtain⟨pa,pn⟩:=p;dsimp only at hi hne e r;cases hi with
    |nil=>exact absurd rfl hne
    |cons i t hi'=>
     rw[r];refine⟨Value.int i t::fs,KatTups.cons (k _ _ e) hc hd (by simp) k1,by simp[k2],fun v hv=> ?_⟩;rcases cZ.mp hv with e|e
     ·exact⟨i,t,e⟩
     ·exact k3 v e
  obtain⟨fs,k1,k2,k3⟩:=kt its vs pr fun _ hp=>hp;refine kat_kind (s:={s with heap:=h'}) (T:= .type "int") k1 (by omega) (fun v hv=> ?_) (by rfl) hq;obtain⟨i,t,rfl⟩:=k3 v hv;exact fun A Q E s _ q=>iD q
 ·intro i j C hi hj hC;rw[<-hlen]at hi hj;have get:∀i (hi:i<its.length),vs.getD i Value.none= .ref its[i].1:=by
   have go:∀(l:List (Addr×List Int)) (us:List ζ),Paired (fun(p:Addr×List Int) (v:ζ)=>v= .ref p.1) l us->∀i (hi:i<l.length),us.getD i Value.none= .ref l[i].1:=by
    intro l us h
    induction h with
    |nil=>intro i hi;simp at hi
    |cons r t ih=>
     intro i hi;cases i with
     |zero=>exact r
     |succ i=>simpa using ih i (by simpa using hi)
   exact go its vs pr
  unfold kas_ask;rw[get i hi,get j hj];obtain⟨xi,hxi,oi,ei,ci,ni,di⟩:=tup its[i] (Ka _);obtain⟨xj,Vv,oj,ej,cj,nj,dj⟩:=tup its[j] (Ka _);refine kat_lt (s:={s with heap:=h'}) (k _ _ ei) di (k _ _ ej) dj ?_;refine uJ.uz 0 hxi Vv ?_ ?_
  ·have:=hxi.length;have:=Vv.length;simp only[iH];omega
  ·rw[HT.bN];have e1:its.getD i (0,[])=its[i]:=by simp[hi]
   have e2:its.getD j (0,[])=its[j]:=by simp[hj]
   have hC':C (decide ((its.getD i (0,[])).2<(its.getD j (0,[])).2)) {s with heap:=h'}:=hC;rw[e1,e2]at hC';exact hC'
 ·obtain⟨its',hp,hr,hw⟩:=uJ.wH (d:=((0,[]):Addr×List Int)) (f:=fun p=>p.2) pr (fun i hi=>by show(its.getD i (0,[])).2=_;simp[hi]) ho;have hn:H D=none:=I.hok.fresh hD;have rv':Vals (its'.map fun p=>V.ref p.1) out:=by
   have go:∀(l:List (Addr×List Int)) (us:List ζ),Paired (fun(p:Addr×List Int) (v:ζ)=>v= .ref p.1) l us->Vals (l.map fun p=>V.ref p.1) us:=by
    intro l us h
    induction h with
    |nil=>exact .nil
    |cons r t ih=>exact .cons r ih
   exact go its' out hr
  have zl:(its'.map fun p=>V.ref p.1).length<=sizeLine:=by
   have:=hp.length_eq;rw[aM];exact cY (small1000 (by omega))
  have J:Inv X pins σ (upd H D (.lst (its'.map fun p=>V.ref p.1))) {s with heap:=h',toks:=s.toks}:=I.laid k hD ⟨zl,out,c,rv',hc⟩;refine⟨.ref D,_,J,rfl,q D its' hn hp (hw.imp fun{x y} hxy=> ?_)⟩;rw[HT.bN];exact hxy
theorem Jc(K:W.Frag){a:Expr}{ta:TE}(ha:PE X a ta)(he:∀whole,isTrue a X.env whole=(do let v<-whole;standAt a.pos;holding [v] (truthy v)))(h:X.K=K:=by rfl):
  PT X a (fun σ H Q=>ta σ H fun x H'=>∃k,TruV K x H' k/\Q k H'):=by subst h;exact pt_truth ha he
end
end L2
namespace L2
open PySem PySem.Spec PyProof.Rows
noncomputable def rQ(a C:Addr):HO:= .ext fun h=>∃o vs,h.get? a=some o/\o.cls= .ref C/\o.data= .fields vs
theorem ObjOk.any{P:ξ}{w:τ}{H:Hp}{h:Heap}{a:Addr}{o:HO}(x:ObjOk P w H h a o):∃u,h.get? a=some u:=by
 cases o with
 |lst xs=>obtain⟨_,_,_,_,e⟩:=x;exact⟨_,e⟩
 |tup xs=>obtain⟨_,_,_,ob,e,_⟩:=x;exact⟨_,e⟩
 |dK kvs=>obtain⟨_,_,_,_,o,_,_,e,_⟩:=x;exact⟨_,e⟩
 |dT kvs=>obtain⟨_,_,_,_,o,_,_,e,_⟩:=x;exact⟨_,e⟩
 |set S n=>obtain⟨o,_,_,_,e,_⟩:=x;exact⟨_,e⟩
 |ins C dx fs=>obtain⟨_,_,_,e,_⟩:=x;exact⟨_,e⟩
 |own y=>exact x
 |xd fs=>obtain⟨_,⟨_,_,_,e,_⟩,_⟩:=x;exact⟨_,e⟩
 |rng lo hi=>obtain⟨_,_,_,e⟩:=x;exact⟨_,e⟩
 |frz ob u=>obtain⟨e,_⟩:=x;exact⟨_,e⟩
 |tbl ps=>exact⟨_,x⟩
 |met f y=>exact⟨_,x⟩
 |ext φ=>exact x.2.1
theorem HOk.none{P:ξ}{w:τ}{H:Hp}{h:Heap}{a:Addr}(x:HOk P w H h)(e:h.get? a=none):H a=none:=by
 cases q:H a with
 |none=>rfl
 |some u=>
  obtain⟨o,z⟩:=(x a u q).any;rw[e]at z;cases z
structure UnB(fs:List Addr)(H H':Hp)(h B:Heap):Prop where
 keep:∀b o,h.get? b=some o->H b=none->b∉fs->B.get? b=some o
 free:∀b o,h.get? b=some o->H b=none->H' b=none
 there:∀b o,h.get? b=some o->b∉fs->∃o',B.get? b=some o'
 tups:∀b xs,H b=some (.tup xs)->H' b=some (.tup xs)
 frzs:∀b o u,H b=some (.frz o u)->H' b=some (.frz o u)
 tbls:∀b ps,H b=some (.tbl ps)->∃more,H' b=some (.tbl (ps++more))
structure Flew(P:ξ)(w:τ)(outer:List Env)(H:Hp)(s:η)(e C:Addr)(H':Hp)(B:Heap)(s':η):Prop where
 os:s'.os=s.os
 bare:AllBare s'.gens
 fly:∃a0,Heap.FlyingW B outer e (.ref C) a0 s'.heap
 un:UnB (frs outer) H H' s.heap B
 hok:HOk P w H' B
 sl:∀b∈frs outer,∀o,s.heap.get? b=some o->∃sl,s'.heap.get? b=some {o with slots:=sl}
 new:s.heap.get? e=none
 he:H' e=none
noncomputable def fj(P:ξ)(w:τ):CXT:=fun outer H s E v s'=>∃e C H' B,v= .ref e/\Flew P w outer H s e C H' B s'/\E v (some C) (upd H' e (rQ e C))
theorem Ab{env:Env}{outer:List Env}{L:Addr}(h:env.frame=some L):frs (env::outer)=L::frs outer:=by
 unfold frs;rw[yds,h]
section
variable{P:ξ}{w:τ}{K:W.Frag}{mg:L4}{base:Heap}{N:List Str}{qual:Str}{scope:Scope}{f:Addr}{cd:ζ}{A:Around}{outer:List Env}{s:η}{H:Hp}{E:XK}
theorem kh:Passes (fj P w) (cxOf (fj P w) P w K mg base N qual scope f cd A outer s H E) E:=by
 intro pins σ H1 s1 v s' I h;obtain⟨e,C,H',B,rfl,F,hE⟩:=h;obtain⟨a0,fl⟩:=F.fly;have fc:frs ((envOfC qual scope s.heap.objs.size f cd)::outer)=s.heap.objs.size::frs outer:=Ab rfl;have hs:frs (cxOf (fj P w) P w K mg base N qual scope f cd A outer s H E).stack=s.heap.objs.size::frs outer:=fc;have nL:∀b o,s.heap.get? b=some o->b∉frs outer->b∉s.heap.objs.size::frs outer:=fun b o q hb hm=>by
  rcases cZ.mp hm with z|z
  ·exact absurd (fW q) (by rw[z];exact uR _)
  ·exact hb z
 have un:=F.un;rw[hs]at un;refine wpAny_leaves_onW (L:=s.heap.objs.size) I.ok.frames rfl fl fun h' fl' up=> ?_;refine⟨e,C,H',B,rfl,⟨F.os.trans I.os,F.bare,⟨a0,fl'⟩,⟨fun b o q n hb=> ?_,fun b o q n=> ?_,fun b o q hb=> ?_,fun b xs q=> ?_,fun b o u q=> ?_,fun b ps q=> ?_⟩,F.hok,fun b hb o q=> ?_,?_,F.he⟩,hE⟩
 ·exact un.keep b o (I.base.keep b o q n hb (by intro z;cases z)) (I.base.free b o q n (by intro z;cases z)) (nL b o q hb)
 ·obtain⟨o',e'⟩:=I.base.there b o q (by intro z;cases z);exact un.free b o' e' (I.base.free b o q n (by intro z;cases z))
 ·obtain⟨o',e'⟩:=I.base.there b o q (by intro z;cases z);exact un.there b o' e' (nL b o q hb)
 ·exact un.tups b xs (I.base.tups b xs q)
 ·exact un.frzs b o u (I.base.frzs b o u q)
 ·obtain⟨m1,e1⟩:=I.base.tbls b ps q;obtain⟨m2,e2⟩:=un.tbls b _ e1;exact⟨m1++m2,by rw[e2,Array.append_assoc]⟩
 ·obtain⟨s1',e1⟩:=I.base.slot b o q (I.ok.frf b hb) hb (by intro z;cases z);obtain⟨s2',e2⟩:=F.sl b (by rw[hs];exact jW _ hb) _ e1;obtain⟨_,o',ho',hd'⟩:=I.ok.funs.mem hb;have ho'':s.heap.get? b=some o':=ho';rw[q]at ho'';cases ho'';obtain⟨s3',e3⟩:=up b _ e2 hd';exact⟨s3',e3⟩
 ·cases q:s.heap.get? e with
  |none=>rfl
  |some o=>
   obtain⟨o',e'⟩:=I.base.there e o q (by intro z;cases z);rw[F.new]at e';cases e'
theorem aay{pins:L1}{σ:St}{H1:Hp}{s1:η}{h':Heap}{e C:Addr}{vs:List ζ}
  (I:Inv (cxOf (fj P w) P w K mg base N qual scope f cd A outer s H E) pins σ H1 s1)(hx:Heap.MadeExcOf s1.heap h' e (.ref C) vs)(hE:H1 e=none->E (.ref e) (some C) (upd H1 e (rQ e C))):
  (cxOf (fj P w) P w K mg base N qual scope f cd A outer s H E).xe (.ref e) {s1 with heap:=h'}:=by
 have fc:frs ((envOfC qual scope s.heap.objs.size f cd)::outer)=s.heap.objs.size::frs outer:=Ab rfl;have nL:∀b o,s.heap.get? b=some o->b∉frs outer->b∉frs ((envOfC qual scope s.heap.objs.size f cd)::outer):=fun b o q hb hm=>by
  rw[fc]at hm;rcases cZ.mp hm with z|z
  ·exact absurd (fW q) (by rw[z];exact uR _)
  ·exact hb z
 have he:H1 e=none:=I.hok.none hx.new;refine wpAny_leaves_madeW (base:=PySem.W.hideAll s1.heap (frs ((envOfC qual scope s.heap.objs.size f cd)::outer))) (L:=s.heap.objs.size) I.ok.frames rfl (fun b o q=>PySem.W.of_hideAll _ q)
  (PySem.W.funFrames_hide I.stack fun env he a ha=>List.mem_filterMap.mpr ⟨env,he,ha⟩) hx fun h'' t fl _ _ up=> ?_
 refine⟨e,C,H1,_,rfl,⟨I.os,I.bare,⟨_,fl⟩,⟨fun b o q n hb=> ?_,fun b o q n=>I.base.free b o q n (by intro z;cases z),fun b o q hb=> ?_,I.base.tups,I.base.frzs,I.base.tbls⟩,fun a o q=> ?_,fun b hb o q=> ?_,?_,he⟩,hE he⟩
 ·exact wbr _ (I.base.keep b o q n hb (by intro z;cases z)) (nL b o q hb)
 ·obtain⟨o',e'⟩:=I.base.there b o q (by intro z;cases z);exact⟨o',wbr _ e' (nL b o q hb)⟩
 ·refine(I.hok a o q).stay (fun b u hb z=>wbr _ z fun hm=> ?_) (fun _ z=>z) fun _ _ z=>z;have n:=I.stkFree b hm;rcases hb with rfl|hb
  ·rw[q]at n;cases n
  ·rw[hb]at n;cases n
 ·obtain⟨s1',e1⟩:=I.base.slot b o q (I.ok.frf b hb) hb (by intro z;cases z);obtain⟨_,o',ho',hd'⟩:=I.ok.funs.mem hb;have ho'':s.heap.get? b=some o':=ho';rw[q]at ho'';cases ho'';obtain⟨s3',e3⟩:=up b _ (hx.keeps b _ e1) hd';exact⟨s3',e3⟩
 ·cases q:s.heap.get? e with
  |none=>rfl
  |some o=>
   obtain⟨o',e'⟩:=I.base.there e o q (by intro z;cases z);rw[hx.new]at e';cases e'
end
theorem Yn{K:W.Frag}{h:Heap}{C:Addr}{bmB:List ζ}{newId:String}(X:K.In h)(q:PySem.W.excIn K C bmB newId=true):
  ∃bm N nm qn bs hd sn sub ab col dd k0 k1 k2 k3 k5 mN,h.get? C=some (excClassObj nm qn C N bs bm hd sn sub ab col dd k0 k1 k2 k3 k5 newId)/\h.Ns N mN/\mN "__init__"=none/\OwnTail h bmB bm:=by
 unfold PySem.W.excIn at q;split at q
 ·rename_i dd cd sl ho;split at q
  ·rename_i C' bm k0 k1 k2 k3 n k5 hm hs;simp only[oM,beq_iff_eq,wbp]at q;obtain⟨⟨⟨⟨⟨q1,q2⟩,hdel⟩,ht⟩,hok⟩,hni⟩:=q;cases q1;cases q2;obtain⟨nm,bs,mro,ns,qn,hd,sn,sub,ab,col,del⟩:=cd;obtain⟨l⟩:=sl;dsimp only at hm hdel hok hni hs;subst hm;subst hdel;subst hs;exact⟨bm,ns,nm,qn,bs,hd,sn,sub,ab,col,dd,k0,k1,k2,k3,k5,_,X _ _ ho,.of_isNs (PySem.W.isNs_of_in X hok),PySem.W.nsMap_none_of_in X hok hni,PySem.W.tail_of_in X ht⟩
  ·cases q
 ·cases q
noncomputable def Wg(C:Addr)(E:XK)(t:TA):TS:=fun _ σ H=>t σ H fun vs H1=>vs.length<=16/\∀e,H1 e=none->E (.ref e) (some C) (upd H1 e (rQ e C))
section
variable{P:ξ}{w:τ}{K:W.Frag}{mg:L4}{base:Heap}{N:List Str}{qual:Str}{scope:Scope}{f:Addr}{cd:ζ}{A:Around}{outer:List Env}{s:η}{H:Hp}{E:XK}
theorem dO{x:Str}{C:Addr}{B newId initId:String}{bmB:List ζ}{e:Expr}{es:List Expr}{t:TA}{np cpos pos:Pos}(FB:ExcBaseFacts B newId initId bmB)(hm:mg x=some (.ref C))(q:PySem.W.excIn K C bmB newId=true)(ha:PA (cxOf (fj P w) P w K mg base N qual scope f cd A outer s H E) (e::es) t)(hg:Gl (cxOf (fj P w) P w K mg base N qual scope f cd A outer s H E) x)(hdb:(x==("__debug__":Str))=false:=by decide)(he:starEach (e::es) (cxOf (fj P w) P w K mg base N qual scope f cd A outer s H E).env=(false,eval e (cxOf (fj P w) P w K mg base N qual scope f cd A outer s H E).env)::starEach es (cxOf (fj P w) P w K mg base N qual scope f cd A outer s H E).env:=by rfl)(hpl:(backTo cpos (starEach es (cxOf (fj P w) P w K mg base N qual scope f cd A outer s H E).env)).any (·.1)=false:=by rfl):
  PS (cxOf (fj P w) P w K mg base N qual scope f cd A outer s H E) (.Raise (some (.Call (.Name x np) (e::es) [] cpos)) none pos) (Wg C E t):=by
 intro pins s1 σ H1 D I h;have KX:K.In base:=I.ok.mod.kin;obtain⟨bm,Na,nm,qn,bs,hd,sn,sub,ab,col,dd,k0,k1,k2,k3,k5,mN,hC,hN,hni,T⟩:=Yn KX q;refine wpAny_Raise_call_subT (C:=C) (nm:=nm) (q:=qn) (N:=Na) (bs:=bs) (bm:=bm) (hdct:=hd) (sn:=sn) (sub:=sub) (ab:=ab) (col:=col) (dd:=dd) (k0:=k0) (k1:=k1) (k2:=k2) (k3:=k3) (k5:=k5)
  FB (mN:=mN) (T.hasType FB.hasBase) (I.ok.hd rfl) (by rw[he];show(false||(backTo cpos (starEach es (cxOf (fj P w) P w K mg base N qual scope f cd A outer s H E).env)).any (·.1))=false;rw[hpl];rfl) hni (ld_glob I hg hm ⟨rfl,?_⟩ hdb)
 have h1:=ha cpos pins s1 σ H1 _ I h;rw[he]at h1⊢;refine Calls.evalArgs_plain (Ft h1 (fun us s2 z=> ?_) fun _ _ y=>y);obtain⟨vs,H2,I2,r,hl,hE⟩:=z;have sz:us.length<=sizeLine:=by rw[<-r.length];exact dD hl (by decide)
 exact⟨rfl,sz,I2.bk _ _ hC,hN.keeps I2.bk,T.keeps I2.bk,fun h' e' hx=>aay I2 hx (hE e')⟩
theorem Fun.okX{x qual:Str}{st:Stmt}{f:Addr}{fd:ρ}{N ps:List Str}{k:Nat}{sp:Sp}(F:Fun K x qual st f fd)(S:FnScope N ps (defScope st))(len:∀vs H Q E,sp vs H Q E->vs.length=ps.length)(hbody:∀(cdv:ζ) (A:Around) (outer:List Env) (s:η) (H:Hp) (vs:List V) (Q:VK) (E:XK),Room k (A.deeper (envOfC qual (defScope st) s.heap.objs.size f cdv))->sp vs H Q E->
   ∃t,PSs (cxOf (fj P w) P w K mg base N qual (defScope st) f cdv A outer s H E) (defBody st) t/\t {nx:=fun _ H'=>Q .non H',rt:=Q} (start N vs) H):FnOk P w K mg base (fj P w) (k+1) f fd ps sp:=by
 obtain⟨oc,od,kV,doc,pm,an,cdv,ct,osl,rfl,lk,hcd⟩:=F.ex;exact fn_of lk hcd S len fun A outer s H vs Q E hr hsp=>hbody cdv A outer s H vs Q E hr hsp
theorem Fun.uf{P:ξ}{w:τ}{K:W.Frag}{mg:L4}{base:Heap}{x qual:Str}{st:Stmt}{f:Addr}{fd:ρ}{ps:List Str}{k:Nat}{sp:Sp}(F:Fun K x qual st f fd)(N:List Str)(hb:∀(cdv:ζ) (A:Around) (outer:List Env) (s:η) (H:Hp) (vs:List V) (Q:VK) (E:XK),Room k (A.deeper (PyProof.Rows.envOfC qual (defScope st) s.heap.objs.size f cdv))->sp vs H Q E->
   ∃t,PSs (cxOf (fj P w) P w K mg base N qual (defScope st) f cdv A outer s H E) (defBody st) t/\t {nx:=fun _ H'=>Q .non H',rt:=Q} (start N vs) H)(S:FnScope N ps (defScope st):=by exact fsc)(len:∀vs H Q E,sp vs H Q E->vs.length=ps.length:=by intro _ _ _ _ h;repeat(first |(obtain⟨rfl,_⟩:=h;rfl)|obtain⟨_,h⟩:=h)):FnOk P w K mg base (fj P w) (k+1) f fd ps sp:=F.okX S len hb
end
end L2
namespace L2
open PySem PySem.Spec PySem.Calls PyProof.Rows PySem.W PySem.Builtin.Getset_descriptor
structure qT(K:Frag)(D:Addr):Prop where
 cls:∃cd,clsIn K D=some cd
 ga:findIn K (.ref D) "__getattribute__"=some (some (.builtin "BaseException.__getattribute__"))
 gn:findIn K (.ref D) "__getattr__"=some none
 at_:findIn K (.ref D) "__class__"=some (some (.builtin "object.__class__"))
 get:specialIn K (.builtin "object.__class__") "__get__"=some (some (.builtin "getset_descriptor.__get__"))
 tk:takesIn K (.builtin "object.__class__")=some true
 obj:mroIn K D (.type "object")=some true
 exc:mroIn K D (.type "BaseException")=some true
section
variable{prog:ξ}{w:τ}{A:Around}{E:L3}{s:η}{K:Frag}{x D:Addr}
noncomputable def rG(x D:Addr)(h:Heap):Prop:=∃o,h.get? x=some o/\o.cls= .ref D
theorem rG.ty{M:Model}{h:Heap}(p:rG x D h):Looks M h (typeOf (.ref x)) (.ref D):=by
 obtain⟨o,e,c⟩:=p;exact c▸(Looks.ld e).andThen .now
theorem Jz{M:Model}{h:Heap}{C:Addr}{name:Str}{a g:ζ}(X:K.In h)(ha:findIn K (.ref C) name=some (some a))(hg:specialIn K a "__get__"=some (some g))(ht:takesIn K a=some true):
  Looks M h (Builtin.ObjectAttr.find (.ref x) (.ref C) name) (.bind g a):=
 (looks_findIn X ha).andThen ((show Looks M h (Builtin.ObjectAttr.getOf (some a)) (some g)from looks_specialIn X hg).andThen
  ((show Looks M h (Builtin.ObjectAttr.dataDescriptor? (some a) (some g)) (some (g,a))from(looks_takesIn X ht).andThen .now).andThen (Looks.tag .now)))
theorem Uu{tp:ζ}{R:Result->η->Prop}(X:K.In s.heap)(I:rG x D s.heap)(hm:mroIn K D (.type "object")=some true)(h:R (.ok (.ret (.ref D))) s):
  codeAny (model prog w) A (.call (.builtin "getset_descriptor.__get__") ⟨[.builtin "object.__class__",.ref x,tp],[]⟩) R s:=by
 obtain⟨hh,gg,dr,tt,os⟩:=s;have A0:=I.ty (M:=model prog w);have A1:=looks_mroIn (M:=model prog w) X hm;have A2:=KF.slot_gs.check (model prog w);refine codeAny_call_builtin KF.slot_gs.plain KF.entry_gs (A2 _ _ _ _ _ _ _ KF.type_class
  (KF.args_gs _ _ _) ?_)
 unfold Builtin.«getset_descriptor.__get__» descrGet;rw[dga_obj];refine bL (iD ?_);unfold descrGetter descrCheckInstance descrNameAndClass isInstance;simp only[KF.owner_class]
 repeat lk
 refine⟨Code.quiet_builtin _ (by decide+kernel),
  Z6 KF.entry_class ?_⟩
 unfold Builtin.«object.__class__» shownTypeOf;(repeat lk);exact h
theorem JC{nameV:ζ}{Q:Unit->η->Prop}(X:K.In s.heap)(I:rG x D s.heap)(hb:mroIn K D (.type "BaseException")=some true)(hq:Q () s):
  wpAny (model prog w) A (checkBuiltinCall "BaseException.__getattribute__" ⟨[.ref x,nameV],[]⟩) Q E s:=by
 obtain⟨hh,gg,dr,tt,os⟩:=s;have kd:builtinKind "BaseException.__getattribute__"=some .slot:=by decide+kernel
 have sp:splitId "BaseException.__getattribute__"=some ("BaseException","__getattribute__"):=by decide+kernel
 have A0:=I.ty (M:=model prog w);have A1:=looks_mroIn (M:=model prog w) X hb;have ar:=F.args_bexc_ga (.ref x) nameV;simp only[checkBuiltinCall,kd,sp];refine bL ?_;unfold isInstance
 repeat(any_goals(first |assumption|lk|wp_step))
theorem JB{Q:Option ζ->η->Prop}(X:K.In s.heap)(I:rG x D s.heap)(c:qT K D)(h:Q (some (.ref D)) {s with toks:=s.toks+1}):
  wpAny (model prog w) A (getAttr? (.ref x) "__class__") Q E s:=by
 obtain⟨hc,hga,hgn,ha,hn,htk,hm,hb⟩:=c;obtain⟨hh,gg,dr,tt,os⟩:=s;have A0:=I.ty (M:=model prog w);have A1:=looks_findIn (M:=model prog w) X hga;have A2:=looks_findIn (M:=model prog w) X hgn;have A3:=Jz (M:=model prog w) (x:=x) X ha hn htk;have n2:(Value.builtin "BaseException.__getattribute__"==Value.builtin "object.__getattribute__")=false:=by decide+kernel
 have n1:(onTheHeap (Value.ref D)&&Value.builtin "BaseException.__getattribute__"==Value.builtin "object.__getattribute__")=false:=by rw[n2];rfl
 have hbd:=F.attr_ValueError.ga.bind (.ref x);unfold getAttr? getAttrBy? getAttrBy;refine bL (wpAny_mkText (bL (wpAny_attempt (Vd (bL (A0.at (bL (A1.at ?_))))))));dsimp only;rw[aB (by rw[n1];exact uU)];unfold getAttrByItsOwn hookBefore;rw[aH (by rfl)];refine bL (A2.at (bL (wpAny_attempt (Vd ?_))));unfold callGetattribute;rw[aB (by intro z;cases z)];unfold boundAndCalled;rw[hbd];refine bL (iD ?_);refine Y4 (codeAny_call_builtin F.attr_ValueError.ga.plain F.entry_bexc_ga (JC X I hb ?_));unfold Builtin.«object.__getattribute__»
 repeat(any_goals(first |assumption|(with_reducible refine Y4 (Uu X I hm ?_))|lk|wp_step))
theorem zP(c:qT K D):KitX K (.ref x) (.ref D) (rG x D):=by
 obtain⟨cd,hcD⟩:=c.cls;unfold clsIn at hcD;split at hcD
 ·rename_i d' sl' cd' c'' ho;refine⟨fun _ _ _ p=>p.ty,fun _ _ X _ A' Q' E' s' k q=> ?_,fun h tp dd its n sl X htp=>Bool.eq_false_iff.mpr fun q=> ?_,fun X p k=>JB X p c k⟩
  ·unfold isType loadHead;exact bL (wpAny_loadPart (k _ _ (X _ _ ho)) (iD q))
  ·obtain rfl:D=tp:=Value.ref.inj (beq_iff_eq.mp q);cases(X _ _ ho).symm.trans htp
 ·cases hcD
end
theorem DR{X:Cx}{pins:L1}{σ:St}{H:Hp}{s:η}{a C:Addr}(I:Inv X pins σ H s)(h:H a=some (rQ a C)):rG a C s.heap:=by
 obtain⟨⟨o,vs,e,c,_⟩,_⟩:=I.hok a _ h;exact⟨o,e,c⟩
theorem Q5{X:Cx}:CallR X (.builtin "isinstance") (fun xs H Q=>∃(a C D:Addr) (b:Bool),xs=[.ref a,.ref D]/\H a=some (rQ a C)/\qT X.K C/\kitOne X.K (.ref C) (.ref D)=some b/\Q (.bl b) H):=by
 intro pins s σ H xs us Q I r h;obtain⟨a,C,D,b,rfl,he,hc,hk,q⟩:=h;obtain⟨u,v,rfl,ru,rv⟩:=r.two;cases ru;cases rv;exact kia_one (zP hc) I.kIn (DR I he) hk (fun z=>nomatch z) fun tk=>⟨.bl b,H,I.tok _,rfl,q⟩
theorem JM{X:Cx}:CallR X (.builtin "isinstance") (fun xs H Q=>∃(a C:Addr) (T:String) (b:Bool),xs=[.ref a,.ty T]/\H a=some (rQ a C)/\qT X.K C/\kitOne X.K (.ref C) (.type T)=some b/\Q (.bl b) H):=by
 intro pins s σ H xs us Q I r h;obtain⟨a,C,T,b,rfl,he,hc,hk,q⟩:=h;obtain⟨u,v,rfl,ru,rv⟩:=r.two;cases ru;cases rv;exact kia_one (zP hc) I.kIn (DR I he) hk (fun z=>nomatch z) fun tk=>⟨.bl b,H,I.tok _,rfl,q⟩
end L2
namespace L2
open PySem PySem.Spec PyProof.Rows
noncomputable abbrev Cx.mkd(X:Cx)(e:Addr):Cx:={X with A:=X.A.mark (some (.ref e)),calm:=false,xe:=fun _ _=>False}
section
variable{X:Cx}{pins:L1}{σ:St}{H H':Hp}{s s':η}{e C:Addr}{B:Heap}
theorem Cx.Ok.mkd(ok:X.Ok)(e:Addr):(X.mkd e).Ok:=
 ⟨ok.mod,ok.kind,ok.glob,ok.blt,ok.above,ok.inj,ok.has,ok.cab,fun z=>(uU z).elim,ok.frames,ok.stk,ok.exf,ok.bs,ok.bsz,ok.noex,ok.exfs,ok.funs,ok.frf⟩
theorem Inv.mkd(I:Inv X pins σ H s)(e:Addr):Inv (X.mkd e) pins σ H s:=⟨I.ok.mkd e,I.os,I.bare,I.base,I.loc,I.cell,I.free,I.freeC,I.pin,I.hok,I.len⟩
theorem Inv.aac(ok:X.Ok)(I:Inv (X.mkd e) pins σ H s):Inv X pins σ H s:=⟨ok,I.os,I.bare,I.base,I.loc,I.cell,I.free,I.freeC,I.pin,I.hok,I.len⟩
theorem landed{h':Heap}{a0:ζ}(I:Inv X pins σ H s)(F:Flew X.prog X.w X.stack H s e C H' B s')(fl:Heap.FlyingW B X.stack e (.ref C) a0 h')(up:s'.heap.UpToSlots h'):
  Inv X pins σ (upd H' e (rQ e C)) {s' with heap:=h'}:=by
 have ne:∀b o,s.heap.get? b=some o->b≠e:=fun b o q z=>by rw[z,F.new]at q;cases q
 have slot:∀b o,s.heap.get? b=some o->b∈frs X.stack->∃sl,h'.get? b=some {o with slots:=sl}:=fun b o q hb=>by
  obtain⟨s1,e1⟩:=F.sl b hb o q;obtain⟨_,o',ho',hd'⟩:=I.stack.mem hb;rw[q]at ho';cases ho';obtain⟨s2,e2⟩:=up b _ e1 hd';exact⟨s2,e2⟩
 refine I.call' (ch:=[]) F.os ⟨fun b o q n hb _=>fl.1 b o (F.un.keep b o q n hb),fun b o q n hb _=>slot b o q hb,fun b o q n _=>by rw[cG (ne b o q)];exact F.un.free b o q n,fun b o q _=> ?_,fun b xs q=> ?_,fun b o u q=> ?_,fun b ps q=> ?_⟩
  (fun b u q=> ?_) F.bare (fun b z=>absurd z (by simp))
 ·by_cases hb:b∈frs X.stack
  ·obtain⟨sl,z⟩:=slot b o q hb;exact⟨_,z⟩
  ·obtain⟨o',z⟩:=F.un.there b o q hb;exact⟨o',fl.1 b o' z⟩
 ·have z:=F.un.tups b xs q;rw[cG (oH z F.he)];exact z
 ·have z:=F.un.frzs b o u q;rw[cG (oH z F.he)];exact z
 ·obtain⟨more,z⟩:=F.un.tbls b ps q;exact⟨more,by rw[cG (oH z F.he)];exact z⟩
 ·by_cases hb:b=e
  ·subst hb;rw[au]at q;cases q;obtain⟨oe,vs,he,hc,hd,_⟩:=fl.first;refine⟨⟨oe,vs,he,hc,hd⟩,⟨_,he⟩,fun h1 h2 p k=> ?_⟩;obtain⟨o,ws,p1,p2,p3⟩:=p;exact⟨o,ws,k o p1,p2,p3⟩
  ·rw[cG hb]at q;exact(F.hok b u q).stay (fun c v _ z=>fl.1 c v z) (fun c z=>by rw[cG (oH z F.he)];exact z) fun c xs z=>by rw[cG (oH z F.he)];exact z
theorem Inv.forget{M:Model}{A:Around}{E:L3}{i:Nat}{n:Str}{pos:Pos}{Q:Unit->η->Prop}(I:Inv X pins σ H s)(hN:X.N.Nodup)(hi:X.N[i]? =some n)(hk:X.env.scope.names.lookup n=some .local)(h:∀s',Inv X pins (σ.set i none) H s'->Q () s'):wpAny M A (do bindName X.env n .none;unbindBehindTheSuite X.env n pos) Q E s:=by
 obtain⟨m,hn,hl⟩:=id I.loc;have hcls:(X.env.scope.kind== .class||(X.env.scope.kind== .module&&X.env.locals !=X.env.globals))=false:=by rw[I.ok.kind];rfl
 have hiσ:i<σ.length:=by rw[I.len];exact(oF.mp hi).1
 have cne:=I.cne;refine wpAny_nameGoes_keeps (show X.env.kindOf n=some .local from hk) hn hcls fun h' v hn' hs=> ?_;obtain⟨oL,_,_,hoL,_⟩:=id hn;have low:∀b o,X.s₀.heap.get? b=some o->b≠X.env.locals:=fun b o z=>jh (jY (fW z) I.ok.above);refine h _ ⟨I.ok,I.os,I.bare,⟨fun b o z n hb hx=>(hs.2 b (low b o z)).trans (I.base.keep b o z n hb hx),fun b o z n hb hx=> ?_,I.base.free,fun b o z hx=> ?_,I.base.tups,I.base.frzs,I.base.tbls⟩,⟨_,hn',fun j y v' e1 e2 e3=> ?_⟩,fun y c z=> ?_,I.free,I.freeC,fun p hp=> ?_,fun b ob z=> ?_,by simpa using I.len⟩
 ·obtain⟨sl,q⟩:=I.base.slot b o z n hb hx;exact⟨sl,(hs.2 b (low b o z)).trans q⟩
 ·obtain⟨o',q⟩:=I.base.there b o z hx;exact⟨o',(hs.2 b (low b o z)).trans q⟩
 ·by_cases hj:j=i
  ·subst hj;rw[wcc hiσ]at e2;cases e2
  ·rw[wcp (mj hj)]at e2;obtain⟨u',r',q⟩:=hl j y v' e1 e2 e3;refine⟨u',r',?_⟩;rcases q with⟨k,z⟩|⟨k,c,z,zc⟩
   ·refine .inl ⟨k,?_⟩;have:y≠n:=fun z=>hj (nodup_ix hN e1 (z▸hi));simp[this,z]
   ·exact .inr ⟨k,c,z,zc.sameBut hs (cne y c z)⟩
 ·obtain⟨w',q⟩:=I.cell y c z;exact⟨w',q.sameBut hs (cne y c z)⟩
 ·obtain⟨z,n',ne,nf,d⟩:=I.pin p hp;exact⟨(hs.2 p.1 ne).trans z,n',ne,nf,d⟩
 ·refine(I.hok b ob z).stay (fun c w' hc q=>(hs.2 c ?_).trans q) (fun _ q=>q) fun _ _ q=>q;rintro rfl;rcases hc with rfl|hc
  ·rw[I.free]at z;cases z
  ·rw[I.free]at hc;cases hc
end
section
variable{X:Cx}{k:Nat}{f D:Addr}{fd:ρ}{ps:List Str}{sp:Sp}{fn x n:Str}{p cpos np hpos:Pos}{a:Expr}{as:List Expr}{t:TA}{ts:TS}{b₀:Stmt}{suite:List Stmt}{i:Nat}
theorem caught(hst:X.stack=X.env::X.outer)(hfr:X.env.frame=some X.env.locals)(hgx:Gl X x)(hmx:X.mg x=some (.ref D))(hN:X.N.Nodup)(hi:X.N[i]? =some n)(QS:X.env.scope.names.lookup n=some .local)(hs:∀e,PSs (X.mkd e) (b₀::suite) ts){pins:L1}{σ:St}{H:Hp}{s s':η}{e C:Addr}{H':Hp}{B:Heap}{Dn:Ends}(I:Inv X pins σ H s)(F:Flew X.prog X.w X.stack H s e C H' B s')(hx:PySem.W.exmOne X.K (.ref C) (.ref D)=some true)(h:ts {nx:=fun σ3 H3=>Dn.nx (σ3.set i none) H3,bk:=fun _ _=>False,ct:=fun _ _=>False,rt:=fun _ _=>False} (σ.set i (some (.ref e))) (upd H' e (rQ e C)))(hdb:(x==("__debug__":Str))=false):
  wpAny (model X.prog X.w) X.A (noteFrame (.ref e) X.env) (fun _ s₂=>wpAny (model X.prog X.w) X.A (setFlight (.ref e) none) (fun _ s₃=>
   wpAny (model X.prog X.w) X.A (handleBy (.ref e) X.env [.ExceptHandler (some (.Name x np)) (some n) (b₀::suite) hpos]) (SP X pins Dn) X.xe s₃) X.xe s₂) X.xe s':=by
 obtain⟨a0,fl⟩:=F.fly;have fl0:=fl;rw[hst]at fl0;refine wpAny_looks_onW (L:=X.env.locals) (I.ok.frames.trans (jX some hst)) hfr fl0 fun h4 aaJ up4=> ?_;refine wpAny_landsW aaJ fun h5 fl5 up5=> ?_;have g5:=fl5;rw[<-hst]at g5;have J5:=landed I F g5 (up4.trans up5);refine wpAny_handleBy_cons (codeAny_handlers_test (ld_glob (J5.mkd e) hgx hmx ?_ hdb)) (by intro q;cases q);have oc:rG e C ({s' with heap:=h5}:η).heap:=DR J5 au;refine PySem.W.exm_one (K:=X.K) J5.kIn oc.ty hx _ _ _ _ (fun _ _ z=>z) ?_;refine codeAny_handlers_suite_as ?_;refine lands_againW fl5 fun h6 fl6 up6=> ?_;have g6:=fl6;rw[<-hst]at g6;have J6:=landed I F g6 ((up4.trans up5).trans up6);refine store_ok (X:=X.mkd e) (J6.mkd e) hN hi (.inl QS) (v:= .ref e) rfl (fun s7 J7=> ?_) (.inr QS);refine Ft (hs e pins s7 _ _ _ J7 h) (fun fl8 s8 q8=> ?_) (fun _ _ z=>z.elim);cases fl8 with
 |next=>
  obtain⟨σ3,H3,J8,q⟩:=q8;exact(Inv.aac I.ok J8).forget hN hi QS fun s9 J9=>⟨_,H3,J9,q⟩
 |brk=>obtain⟨_,_,_,q⟩:=q8;exact q.elim
 |cont=>obtain⟨_,_,_,q⟩:=q8;exact q.elim
 |ret u=>obtain⟨_,_,_,_,_,q⟩:=q8;exact q.elim
theorem Yu{pins:L1}{σ:St}{H:Hp}{s:η}{Q:VK}{E:XK}{XE:L3}(F:FnOk X.prog X.w X.K X.mg X.base (fj X.prog X.w) k f fd ps sp)(hr:Room k X.A)(hg:Gl X fn)(hm:X.mg fn=some (.ref f))(hk:PySem.W.keepIn X.K (.ref f)=true)(hb:Binds X.K fd ps [])(ha:PA X.nox (a::as) t)(I:Inv X pins σ H s)(h:t σ H fun vs H1=>sp vs H1 Q E)(hx:∀H1 s1 v s',Inv X pins σ H1 s1->fj X.prog X.w X.stack H1 s1 E v s'->XE v s')(hdb:(fn==("__debug__":Str))=false)(he:starEach (a::as) X.env=(false,eval a X.env)::starEach as X.env)(hpl:(backTo cpos (starEach as X.env)).any (·.1)=false):
  wpAny (model X.prog X.w) X.A (eval (.Call (.Name fn p) (a::as) [] cpos) X.env) (EP X pins σ Q) XE s:=by
 refine Ri (ld_glob I hg hm ?_ hdb);refine wbn (h₀:=X.base) I.ok.mod.kin hk (Ft (ha cpos pins s σ H _ (I.wish _) h) (fun us s1 z=> ?_) fun _ _ z=>z.elim) he hpl;obtain⟨vs,H1,I1,r,q⟩:=z;have J:=I1.unwish;refine⟨J.kIn,?_⟩;have hl:us.length=ps.length:=by rw[<-r.length];exact F.len _ _ _ _ q
 have bd:=hb s1 us J.kIn (by simpa using hl);rw[Bg]at bd;refine Y4 (Wa (F.run X.A X.stack s1 H1 ⟨us,[]⟩ us vs Q E hr J.env0 bd r q) fun rr s' hq=> ?_);cases rr with
 |error v=>exact hx H1 s1 v s' J hq
 |ok fl=>
  cases fl with
  |ret u=>exact J.after hq
  |next=>exact False.elim hq
  |brk=>exact False.elim hq
  |cont=>exact False.elim hq
end
theorem pO(a b:Bool):MeetsSeq.EqGives (.bool a) (.bool b) (a==b):=fun prog w A E s Q h=>PySem.SeqAt.EqAt.bool_bool a b prog w E Q h
theorem Fw{bs:List Bool}{us:List ζ}(r:Vals (bs.map V.bl) us):us=bs.map Value.bool:=by
 induction bs generalizing us with
 |nil=>cases r;rfl
 |cons b bs ih=>
  cases r with
  |cons h t=>rw[show _=Value.bool b from h,ih t];rfl
section
variable{X:Cx}
noncomputable def WD:V->List V->Hp->VK->Prop:=fun x vs H Q=>∃(l:Addr) (bs:List Bool),x= .ref l/\vs=[.bl true]/\H l=some (.lst (bs.map V.bl))/\Q (.int (bs.countP id:Nat)) H
theorem Nx:MtM X "list.count" WD:=by
 intro pins s σ H x vs v us Q I rx rv h;obtain⟨l,bs,rfl,rfl,hH,q⟩:=h;cases rx;obtain⟨u,rfl,ru⟩:=rv.one;cases ru;obtain⟨z,its,n,r,hl,e⟩:=I.lstM hH;have hi:=Fw r;subst hi;refine Vc F.slot_list_count ⟨_,e,rfl⟩ F.entry_list_count (F.args_list_count_2 _ _) (MeetsSeq.list_count l _ n (.bool true) (fun y=>y== .bool true) (fun y hy=> ?_)) ⟨e,?_⟩
 ·obtain⟨b,_,rfl⟩:=oJ.mp (List.mem_toArray.mp hy);have e1:(Value.bool b==Value.bool true)=(b==true):=by cases b<;>rfl
  rw[e1];exact pO b true
 ·refine⟨.int (bs.countP id:Nat),H,I.tok _,⟨s.toks,?_⟩,q⟩;rw[List.toList_toArray,List.countP_map];congr 2;refine List.countP_congr fun b _=> ?_;cases b<;>simp
noncomputable def Wz:V->List V->Hp->VK->Prop:=fun x vs H Q=>∃(l:Addr) (bs:List Bool) (j:Nat),x= .ref l/\vs=[.bl true]/\H l=some (.lst (bs.map V.bl))/\bs[j]? =some true/\(∀m,m<j->bs[m]? =some false)/\bs.length<=1000/\Q (.int (j:Nat)) H
theorem Nv:MtM X "list.index" Wz:=by
 intro pins s σ H x vs v us Q I rx rv h;obtain⟨l,bs,j,rfl,rfl,hH,h1,h2,hb,q⟩:=h;cases rx;obtain⟨u,rfl,ru⟩:=rv.one;cases ru;obtain⟨z,its,n,r,hl,e⟩:=I.lstM hH;have hi:=Fw r;subst hi;obtain⟨hj,ej⟩:=oF.mp h1;have hj':j<(bs.map Value.bool).toArray.size:=by simpa using hj
 refine Vc F.slot_list_index ⟨_,e,rfl⟩ F.entry_list_index (F.args_list_index_2 _ _) (MeetsSeq.list_index l _ n (.bool true) (fun y=>y== .bool true) (fun y hy=> ?_) j hj' (by omega) ?_ (fun m hm hmj=> ?_)) ⟨e,?_⟩
 ·obtain⟨b,_,rfl⟩:=oJ.mp (List.mem_toArray.mp hy);have e1:(Value.bool b==Value.bool true)=(b==true):=by cases b<;>rfl
  rw[e1];exact pO b true
 ·simp[ej]
 ·have hm':m<bs.length:=by simpa using hm
  have em:bs[m]=false:=by
   have z:=h2 m hmj;rw[fL hm']at z;exact tu z
  simp[em]
 ·exact⟨.int (j:Nat),H,I.tok _,⟨s.toks,rfl⟩,q⟩
end
mutual
def Jm:Nat->Expr->Option θ
 |0,_=>none
 |n+1,e=>match e with
  | .Constant (.int i) _ _=>some (.int i)
  | .Constant (.bool b) _ _=>some (.bool b)
  | .Constant .none _ _=>some .none
  | .Constant (.str x) _ _=>some (.str x)
  | .UnaryOp .USub (.Constant (.int i) _ _) _=>some (.int (-i))
  | .Tuple es _ _=>(gC n es).map .tuple
  | .List es _=>(gC n es).map .list
  | .Dict [] [] _=>some (.dict [])
  |_=>none
def gC:Nat->List Expr->Option (List θ)
 |0,_=>none
 |_+1,[]=>some []
 |n+1,e::es=>match Jm n e,gC n es with
  |some d,some ds=>some (d::ds)
  |_,_=>none
end
noncomputable def abv(K:W.Frag)(d:θ):TE:=fun _ H Q=>∀x H',Same H H'->DX K H' x d->Q x H'
noncomputable def FJ(K:W.Frag)(ds:List θ):TA:=fun _ H Q=>∀xs H',Same H H'->jg K H' xs ds->Q xs H'
theorem starEach_lit{env:Env}{n:Nat}{e:Expr}{es:List Expr}{d:θ}(h:Jm n e=some d):starEach (e::es) env=(false,eval e env)::starEach es env:=by
 cases n with
 |zero=>cases h
 |succ n=>
  unfold Jm at h;split at h<;>first |rfl|cases h
theorem Mx{X:Cx}{pos:Pos}:PE X (.Dict [] [] pos) (fun _ H Q=>∀p,H p=none->Q (.ref p) (upd H p (.dK []))):=fun pins s σ H Q I h=>by
 have big:sysModules<s.heap.objs.size:=Ra (by decide) (I.mod.glob.keeps I.bk).lt;refine wpAny_Dict_empty ⟨.ref s.heap.objs.size,_,I.laid (a:=s.heap.objs.size) (o:= .dK []) (t':=s.toks) (fun _ _ q=>lH _ q) (aW _) ?_,rfl,h _ (I.hok.fresh (aW _))⟩;exact⟨dF _,beq_eq_false_iff_ne.mpr fun z=>uR _ (z▸big),[],.nil,Heap.DictOf.new s.heap⟩
theorem uy:∀{n:Nat} {es:List Expr} {ds:List θ},gC n es=some ds->ds.length<=n
 |0,_,_,h=>by cases h
 |n+1,[],ds,h=>by cases h;exact dF _
 |n+1,e::es,ds,h=>by
  unfold gC at h;split at h
  ·rename_i d ds' _ h2;cases h;exact wcn (uy h2)
  ·cases h
section
variable{X:Cx}
theorem GZ:∀n:Nat,n<=1000->(∀e d,Jm n e=some d->PE X e (abv X.K d))/\(∀es ds,gC n es=some ds->PA X es (FJ X.K ds))
 |0,_=>⟨fun e d h=>by simp[Jm]at h,fun es ds h=>by simp[gC]at h⟩
 |n+1,hn=>by
  obtain⟨ih1,ih2⟩:=GZ n (by omega);refine⟨fun e d h=> ?_,fun es ds h=> ?_⟩
  ·unfold Jm at h;split at h
   ·cases h;exact fun pins s σ H Q I q=>aq pins s σ H Q I (q _ _ (Same.refl _) (.int _))
   ·cases h;exact fun pins s σ H Q I q=>pe_bl pins s σ H Q I (q _ _ (Same.refl _) (.bl _))
   ·cases h;exact fun pins s σ H Q I q=>pe_non pins s σ H Q I (q _ _ (Same.refl _) .non)
   ·cases h;exact fun pins s σ H Q I q=>dJ pins s σ H Q I (q _ _ (Same.refl _) (.str _))
   ·cases h;exact fun pins s σ H Q I q=>pe_un un_neg aq pins s σ H Q I ⟨_,rfl,q _ _ (Same.refl _) (.int _)⟩
   ·rename_i es k pos;cases hl:gC n es with
    |none=>rw[hl]at h;cases h
    |some ds=>
     rw[hl]at h;cases h;intro pins s σ H Q I q;refine fV (ih2 es ds hl) pins s σ H Q I fun xs H1 s1 hx=>⟨?_,fun p hp=> ?_⟩
     ·have z:=uy hl;rw[hx.len,fZ];omega
     ·exact q _ _ (s1.trans (aK hp _)) (.tup (SqT.of au) (hx.same (aK hp _)))
   ·rename_i es pos;cases hl:gC n es with
    |none=>rw[hl]at h;cases h
    |some ds=>
     rw[hl]at h;cases h;intro pins s σ H Q I q;refine uQ (ih2 es ds hl) pins s σ H Q I fun xs H1 s1 hx=>⟨?_,fun p hp=> ?_⟩
     ·have z:=uy hl;rw[hx.len,fZ];omega
     ·exact q _ _ (s1.trans (aK hp _)) (.lst (SqL.of au) (hx.same (aK hp _)))
   ·cases h;exact fun pins s σ H Q I q=>Mx pins s σ H Q I fun p hp=>q _ _ (aK hp _) (.dct _ au)
   ·cases h
  ·cases es with
   |nil=>
    simp[gC]at h;subst h;exact fun pos pins s σ H Q I q=>ak pos pins s σ H Q I (q _ _ (Same.refl _) .nil)
   |cons e es=>
    unfold gC at h;split at h
    ·rename_i d ds' h1 h2;cases h;intro pos pins s σ H Q I q;refine aj (ih1 e d h1) (ih2 es ds' h2) (starEach_lit h1) pos pins s σ H Q I fun x H1 s1 hx=> ?_;exact fun xs H2 s2 hxs=>q _ _ (s1.trans s2) (.cons (hx.same s2) hxs)
    ·cases h
theorem RW{es:List Expr}{ds:List θ}(h:gC 60 es=some ds):PA X es (FJ X.K ds):=(GZ 60 (by decide)).2 es ds h
theorem MF(K:W.Frag){es:List Expr}{ds:List θ}(h:gC 60 es=some ds)(hk:X.K=K:=by rfl):PA X es (FJ K ds):=hk▸RW h
theorem JK(hc:X.calm=true):CallR X (.builtin "min") (fun xs H Q=>∃(a:Addr) (ns:List Int),xs=[.ref a]/\SqL X.K H a (ns.map V.int)/\ns≠[]/\∀m∈ns,(∀n∈ns,m<=n)->Q (.int m) H):=by
 intro pins s σ H xs us Q I r h;obtain⟨a,ns,rfl,hS,hne,q⟩:=h;obtain⟨u,rfl,ru⟩:=r.one;cases ru;obtain⟨vs,rv,pl,hz⟩:=I.list hS;have hl:=pl.isList;have hlt:a<s.heap.objs.size:=by obtain⟨_,e,_⟩:=hl;exact fW e
 have hlen:=rv.length;rw[aM]at hlen;have hI:∀(i:Nat) (v:ζ),vs.toArray[i]? =some v->∃t,v= .int (ns.getD i 0) t:=fun i v hv=>by
  have hv':vs[i]? =some v:=by simpa using hv
  have hi:i<ns.length:=by have:=(oF.mp hv').1;omega
  have hn:(ns.map V.int)[i]? =some (.int (ns.getD i 0)):=by rw[fu,fL hi,oK,fL hi];rfl
  obtain⟨u,hu,ru⟩:=rv.get hn;rw[hv']at hu;cases hu;obtain⟨t,rfl⟩:=ru;exact⟨t,rfl⟩
 refine call_min_walk (wdq hl ?_);refine⟨s.heap.objs.size,[s.heap.objs.size,a],[s.heap.objs.size],vs.toArray.size,_,_,_,rfl,Walks.list (A:=X.A.in1) (I.ok.hd hc) _ a (jh hlt) vs.toArray,
  ⟨⟨_,sY _ rfl,rfl,rfl⟩,hl.push _⟩,?_,?_,CmpOf.ints_lt (fun i=>ns.getD i 0) hI,fun v h' tk hP hk=> ?_⟩
 ·intro b hb;show b<(s.heap.push _).objs.size;rw[Rb];rcases cZ.mp hb with rfl|hb
  ·exact vH _
  ·rw[oE.mp hb];exact uW hlt
 ·rw[iH,<-hlen];exact List.length_pos_iff.mpr hne
 ·obtain⟨t,rfl⟩:=hI _ v hP;obtain⟨h1,h2⟩:=argBest_lt (fun i=>ns.getD i 0) (vs.toArray.size-1);have hn0:0<ns.length:=List.length_pos_iff.mpr hne;have hb:argBest (fun i j=>decide (ns.getD i 0<ns.getD j 0)) (vs.toArray.size-1)<ns.length:=by
   have:vs.toArray.size=ns.length:=by rw[iH];omega
   omega
  refine⟨.int _,H,I.kept (LSm.kept_iter hk),⟨t,rfl⟩,q _ ?_ fun n hn=> ?_⟩
  ·rw[oK,fL hb];exact Ka hb
  ·obtain⟨j,hj,rfl⟩:=U6 hn;have:=h2 j (by rw[iH];omega);rw[oK (i:=j),fL hj]at this;exact this
end
noncomputable def isK(k:Int):ζ->Bool
 | .int i _=>i==k
 |_=>false
theorem Ii{i:Int}:∀{n:Nat} {us:List ζ},us.length=n->(∀(j:Nat) (u:ζ),us[j]? =some u->∃t:Tok,u=Value.int (i+((j:Nat):Int)*1) t)->Vals (((List.range n).map fun(k:Nat)=>i+(k:Int)).map V.int) us:=by
 intro n us hl hi;have go:∀(us:List ζ) (k:Nat),(∀(j:Nat) (u:ζ),us[j]? =some u->∃t:Tok,u=Value.int (i+((j+k:Nat):Int)*1) t)->Vals (((List.range' k us.length).map fun(k:Nat)=>i+(k:Int)).map V.int) us:=by
  intro us
  induction us with
  |nil=>intro k _;exact .nil
  |cons u us ih=>
   intro k h;obtain⟨t,e⟩:=h 0 u rfl;refine .cons ⟨t,?_⟩ ?_
   ·rw[e];show Value.int (i+((0+k:Nat):Int)*1) t=Value.int (i+(k:Int)) t;congr 1;omega
   ·refine ih (k+1) fun j u hu=> ?_;obtain⟨t,e⟩:=h (j+1) u (by simpa using hu);exact⟨t,by rw[e];congr 1;omega⟩
 have:=go us 0 fun j u hu=>hi j u hu;rw[hl,<-List.range_eq_range']at this;exact this
section
variable{X:Cx}{e:Expr}{ta:TE}{f:Str}{pos:Pos}
theorem RV(K:W.Frag)(he:PE X e ta)(hb:attributeBase e f X.env (eval e X.env)=eval e X.env)(h:X.K=K:=by rfl):PE X (.Attribute e f pos) (tFld K ta f):=by subst h;exact dB he hb
theorem qH:MtM X "list.index" (fun x vs H Q=>∃(l:Addr) (ns:List Int) (k:Int) (j:Nat),x= .ref l/\vs=[.int k]/\H l=some (.lst (ns.map V.int))/\ns[j]? =some k/\(∀i,i<j->ns[i]? ≠some k)/\ns.length<=1000/\Q (.int (j:Nat)) H):=by
 intro pins s σ H x vs v us Q I rx rv h;obtain⟨l,ns,k,j,rfl,rfl,hH,hj,hno,hb,q⟩:=h;cases rx;obtain⟨u,rfl,ru⟩:=rv.one;obtain⟨t,rfl⟩:=ru;obtain⟨z,its,n,r,hl,e⟩:=I.lstM hH;rw[aM]at z hl;have hI:∀(i:Nat) (v:ζ),its[i]? =some v->∃t,v= .int (ns.getD i 0) t/\ns[i]? =some (ns.getD i 0):=fun i v hv=>by
  have hi:i<ns.length:=by have:=(oF.mp hv).1;omega
  have e0:ns[i]? =some (ns.getD i 0):=by rw[oK,fL hi];rfl
  obtain⟨u,hu,ru⟩:=r.get (show(ns.map V.int)[i]? =some (.int (ns.getD i 0)) by rw[fu,e0];rfl);rw[hv]at hu;cases hu;obtain⟨t,rfl⟩:=ru;exact⟨t,rfl,e0⟩
 have hj':j<its.length:=by have:=(oF.mp hj).1;omega
 refine Vc F.slot_list_index ⟨_,e,rfl⟩ F.entry_list_index (F.args_list_index_2 _ _)
  (MeetsSeq.list_index l its.toArray n (.int k t) (isK k) (fun y hy=> ?_) j (by simpa using hj') (by omega) ?_ (fun i hi hlt=> ?_)) ⟨e,?_⟩
 ·obtain⟨i,hi,rfl⟩:=U6 (show y∈its by simpa using hy);obtain⟨t',e',_⟩:=hI i its[i] (fL hi);rw[e'];exact MeetsSeq.EqGives.int _ _ _ _
 ·obtain⟨t',e',e0⟩:=hI j its[j] (fL hj');show isK k its[j]=true;rw[e'];rw[hj]at e0;have:k=ns.getD j 0:=tu e0;show(ns.getD j 0==k)=true;rw[<-this];exact beq_self_eq_true _
 ·have hi':i<its.length:=by simpa using hi
  obtain⟨t',e',e0⟩:=hI i its[i] (fL hi');show isK k its[i]=false;rw[e'];show(ns.getD i 0==k)=false;refine beq_eq_false_iff_ne.mpr fun z=>hno i hlt ?_;rw[e0,z]
 ·exact⟨.int (j:Nat),H,I.tok _,⟨s.toks,rfl⟩,q⟩
end
section
variable{X:Cx}{a b:Expr}{ta:TA}{p pos p' pos':Pos}
noncomputable def pA(i:Int)(n:Nat):List Int:=(List.range n).map fun(k:Nat)=>i+(k:Int)
noncomputable def Wh(ta:TA):TE:=fun σ H Q=>ta σ H fun vs H1=>∃i j:Int,vs=[.int i,.int j]/\0<=i/\i<=j/\j<=1000000/\∀l,H1 l=none->Q (.ref l) (upd H1 l (.lst ((pA i (j-i).toNat).map V.int)))
theorem wG(hc:X.calm=true)(hgT:Gl X "list")(hmT:X.mg "list"=none)(hg:Gl X "range")(hm:X.mg "range"=none)(ha:PA X [a,b] ta)(hs:starEach [a,b] X.env=[(false,eval a X.env),(false,eval b X.env)]:=by rfl)(hs':starEach [b] X.env=[(false,eval b X.env)]:=by rfl)(hs2:starEach [Expr.Call (.Name "range" p') [a,b] [] pos'] X.env=[(false,eval (Expr.Call (.Name "range" p') [a,b] [] pos') X.env)]:=by rfl):
  PE X (.Call (.Name "list" p) [.Call (.Name "range" p') [a,b] [] pos'] [] pos) (Wh ta):=by
 intro pins s σ H Q I h;refine Ri (ld_blt I hgT hmT (show bootBuiltins "list"=some (.type "list")from by decide+kernel) ?_ (by decide) (by decide));refine QK ?_ hs2 rfl;rw[hs2];refine wbv ?_;refine Call_ (ld_blt I hg hm ZQ (QK (thn (ha pos' pins s σ H _ I h) fun us s1 ⟨vs,H1,I1,r1,q1⟩=> ?_) (by rw[hs,hs']) (by rw[hs'];rfl)));obtain⟨i,j,e,q0,q1,q2,q⟩:=q1;subst e;cases r1 with
 |cons r rr=>
  cases rr with
  |cons r' rr=>
   cases rr;obtain⟨t,rfl⟩:=r;obtain⟨t',rfl⟩:=r';refine call_range_2 ?_;refine wch ?_;have hn:Builtin.Range.rangeSize i j 1=(((j-i).toNat:Nat):Int):=by rw[wdw];split<;>omega
   refine call_list_range (I.ok.hd hc) (wev ..) (small_one (by omega) (by omega) (by omega) (by omega)) hn (by omega) fun h' tk acc c hk hS hacc=> ?_;have hv:Vals ((pA i (j-i).toNat).map V.int) acc.toList:=Ii (by rw[V5];exact hacc.1) (fun k u hu=>hacc.2 k u (by simpa using hu));have hz:((pA i (j-i).toNat).map V.int).length<=sizeLine:=by unfold pA;rw[fZ];simp;omega
   have I2:Inv X pins σ H1 {s1 with heap:=s1.heap.push {cls:=Value.type "range",data:=Data.fields #[Value.int i t,Value.int j t',Value.int 1 s1.toks]},toks:=s1.toks+1}:=I1.kept fun b o e=>lH _ e;exact⟨.ref _,_,I2.laid (t':=tk) (o:= .lst ((pA i (j-i).toNat).map V.int)) hk (aW _) ⟨hz,acc.toList,c,hv,by simpa using hS⟩,rfl,q _ (I2.hok.fresh (aW _))⟩
end
structure jU(K:W.Frag)(C:Addr)(x qual:Str)(st:Stmt)(ps:List Str)(f:Addr)(fd:ρ):Prop where
 F:Fun K x qual st f fd
 b:Binds K fd ps []
 m:Meth K C x f
end L2
namespace Sx
noncomputable abbrev Vec:=Nat->Int
noncomputable abbrev vq:=Nat->Vec
noncomputable def sm:Nat->(Nat->Int)->Int
 |0,_=>0
 |k+1,f=>sm k f+f k
theorem bA{f g:Nat->Int}:∀k,(∀i,i<k->f i=g i)->sm k f=sm k g
 |0,_=>rfl
 |k+1,h=>by
  show sm k f+f k=sm k g+g k;rw[bA k fun i hi=>h i (uW hi),h k (vH k)]
theorem nu(f g:Nat->Int):∀k,sm k (fun i=>f i+g i)=sm k f+sm k g
 |0=>rfl
 |k+1=>by
  show sm k (fun i=>f i+g i)+(f k+g k)=sm k f+f k+(sm k g+g k);rw[nu f g k];omega
theorem gj(a:Int)(f:Nat->Int):∀k,sm k (fun i=>a*f i)=a*sm k f
 |0=>by show(0:Int)=a*0;rw[Bd]
 |k+1=>by
  show sm k (fun i=>a*f i)+a*f k=a*(sm k f+f k);rw[gj a f k,Int.mul_add]
theorem Km{f:Nat->Int}:∀k,(∀i,i<k->f i=0)->sm k f=0
 |0,_=>rfl
 |k+1,h=>by
  show sm k f+f k=0;rw[Km k fun i hi=>h i (uW hi),h k (vH k)];rfl
theorem dY{f:Nat->Int}{j:Nat}:∀k,j<k->(∀i,i<k->i≠j->f i=0)->sm k f=f j
 |k+1,hj,h=>by
  show sm k f+f k=f j;by_cases e:j=k
  ·subst e;rw[Km j fun i hi=>h i (uW hi) (jh hi),weo]
  ·rw[dY k (by omega) fun i hi=>h i (uW hi),h k (vH k) (mj e),wfb]
theorem LR{f:Nat->Int}{j:Nat}:∀k,j+1<k->(∀i,i<k->i≠j->i≠j+1->f i=0)->f j+f (j+1)=0->sm k f=0
 |k+1,hj,h,z=>by
  show sm k f+f k=0;by_cases e:j+1=k
  ·subst e;rw[dY (j:=j) (j+1) (vH _) fun i hi hn=>h i (uW hi) hn (jh hi)];exact z
  ·rw[LR k (by omega) (fun i hi=>h i (uW hi)) z,h k (vH k) (by omega) (mj e)];rfl
theorem Gm(f:Nat->Nat->Int)(m:Nat):∀k,sm k (fun i=>sm m (fun j=>f i j))=sm m (fun j=>sm k (fun i=>f i j))
 |0=>by show(0:Int)=sm m fun _=>0;rw[Km m fun _ _=>rfl]
 |k+1=>by
  show sm k (fun i=>sm m (fun j=>f i j))+sm m (fun j=>f k j)=sm m (fun j=>sm k (fun i=>f i j)+f k j);rw[Gm f m k,nu]
theorem Gp{f:Nat->Int}:∀k,(∀i,i<k->0<=f i)->0<=sm k f
 |0,_=>J4 _
 |k+1,h=>Int.add_nonneg (Gp k fun i hi=>h i (uW hi)) (h k (vH k))
theorem Ma{f:Nat->Int}:∀k,sm k f<0->∃i,i<k/\f i<0
 |0,h=>absurd h (wex 0)
 |k+1,h=>by
  by_cases c:f k<0
  ·exact⟨k,vH k,c⟩
  ·have h':sm k f+f k<0:=h;obtain⟨i,hi,hf⟩:=Ma k (f:=f) (by omega);exact⟨i,uW hi,hf⟩
theorem Gn{f:Nat->Int}:∀k,(∀i,i<k->0<=f i)->sm k f<=0->∀i,i<k->f i=0
 |0,_,_,i,hi=>absurd hi (V1 i)
 |k+1,h,z,i,hi=>by
  have h1:=Gp k fun i hi=>h i (uW hi);have h2:=h k (vH k);have z':sm k f+f k<=0:=z;by_cases e:i=k
  ·subst e;omega
  ·exact Gn k (fun i hi=>h i (uW hi)) (by omega) i (by omega)
noncomputable def sg(i:Nat):Int:=if i %2=0 then 1 else -1
theorem Rv(i:Nat):sg (i+1)= -sg i:=by
 unfold sg;rcases Nat.mod_two_eq_zero_or_one i with h|h
 ·rw[aH h,aB (by omega)]
 ·rw[aH (by omega),aB (by omega)];rfl
theorem Wr(i:Nat):sg i=1\/sg i= -1:=by unfold sg;split;exact .inl rfl;exact .inr rfl
noncomputable def Kg(i r:Nat):Nat:=if r<i then r else r+1
noncomputable def QL(i r:Nat):Nat:=if r<i then r else r-1
theorem Mg(i r:Nat):Kg i r≠i:=by unfold Kg;split<;>omega
theorem sI{i r j:Nat}(h:j≠i):Kg i r=j↔r=QL i j:=by unfold Kg QL;split<;>split<;>omega
theorem BJ{i r k:Nat}(hi:i<k+1)(hr:r<k):Kg i r<k+1:=by unfold Kg;split<;>omega
theorem Wc{i j k:Nat}(h:j≠i)(hi:i<k+1)(hj:j<k+1):QL i j<k:=by unfold QL;split<;>omega
noncomputable def uw(M:vq)(i:Nat):vq:=fun r c=>M (Kg i r) (c+1)
noncomputable def det:Nat->vq->Int
 |0,_=>1
 |k+1,M=>sm (k+1) fun i=>sg i*M i 0*det k (uw M i)
noncomputable def put(M:vq)(r:Nat)(v:Vec):vq:=fun i=>if i=r then v else M i
theorem put_same(M:vq)(r:Nat)(v:Vec):put M r v r=v:=by unfold put;rw[aH rfl]
theorem iB(M:vq){r i:Nat}(v:Vec)(h:i≠r):put M r v i=M i:=by unfold put;rw[aB h]
theorem tV(M:vq)(r:Nat):put M r (M r)=M:=by funext i;unfold put;split;rename_i h;rw[h];rfl
theorem iQ(M:vq){r t:Nat}(u v:Vec)(h:r≠t):put (put M r u) t v=put (put M t v) r u:=by
 funext i;unfold put;by_cases h1:i=t
 ·by_cases h2:i=r
  ·exact absurd (h2.symm.trans h1) h
  ·rw[aH h1,aB h2,aH h1]
 ·rw[aB h1];by_cases h2:i=r
  ·rw[aH h2,aH h2]
  ·rw[aB h2,aB h2,aB h1]
theorem jy(M:vq)(i:Nat)(v:Vec):uw (put M i v) i=uw M i:=by
 funext r c;unfold uw;rw[iB _ _ (Mg i r)]
theorem wR(M:vq){i j:Nat}(v:Vec)(h:j≠i):uw (put M j v) i=put (uw M i) (QL i j) (fun c=>v (c+1)):=by
 funext r c;unfold uw put;by_cases e:r=QL i j
 ·rw[aH e,aH ((sI h).mpr e)]
 ·rw[aB e,aB fun z=>e ((sI h).mp z)]
theorem vW:∀k {M N:vq},(∀i,i<k->∀j,j<k->M i j=N i j)->det k M=det k N
 |0,_,_,_=>rfl
 |k+1,M,N,h=>bA (k+1) fun i hi=>by
  rw[h i hi 0 (yj k),vW k (M:=uw M i) (N:=uw N i) fun r hr c hc=>h _ (BJ hi hr) _ (Nat.succ_lt_succ hc)]
theorem xJ:∀k (M:vq) (r:Nat) (a b:Int) (u v:Vec),r<k->det k (put M r fun c=>a*u c+b*v c)=a*det k (put M r u)+b*det k (put M r v)
 |k+1,M,r,a,b,u,v,hr=>by
  unfold det;rw[<-gj,<-gj,<-nu];refine bA (k+1) fun i hi=> ?_;by_cases e:r=i
  ·subst e;rw[jy,jy,jy,put_same,put_same,put_same]
   grind
  ·rw[wR _ _ e,wR _ _ e,wR _ _ e,iB _ _ (mj e),iB _ _ (mj e),iB _ _ (mj e),xJ k (uw M i) (QL i r) a b (fun c=>u (c+1)) (fun c=>v (c+1)) (Wc e hi hr)]
   grind
theorem sV:∀k (M:vq) (r:Nat),r+1<k->M r=M (r+1)->det k M=0
 |k+1,M,r,hr,e=>by
  unfold det;refine LR (j:=r) (k+1) hr (fun i hi h1 h2=> ?_) ?_
  ·have z:det k (uw M i)=0:=by
    by_cases c:i<r
    ·refine sV k (uw M i) (r-1) (by omega) ?_;funext x;unfold uw Kg;rw[aB (by omega),aB (by omega),show r-1+1=r by omega,e]
    ·refine sV k (uw M i) r (by omega) ?_;funext x;unfold uw Kg;rw[aH (by omega),aH (by omega),e]
   rw[z,Bd]
  ·have z:uw M r=uw M (r+1):=by
    funext x c;unfold uw Kg;by_cases h1:x<r
    ·rw[aH h1,aH (by omega)]
    ·rw[aB h1];by_cases h2:x=r
     ·subst h2;rw[aH (by omega),e]
     ·rw[aB (by omega)]
   rw[z,e,Rv]
   grind
theorem Qj(k:Nat)(M:vq)(t:Nat)(u v:Vec)(h:t+1<k):det k (put (put M t u) (t+1) v)= -det k (put (put M t v) (t+1) u):=by
 have n1:t≠t+1:=by omega
 have z:∀w:Vec,det k (put (put M t w) (t+1) w)=0:=fun w=>sV k _ t h (by rw[iB _ _ n1,put_same,put_same]);have XD:∀(N:vq) (r:Nat) (a b:Vec),r<k->det k (put N r fun c=>a c+b c)=det k (put N r a)+det k (put N r b):=fun N r a b hr=>by
  have:=xJ k N r 1 1 a b hr;simp only[Q9]at this;exact this
 have z1:=z fun c=>u c+v c;rw[XD _ (t+1) u v h,iQ M _ _ n1,iQ M _ _ n1,XD _ t u v (by omega),XD _ t u v (by omega),<-iQ M _ _ n1,<-iQ M _ _ n1,<-iQ M _ _ n1,<-iQ M _ _ n1,z u,z v]at z1;omega
theorem qN:∀(d k:Nat) (M:vq) (r:Nat),r+d+1<k->M r=M (r+d+1)->det k M=0
 |0,k,M,r,h,e=>sV k M r h e
 |d+1,k,M,r,h,e=>by
  have f:=Qj k M (r+d+1) (M (r+d+1)) (M (r+d+1+1)) h;rw[tV,tV]at f;rw[f,qN d k _ r (by omega) (by rw[iB _ _ (by omega),iB _ _ (by omega),iB _ _ (by omega),put_same,e];rfl)];rfl
theorem Qi{k:Nat}{M:vq}{r t:Nat}(hr:r<k)(ht:t<k)(h:r≠t)(e:M r=M t):det k M=0:=by
 by_cases c:r<t
 ·exact qN (t-r-1) k M r (by omega) (by rw[e];congr 1;omega)
 ·exact qN (r-t-1) k M t (by omega) (by rw[<-e];congr 1;omega)
theorem Ag:∀k (M:vq),(∀i,i<k->∀j,j<k->M i j=if i=j then 1 else 0)->det k M=1
 |0,_,_=>rfl
 |k+1,M,h=>by
  unfold det;rw[dY (j:=0) (k+1) (yj k) fun i hi hn=>by rw[h i hi 0 (yj k),aB hn];grind];rw[h 0 (yj k) 0 (yj k),aH rfl,Ag k (uw M 0) fun i hi j hj=> ?_]
  ·rfl
  ·unfold uw Kg;rw[aB (by omega),h _ (by omega) _ (by omega)];by_cases e:i=j
   ·rw[aH e,aH (by omega)]
   ·rw[aB e,aB (by omega)]
noncomputable def fct:Nat->Int
 |0=>1
 |k+1=>(k+1:Int)*fct k
theorem Mf{f:Nat->Int}{b:Int}:∀k,(∀i,i<k-> -b<=f i/\f i<=b)-> -((k:Int)*b)<=sm k f/\sm k f<=(k:Int)*b
 |0,_=>by
  show -((0:Int)*b)<=0/\(0:Int)<=0*b;omega
 |k+1,h=>by
  have ih:=Mf k fun i hi=>h i (uW hi);have hk:=h k (vH k);show -((k+1:Nat)*b)<=sm k f+f k/\sm k f+f k<=(k+1:Nat)*b;rw[show(((k+1:Nat):Int))*b=(k:Int)*b+b by rw[Int.natCast_succ,Int.add_mul,Q9]];omega
theorem GF{x y a b:Int}(hx: -a<=x/\x<=a)(hy: -b<=y/\y<=b): -(a*b)<=x*y/\x*y<=a*b:=by
 have h1:0<=(a-x)*(b-y):=Kr (by omega) (by omega);have h2:0<=(a+x)*(b+y):=Kr (by omega) (by omega);have h3:0<=(a-x)*(b+y):=Kr (by omega) (by omega);have h4:0<=(a+x)*(b-y):=Kr (by omega) (by omega);constructor<;>grind
theorem xK:∀k (M:vq) (c:Nat) (B:Int),1<=B->(∀i,i<k->∀j,j<k->i≠c-> -1<=M i j/\M i j<=1)->(∀j,j<k->c<k-> -B<=M c j/\M c j<=B)-> -(fct k*B)<=det k M/\det k M<=fct k*B
 |0,M,c,B,hB,_,_=>by
  show -(1*B)<=1/\(1:Int)<=1*B;omega
 |k+1,M,c,B,hB,h1,h2=>by
  unfold det;have e:fct (k+1)*B=((k+1:Nat):Int)*(fct k*B):=by show((k:Int)+1)*fct k*B=_;rw[V0];rfl
  rw[e];refine Mf (k+1) fun i hi=> ?_;have hs:∀x y:Int, -y<=x/\x<=y-> -y<=sg i*x/\sg i*x<=y:=fun x y h=>by
   rcases Wr i with s|s
   ·rw[s,Q9];exact h
   ·rw[s];omega
  rw[V0];refine hs _ _ ?_;by_cases ci:i=c
  ·subst ci;have a:=xK k (uw M i) k 1 (by decide) (fun r hr x hx _=>h1 _ (BJ hi hr) _ (by omega) (Mg i r)) (fun x hx hk=>absurd hk (uR k));have b:=h2 0 (yj k) hi;rw[ZS]at a;have:=GF b a;rw[QF (fct k) B];exact this
  ·have a:=xK k (uw M i) (QL i c) B hB (fun r hr x hx hn=>h1 _ (BJ hi hr) _ (by omega) fun z=>hn ((sI (mj ci)).mp z)) (fun x hx hk=>by
    have hc:Kg i (QL i c)=c:=(sI (mj ci)).mpr rfl;have hlt:c<k+1:=by unfold QL at hk;split at hk<;>omega
    have:=h2 (x+1) (by omega) hlt;unfold uw;rw[hc];exact this)
   have b:=h1 i hi 0 (yj k) ci;have:=GF b a;rw[Q9]at this;exact this
structure Tab where
 col:Nat->Nat
 row:Nat->Nat
 cell:Nat->Nat->Int
 over:Int
 s:Int
noncomputable def one:Vec:=fun j=>if j=0 then 1 else 0
section
variable(n m:Nat)(S:Nat->Nat->Bool)(w:Nat->Int)
noncomputable def nv(a:Nat):Vec:=fun j=>if a<n then(if j=a+1 then 1 else 0)else(if j=0 then 1 else if S (a-n) (j-1)=true then -1 else 0)
noncomputable def zv:Vec:=fun j=>if j=0 then 0 else w (j-1)
noncomputable def rv(T:Tab)(r:Nat):Vec:=if r<m then nv n S (T.row r)else zv w
noncomputable def vh(T:Tab):vq:=fun i=>if i=0 then one else nv n S (T.col (i-1))
noncomputable def Fn(T:Tab)(c:Nat)(v:Vec):Int:=T.s*det (n+1) (put (vh n S T) c v)
structure Good(T:Tab):Prop where
 pos:0<T.over
 eq:∀r,r<=m->∀j,j<=n->T.over*rv n m S w T r j=T.cell r n*one j-sm n (fun c=>T.cell r c*nv n S (T.col c) j)
 sg:T.s=1\/T.s= -1
 dt:T.over=T.s*det (n+1) (vh n S T)
 Ec:∀c c',c<n->c'<n->T.col c=T.col c'->c=c'
 Mt:∀r r',r<m->r'<m->T.row r=T.row r'->r=r'
 dis:∀c r,c<n->r<m->T.col c≠T.row r
 Ut:∀c,c<n->T.col c<n+m
 rlt:∀r,r<m->T.row r<n+m
 all:∀a,a<n+m->(∃c,c<n/\T.col c=a)\/∃r,r<m/\T.row r=a
 Zg:∀r,r<m->0<=T.cell r n
end
section
variable{n m:Nat}{S:Nat->Nat->Bool}{w:Nat->Int}{T:Tab}
theorem eV{r:Nat}(h:r<m):rv n m S w T r=nv n S (T.row r):=aH h
theorem gQ:rv n m S w T m=zv w:=aB (uR m)
theorem Am:vh n S T 0=one:=rfl
theorem HD(c:Nat):vh n S T (c+1)=nv n S (T.col c):=by unfold vh;rw[aB (yu c)];rfl
theorem xU{c:Nat}(hc:c<=n)(a b:Int)(u v:Vec):Fn n S T c (fun j=>a*u j+b*v j)=a*Fn n S T c u+b*Fn n S T c v:=by
 unfold Fn;rw[xJ (n+1) (vh n S T) c a b u v (by omega)];grind
theorem Ko{c:Nat}{u v:Vec}(h:∀j,j<=n->u j=v j):Fn n S T c u=Fn n S T c v:=by
 unfold Fn;rw[vW (n+1) (M:=put (vh n S T) c u) (N:=put (vh n S T) c v) fun i _ j hj=> ?_];unfold put;split
 ·exact h j (by omega)
 ·rfl
theorem jC{c:Nat}(hc:c<=n)(x:Int)(a:Vec)(y:Nat->Int)(W:Nat->Vec):∀k,Fn n S T c (fun j=>x*a j-sm k (fun i=>y i*W i j))=x*Fn n S T c a-sm k (fun i=>y i*Fn n S T c (W i))
 |0=>by
  have h:=xU (T:=T) (S:=S) hc x 0 a a;rw[Ko (v:=fun j=>x*a j+0*a j) fun j _=>by show x*a j-0=_;omega,h];show _=_-0;omega
 |k+1=>by
  have h:=xU (T:=T) (S:=S) hc 1 (-(y k)) (fun j=>x*a j-sm k (fun i=>y i*W i j)) (W k);rw[Ko (v:=fun j=>1*(x*a j-sm k (fun i=>y i*W i j))+ -(y k)*W k j) fun j _=>by show x*a j-(sm k _+y k*W k j)=_;grind,h,jC hc x a y W k];show _=x*Fn n S T c a-(sm k _+y k*Fn n S T c (W k))
  grind
theorem pY{c:Nat}(hc:c<=n)(a:Int)(u:Vec):Fn n S T c (fun j=>a*u j)=a*Fn n S T c u:=by
 have h:=xU (T:=T) (S:=S) hc a 0 u u;rw[Ko (v:=fun j=>a*u j+0*u j) fun j _=>by omega,h];omega
theorem Qz(g:T.over=T.s*det (n+1) (vh n S T)){c i:Nat}(hc:c<=n)(hi:i<=n):Fn n S T c (vh n S T i)=if i=c then T.over else 0:=by
 unfold Fn;by_cases e:i=c
 ·subst e;rw[aH rfl,tV,<-g]
 ·rw[aB e,Qi (r:=c) (t:=i) (by omega) (by omega) (mj e) (by rw[put_same,iB _ _ e]),Bd]
theorem lA(g:T.over=T.s*det (n+1) (vh n S T)){c:Nat}(hc:c<=n):Fn n S T c one=if c=0 then T.over else 0:=by
 have:=Qz g hc (dF n);rw[Am]at this;rw[this];by_cases e:c=0
 ·rw[aH e,aH e.symm]
 ·rw[aB e,aB (mj e)]
theorem yr(g:T.over=T.s*det (n+1) (vh n S T)){c i:Nat}(hc:c<=n)(hi:i<n):Fn n S T c (nv n S (T.col i))=if i+1=c then T.over else 0:=by
 have:=Qz g hc (show i+1<=n by omega);rw[HD]at this;exact this
theorem Zv{a x y:Int}(h:0<a)(e:a*x=a*y):x=y:=wdk (by omega) e
theorem Good.base(G:Good n m S w T){r:Nat}(hr:r<=m):Fn n S T 0 (rv n m S w T r)=T.cell r n:=by
 have h1:=pY (T:=T) (S:=S) (c:=0) (dF n) T.over (rv n m S w T r);rw[Ko fun j hj=>G.eq r hr j hj,jC (dF n) _ _ (T.cell r) (fun c=>nv n S (T.col c)),lA G.dt (dF n),aH rfl,Km n fun c hc=>by rw[yr G.dt (dF n) hc,aB (yu c),Bd]]at h1;refine Zv G.pos ?_;rw[<-h1,QF];omega
theorem Good.dir(G:Good n m S w T){r c:Nat}(hr:r<=m)(hc:c<n):Fn n S T (c+1) (rv n m S w T r)= -T.cell r c:=by
 have h1:=pY (T:=T) (S:=S) (c:=c+1) hc T.over (rv n m S w T r);rw[Ko fun j hj=>G.eq r hr j hj,jC hc _ _ (T.cell r) (fun c=>nv n S (T.col c)),lA G.dt hc,aB (yu c),dY (j:=c) n hc fun i hi hn=>by rw[yr G.dt hc hi,aB (by omega),Bd],yr G.dt hc hc,aH rfl]at h1;refine Zv G.pos ?_;rw[<-h1];grind
noncomputable def turn(T:Tab)(p q:Nat):Tab where
 col:=fun c=>if c=q then T.row p else T.col c
 row:=fun r=>if r=p then T.col q else T.row r
 over:=T.cell p q
 s:= -T.s
 cell:=fun r c=>if r=p then(if c=q then T.over else T.cell p c)else if c=q then -T.cell r q else(T.cell r c*T.cell p q-T.cell r q*T.cell p c)/T.over
theorem KY{p q:Nat}:vh n S (turn T p q)=put (vh n S T) (q+1) (nv n S (T.row p)):=by
 funext i;unfold vh put turn;dsimp only;by_cases h0:i=0
 ·rw[aH h0,aB (by omega),aH h0]
 ·rw[aB h0];by_cases h1:i=q+1
  ·rw[aH h1,aH (by omega)]
  ·rw[aB h1,aB (by omega),aB h0]
theorem Rn{p q r:Nat}(h:r≠p):rv n m S w (turn T p q) r=rv n m S w T r:=by
 unfold rv turn;dsimp only;rw[aB h]
theorem Good.vJ(G:Good n m S w T){p q:Nat}(hp:p<m)(hq:q<n):(turn T p q).over=(turn T p q).s*det (n+1) (vh n S (turn T p q)):=by
 have h:=G.dir (r:=p) (cY hp) hq;rw[eV hp]at h;unfold Fn at h;rw[KY];show T.cell p q= -T.s*_
 grind
theorem Good.exact(G:Good n m S w T){p q r c:Nat}(hp:p<m)(hq:q<n)(hb:0<T.cell p q)(hr:r<=m)(hrp:r≠p)(hc:c<=n)(XQ:c≠q):
  T.over*(turn T p q).cell r c=T.cell r c*T.cell p q-T.cell r q*T.cell p c:=by
 have g':=G.vJ hp hq;have abB:∀j,j<=n->T.cell p q*T.over*rv n m S w T r j=(T.cell r n*T.cell p q-T.cell r q*T.cell p n)*one j-sm n (fun c=>(T.cell r c*T.cell p q-T.cell r q*T.cell p c)*nv n S (T.col c) j)+T.over*T.cell r q*nv n S (T.row p) j:=fun j hj=>by
  have e1:=G.eq r hr j hj;have e2:=G.eq p (cY hp) j hj;rw[eV hp]at e2;have e3:sm n (fun c=>(T.cell r c*T.cell p q-T.cell r q*T.cell p c)*nv n S (T.col c) j)=T.cell p q*sm n (fun c=>T.cell r c*nv n S (T.col c) j)+ -(T.cell r q)*sm n (fun c=>T.cell p c*nv n S (T.col c) j):=by
   rw[<-gj,<-gj,<-nu];exact bA n fun c _=>by grind
  rw[e3];generalize sm n (fun c=>T.cell r c*nv n S (T.col c) j)=A at *;generalize sm n (fun c=>T.cell p c*nv n S (T.col c) j)=B at *
  grind
 have app:∀d,d<=n->T.cell p q*T.over*Fn n S (turn T p q) d (rv n m S w T r)=(T.cell r n*T.cell p q-T.cell r q*T.cell p n)*Fn n S (turn T p q) d one-sm n (fun c=>(T.cell r c*T.cell p q-T.cell r q*T.cell p c)*Fn n S (turn T p q) d (nv n S (T.col c)))+T.over*T.cell r q*Fn n S (turn T p q) d (nv n S (T.row p)):=fun d hd=>by
  rw[<-pY hd,Ko abB,<-jC hd _ _ (fun c=>T.cell r c*T.cell p q-T.cell r q*T.cell p c) (fun c=>nv n S (T.col c))];have h:=xU (T:=turn T p q) (S:=S) hd 1 (T.over*T.cell r q) (fun j=>(T.cell r n*T.cell p q-T.cell r q*T.cell p n)*one j-sm n (fun c=>(T.cell r c*T.cell p q-T.cell r q*T.cell p c)*nv n S (T.col c) j)) (nv n S (T.row p));simp only[Q9]at h;exact h
 have aa4:nv n S ((turn T p q).col q)=nv n S (T.row p):=by unfold turn;dsimp only;rw[aH rfl]
 have Yq:∀c,c≠q->nv n S ((turn T p q).col c)=nv n S (T.col c):=fun c h=>by unfold turn;dsimp only;rw[aB h]
 have ov:(turn T p q).over=T.cell p q:=rfl;have key:∃x,T.cell r c*T.cell p q-T.cell r q*T.cell p c=T.over*x:=by
  by_cases hl:c=n
  ·subst hl;have h:=app 0 (dF _);have f1:=lA g' (dF c);have f2:=yr g' (dF c) hq;rw[aH rfl,ov]at f1;rw[aa4,aB (yu q)]at f2;rw[f1,f2,Km c fun i hi=> ?_]at h
   ·refine⟨Fn c S (turn T p q) 0 (rv c m S w T r),Zv hb ?_⟩
    grind
   ·by_cases hiq:i=q
    ·subst hiq;rw[Int.sub_self,YT]
    ·have f3:=yr g' (dF c) hi;rw[Yq i hiq,aB (yu i)]at f3;rw[f3,Bd]
  ·have hc':c<n:=by omega
   have h:=app (c+1) hc';have f1:=lA g' (show c+1<=n from hc');have f2:=yr g' (show c+1<=n from hc') hq;have f3:=yr g' (show c+1<=n from hc') hc';rw[aB (yu c)]at f1;rw[aa4,aB (by omega)]at f2;rw[Yq c XQ,aH rfl,ov]at f3;rw[f1,f2,dY (j:=c) n hc' fun i hi hn=> ?_,f3]at h
   ·refine⟨-Fn n S (turn T p q) (c+1) (rv n m S w T r),Zv hb ?_⟩
    grind
   ·by_cases hiq:i=q
    ·subst hiq;rw[Int.sub_self,YT]
    ·have f4:=yr g' (show c+1<=n from hc') hi;rw[Yq i hiq,aB (by omega)]at f4;rw[f4,Bd]
 obtain⟨x,hx⟩:=key;show T.over*(if r=p then _ else if c=q then _ else(T.cell r c*T.cell p q-T.cell r q*T.cell p c)/T.over)=_;rw[aB hrp,aB XQ,hx,wds _ (Int.ne_of_gt G.pos)]
theorem Good.turn(G:Good n m S w T){p q:Nat}(hp:p<m)(hq:q<n)(hb:0<T.cell p q)(ra:∀r,r<m->0<T.cell r q->T.cell p n*T.cell r q<=T.cell r n*T.cell p q):Good n m S w (turn T p q):=by
 have hqn:n≠q:=by omega
 have c1:∀r,r≠p->(Sx.turn T p q).cell r q= -T.cell r q:=fun r h=>by unfold Sx.turn;dsimp only;rw[aB h,aH rfl]
 have c2:(Sx.turn T p q).cell p q=T.over:=by unfold Sx.turn;dsimp only;rw[aH rfl,aH rfl]
 have c3:∀c,c≠q->(Sx.turn T p q).cell p c=T.cell p c:=fun c h=>by unfold Sx.turn;dsimp only;rw[aH rfl,aB h]
 have k1:(Sx.turn T p q).col q=T.row p:=by unfold Sx.turn;dsimp only;rw[aH rfl]
 have k2:∀c,c≠q->(Sx.turn T p q).col c=T.col c:=fun c h=>by unfold Sx.turn;dsimp only;rw[aB h]
 have r1:(Sx.turn T p q).row p=T.col q:=by unfold Sx.turn;dsimp only;rw[aH rfl]
 have r2:∀r,r≠p->(Sx.turn T p q).row r=T.row r:=fun r h=>by unfold Sx.turn;dsimp only;rw[aB h]
 refine⟨hb,fun r hr j hj=> ?_,?_,G.vJ hp hq,fun c c' hc hc' e=> ?_,fun r r' hr hr' e=> ?_,fun c r hc hr e=> ?_,fun c hc=> ?_,fun r hr=> ?_,fun a ha=> ?_,fun r hr=> ?_⟩
 ·have e2:=G.eq p (cY hp) j hj;rw[eV hp]at e2;by_cases h:r=p
  ·subst h;rw[eV hp,r1,c3 n hqn];have e3:sm n (fun c=>(Sx.turn T r q).cell r c*nv n S ((Sx.turn T r q).col c) j)=sm n (fun c=>T.cell r c*nv n S (T.col c) j)+(T.over*nv n S (T.row r) j-T.cell r q*nv n S (T.col q) j):=by
    have:sm n (fun c=>if c=q then T.over*nv n S (T.row r) j-T.cell r q*nv n S (T.col q) j else 0)=T.over*nv n S (T.row r) j-T.cell r q*nv n S (T.col q) j:=by
     rw[dY (j:=q) n hq fun i _ hn=>aB hn,aH rfl]
    rw[<-this,<-nu];refine bA n fun c _=> ?_;by_cases hc:c=q
    ·subst hc;rw[c2,k1,aH rfl];omega
    ·rw[c3 c hc,k2 c hc,aB hc];omega
   rw[e3];show T.cell r q*nv n S (T.col q) j=_;omega
  ·rw[Rn h];have e1:=G.eq r hr j hj;have e3:T.over*sm n (fun c=>(Sx.turn T p q).cell r c*nv n S ((Sx.turn T p q).col c) j)=T.cell p q*sm n (fun c=>T.cell r c*nv n S (T.col c) j)+ -(T.cell r q)*sm n (fun c=>T.cell p c*nv n S (T.col c) j)+ -(T.over*T.cell r q*nv n S (T.row p) j):=by
    have:sm n (fun c=>if c=q then -(T.over*T.cell r q*nv n S (T.row p) j)else 0)= -(T.over*T.cell r q*nv n S (T.row p) j):=by
     rw[dY (j:=q) n hq fun i _ hn=>aB hn,aH rfl]
    rw[<-this,<-gj,<-gj,<-gj,<-nu,<-nu];refine bA n fun c hc=> ?_;by_cases XQ:c=q
    ·subst XQ;rw[c1 r h,k1,aH rfl];grind
    ·have:=G.exact hp hq hb hr h (cY hc) XQ;rw[k2 c XQ,aB XQ,<-V0,this];grind
   have e4:=G.exact hp hq hb hr h (aW n) hqn;refine Zv G.pos ?_;show T.over*(T.cell p q*rv n m S w T r j)=_;rw[Int.mul_sub,e3,<-V0 T.over ((Sx.turn T p q).cell r n),e4];generalize sm n (fun c=>T.cell r c*nv n S (T.col c) j)=A at *;generalize sm n (fun c=>T.cell p c*nv n S (T.col c) j)=B at *
   grind
 ·rcases G.sg with e|e
  ·exact .inr (by show -T.s= -1;rw[e])
  ·exact .inl (by show -T.s=1;rw[e];rfl)
 ·by_cases h1:c=q
  ·by_cases h2:c'=q
   ·rw[h1,h2]
   ·rw[h1,k1,k2 c' h2]at e;exact absurd e.symm (G.dis c' p hc' hp)
  ·by_cases h2:c'=q
   ·rw[h2,k1,k2 c h1]at e;exact absurd e (G.dis c p hc hp)
   ·rw[k2 c h1,k2 c' h2]at e;exact G.Ec c c' hc hc' e
 ·by_cases h1:r=p
  ·by_cases h2:r'=p
   ·rw[h1,h2]
   ·rw[h1,r1,r2 r' h2]at e;exact absurd e (G.dis q r' hq hr')
  ·by_cases h2:r'=p
   ·rw[h2,r1,r2 r h1]at e;exact absurd e.symm (G.dis q r hq hr)
   ·rw[r2 r h1,r2 r' h2]at e;exact G.Mt r r' hr hr' e
 ·by_cases h1:c=q
  ·by_cases h2:r=p
   ·rw[h1,h2,k1,r1]at e;exact G.dis q p hq hp e.symm
   ·rw[h1,k1,r2 r h2]at e;exact h2 (G.Mt p r hp hr e).symm
  ·by_cases h2:r=p
   ·rw[h2,k2 c h1,r1]at e;exact h1 (G.Ec c q hc hq e)
   ·rw[k2 c h1,r2 r h2]at e;exact G.dis c r hc hr e
 ·by_cases h1:c=q
  ·rw[h1,k1];exact G.rlt p hp
  ·rw[k2 c h1];exact G.Ut c hc
 ·by_cases h1:r=p
  ·rw[h1,r1];exact G.Ut q hq
  ·rw[r2 r h1];exact G.rlt r hr
 ·rcases G.all a ha with⟨c,hc,e⟩|⟨r,hr,e⟩
  ·by_cases h1:c=q
   ·exact .inr ⟨p,hp,by rw[r1,<-h1,e]⟩
   ·exact .inl ⟨c,hc,by rw[k2 c h1,e]⟩
  ·by_cases h1:r=p
   ·exact .inl ⟨q,hq,by rw[k1,<-h1,e]⟩
   ·exact .inr ⟨r,hr,by rw[r2 r h1,e]⟩
 ·by_cases h1:r=p
  ·rw[h1,c3 n hqn];exact G.Zg p hp
  ·have e:=G.exact hp hq hb (cY hr) h1 (aW n) hqn;have f1:=G.Zg r hr;have f2:=G.Zg p hp;have z:0<=T.cell r n*T.cell p q-T.cell r q*T.cell p n:=by
    by_cases hc:0<T.cell r q
    ·have:=ra r hr hc;rw[QF (T.cell r q)];omega
    ·have a1:0<=T.cell r n*T.cell p q:=Kr f1 (by omega);have a2:0<= -(T.cell r q)*T.cell p n:=Kr (by omega) f2
     grind
   rw[<-e]at z;have:=G.pos;refine Int.not_lt.mp fun hn=> ?_;have:T.over*(Sx.turn T p q).cell r n<0:=Int.mul_neg_of_pos_of_neg G.pos hn;omega
end
structure Step(n m:Nat)(T:Tab)(p q:Nat):Prop where
 hp:p<m
 hq:q<n
 neg:T.cell m q<0
 ent:∀c,c<n->T.cell m c<0->T.col q<=T.col c
 by_:0<T.cell p q
 lev:∀r,r<m->0<T.cell r q->T.cell p n*T.cell r q<T.cell r n*T.cell p q\/(T.cell p n*T.cell r q=T.cell r n*T.cell p q/\T.row p<=T.row r)
noncomputable def inC(n:Nat)(T:Tab)(a:Nat):Prop:=∃c,c<n/\T.col c=a
section
variable{n m:Nat}{S:Nat->Nat->Bool}{w:Nat->Int}
theorem Step.good{T:Tab}{p q:Nat}(s:Step n m T p q)(G:Good n m S w T):Good n m S w (turn T p q):=
 G.turn s.hp s.hq s.by_ fun r hr h=>(s.lev r hr h).elim QD fun e=>ZV e.1
theorem Step.worth{T:Tab}{p q:Nat}(s:Step n m T p q)(G:Good n m S w T):T.over*(turn T p q).cell m n-(turn T p q).over*T.cell m n= -(T.cell m q)*T.cell p n:=by
 have h:=G.exact s.hp s.hq s.by_ (aW m) (VR s.hp) (aW n) (VR s.hq);rw[h];show _-T.cell p q*_=_
 grind
theorem Step.le{T:Tab}{p q:Nat}(s:Step n m T p q)(G:Good n m S w T):(turn T p q).over*T.cell m n<=T.over*(turn T p q).cell m n:=by
 have h:=s.worth G;have:=Kr (a:= -(T.cell m q)) (b:=T.cell p n) (by have:=s.neg;omega) (G.Zg p s.hp);omega
theorem xg{a b c d e f:Int}(hd:0<d)(hb:0<b)(hf:0<f)(h1:d*a<=b*c)(h2:f*c<=d*e):f*a<=b*e:=by
 have x:=ycn h1 (QD hf);have y:=ycn h2 (QD hb);refine Int.le_of_mul_le_mul_left (a:=d) ?_ hd
 grind
theorem w6{a b c d e f:Int}(hd:0<d)(hb:0<b)(hf:0<f)(h1:d*a<=b*c)(h2:f*c<d*e):f*a<b*e:=by
 have x:=ycn h1 (QD hf);have y:=wdd h2 hb;refine wdl (a:=d) ?_ (QD hd)
 grind
theorem Ac{a b c d e f:Int}(hd:0<d)(hb:0<b)(hf:0<f)(h1:d*a<b*c)(h2:f*c<=d*e):f*a<b*e:=by
 have x:=wdd h1 hf;have y:=ycn h2 (QD hb);refine wdl (a:=d) ?_ (QD hd)
 grind
theorem goes{P:Nat->Prop}{s:Nat}:∀d,P s->¬P (s+d)->∃t,s<=t/\t<s+d/\P t/\¬P (t+1)
 |0,h,h'=>absurd h h'
 |d+1,h,h'=>by
  by_cases c:P (s+d)
  ·exact⟨s+d,by omega,by omega,c,h'⟩
  ·obtain⟨t,a,b,x⟩:=goes d h c;exact⟨t,a,by omega,x⟩
theorem zW{P:Nat->Prop}{s e:Nat}(hse:s<=e)(h:P s)(h':¬P e):∃t,s<=t/\t<e/\P t/\¬P (t+1):=by
 obtain⟨t,a,b,x⟩:=goes (s:=s) (e-s) h (by rw[show s+(e-s)=e by omega];exact h');exact⟨t,a,by omega,x⟩
theorem most{P:Nat->Prop}:∀N,(∃a,P a)->(∀a,P a->a<N)->∃a,P a/\∀b,P b->b<=a
 |0,⟨a,h⟩,hb=>absurd (hb a h) (V1 a)
 |N+1,h,hb=>by
  by_cases c:P N
  ·exact⟨N,c,fun b hP=>by have:=hb b hP;omega⟩
  ·exact most N h fun a hP=>by
    have:=hb a hP;have:a≠N:=fun e=>c (e▸hP);omega
structure Run(n m:Nat)(S:Nat->Nat->Bool)(w:Nat->Int)(T:Nat->Tab)(p q:Nat->Nat)(L:Nat):Prop where
 first:Good n m S w (T 0)
 step:∀t,t<L->Step n m (T t) (p t) (q t)
 next:∀t,t<L->T (t+1)=turn (T t) (p t) (q t)
variable{T:Nat->Tab}{p q:Nat->Nat}{L:Nat}
theorem Run.good(R:Run n m S w T p q L):∀t,t<=L->Good n m S w (T t)
 |0,_=>R.first
 |t+1,h=>by rw[R.next t h];exact(R.step t h).good (R.good t (wdp h))
theorem Run.worth(R:Run n m S w T p q L){i:Nat}:∀d,i+d<=L->(T (i+d)).over*(T i).cell m n<=(T i).over*(T (i+d)).cell m n
 |0,_=>J4 _
 |d+1,h=>by
  have ih:=R.worth d (i:=i) (by omega);have g1:=R.good (i+d) (by omega);have st:=(R.step (i+d) (by omega)).le g1;rw[<-R.next (i+d) (by omega)]at st;exact xg g1.pos (R.good i (by omega)).pos (R.good (i+d+1) h).pos ih st
theorem Run.Kw(R:Run n m S w T p q L){i j:Nat}(hij:i<=j)(hj:j<=L):(T j).over*(T i).cell m n<=(T i).over*(T j).cell m n:=by
 have:=R.worth (i:=i) (j-i) (by omega)
 rwa [show i+(j-i)=j by omega]at this
theorem BL{A B:Tab}(GA:Good n m S w A)(GB:Good n m S w B)(h:∀a,inC n B a->inC n A a):B.over*A.cell m n=A.over*B.cell m n:=by
 have h1:=pY (T:=A) (S:=S) (c:=0) (dF n) B.over (zv w);have e:=GB.eq m (aW m);rw[gQ]at e;have b:=GA.base (aW m);rw[gQ]at b;rw[Ko e,jC (dF n) _ _ (B.cell m) (fun c=>nv n S (B.col c)),lA GA.dt (dF n),aH rfl,Km n fun c hc=> ?_,b]at h1
 ·rw[<-h1,QF];omega
 ·obtain⟨c',hc',e'⟩:=h _ ⟨c,hc,rfl⟩;rw[<-e',yr GA.dt (dF n) hc',aB (yu c'),Bd]
theorem KR{T:Tab}{p q:Nat}(G:Good n m S w T)(hp:p<m)(hq:q<n)(a:Nat):inC n (turn T p q) a↔(inC n T a/\a≠T.col q)\/a=T.row p:=by
 constructor
 ·rintro⟨c,hc,e⟩;have e':(if c=q then T.row p else T.col c)=a:=e;by_cases h:c=q
  ·rw[aH h]at e';exact .inr e'.symm
  ·rw[aB h]at e';exact .inl ⟨⟨c,hc,e'⟩,fun z=>h (G.Ec c q hc hq (e'.trans z))⟩
 ·rintro(⟨⟨c,hc,e⟩,hn⟩|e)
  ·have h:c≠q:=fun z=>hn (by rw[<-e,z]);exact⟨c,hc,by show(if c=q then _ else _)=a;rw[aB h];exact e⟩
  ·exact⟨q,hq,by show(if q=q then _ else _)=a;rw[aH rfl];exact e.symm⟩
theorem flat{T:Tab}{p q:Nat}(G:Good n m S w T)(G':Good n m S w (turn T p q))(s:Step n m T p q)(h0:T.cell p n=0){a:Nat}(ha:a<n+m):Fn n S (turn T p q) 0 (nv n S a)=0↔Fn n S T 0 (nv n S a)=0:=by
 have z0:=dF n;rcases G'.all a ha with⟨c,hc,e⟩|⟨r,hr,e⟩
 ·have f1:=yr G'.dt z0 hc;rw[e,aB (yu c)]at f1;refine⟨fun _=> ?_,fun _=>f1⟩;have e':(if c=q then T.row p else T.col c)=a:=e;by_cases h:c=q
  ·rw[aH h]at e';have:=G.base (cY s.hp);rw[eV s.hp,e']at this;rw[this,h0]
  ·rw[aB h]at e';have:=yr G.dt z0 hc;rw[e',aB (yu c)]at this;exact this
 ·have f1:=G'.base (cY hr);rw[eV hr,e]at f1;have e':(if r=p then T.col q else T.row r)=a:=e;rw[f1];by_cases h:r=p
  ·rw[aH h]at e';have f2:=yr G.dt z0 s.hq;rw[e',aB (yu q)]at f2;have f3:(turn T p q).cell r n=T.cell p n:=by
    show(if r=p then(if n=q then _ else _)else _)=_;rw[aH h,aB (VR s.hq)]
   rw[f3,h0];exact⟨fun _=>f2,fun _=>rfl⟩
  ·rw[aB h]at e';have f2:=G.base (cY hr);rw[eV hr,e']at f2;rw[f2];have x:=G.exact s.hp s.hq s.by_ (cY hr) h (aW n) (VR s.hq);rw[h0,Bd,Int.sub_zero]at x;constructor
   ·intro z;rw[z,Bd]at x;rcases Int.mul_eq_zero.mp x.symm with y|y
    ·exact y
    ·have:=s.by_;omega
   ·intro z;rw[z,YT]at x;rcases Int.mul_eq_zero.mp x with y|y
    ·have:=G.pos;omega
    ·exact y
theorem Run.Jk(R:Run n m S w T p q L){i j:Nat}(hij:i<j)(hj:j<=L):¬∀a,inC n (T i) a↔inC n (T j) a:=by
 intro same;have Gt:∀t,i<=t->t<=j->Good n m S w (T t):=fun t _ h=>R.good t (dD h hj);have D:=BL (Gt i (aW i) (cY hij)) (Gt j (cY hij) (aW j)) fun a=>(same a).mpr;have St:∀t,t<j->Step n m (T t) (p t) (q t):=fun t h=>R.step t (jY h hj);have nx:∀t,t<j->T (t+1)=turn (T t) (p t) (q t):=fun t h=>R.next t (jY h hj)
 -- every turn of these is flat
 have fl:∀t,i<=t->t<j->(T t).cell (p t) n=0:=fun t hi ht=>by
  have g:=Gt t hi (cY ht);have W:=(St t ht).worth g;have F:=g.Zg (p t) (St t ht).hp;have N:=(St t ht).neg;by_cases z:(T t).cell (p t) n=0
  ·exact z
  ·exfalso;have B:(turn (T t) (p t) (q t)).over*(T t).cell m n<(T t).over*(turn (T t) (p t) (q t)).cell m n:=by
    have:=ZR (a:= -((T t).cell m (q t))) (b:=(T t).cell (p t) n) (by omega) (by omega);omega
   rw[<-nx t ht]at B;have A:=R.Kw (i:=i) (j:=t) hi (by omega);have C:=R.Kw (i:=t+1) (j:=j) ht hj;have o1:=(Gt i (aW i) (cY hij)).pos;have o2:=g.pos;have o3:=(Gt (t+1) (by omega) ht).pos;have o4:=(Gt j (cY hij) (aW j)).pos;have x:=w6 o2 o1 o3 A B;have y:=Ac o3 o1 o4 x C;omega
 have ic:∀t,t<j->i<=t->∀a,inC n (T (t+1)) a↔(inC n (T t) a/\a≠(T t).col (q t))\/a=(T t).row (p t):=fun t ht hi a=>by
  rw[nx t ht];exact KR (Gt t hi (cY ht)) (St t ht).hp (St t ht).hq a
 have zeros:∀{a:Nat},a<n+m->∀d s,i<=s->s+d<=j->(Fn n S (T (s+d)) 0 (nv n S a)=0↔Fn n S (T s) 0 (nv n S a)=0):=fun{a} ha d=>by
  induction d with
  |zero=>intro s _ _;exact Iff.rfl
  |succ d ih=>
   intro s hs hd;have f:=flat (Gt (s+d) (by omega) (by omega)) (by rw[<-nx (s+d) (by omega)];exact Gt (s+d+1) (by omega) hd) (St (s+d) (by omega)) (fl (s+d) (by omega) (by omega)) ha;rw[<-nx (s+d) (by omega)]at f;exact f.trans (ih s hs (by omega))
 have Zm:∀{a s t:Nat},a<n+m->i<=s->s<=j->i<=t->t<=j->Fn n S (T s) 0 (nv n S a)=0->Fn n S (T t) 0 (nv n S a)=0:=fun{a s t} ha h1 h2 h3 h4 z=>by
  by_cases c:s<=t
  ·have:=zeros ha (t-s) s h1 (by omega);rw[show s+(t-s)=t by omega]at this;exact this.mpr z
  ·have:=zeros ha (s-t) t h3 (by omega);rw[show t+(s-t)=s by omega]at this;exact this.mp z
 -- the greatest name that comes and goes
 let Fk:Nat->Prop:=fun a=>∃t,i<=t/\t<j/\((inC n (T t) a/\¬inC n (T (t+1)) a)\/(¬inC n (T t) a/\inC n (T (t+1)) a));have fkc:∀t,i<=t->t<j->Fk ((T t).col (q t)):=fun t hi ht=>by
  have g:=Gt t hi (cY ht);refine⟨t,hi,ht,.inl ⟨⟨q t,(St t ht).hq,rfl⟩,fun z=> ?_⟩⟩;rcases(ic t ht hi _).mp z with⟨_,z⟩|z
  ·exact z rfl
  ·exact g.dis (q t) (p t) (St t ht).hq (St t ht).hp z
 have lt:∀a,Fk a->a<n+m:=fun a h=>by
  obtain⟨t,hi,ht,(⟨⟨c,hc,e⟩,_⟩|⟨_,⟨c,hc,e⟩⟩)⟩:=h
  ·rw[<-e];exact(Gt t hi (cY ht)).Ut c hc
  ·rw[<-e];exact(Gt (t+1) (by omega) ht).Ut c hc
 obtain⟨tt,hF,hmax⟩:=most (n+m) ⟨_,fkc i (aW i) hij⟩ lt;have diff:∀{a s e:Nat},i<=s->s<=j->i<=e->e<=j->inC n (T s) a->¬inC n (T e) a->Fk a:=fun{a s e} h1 h2 h3 h4 x y=>by
  by_cases c:s<=e
  ·obtain⟨t,a1,a2,a3,a4⟩:=zW (P:=fun t=>inC n (T t) a) c x y;exact⟨t,by omega,by omega,.inl ⟨a3,a4⟩⟩
  ·obtain⟨t,a1,a2,a3,a4⟩:=zW (P:=fun t=>¬inC n (T t) a) (s:=e) (e:=s) (by omega) y (fun z=>z x);exact⟨t,by omega,by omega,.inr ⟨a3,Classical.not_not.mp a4⟩⟩
 obtain⟨t1,h1i,Zf,h1a,h1b⟩:∃t,i<=t/\t<j/\inC n (T t) tt/\¬inC n (T (t+1)) tt:=by
  obtain⟨t,hi,ht,(⟨x,y⟩|⟨x,y⟩)⟩:=hF
  ·exact⟨t,hi,ht,x,y⟩
  ·by_cases c:inC n (T j) tt
   ·obtain⟨u,a1,a2,a3,a4⟩:=zW (P:=fun t=>inC n (T t) tt) hi ((same tt).mpr c) x;exact⟨u,a1,by omega,a3,a4⟩
   ·obtain⟨u,a1,a2,a3,a4⟩:=zW (P:=fun t=>inC n (T t) tt) (s:=t+1) (e:=j) ht y c;exact⟨u,by omega,a2,a3,a4⟩
 obtain⟨t2,Ze,XR,h2a,h2b⟩:∃t,i<=t/\t<j/\¬inC n (T t) tt/\inC n (T (t+1)) tt:=by
  have up:∀s e,i<=s->s<=e->e<=j->¬inC n (T s) tt->inC n (T e) tt->∃t,i<=t/\t<j/\¬inC n (T t) tt/\inC n (T (t+1)) tt:=fun s e a b c x y=>by
   obtain⟨u,a1,a2,a3,a4⟩:=zW (P:=fun t=>¬inC n (T t) tt) b x (fun z=>z y);exact⟨u,by omega,by omega,a3,Classical.not_not.mp a4⟩
  by_cases c:inC n (T j) tt
  ·exact up (t1+1) j (by omega) Zf (aW j) h1b c
  ·exact up i t1 (aW i) h1i (by omega) (fun z=>c ((same tt).mp z)) h1a
 have e1:tt=(T t1).col (q t1):=by
  refine Y7 fun hn=>h1b ((ic t1 Zf h1i tt).mpr (.inl ⟨h1a,hn⟩))
 have e2:tt=(T t2).row (p t2):=by
  rcases(ic t2 XR Ze tt).mp h2b with⟨z,_⟩|z
  ·exact absurd z h2a
  ·exact z
 have G1:=Gt t1 h1i (cY Zf);have G2:=Gt t2 Ze (cY XR);have S1:=St t1 Zf;have S2:=St t2 XR
 -- along the column that enters at t2
 have hq2:q t2+1<=n:=S2.hq;have dz:=G2.dir (aW m) S2.hq;rw[gQ]at dz;have sum:=pY (T:=T t2) (S:=S) hq2 (T t1).over (zv w);have eq1:=G1.eq m (aW m);rw[gQ]at eq1;rw[Ko eq1,jC hq2 _ _ ((T t1).cell m) (fun c=>nv n S ((T t1).col c)),lA G2.dt hq2,aB (yu _),dz]at sum;have neg:sm n (fun c=>(T t1).cell m c*Fn n S (T t2) (q t2+1) (nv n S ((T t1).col c)))<0:=by
  have:=ZR G1.pos (b:= -((T t2).cell m (q t2))) (by have:=S2.neg;omega);omega
 obtain⟨c,hc,hlt⟩:=Ma n neg;have hnm:=G1.Ut c hc;rcases G2.all _ hnm with⟨c0,hc0,e0⟩|⟨r0,hr0,e0⟩
 ·have f:=yr G2.dt hq2 hc0;rw[e0]at f;by_cases z:c0=q t2
  ·rw[aH (by omega)]at f;rw[f]at hlt;have cn:(T t1).cell m c<0:=by
    refine Int.not_le.mp fun h=> ?_;have:=Kr h (QD G2.pos);omega
   have a:=S1.ent c hc cn;rw[<-e1,<-e0,z]at a;have b:=hmax _ (fkc t2 Ze XR);have:tt=(T t2).col (q t2):=V2 a b;exact G2.dis (q t2) (p t2) S2.hq S2.hp (this.symm.trans e2)
  ·rw[aB (by omega)]at f;rw[f,Bd]at hlt;exact absurd hlt (wex 0)
 ·have f:=G2.dir (cY hr0) S2.hq;rw[eV hr0,e0]at f;rw[f]at hlt;have fk:Fk ((T t1).col c):=diff h1i (cY Zf) Ze (cY XR) ⟨c,hc,rfl⟩ (fun⟨c',hc',e'⟩=>G2.dis c' r0 hc' hr0 (e'.trans e0.symm));have le:=hmax _ fk;by_cases z:(T t1).col c=tt
  ·have cq:c=q t1:=G1.Ec c (q t1) hc S1.hq (z.trans e1);have rp:r0=p t2:=G2.Mt r0 (p t2) hr0 S2.hp (e0.trans (z.trans e2));subst cq rp;have a:=S1.neg;have b:=S2.by_;have:=ZR (a:= -((T t1).cell m (q t1))) (b:=(T t2).cell (p t2) (q t2)) (by omega) b
   grind
  ·have cn:¬(T t1).cell m c<0:=fun h=>by
    have:=S1.ent c hc h;omega
   have RT:0<(T t2).cell r0 (q t2):=by
    refine Int.not_le.mp fun h=> ?_;have:=Kr (a:=(T t1).cell m c) (b:= -((T t2).cell r0 (q t2))) (by omega) (by omega);omega
   have v1:Fn n S (T t1) 0 (nv n S ((T t1).col c))=0:=by rw[yr G1.dt (dF n) hc,aB (yu c)]
   have v2:=Zm hnm h1i (cY Zf) Ze (cY XR) v1;have b:=G2.base (cY hr0);rw[eV hr0,e0,v2]at b;have k:=fl t2 Ze XR;rcases S2.lev r0 hr0 RT with h|⟨_,h⟩
   ·rw[k,<-b,YT,YT]at h;exact absurd h (wex 0)
   ·rw[<-e2,e0]at h;omega
noncomputable def enc:List Bool->Nat
 |[]=>0
 |b::l=>(if b=true then 1 else 0)+2*enc l
theorem Qg:∀l:List Bool,enc l<2^l.length
 |[]=>by decide
 |b::l=>by
  have:=Qg l;show(if b=true then 1 else 0)+2*enc l<2^(l.length+1);rw[Nat.pow_succ];split<;>omega
theorem Hz:∀{l l':List Bool},l.length=l'.length->enc l=enc l'->l=l'
 |[],[],_,_=>rfl
 |b::l,b'::l',h,e=>by
  have e':(if b=true then 1 else 0)+2*enc l=(if b'=true then 1 else 0)+2*enc l':=e;have hb:b=b':=by cases b<;>cases b'<;>simp at e'⊢<;>omega
  subst hb;rw[Hz (l:=l) (l':=l') (by simpa using h) (by omega)]
theorem few:∀(K:Nat) (l:List Nat),l.Nodup->(∀x∈l,x<K)->l.length<=K
 |0,[],_,_=>aW 0
 |0,x::_,_,h=>absurd (h x jG) (V1 x)
 |K+1,l,nd,h=>by
  have a:=few K (l.filter fun x=>decide (x≠K)) (nd.filter _) fun x hx=>by
   obtain⟨h1,h2⟩:=gP.mp hx;have:=h x h1;have:=fM h2;omega
  have b:l.length<=(l.filter fun x=>decide (x≠K)).length+1:=by
   clear a h
   induction l with
   |nil=>exact dF _
   |cons y l ih=>
    have nd':=QG.mp nd;rw[Ib];by_cases c:y=K
    ·subst c;rw[aB (by simp)];have:l.filter (fun x=>decide (x≠y))=l:=List.filter_eq_self.mpr fun x hx=>cX fun e=>nd'.1 (e▸hx);rw[this];exact aW _
    ·rw[aH (cX c)];have:=ih nd'.2;simp only[Bl];omega
  omega
open Classical in
noncomputable def code(n m:Nat)(T:Tab):Nat:=enc ((List.range (n+m)).map fun a=>decide (inC n T a))
theorem Run.short(R:Run n m S w T p q L):L<2^(n+m):=by
 have inj:∀i j,i<=L->j<=L->code n m (T i)=code n m (T j)->i=j:=by
  have one:∀i j,i<j->j<=L->code n m (T i)≠code n m (T j):=fun i j hij hj e=>by
   have l:=Hz (by simp) e;refine R.Jk hij hj fun a=> ?_;by_cases ha:a<n+m
   ·have:=jX (fun l:List Bool=>l[a]?) l;simp only[fu,YZ ha,Option.map_some,Option.some.injEq,decide_eq_decide]at this;exact this
   ·exact⟨fun⟨c,hc,e⟩=>absurd ((R.good i (by omega)).Ut c hc) (by omega),fun⟨c,hc,e⟩=>absurd ((R.good j hj).Ut c hc) (by omega)⟩
  intro i j hi hj e;rcases Nat.lt_trichotomy i j with h|h|h
  ·exact absurd e (one i j h hj)
  ·exact h
  ·exact absurd e.symm (one j i h hi)
 have nd:((List.range (L+1)).map fun t=>code n m (T t)).Nodup:=by
  refine U0.mpr (List.nodup_range.imp_of_mem fun{a b} ha hb hab e=>hab (inj a b ?_ ?_ e))
  ·have:=sy.mp ha;omega
  ·have:=sy.mp hb;omega
 have:=few (2^(n+m)) _ nd fun x hx=>by
  obtain⟨t,_,rfl⟩:=oJ.mp hx;have:=Qg ((List.range (n+m)).map fun a=> @decide (inC n (T t) a) (Classical.propDecidable _));rw[aM,yx]at this;exact this
 rw[aM,yx]at this;omega
end
section
variable{n m:Nat}{S:Nat->Nat->Bool}{w:Nat->Int}{T:Tab}
theorem nO{a j:Nat}(h:a<n):nv n S a j=if j=a+1 then 1 else 0:=aH h
theorem wM{k j:Nat}:nv n S (n+k) j=if j=0 then 1 else if S k (j-1)=true then -1 else 0:=by
 unfold nv;rw[aB (by omega),show n+k-n=k by omega]
theorem Gk{y:Nat->Int}{j:Nat}(hj:j<=n):sm n (fun c=>y c*nv n S c j)=if j=0 then 0 else y (j-1):=by
 by_cases h:j=0
 ·rw[aH h];exact Km n fun c hc=>by rw[nO hc,aB (by omega),Bd]
 ·rw[aB h,dY (j:=j-1) n (by omega) fun c hc hn=>by rw[nO hc,aB (by omega),Bd],nO (by omega),aH (by omega),ZS]
theorem Cp{k j:Nat}(hj:j<=n):nv n S (n+k) j=1*one j-sm n (fun c=>(if S k c=true then 1 else 0)*nv n S c j):=by
 rw[wM,Gk hj];unfold one;by_cases h:j=0
 ·rw[aH h,aH h,aH h];rfl
 ·rw[aB h,aB h,aB h];split<;>rfl
theorem Kl{j:Nat}(hj:j<=n):zv w j=0*one j-sm n (fun c=> -(w c)*nv n S c j):=by
 rw[Gk hj];unfold zv;by_cases h:j=0
 ·rw[aH h,aH h];omega
 ·rw[aB h,aB h];omega
noncomputable def start(n m:Nat)(S:Nat->Nat->Bool)(w:Nat->Int):Tab where
 col:=fun c=>c
 row:=fun r=>n+r
 cell:=fun r c=>if r=m then(if c=n then 0 else -(w c))else if c=n then 1 else if S r c=true then 1 else 0
 over:=1
 s:=1
theorem Br:Good n m S w (start n m S w):=by
 refine⟨Int.one_pos,fun r hr j hj=> ?_,.inl rfl,?_,fun c c' _ _ e=>e,fun r r' _ _ e=>by have:n+r=n+r':=e;omega,fun c r hc _ e=>by have:c=n+r:=e;omega,fun c hc=>by show c<n+m;omega,fun r hr=>by show n+r<n+m;omega,fun a ha=> ?_,fun r hr=> ?_⟩
 ·show 1*rv n m S w (start n m S w) r j=(start n m S w).cell r n*one j-sm n (fun c=>(start n m S w).cell r c*nv n S c j);by_cases h:r<m
  ·rw[eV h];show 1*nv n S (n+r) j=_;rw[Q9,Cp hj];have e1:(start n m S w).cell r n=1:=by show(if r=m then _ else if n=n then(1:Int)else _)=1;rw[aB (by omega),aH rfl]
   rw[e1,bA n fun c hc=> ?_];show _=(if r=m then _ else if c=n then(1:Int)else if S r c=true then 1 else 0)*_;rw[aB (show¬r=m by omega),aB (show¬c=n by omega)]
  ·have e:r=m:=by omega
   subst e;rw[gQ,Q9,Kl (n:=n) (S:=S) hj];have e1:(start n r S w).cell r n=0:=by show(if r=r then(if n=n then(0:Int)else _)else _)=0;rw[aH rfl,aH rfl]
   rw[e1,bA n fun c hc=> ?_];show _=(if r=r then(if c=n then(0:Int)else -(w c))else _)*_;rw[aH rfl,aB (show¬c=n by omega)]
 ·show(1:Int)=1*det (n+1) _;rw[Ag (n+1) _ fun i hi j hj=> ?_]; · rfl
  by_cases h:i=0
  ·subst h;rw[Am];unfold one;by_cases e:j=0
   ·rw[aH e,aH e.symm]
   ·rw[aB e,aB (mj e)]
  ·obtain⟨c,rfl⟩:∃c,i=c+1:=⟨i-1,by omega⟩;rw[HD];show nv n S c j=_;rw[nO (by omega)];by_cases e:j=c+1
   ·rw[aH e,aH e.symm]
   ·rw[aB e,aB (mj e)]
 ·by_cases h:a<n
  ·exact .inl ⟨a,h,rfl⟩
  ·exact .inr ⟨a-n,by omega,by show n+(a-n)=a;omega⟩
 ·show 0<=(if r=m then _ else if n=n then(1:Int)else _);rw[aB (by omega),aH rfl];decide
theorem Good.bounded(G:Good n m S w T)(cov:∀p,p<n->∃k,k<m/\S k p=true){q:Nat}(hq:q<n):∃r,r<m/\0<T.cell r q:=by
 refine Y7 fun no=> ?_;have no':∀r,r<m->T.cell r q<=0:=fun r hr=>Int.not_lt.mp fun h=>no ⟨r,hr,h⟩;have hq':q+1<=n:=hq;have nn:∀a,a<n+m->0<=Fn n S T (q+1) (nv n S a):=fun a ha=>by
  rcases G.all a ha with⟨c,hc,e⟩|⟨r,hr,e⟩
  ·rw[<-e,yr G.dt hq' hc];split
   ·exact QD G.pos
   ·exact J4 0
  ·have:=G.dir (cY hr) hq;rw[eV hr,e]at this;rw[this];have:=no' r hr;omega
 have set:∀k,Fn n S T (q+1) (nv n S (n+k))= -sm n (fun p=>(if S k p=true then 1 else 0)*Fn n S T (q+1) (nv n S p)):=fun k=>by
  rw[Ko fun j hj=>Cp hj,jC hq' _ _ (fun c=>if S k c=true then 1 else 0) (fun c=>nv n S c),lA G.dt hq',aB (yu q)];omega
 have low:∀p,p<n->Fn n S T (q+1) (nv n S p)=0:=fun p hp=>by
  obtain⟨k,hk,hs⟩:=cov p hp;have a:=nn (n+k) (by omega);rw[set k]at a;have:=Gn n (f:=fun p=>(if S k p=true then 1 else 0)*Fn n S T (q+1) (nv n S p)) (fun i hi=> ?_) (by omega) p hp
  ·rw[aH hs,Q9]at this;exact this
  ·have:=nn i (by omega);split<;>omega
 have z:Fn n S T (q+1) (nv n S (T.col q))=0:=by
  have hc:=G.Ut q hq;by_cases h:T.col q<n
  ·exact low _ h
  ·have e:T.col q=n+(T.col q-n):=by omega
   rw[e,set,Km n fun p hp=>by rw[low p hp,Bd]];rfl
 rw[yr G.dt hq' hq,aH rfl]at z;have:=G.pos;omega
theorem Nq(a j:Nat): -1<=nv n S a j/\nv n S a j<=1:=by
 unfold nv;split
 ·split<;>decide
 ·split
  ·decide
  ·split<;>decide
theorem HF(i j:Nat): -1<=vh n S T i j/\vh n S T i j<=1:=by
 unfold vh;split
 ·unfold one;split<;>decide
 ·exact Nq _ _
theorem Fd(G:Good n m S w T){c:Nat}{v:Vec}{B:Int}(hB:1<=B)(h:∀j,j<=n-> -B<=v j/\v j<=B): -(fct (n+1)*B)<=Fn n S T c v/\Fn n S T c v<=fct (n+1)*B:=by
 have d:=xK (n+1) (put (vh n S T) c v) c B hB (fun i _ j _ hn=>by rw[iB _ _ hn];exact HF i j) (fun j hj _=>by rw[put_same];exact h j (by omega));unfold Fn;rcases G.sg with s|s
 ·rw[s,Q9];exact d
 ·rw[s];omega
theorem Good.RX(G:Good n m S w T):T.over<=fct (n+1):=by
 have d:=Fd G (c:=0) (v:=vh n S T 0) (B:=1) (by decide) fun j _=>HF 0 j;rw[Qz G.dt (dF n) (dF n),aH rfl]at d;omega
theorem Good.Qn(G:Good n m S w T)(hw:∀p,p<n->0<=w p/\w p<=99){r c:Nat}(hr:r<=m)(hc:c<=n): -(fct (n+1)*99)<=T.cell r c/\T.cell r c<=fct (n+1)*99:=by
 have hv:∀j,j<=n-> -99<=rv n m S w T r j/\rv n m S w T r j<=99:=fun j hj=>by
  unfold rv;split
  ·have:=Nq (n:=n) (S:=S) (T.row r) j;omega
  ·unfold zv;split
   ·decide
   ·have:=hw (j-1) (by omega);omega
 by_cases h:c=n
 ·subst h;have d:=Fd G (c:=0) (B:=99) (by decide) hv;rw[G.base hr]at d;exact d
 ·have d:=Fd G (c:=c+1) (B:=99) (by decide) hv;rw[G.dir hr (by omega)]at d;omega
theorem Qc:∀{k:Nat},k<=11->fct k<=39916800
 |0,_|1,_|2,_|3,_|4,_|5,_|6,_|7,_|8,_|9,_|10,_|11,_=>by decide
noncomputable def Ys(n m:Nat)(T:Tab)(a:Nat):Int:=sm n fun c=>if T.col c=a then T.cell m c else 0
noncomputable def Xs(n m:Nat)(T:Tab)(a:Nat):Int:=sm m fun r=>if T.row r=a then T.cell r n else 0
theorem Good.Zz(G:Good n m S w T){c:Nat}(hc:c<n):Ys n m T (T.col c)=T.cell m c:=by
 unfold Ys;rw[dY (j:=c) n hc fun i hi hn=>aB fun e=>hn (G.Ec i c hi hc e),aH rfl]
theorem Zy{a:Nat}(h:∀c,c<n->T.col c≠a):Ys n m T a=0:=Km n fun c hc=>aB (h c hc)
theorem Good.Vb(G:Good n m S w T){r:Nat}(hr:r<m):Xs n m T (T.row r)=T.cell r n:=by
 unfold Xs;rw[dY (j:=r) m hr fun i hi hn=>aB fun e=>hn (G.Mt i r hi hr e),aH rfl]
theorem U9{a:Nat}(h:∀r,r<m->T.row r≠a):Xs n m T a=0:=Km m fun r hr=>aB (h r hr)
theorem Good.Ku(G:Good n m S w T){a:Nat}(ha:a<n+m):Fn n S T 0 (nv n S a)=Xs n m T a:=by
 rcases G.all a ha with⟨c,hc,e⟩|⟨r,hr,e⟩
 ·rw[<-e,yr G.dt (dF n) hc,aB (yu c),U9 fun r hr z=>G.dis c r hc hr z.symm]
 ·rw[<-e,G.Vb hr];have:=G.base (cY hr);rw[eV hr]at this;exact this
theorem Good.Va(G:Good n m S w T)(a:Nat):0<=Xs n m T a:=Gp m fun r hr=>by
 have:=G.Zg r hr;split
 ·exact this
 ·exact J4 0
theorem UW(h:∀c,c<n->0<=T.cell m c)(a:Nat):0<=Ys n m T a:=Gp n fun c hc=>by
 have:=h c hc;split
 ·exact this
 ·exact J4 0
theorem yO(f:Nat->Int)(a:Nat):∀b,sm (a+b) f=sm a f+sm b fun k=>f (a+k)
 |0=>by show sm a f=sm a f+0;omega
 |b+1=>by
  show sm (a+b) f+f (a+b)=_;rw[yO f a b];show _=sm a f+(sm b (fun k=>f (a+k))+f (a+b));omega
theorem Good.aaq(G:Good n m S w T)(g:Nat->Int):sm n (fun c=>T.cell m c*g (T.col c))=sm n (fun a=>Ys n m T a*g a)+sm m (fun k=>Ys n m T (n+k)*g (n+k)):=by
 rw[<-yO (fun a=>Ys n m T a*g a)];have e:∀a,Ys n m T a*g a=sm n fun c=>(if T.col c=a then T.cell m c else 0)*g a:=fun a=>by
  unfold Ys;rw[QF,<-gj];exact bA n fun c _=>QF _ _
 rw[bA (n+m) fun a _=>e a,Gm (fun a c=>(if T.col c=a then T.cell m c else 0)*g a)];refine bA n fun c hc=> ?_;rw[dY (j:=T.col c) (n+m) (G.Ut c hc) fun a _ hn=>by rw[aB (mj hn),YT],aH rfl]
theorem Good.total(G:Good n m S w T):sm m (fun k=>Ys n m T (n+k))=T.cell m n:=by
 have e:=G.eq m (aW m) 0 (dF n);rw[gQ,G.aaq (fun a=>nv n S a 0),Km n fun a ha=>by rw[nO ha,aB (by omega),Bd]]at e;have z:zv w 0=0:=rfl;have o:one 0=1:=rfl;rw[z,o,bA m fun k _=>show Ys n m T (n+k)*nv n S (n+k) 0=Ys n m T (n+k) by rw[wM,aH rfl,ZS]]at e;omega
theorem Good.enough(G:Good n m S w T){p:Nat}(hp:p<n):sm m (fun k=>if S k p=true then Ys n m T (n+k)else 0)=T.over*w p+Ys n m T p:=by
 have e:=G.eq m (aW m) (p+1) hp;rw[gQ,G.aaq (fun a=>nv n S a (p+1)),dY (j:=p) n hp fun a ha hn=>by rw[nO ha,aB (by omega),Bd],nO hp,aH rfl]at e;have z:zv w (p+1)=w p:=by unfold zv;rw[aB (yu p)];rfl
 have o:one (p+1)=0:=aB (yu p);rw[z,o,bA m fun k _=>show Ys n m T (n+k)*nv n S (n+k) (p+1)= -1*(if S k p=true then Ys n m T (n+k)else 0) by
  rw[wM,aB (yu p),Nat.add_sub_cancel];split<;>omega,gj]at e
 omega
theorem Good.light(G:Good n m S w T){k:Nat}(hk:k<m):sm n (fun p=>if S k p=true then Xs n m T p else 0)<=T.over:=by
 have h:Fn n S T 0 (nv n S (n+k))=1*Fn n S T 0 one-sm n (fun p=>(if S k p=true then 1 else 0)*Fn n S T 0 (nv n S p)):=by
  rw[Ko fun j hj=>Cp hj,jC (dF n) _ _ (fun c=>if S k c=true then 1 else 0) (fun c=>nv n S c)]
 rw[lA G.dt (dF n),aH rfl,G.Ku (by omega),bA n fun p hp=>show(if S k p=true then(1:Int)else 0)*Fn n S T 0 (nv n S p)=if S k p=true then Xs n m T p else 0 by
  rw[G.Ku (by omega)];split<;>omega]at h
 have:=G.Va (n+k);omega
theorem Good.prices(G:Good n m S w T):sm n (fun p=>w p*Xs n m T p)=T.cell m n:=by
 have h:=G.base (aW m);rw[gQ,Ko fun j hj=>Kl (n:=n) (S:=S) hj,jC (dF n) _ _ (fun c=> -(w c)) (fun c=>nv n S c),bA n fun p hp=>show -(w p)*Fn n S T 0 (nv n S p)= -1*(w p*Xs n m T p) by rw[G.Ku (by omega)];grind,gj]at h;omega
end
end Sx
namespace L2
open PySem PySem.Spec PyProof.Rows
noncomputable def aah(K:W.Frag)(D:Addr)(i:Nat)(tc:TT)(C:Addr)(sp1 sp2:Sp)(t1 t2:TA)(ts:TS):TS:=fun Dn σ H=>tc σ H fun b H1=>
 if b=true then t1 σ H1 fun vs H2=>∀x dx,H2 x=none->H2 dx=none->dx≠x->sp1 (.ref x::vs) (upd (upd H2 dx (.own x)) x (.ins C dx [])) (fun v H3=>v= .non/\Dn.nx σ H3)
   (fun v oc H3=>∃e C,v= .ref e/\oc=some C/\PySem.W.exmOne K (.ref C) (.ref D)=some true/\ts {nx:=fun σ3 H3=>Dn.nx (σ3.set i none) H3,bk:=fun _ _=>False,ct:=fun _ _=>False,rt:=fun _ _=>False} (σ.set i (some (.ref e))) H3)
 else t2 σ H1 fun vs H2=>sp2 vs H2 (fun v H3=>Dn.nx σ H3)
   (fun v oc H3=>∃e C,v= .ref e/\oc=some C/\PySem.W.exmOne K (.ref C) (.ref D)=some true/\ts {nx:=fun σ3 H3=>Dn.nx (σ3.set i none) H3,bk:=fun _ _=>False,ct:=fun _ _=>False,rt:=fun _ _=>False} (σ.set i (some (.ref e))) H3)
section
variable{X:Cx}{k k1:Nat}{f g C D:Addr}{fd gd:ρ}{ps ps1:List Str}{sp sp1:Sp}{cn fn x n:Str}{p cpos epos p1 Qm VB ipos np hpos pos:Pos}{c a a1:Expr}{as as1:List Expr}{t t1:TA}{tc:TT}{ts:TS}{b₀:Stmt}{suite:List Stmt}{i:Nat}
theorem Xm{pins:L1}{σ:St}{H:Hp}{s:η}{Q:VK}{E:XK}{XE:L3}(M:Mk X.K C g)(F:FnOk X.prog X.w X.K X.mg X.base (fj X.prog X.w) k g fd ps sp)(hr:Room (k+1) X.A)(hg:Gl X fn)(hm:X.mg fn=some (.ref C))(hb:Binds X.K fd ps [])(ha:PA X.nox (a::as) t)(I:Inv X pins σ H s)(h:t σ H fun vs H1=>∀x dx,H1 x=none->H1 dx=none->dx≠x->sp (.ref x::vs) (upd (upd H1 dx (.own x)) x (.ins C dx [])) (fun v H2=>v= .non/\Q (.ref x) H2) E)(hx:∀H1 s1 v s',Inv X pins σ H1 s1->fj X.prog X.w X.stack H1 s1 E v s'->XE v s')(hdb:(fn==("__debug__":Str))=false)(he:starEach (a::as) X.env=(false,eval a X.env)::starEach as X.env)(hpl:(backTo cpos (starEach as X.env)).any (·.1)=false):
  wpAny (model X.prog X.w) X.A (eval (.Call (.Name fn p) (a::as) [] cpos) X.env) (EP X pins σ Q) XE s:=by
 refine Ri (ld_glob I hg hm ?_ hdb);refine wbn (h₀:=X.base) I.ok.mod.kin M.kp (Ft (ha cpos pins s σ H _ (I.wish _) h) (fun us s1 z=> ?_) fun _ _ z=>z.elim) he hpl;obtain⟨vs,H1,I1,r,q⟩:=z;have J:=I1.unwish;refine⟨J.kIn,?_⟩;have hq:=q (s1.heap.objs.size+1) s1.heap.objs.size (J.hok.fresh (Kq _)) (J.hok.fresh (aW _)) (jh (vH _));have I2:=Inv.made (C:=C) J;have r2:Vals (V.ref (s1.heap.objs.size+1)::vs) (Value.ref (s1.heap.objs.size+1)::us):= .cons rfl r;have hl:(Value.ref (s1.heap.objs.size+1)::us++[]).length=ps.length:=by
  have e:=r2.length;rw[F.len _ _ _ _ hq]at e;rw[Bg];exact e.symm
 have bd:=hb _ (Value.ref (s1.heap.objs.size+1)::us) I2.kIn hl;rw[Bg]at bd;refine Y4 (make_map (f:=g) J.kIn M.makes M.init (beq_iff_eq.mp M.fn) (Wa (F.run _ X.stack _ _ ⟨Value.ref (s1.heap.objs.size+1)::us,[]⟩ (Value.ref (s1.heap.objs.size+1)::us) _ _ E (hr.make C us [])
  (I2.env0.make C us []) bd r2 hq) fun r s' hq'=> ?_))
 cases r with
 |error v=>exact hx _ _ v s' I2 hq'
 |ok fl=>
  cases fl with
  |ret u=>
   obtain⟨v,H',I3,rv,ev,q3⟩:=I2.after hq';subst ev;exact⟨rv,⟨V.ref (s1.heap.objs.size+1),H',I3,rfl,q3⟩⟩
  |next=>exact False.elim hq'
  |brk=>exact False.elim hq'
  |cont=>exact False.elim hq'
theorem RQ(hst:X.stack=X.env::X.outer)(hfr:X.env.frame=some X.env.locals)(hc:PT X.nox c tc)
  (M:Mk X.K C g)(F1:FnOk X.prog X.w X.K X.mg X.base (fj X.prog X.w) k1 g gd ps1 sp1)(hr1:Room (k1+1) X.A)(hg1:Gl X cn)(hm1:X.mg cn=some (.ref C))(hb1:Binds X.K gd ps1 [])(ha1:PA X.nox (a1::as1) t1)
  (F:FnOk X.prog X.w X.K X.mg X.base (fj X.prog X.w) k f fd ps sp)(hr:Room k X.A)(hg:Gl X fn)(hm:X.mg fn=some (.ref f))(hk:PySem.W.keepIn X.K (.ref f)=true)(hb:Binds X.K fd ps [])(ha:PA X.nox (a::as) t)(hgx:Gl X x)(hmx:X.mg x=some (.ref D))(hN:X.N.Nodup)(hi:X.N[i]? =some n)(QS:X.env.scope.names.lookup n=some .local)(hs:∀e,PSs (X.mkd e) (b₀::suite) ts)(abR:swapsWith (.Call (.Name cn p1) (a1::as1) [] Qm) none VB.line X.env=pure false:=by rfl)(hsw:swapsWith (.Call (.Name fn p) (a::as) [] cpos) none epos.line X.env=pure false:=by rfl)(abW:(cn==("__debug__":Str))=false:=by decide)(hdb:(fn==("__debug__":Str))=false:=by decide)(hdx:(x==("__debug__":Str))=false:=by decide)(he1:starEach (a1::as1) X.env=(false,eval a1 X.env)::starEach as1 X.env:=by rfl)(abU:(backTo Qm (starEach as1 X.env)).any (·.1)=false:=by rfl)(he:starEach (a::as) X.env=(false,eval a X.env)::starEach as X.env:=by rfl)(hpl:(backTo cpos (starEach as X.env)).any (·.1)=false:=by rfl):
  PS X (.Try [.If c [.Expr (.Call (.Name cn p1) (a1::as1) [] Qm) VB] [.Expr (.Call (.Name fn p) (a::as) [] cpos) epos] ipos] [.ExceptHandler (some (.Name x np)) (some n) (b₀::suite) hpos] [] [] pos) (aah X.K D i tc C sp1 sp t1 t ts):=by
 intro pins s σ H Dn I h;refine wpAny_Try_except (Z9 (wpAny_If (Ft (hc pins s σ H _ (I.wish _) h) (fun d s1 ⟨H1,I1,q1⟩=> ?_) fun _ _ z=>z.elim)));have J1:=I1.unwish;cases d with
 |true=>
  rw[aH rfl]at q1;refine Z9 (wpAny_Expr_any (Ft (Xm M F1 hr1 hg1 hm1 hb1 ha1 (Q:=fun _ H2=>Dn.nx σ H2) J1 q1 (fun H2 s2 v s' J z=> ?_) abW he1 abU) (fun v s2 z=> ?_) fun _ _ z=>z) J1.quiet abR)
  ·obtain⟨e,C',H',B,rfl,Fl,e',C2,q1,q2,q3,q4⟩:=z;cases q1;cases q2;exact caught hst hfr hgx hmx hN hi QS hs J Fl q3 q4 hdx
  ·obtain⟨_,H2,I2,_,q⟩:=z;exact way (way (way ⟨σ,H2,I2,q⟩))
 |false=>
  rw[aB (by decide)]at q1;refine Z9 (wpAny_Expr_any (Ft (Yu F hr hg hm hk hb ha (Q:=fun _ H2=>Dn.nx σ H2) J1 q1 (fun H2 s2 v s' J z=> ?_) hdb he hpl) (fun v s2 z=> ?_) fun _ _ z=>z) J1.quiet hsw)
  ·obtain⟨e,C',H',B,rfl,Fl,e',C2,q1,q2,q3,q4⟩:=z;cases q1;cases q2;exact caught hst hfr hgx hmx hN hi QS hs J Fl q3 q4 hdx
  ·obtain⟨_,H2,I2,_,q⟩:=z;exact way (way (way ⟨σ,H2,I2,q⟩))
end
end L2
namespace Hs
open PySem L2 oG
noncomputable def top(i:Nat):Stmt:=PySem.Challenge.pw_hueshare_k51_deeds_of_a_sharing_refused.main.body.getD i (.Pass ⟨0,0,0,0⟩)
noncomputable abbrev YK:Stmt:=top 13
noncomputable abbrev gw:Stmt:=top 14
noncomputable abbrev jx:Stmt:=top 15
noncomputable abbrev YM:Stmt:=top 16
noncomputable abbrev iM:Stmt:=top 17
noncomputable abbrev nH:Stmt:=top 18
noncomputable abbrev o8:Stmt:=top 19
noncomputable abbrev Q8:Stmt:=top 20
noncomputable abbrev Zo:Stmt:=top 21
noncomputable abbrev YL:Stmt:=top 22
noncomputable abbrev gk:Stmt:=top 23
noncomputable abbrev wC:Stmt:=top 24
noncomputable abbrev UJ:Stmt:=top 25
noncomputable abbrev zbn:Stmt:=top 28
noncomputable abbrev iK:Stmt:=top 29
noncomputable abbrev lK:Stmt:=top 30
noncomputable abbrev iu:Stmt:=top 31
noncomputable abbrev oZ:Stmt:=top 32
noncomputable abbrev jl:Stmt:=top 34
noncomputable abbrev nG:Stmt:=top 35
noncomputable abbrev eG:Stmt:=top 37
noncomputable abbrev eE:Stmt:=top 38
noncomputable abbrev qp:Stmt:=top 39
noncomputable abbrev j8:Stmt:=top 40
noncomputable abbrev jw:Stmt:=top 41
noncomputable abbrev gB:Stmt:=inClass (top 44) 0
noncomputable abbrev zbr:Stmt:=inClass (top 44) 1
noncomputable abbrev zby:Stmt:=inClass (top 44) 2
noncomputable abbrev zcj:Stmt:=inClass (top 44) 3
noncomputable abbrev zdc:Stmt:=inClass (top 44) 4
noncomputable abbrev gA:Stmt:=inClass (top 44) 5
noncomputable abbrev eN:Stmt:=inClass (top 44) 6
noncomputable abbrev Zx:Stmt:=inClass (top 44) 7
noncomputable abbrev zci:Stmt:=inClass (top 44) 8
noncomputable abbrev zch:Stmt:=inClass (top 44) 9
noncomputable abbrev fD:Stmt:=top 45
noncomputable abbrev o7:Stmt:=top 46
noncomputable abbrev nF:Stmt:=top 47
noncomputable abbrev j6:Stmt:=top 48
noncomputable abbrev BR:Stmt:=top 49
noncomputable abbrev j7:Stmt:=top 50
noncomputable abbrev jk:Stmt:=top 52
noncomputable abbrev iw:Stmt:=top 53
noncomputable abbrev zbo:Stmt:=top 54
noncomputable abbrev iy:Stmt:=top 55
noncomputable abbrev o9:Stmt:=top 56
noncomputable abbrev Zu:Stmt:=inClass (top 57) 0
noncomputable abbrev zcw:Stmt:=inClass (top 57) 1
noncomputable abbrev YQ:Stmt:=inClass (top 57) 2
noncomputable abbrev VP:Stmt:=inClass (top 57) 3
noncomputable abbrev Zq:Stmt:=inClass (top 57) 4
noncomputable abbrev Zr:Stmt:=inClass (top 57) 5
noncomputable abbrev Zw:Stmt:=inClass (top 57) 6
noncomputable abbrev Zt:Stmt:=inClass (top 57) 7
noncomputable abbrev iz:Stmt:=inClass (top 57) 8
noncomputable abbrev eO:Stmt:=inClass (top 57) 9
noncomputable abbrev zdd:Stmt:=inClass (top 57) 10
noncomputable abbrev qt:Stmt:=inClass (top 57) 11
noncomputable abbrev eU:Stmt:=inClass (top 57) 12
noncomputable abbrev jr:Stmt:=top 59
noncomputable abbrev VN:Stmt:=top 60
noncomputable abbrev zcv:Stmt:=top 61
noncomputable abbrev j5:Stmt:=top 62
noncomputable abbrev ju:Stmt:=top 63
noncomputable abbrev jt:Stmt:=top 64
noncomputable abbrev gq:Stmt:=top 65
noncomputable abbrev fG:Stmt:=top 66
noncomputable abbrev eF:Stmt:=top 67
noncomputable abbrev jo:Stmt:=top 68
noncomputable abbrev jK:Stmt:=top 69
end Hs
namespace Hs
open PySem L2
theorem bw{X:Cx}{b:List Stmt}{R:TS->Prop}(h:let Y:=X;∃t,PSs Y b t/\R t):∃t,PSs X b t/\R t:=h
theorem mH{t1 t2:TS}{D:Ends}{σ:St}{H:Hp}(h:let c2:=t2;tSeq t1 c2 D σ H):(tSeq t1 t2) D σ H:=h
theorem mF{t1 t2 t3:TS}{D:Ends}{σ:St}{H:Hp}(h:let c3:=t3;let c2:=tSeq t2 c3;tSeq t1 c2 D σ H):(tSeq t1 (tSeq t2 t3)) D σ H:=h
theorem uD{t1 t2 t3 t4:TS}{D:Ends}{σ:St}{H:Hp}(h:let c4:=t4;let c3:=tSeq t3 c4;let c2:=tSeq t2 c3;tSeq t1 c2 D σ H):(tSeq t1 (tSeq t2 (tSeq t3 t4))) D σ H:=h
theorem Hl{t1 t2 t3 t4 t5:TS}{D:Ends}{σ:St}{H:Hp}(h:let c5:=t5;let c4:=tSeq t4 c5;let c3:=tSeq t3 c4;let c2:=tSeq t2 c3;tSeq t1 c2 D σ H):(tSeq t1 (tSeq t2 (tSeq t3 (tSeq t4 t5)))) D σ H:=h
theorem Vw{t1 t2 t3 t4 t5 t6:TS}{D:Ends}{σ:St}{H:Hp}(h:let c6:=t6;let c5:=tSeq t5 c6;let c4:=tSeq t4 c5;let c3:=tSeq t3 c4;let c2:=tSeq t2 c3;tSeq t1 c2 D σ H):(tSeq t1 (tSeq t2 (tSeq t3 (tSeq t4 (tSeq t5 t6))))) D σ H:=h
theorem aaI{t1 t2 t3 t4 t5 t6 t7 t8:TS}{D:Ends}{σ:St}{H:Hp}(h:let c8:=t8;let c7:=tSeq t7 c8;let c6:=tSeq t6 c7;let c5:=tSeq t5 c6;let c4:=tSeq t4 c5;let c3:=tSeq t3 c4;let c2:=tSeq t2 c3;tSeq t1 c2 D σ H):(tSeq t1 (tSeq t2 (tSeq t3 (tSeq t4 (tSeq t5 (tSeq t6 (tSeq t7 t8))))))) D σ H:=h
theorem aaH{t1 t2 t3 t4 t5 t6 t7 t8 t9:TS}{D:Ends}{σ:St}{H:Hp}(h:let c9:=t9;let c8:=tSeq t8 c9;let c7:=tSeq t7 c8;let c6:=tSeq t6 c7;let c5:=tSeq t5 c6;let c4:=tSeq t4 c5;let c3:=tSeq t3 c4;let c2:=tSeq t2 c3;tSeq t1 c2 D σ H):(tSeq t1 (tSeq t2 (tSeq t3 (tSeq t4 (tSeq t5 (tSeq t6 (tSeq t7 (tSeq t8 t9)))))))) D σ H:=h
theorem XM{t1 t2 t3 t4 t5 t6 t7 t8 t9 t10:TS}{D:Ends}{σ:St}{H:Hp}(h:let Yv:=t10;let c9:=tSeq t9 Yv;let c8:=tSeq t8 c9;let c7:=tSeq t7 c8;let c6:=tSeq t6 c7;let c5:=tSeq t5 c6;let c4:=tSeq t4 c5;let c3:=tSeq t3 c4;let c2:=tSeq t2 c3;tSeq t1 c2 D σ H):(tSeq t1 (tSeq t2 (tSeq t3 (tSeq t4 (tSeq t5 (tSeq t6 (tSeq t7 (tSeq t8 (tSeq t9 t10))))))))) D σ H:=h
end Hs
namespace Hs
open PySem L2 oG
section
variable{P:ξ}{w:τ}{K:W.Frag}{mg:L4}{base:Heap}
noncomputable def oO(K:W.Frag):Sp:=fun vs H Q _=>∃x d,vs=[x]/\DX K H x d/\Q (.bl (fX d)) H
theorem MN{f:Addr}{fd:ρ}(F:Fun K "is_whole" "is_whole" YK f fd)(mi:mg "isinstance"=none)(mI:mg "int"=none)(mB:mg "bool"=none):FnOk P w K mg base CX0 1 f fd ["thing"] (oO K):=by
 refine F.cQ ["thing"] fun cdv A outer s H vs Q E hr h=> ?_;obtain⟨x,d,rfl,hx,q⟩:=h;refine⟨_,aP (bO (pe_and (pB QX mi (aj (pv 0) (aj (pN "int" mI) ak)))
  (pe_one (pe_not (pB QX mi (aj (pv 0) (aj (pN "bool" mB) ak))))))),?_⟩
 refine⟨_,rfl,x,_,_,rfl,hx.kind,.inl rfl,_,rfl,?_⟩;refine ite2 (fun c=> ?_) (fun c=> ?_)
 ·refine⟨_,rfl,x,_,_,rfl,hx.kind,.inr (.inl rfl),_,rfl,?_⟩;cases d<;>first |exact q|(simp[wW,kI]at c;done)
 ·cases d<;>first |exact q|(exfalso;exact c rfl)
noncomputable def sH(K:W.Frag):Sp:=fun vs H Q _=>∃(n:Int) (x:V) (d:θ),vs=[.int n,x]/\DX K H x d/\Q (.bl (bx n d)) H
theorem Nh{f g:Addr}{fd gd:ρ}(F:Fun K "is_place" "is_place" gw f fd)(D:bK K mg "is_whole" YK ["thing"] g gd)(G:FnOk P w K mg base CX0 1 g gd ["thing"] (oO K)):FnOk P w K mg base CX0 2 f fd ["n","thing"] (sH K):=by
 refine F.cQ ["n","thing"] fun cdv A outer s H vs Q E hr h=> ?_;obtain⟨n,x,d,rfl,hx,q⟩:=h;refine⟨_,aP (bO (pe_and (pe_call G hr rfl D.m D.F.kp D.b .nil pass0 (aj (pv 1) ak)) (pe_one (pe_chain op_le op_lt aq (pv 1) (pv 0))))),?_⟩;refine⟨_,rfl,x,d,rfl,hx,_,rfl,?_⟩;refine ite2 (fun c=> ?_) (fun c=> ?_)
 ·cases hx with
  |int i=>
   refine⟨_,rfl,_,_,rfl,rfl,_,rfl,?_⟩;refine ite2 (fun c2=> ?_) (fun c2=> ?_)
   ·refine⟨_,rfl,_,_,rfl,rfl,?_⟩;have e:bx n (.int i)=decide (i<n):=by show(decide (0<=i)&&decide (i<n))=_;rw[c2];rfl
    rw[e]at q;exact q
   ·have e:bx n (.int i)=false:=by show(decide (0<=i)&&decide (i<n))=_;rw[Bool.eq_false_iff.mpr c2];rfl
    rw[e]at q;exact q
  |_=>simp[fX]at c
 ·have e:bx n d=false:=by
   cases d<;>first |rfl|(exfalso;exact c rfl)
  rw[e]at q;exact q
noncomputable def yL(K:W.Frag):Sp:=fun vs H Q _=>∃(n:Int) (a:Addr) (xs:List V) (ds:List θ),vs=[.int n,.ref a]/\SqT K H a xs/\jg K H xs ds/\∀H',Same H H'->Q (.bl (ds.all (bx n))) H'
theorem jd{α:Type}(ds:List α)(p:α->Bool):(ds.map p).all id=ds.all p:=by rw[YS];rfl
theorem Ji{f g:Addr}{fd gd:ρ}(F:Fun K "are_places" "are_places" jx f fd)(D:bK K mg "is_place" gw ["n","thing"] g gd)(G:FnOk P w K mg base CX0 2 g gd ["n","thing"] (sH K))(mA:mg "all"=none):FnOk P w K mg base CX0 3 f fd ["n","things"] (yL K):=by
 refine F.cQ ["n","things"] fun cdv A outer s H vs Q E hr h=> ?_;obtain⟨n,a,xs,ds,rfl,hS,hd,q⟩:=h;refine⟨_,aP (bO (pB (gF rfl) mA (aj (pK ["thing"] ["n"] [0] (JX (pv 1)) (pG 0) sX (pe_call G hr rfl D.m D.F.kp D.b .nil pass0 (aj (pv 1) (aj (pv 0) ak)))) ak))),?_⟩;refine⟨_,rfl,a,xs,rfl,hS,fun hz=> ?_⟩;have hl:=hd.len;let jR:Nat->List V->St->Hp->Prop:=fun i acc σ H'=>acc=((ds.take i).map (bx n)).map V.bl/\Same H H'/\∃o,σ=[o,some (.int n)];refine JZ (xs:=xs) jR ⟨rfl,Same.refl _,_,rfl⟩ (fun i acc σ H' _ p=>p.2.1.tup hS) (fun i acc σ H' hi p=> ?_) hz (fun i x acc σ H' hx p=> ?_) (fun acc σ H' p=> ?_)
 ·rw[p.1];simp;omega
 ·obtain⟨rfl,sm,o,rfl⟩:=p;obtain⟨d,e1,e2⟩:=hd.get hx;refine⟨_,rfl,_,rfl,n,x,d,rfl,DX.same sm e2,?_,sm,_,rfl⟩;rw[Fq,e1];simp
 ·intro p1 hp1;obtain⟨rfl,sm,_⟩:=p;refine⟨p1,(ds.map (bx n)),rfl,SqL.of (by rw[au,hl,yt]),?_⟩;rw[jd];exact q _ (sm.trans (aK hp1 _))
noncomputable def Yy(K:W.Frag)(H:Hp)(x y:V)(b:Bool):Prop:=(∃i j,x= .int i/\y= .int j/\b=decide (i<j))\/(∃p q ns ms,x= .ref p/\y= .ref q/\SqT K H p (ns.map V.int)/\SqT K H q (ms.map V.int)/\b=HT.lexLt ns ms)
noncomputable def tH(K:W.Frag):Sp:=fun vs H Q _=>∃(a:Addr) (xs:List V) (bs:Nat->Bool),vs=[.ref a]/\SqT K H a xs/\(∀k,k+1<xs.length->∃x y,xs[k]? =some x/\xs[k+1]? =some y/\Yy K H x y (bs k))/\
 ∀H',Same H H'->Q (.bl ((List.range (xs.length-1)).all bs)) H'
theorem Jh{f:Addr}{fd:ρ}(F:Fun K "is_rising" "is_rising" YM f fd)(mA:mg "all"=none)(mR:mg "range"=none)(mL:mg "len"=none):FnOk P w K mg base CX0 1 f fd ["things"] (tH K):=by
 refine F.cQ ["things"] fun cdv A outer s H vs Q E hr h=> ?_;obtain⟨a,xs,bs,rfl,hS,hb,q⟩:=h;refine⟨_,aP (bO (pB (gF rfl) mA (aj (pK ["k"] ["things"] [0] (pi_range2 rfl mR (aj aq (aj (pB v7 mL (aj (pv 0) ak)) ak))) (pG 0) sX (JW (op_lt.or (Gw K hr.units0)) (bf (HS K) (pv 1) (bB op_sub (pv 0) aq)) (bf (HS K) (pv 1) (pv 0)))) ak))),?_⟩;refine⟨_,rfl,a,xs,rfl,.inr hS,fun hz=>⟨1,_,rfl,⟨by omega,by omega,by omega,by omega⟩,?_⟩⟩;have en:((xs.length:Int)-1).toNat=xs.length-1:=by omega
 rw[en];let jR:Nat->List V->St->Hp->Prop:=fun i acc σ H'=>acc=((List.range i).map bs).map V.bl/\Same H H'/\∃o,σ=[o,some (.ref a)];refine UL jR ⟨rfl,Same.refl _,_,rfl⟩ (fun i acc σ H' hi p=>by rw[p.1];simp) (by rw[fZ];omega) (fun i acc σ H' hi p=> ?_) (fun acc σ H' p=> ?_)
 ·obtain⟨rfl,sm,o,rfl⟩:=p;obtain⟨x,y,hx,hy,hxy⟩:=hb i (by omega);have e1:(1+(i:Int))-1=((i:Nat):Int):=by omega
  have e2:(1+(i:Int))=((i+1:Nat):Int):=by omega
  have a1:atI xs (1+(i:Int)-1)=some x:=by rw[e1];exact atI_nat hx
  have a2:atI xs (1+(i:Int))=some y:=by rw[e2];exact atI_nat hy
  refine⟨_,rfl,_,rfl,_,_,rfl,rfl,a,xs,_,x,rfl,rfl,sm.tup hS,a1,_,rfl,_,rfl,a,xs,_,y,rfl,rfl,sm.tup hS,a2,?_⟩;have ea:((List.range i).map bs).map V.bl++[V.bl (bs i)]=((List.range (i+1)).map bs).map V.bl:=by rw[Bf];simp
  rcases hxy with⟨u,v,rfl,rfl,e⟩|⟨p,p',ns,ms,rfl,rfl,h1,h2,e⟩
  ·refine .inl ⟨u,v,rfl,rfl,?_,sm,_,rfl⟩;show _++[V.bl (decide (u<v))]=_;rw[<-e];exact ea
  ·refine .inr ⟨p,p',ns,ms,rfl,rfl,sm.tup h1,sm.tup h2,?_,sm,_,rfl⟩;show _++[V.bl (HT.lexLt ns ms)]=_;rw[<-e];exact ea
 ·intro p1 hp1;obtain⟨rfl,sm,_⟩:=p;refine⟨p1,(List.range (xs.length-1)).map bs,rfl,SqL.of au,?_⟩;rw[jd];exact q _ (sm.trans (aK hp1 _))
theorem ints_of{H:Hp}{n:Int}{xs:List V}{ds:List θ}(h:jg K H xs ds)(hp:ds.all (bx n)=true):xs=(ds.map intD).map V.int:=by
 induction ds generalizing xs with
 |nil=>cases h;rfl
 |cons d ds ih=>
  rw[wey,oM]at hp;cases h with
  |cons h t=>
   obtain⟨i,rfl,_⟩:=uc hp.1;cases h;rw[Ia,Ia,<-ih t hp.2];rfl
theorem IW{H:Hp}(ns:List Int):∀k,k+1<(ns.map V.int).length->∃x y,(ns.map V.int)[k]? =some x/\(ns.map V.int)[k+1]? =some y/\Yy K H x y (decide (ns.getD k 0<ns.getD (k+1) 0)):=fun k hk=>by
 rw[aM]at hk;have h1:k<ns.length:=by omega
 refine⟨.int (ns.getD k 0),.int (ns.getD (k+1) 0),by simp[h1],by simp[hk],.inl ⟨_,_,rfl,rfl,rfl⟩⟩
noncomputable def yJ(K:W.Frag):Sp:=fun vs H Q _=>∃(n:Int) (x:V) (d:θ),vs=[.int n,x]/\DX K H x d/\∀H',Same H H'->Q (.bl (dZ n d)) H'
theorem W7{f f1 f2:Addr}{fd d1 d2:ρ}(F:Fun K "is_set" "is_set" iM f fd)(D1:bK K mg "are_places" jx ["n","things"] f1 d1)(G1:FnOk P w K mg base CX0 3 f1 d1 ["n","things"] (yL K))(D2:bK K mg "is_rising" YM ["things"] f2 d2)(G2:FnOk P w K mg base CX0 1 f2 d2 ["things"] (tH K))(mi:mg "isinstance"=none)(mT:mg "tuple"=none):FnOk P w K mg base CX0 4 f fd ["n","thing"] (yJ K):=by
 refine F.cQ ["n","thing"] fun cdv A outer s H vs Q E hr h=> ?_;obtain⟨n,x,d,rfl,hx,q⟩:=h;refine⟨_,aP (bO (pe_and (pB QX mi (aj (pv 1) (aj (pN "tuple" mT) ak)))
  (pe_and (pc G1 hr D1 (aj (pv 0) (aj (pv 1) ak))) (pe_one (pc G2 hr D2 (aj (pv 1) ak)))))),?_⟩
 refine⟨_,rfl,x,_,_,rfl,hx.kind,.inr (.inr (.inl rfl)),_,rfl,?_⟩;refine ite2 (fun c=> ?_) (fun c=> ?_)
 ·cases hx with
  | @tup a xs ds h t=>
   refine⟨_,rfl,_,rfl,n,a,xs,ds,rfl,h,t,fun H1 sm=>⟨_,rfl,?_⟩⟩;refine ite2 (fun c2=> ?_) (fun c2=> ?_)
   ·have ex:=ints_of t c2;refine⟨_,rfl,a,xs,fun k=>decide ((ds.map intD).getD k 0<(ds.map intD).getD (k+1) 0),rfl,sm.tup h,?_,fun H2 sm2=> ?_⟩
    ·rw[ex];exact IW _
    ·have e:dZ n (.tuple ds)=(List.range (xs.length-1)).all fun k=>decide ((ds.map intD).getD k 0<(ds.map intD).getD (k+1) 0):=by
      show(ds.all (bx n)&&cM (ds.map intD))=_;rw[c2,t.len];show cM (ds.map intD)=_;unfold cM;rw[aM]
     have:=q H2 (sm.trans sm2);rw[e]at this;exact this
   ·have e:dZ n (.tuple ds)=false:=by
     show(ds.all (bx n)&&cM (ds.map intD))=_;rw[Bool.eq_false_iff.mpr c2];rfl
    have:=q H1 sm;rw[e]at this;exact this
  |_=>simp[wW,kI]at c
 ·have e:dZ n d=false:=by
   cases d<;>first |rfl|(exfalso;exact c rfl)
  have:=q H (Same.refl _);rw[e]at this;exact this
noncomputable def La(K:W.Frag):Sp:=fun vs H Q _=>∃(n:Int) (x:V) (d:θ),vs=[.int n,x]/\DX K H x d/\∀H',Same H H'->Q (.bl (oN n d)) H'
theorem Fz{H:Hp}{n:Int}{x:V}{d:θ}(h:DX K H x d)(ht:mX n d=true):∃p,x= .ref p/\SqT K H p (((kids d).map intD).map V.int):=by
 cases h with
 | @tup a xs ds h t=>
  have q:(ds.all (bx n)&&cM (ds.map intD)&&decide (ds.length=2))=true:=ht;rw[oM,oM]at q;exact⟨a,rfl,by rw[ints_of t q.1.1]at h;exact h⟩
 |_=>simp[mX,dZ]at ht
theorem IV{H:Hp}{n:Int}{xs:List V}{ds:List θ}(t:jg K H xs ds)(ha:ds.all (mX n)=true):∀k,k+1<xs.length->∃x y,xs[k]? =some x/\xs[k+1]? =some y/\
  Yy K H x y (HT.lexLt ((ds.map fun t=>(kids t).map intD).getD k []) ((ds.map fun t=>(kids t).map intD).getD (k+1) [])):=fun k hk=>by
 have hl:=t.len;have h1:k<xs.length:=by omega
 obtain⟨d1,e1,x1⟩:=t.get (i:=k) (x:=xs[k]) (by simp[h1]);obtain⟨d2,e2,x2⟩:=t.get (i:=k+1) (x:=xs[k+1]) (by simp[hk]);have m1:=oA.mp ha d1 (uT e1);have m2:=oA.mp ha d2 (uT e2);obtain⟨p1,q1,s1⟩:=Fz x1 m1;obtain⟨p2,q2,s2⟩:=Fz x2 m2;refine⟨xs[k],xs[k+1],by simp[h1],by simp[hk],.inr ⟨p1,p2,_,_,q1,q2,s1,s2,?_⟩⟩;have g1:(ds.map fun t=>(kids t).map intD).getD k []=(kids d1).map intD:=by rw[oK,fu,e1];rfl
 have g2:(ds.map fun t=>(kids t).map intD).getD (k+1) []=(kids d2).map intD:=by rw[oK,fu,e2];rfl
 rw[g1,g2]
theorem R9{f f1 f2:Addr}{fd d1 d2:ρ}(F:Fun K "are_ties" "are_ties" nH f fd)(D1:bK K mg "is_set" iM ["n","thing"] f1 d1)(G1:FnOk P w K mg base CX0 4 f1 d1 ["n","thing"] (yJ K))(D2:bK K mg "is_rising" YM ["things"] f2 d2)(G2:FnOk P w K mg base CX0 1 f2 d2 ["things"] (tH K))(mi:mg "isinstance"=none)(mT:mg "tuple"=none)(mA:mg "all"=none)(mL:mg "len"=none):FnOk P w K mg base CX0 5 f fd ["n","thing"] (La K):=by
 refine F.cQ ["n","thing"] fun cdv A outer s H vs Q E hr h=> ?_;obtain⟨n,x,d,rfl,hx,q⟩:=h;refine bw ?_;intro Y;refine⟨_,aJ (dN (rH (qd (pB QX mi (aj (pv 1) (aj (pN "tuple" mT) ak))))) (aP (bO pe_bl)) dW) (aP (bO (pe_and (pB (gF rfl) mA (aj (pK ["tie"] ["n"] [0] (JX (pv 1)) (pG 0) sX (pe_and (pc G1 hr D1 (aj (pv 1) (aj (pv 0) ak))) (pe_one (JW op_eq (pB (JL K) mL (aj (pv 0) ak)) aq)))) ak))
  (pe_one (pc G2 hr D2 (aj (pv 1) ak)))))),?_⟩
 refine mH ?_;intro c2;refine⟨_,rfl,x,_,_,rfl,hx.kind,.inr (.inr (.inl rfl)),_,rfl,?_⟩;refine ite2 (fun c=> ?_) (fun c=> ?_)
 ·have e:oN n d=false:=by
   cases d<;>first |rfl|(exfalso;simp[wW,kI]at c;done)
  have:=q H (Same.refl _);rw[e]at this;exact this
 ·cases hx with
  | @tup a xs ds h t=>
   refine⟨_,rfl,a,xs,rfl,h,fun hz=> ?_⟩;have hl:=t.len;let vp:Nat->List V->St->Hp->Prop:=fun i acc σ H'=>acc=((ds.take i).map (mX n)).map V.bl/\Same H H'/\∃o,σ=[o,some (.int n)];refine JZ (xs:=xs) vp ⟨rfl,Same.refl _,_,rfl⟩ (fun i acc σ H' _ p=>p.2.1.tup h) (fun i acc σ H' hi p=> ?_) hz (fun i x acc σ H' hx p=> ?_) (fun acc σ H' p=> ?_)
   ·rw[p.1];simp;omega
   ·obtain⟨rfl,sm,o,rfl⟩:=p;obtain⟨d,e1,e2⟩:=t.get hx;refine⟨_,rfl,_,rfl,n,x,d,rfl,DX.same sm e2,fun H1 sm1=>⟨_,rfl,?_⟩⟩;have ea:∀b,b=mX n d->((ds.take i).map (mX n)).map V.bl++[V.bl b]=((ds.take (i+1)).map (mX n)).map V.bl:=fun b hb=>by
     rw[Fq,e1,hb];simp
    refine ite2 (fun c2=> ?_) (fun c2=> ?_)
    ·cases e2 with
     | @tup a2 xs2 ds2 h2 t2=>
      refine⟨_,rfl,a2,xs2,rfl,.inr (sm1.tup (sm.tup h2)),fun hz2=>⟨rfl,ea _ ?_,sm.trans sm1,_,rfl⟩⟩;show decide (V.int (xs2.length:Int)=V.int 2)=(dZ n (.tuple ds2)&&decide (ds2.length=2));rw[c2,t2.len];by_cases e3:ds2.length=2
      ·rw[e3];rfl
      ·rw[lV e3,lV (by intro z;injection z with z;exact e3 (by omega))];rfl
     |_=>simp[dZ]at c2
    ·refine⟨ea _ ?_,sm.trans sm1,_,rfl⟩;show false=(dZ n d&&decide ((kids d).length=2));rw[Bool.eq_false_iff.mpr c2];rfl
   ·intro p1 hp1;obtain⟨rfl,sm,_⟩:=p;have sm':Same H (upd H' p1 (.lst (((ds.take xs.length).map (mX n)).map V.bl))):=sm.trans (aK hp1 _);refine⟨p1,(ds.map (mX n)),rfl,SqL.of (by rw[au,hl,yt]),_,rfl,?_⟩;rw[jd];refine ite2 (fun c2=> ?_) (fun c2=> ?_)
    ·refine⟨_,rfl,a,xs,fun k=>HT.lexLt ((ds.map fun t=>(kids t).map intD).getD k []) ((ds.map fun t=>(kids t).map intD).getD (k+1) []),rfl,sm'.tup h,?_,fun H2 sm2=> ?_⟩
     ·exact IV (jg.same sm' t) c2
     ·have e:oN n (.tuple ds)=(List.range (xs.length-1)).all fun k=>HT.lexLt ((ds.map fun t=>(kids t).map intD).getD k []) ((ds.map fun t=>(kids t).map intD).getD (k+1) []):=by
       show(ds.all (mX n)&&dG (ds.map fun t=>(kids t).map intD))=_;rw[c2,hl];show dG (ds.map fun t=>(kids t).map intD)=_;unfold dG;rw[aM]
      have:=q H2 (sm'.trans sm2);rw[e]at this;exact this
    ·have e:oN n (.tuple ds)=false:=by
      show(ds.all (mX n)&&dG (ds.map fun t=>(kids t).map intD))=_;rw[Bool.eq_false_iff.mpr c2];rfl
     have:=q _ sm';rw[e]at this;exact this
  |_=>exfalso;exact c rfl
end
end Hs
namespace oG
open PySem L2
noncomputable def pairD(p:Int×Int):θ:= .tuple [.int p.1,.int p.2]
noncomputable def fY(n:Int)(ts:L0):θ:= .tuple [.int n,.tuple (ts.map pairD)]
noncomputable def rO(K:W.Frag)(H:Hp)(a:Addr)(n:Int)(ts:L0):Prop:=∃t rs,SqT K H a [.int n,.ref t]/\SqT K H t rs/\cJ K H rs (ts.map pairD)
theorem rO.dv{K:W.Frag}{H:Hp}{a:Addr}{n:Int}{ts:L0}(h:rO K H a n ts):DV K H (.ref a) (fY n ts):=by
 obtain⟨t,rs,h1,h2,h3⟩:=h;exact .tup h1 (.cons (.int n) (.cons (.tup h2 h3) .nil))
theorem rO.same{K:W.Frag}{H H':Hp}{a:Addr}{n:Int}{ts:L0}(h:rO K H a n ts)(e:Same H H'):rO K H' a n ts:=by
 obtain⟨t,rs,h1,h2,h3⟩:=h;exact⟨t,rs,e.tup h1,e.tup h2,cJ.same e h3⟩
noncomputable def kJ(ts:L0)(i j:Int):Bool:=decide ((if j<i then j else i,if j>i then j else i)∈ts)
theorem kW(p q:Int×Int):PyData.eqv (pairD p) (pairD q)=decide (p=q):=by
 obtain⟨a,b⟩:=p;obtain⟨c,d⟩:=q;show((a==c)&&((b==d)&&true))=_;rw[was];simp
theorem iV:∀ts:L0,PyData.canLayAll0 (ts.map pairD)=true
 |[]=>rfl
 |p::ts=>by
  show(PyData.canLay0 (pairD p)&&PyData.canLayAll0 (ts.map pairD))=true;rw[iV ts];rfl
theorem uI(ts:L0)(q:Int×Int):((ts.map pairD).any fun d=>PyData.eqv d (pairD q))=decide (q∈ts):=by
 rw[List.any_map,was,List.any_eq_true];constructor
 ·rintro⟨p,hp,h⟩;have h':PyData.eqv (pairD p) (pairD q)=true:=h;rw[kW]at h';have e:p=q:=fM h';subst e;exact cX hp
 ·intro h;refine⟨q,fM h,?_⟩;show PyData.eqv (pairD q) (pairD q)=true;rw[kW];exact cX rfl
end oG
namespace Hs
open PySem L2 oG
section
variable{P:ξ}{w:τ}{K:W.Frag}{mg:L4}{base:Heap}
noncomputable def K8(K:W.Frag):Sp:=fun vs H Q _=>∃(x:V) (d:θ),vs=[x]/\DX K H x d/\∀H',Same H H'->Q (.bl (mW d)) H'
theorem WL{f f1 f2:Addr}{fd d1 d2:ρ}{tk:Tok}(F:Fun K "is_web" "is_web" o8 f fd)(D1:bK K mg "is_whole" YK ["thing"] f1 d1)(G1:FnOk P w K mg base CX0 1 f1 d1 ["thing"] (oO K))(D2:bK K mg "are_ties" nH ["n","thing"] f2 d2)(G2:FnOk P w K mg base CX0 5 f2 d2 ["n","thing"] (La K))(mi:mg "isinstance"=none)(mT:mg "tuple"=none)(mL:mg "len"=none)(mM:mg "MOST_PLACES"=some (.int 10 tk)):FnOk P w K mg base CX0 6 f fd ["thing"] (K8 K):=by
 refine F.cQ ["thing","n"] fun cdv A outer s H vs Q E hr h=> ?_;obtain⟨x,d,rfl,hx,q⟩:=h;refine bw ?_;intro Y;refine⟨_,aJ (dN (PW.pt (pw_or (rH (qd (pB QX mi (aj (pv 0) (aj (pN "tuple" mT) ak)))))
   (pw_or1 (dg op_ne (pB v7 mL (aj (pv 0) ak)) aq)))) (aP (bO pe_bl)) dW) (aJ (pS 1 (bf cW (pv 0) aq)) (aP (bO (pe_and (pc G1 hr D1 (aj (pv 1) ak)) (pe_and (pe_chain op_le op_le aq (pv 1) (Fj rfl mM (v:= .int 10) ⟨_,rfl⟩))
   (pe_one (pc G2 hr D2 (aj (pv 1) (aj (bf cW (pv 0) aq) ak))))))))),?_⟩
 refine mF ?_;intro c3 c2;refine⟨_,rfl,x,_,_,rfl,hx.kind,.inr (.inr (.inl rfl)),_,rfl,?_⟩;refine ite2 (fun c=> ?_) (fun c=> ?_)
 ·have e:mW d=false:=by
   cases d<;>first |rfl|(exfalso;simp[wW,kI]at c;done)
  have:=q H (Same.refl _);rw[e]at this;exact this
 ·cases hx with
  | @tup a xs ds h t=>
   have hl:=t.len;refine⟨_,rfl,a,xs,rfl,.inr h,fun hz=>⟨rfl,_,rfl,?_⟩⟩;refine ite2 (fun c2=> ?_) (fun c2=> ?_)
   ·have e:mW (.tuple ds)=false:=by
     match ds,hl with
     |[],_=>rfl
     |[_],_=>rfl
     |[_,_],hl=>
      exfalso;have e2:(!decide (V.int (xs.length:Int)=V.int 2))=true:=c2;rw[hl]at e2;simp at e2
     |_::_::_::_,_=>rfl
    have:=q H (Same.refl _);rw[e]at this;exact this
   ·have e2:xs.length=2:=by
     have e2:¬(!decide (V.int (xs.length:Int)=V.int 2))=true:=c2;simp at e2;omega
    cases t with
    |nil=>simp at e2
    |cons h0 t0=>
     cases t0 with
     |nil=>simp at e2
     | @cons x1 Zi xs1 ds1 h1 t1=>
      cases t1 with
      |cons _ _=>simp at e2
      |nil=>
       rename_i x0 Zj;refine⟨_,rfl,a,_,_,x0,rfl,rfl,h,by rfl,?_⟩;refine⟨_,rfl,x0,Zj,rfl,h0,_,rfl,?_⟩;refine ite2 (fun c3=> ?_) (fun c3=> ?_)
       ·cases h0 with
        |int n=>
         refine⟨_,rfl,_,_,rfl,rfl,_,rfl,?_⟩;have fin:∀b,b=mW (.tuple [.int n,Zi])->∀H',Same H H'->Q (.bl b) H':=fun b hb H' sm=>by rw[hb];exact q H' sm
         have wd:mW (.tuple [.int n,Zi])=((decide (0<=n)&&decide (n<=10))&&oN n Zi):=rfl;refine ite2 (fun c4=> ?_) (fun c4=> ?_)
         ·refine⟨_,_,rfl,rfl,_,rfl,?_⟩;refine ite2 (fun c5=> ?_) (fun c5=> ?_)
          ·refine⟨_,rfl,_,rfl,a,_,_,x1,rfl,rfl,h,by rfl,n,x1,Zi,rfl,h1,fun H' sm=>fin _ ?_ H' sm⟩;rw[wd,c4,c5];rfl
          ·refine fin _ ?_ H (Same.refl _);rw[wd,Bool.eq_false_iff.mpr c5,Bool.and_false];rfl
         ·refine⟨_,rfl,?_⟩;refine iteF (fin _ ?_ H (Same.refl _));rw[wd,Bool.eq_false_iff.mpr c4];rfl
        |_=>simp[fX]at c3
       ·have e:mW (.tuple [Zj,Zi])=false:=by
         show(fX Zj&&(decide (0<=intD Zj)&&decide (intD Zj<=10))&&oN (intD Zj) Zi)=false;rw[Bool.eq_false_iff.mpr c3];rfl
        have:=q H (Same.refl _);rw[e]at this;exact this
  |_=>exfalso;exact c rfl
noncomputable def fO(K:W.Frag):Sp:=fun vs H Q _=>∃(x:V) (d:θ),vs=[x]/\DX K H x d/\mW d=true/\∀H',Same H H'->Q .non H'
theorem Ci{f f1:Addr}{fd d1:ρ}(F:Fun K "need_web" "need_web" Q8 f fd)(D1:bK K mg "is_web" o8 ["thing"] f1 d1)(G1:FnOk P w K mg base CX0 6 f1 d1 ["thing"] (K8 K)):FnOk P w K mg base CX0 7 f fd ["thing"] (fO K):=by
 refine F.cQ ["thing"] fun cdv A outer s H vs Q E hr h=> ?_;obtain⟨x,d,rfl,hx,hw,q⟩:=h;refine⟨_,aP (dN (rH (qd (pc G1 hr D1 (aj (pv 0) ak)))) vG dW),?_⟩;refine⟨_,rfl,x,d,rfl,hx,fun H' sm=>⟨_,rfl,?_⟩⟩;rw[hw];exact iteF (q H' sm)
noncomputable def qX(K:W.Frag):Sp:=fun vs H Q _=>∃(a:Addr) (n i j:Int) (ts:L0),vs=[.ref a,.int i,.int j]/\rO K H a n ts/\∀H',Same H H'->Q (.bl (kJ ts i j)) H'
theorem Xd{f:Addr}{fd:ρ}(F:Fun K "has_tie" "has_tie" UJ f fd)(mi:mg "min"=none)(ma:mg "max"=none):FnOk P w K mg base CX0 1 f fd ["web","one","other"] (qX K):=by
 refine F.cQ ["web","one","other"] fun cdv A outer s H vs Q E hr h=> ?_;obtain⟨a,n,i,j,ts,rfl,hW,q⟩:=h;refine⟨_,aP (bO (JW (wI hr.units) (fV (aj (pB (call_min2 rfl) mi (aj (pv 1) (aj (pv 2) ak))) (aj (pB (call_max2 rfl) ma (aj (pv 1) (aj (pv 2) ak))) ak)))
  (bf cW (pv 0) aq) (by with_unfolding_all rfl))),?_⟩
 refine⟨_,rfl,_,rfl,_,_,rfl,_,rfl,_,rfl,_,_,rfl,(by show 2<=sizeLine;decide),fun p hp=> ?_⟩;have sm:=aK hp (.tup [.int (if j<i then j else i),.int (if j>i then j else i)]);obtain⟨t,rs,h1,h2,h3⟩:=hW.same sm;refine⟨_,rfl,a,_,_,.ref t,rfl,rfl,h1,rfl,t,rs,_,pairD (if j<i then j else i,if j>i then j else i),rfl,.inr h2,h3,.tup (SqT.of au) (.cons (.int _) (.cons (.int _) .nil)),iV ts,rfl,(by show max 0 (max 0 0)+1<=60;decide),?_⟩;rw[uI];exact q _ sm
end
noncomputable def Ao(n:Int)(ts:L0):Prop:=mW (fY n ts)=true
end Hs
namespace L2
open PySem
noncomputable def aA(t:Addr)(H H':Hp):Prop:=∀b o,b≠t->H b=some o->H' b=some o
theorem aA.refl(t:Addr)(H:Hp):aA t H H:=fun _ _ _ h=>h
theorem aA.trans{t:Addr}{H H1 H2:Hp}(a:aA t H H1)(b:aA t H1 H2):aA t H H2:=fun c o n h=>b c o n (a c o n h)
noncomputable def rP(K:W.Frag)(H:Hp)(bh:Addr)(ns:List Int):Prop:=(∃o,H bh=some (.frz o (.lst (ns.map V.int))))\/
 ∃(o:Obj) (its:Array ζ) (n:Nat),K.lookup bh=some o/\o.cls= .type "list"/\o.dict=none/\o.data= .seq its n/\its.size<=sizeLine/\Vals (ns.map V.int) its.toList
theorem rP.same{K:W.Frag}{H H':Hp}{bh:Addr}{ns:List Int}(h:rP K H bh ns)(e:Same H H'):rP K H' bh ns:=by
 rcases h with⟨o,h⟩|h
 ·exact .inl ⟨o,e _ _ h⟩
 ·exact .inr h
theorem QB:∀ns:List Int,PyData.canLayAll0 (ns.map PyData.int)=true
 |[]=>rfl
 |n::ns=>by
  show(true&&PyData.canLayAll0 (ns.map PyData.int))=true;rw[QB ns];rfl
theorem aA.free{t:Addr}{H H':Hp}{a:Addr}(e:aA t H H')(n:a≠t)(h:H' a=none):H a=none:=by
 cases q:H a with
 |none=>rfl
 |some o=>rw[e a o n q]at h;cases h
theorem cJ.append{K:W.Frag}{H:Hp}{xs ys:List V}{ds es:List θ}(h:cJ K H xs ds)(h':cJ K H ys es):cJ K H (xs++ys) (ds++es):=
 cJ.rec (motive_1:=fun _ _ _=>True) (motive_2:=fun xs ds _=>cJ K H (xs++ys) (ds++es)) trivial (fun _=>trivial) (fun _=>trivial) (fun _=>trivial) (fun _ _ _=>trivial) (fun _ _ _=>trivial) (fun _=>trivial) (fun _ _=>trivial) h' (fun h _ _ t=> .cons h t) h
theorem aA.tup{K:W.Frag}{t:Addr}{H H':Hp}{a:Addr}{xs zs:List V}(e:aA t H H')(n:H t=some (.lst zs))(h:SqT K H a xs):SqT K H' a xs:=by
 rcases h with(h|⟨o,h⟩)|h
 ·exact .inl (.inl (e _ _ (ne_of h n (by intro z;cases z)) h))
 ·exact .inl (.inr ⟨o,e _ _ (ne_of h n (by intro z;cases z)) h⟩)
 ·exact .inr h
end L2
namespace oG
open PySem L2
theorem gR{K:W.Frag}{t:Addr}{H H':Hp}{zs:List V}(e:aA t H H')(n:H t=some (.lst zs)){rs:List V}{ps:L0}(h:cJ K H rs (ps.map pairD)):cJ K H' rs (ps.map pairD):=by
 induction ps generalizing rs with
 |nil=>cases h;exact .nil
 |cons p ps ih=>
  cases h with
  |cons h tl=>
   refine .cons ?_ (ih tl);cases h with
   |tup h hd=>
    cases hd with
    |cons a1 t1=>
     cases a1;cases t1 with
     |cons a2 t2=>
      cases a2;cases t2;exact .tup (e.tup n h) (.cons (.int _) (.cons (.int _) .nil))
structure Sub(j:Nat)(l:List Int):Prop where
 nd:l.Nodup
 lt:∀i∈l,0<=i/\i<(j:Int)
theorem iT{α:Type} [DecidableEq α]:∀{l m:List α},l.Nodup->(∀a∈l,a∈m)->l.length<=m.length
 |[],m,_,_=>dF _
 |a::l,m,nd,h=>by
  have ha:=h a jG;have nd':=QG.mp nd;have q:∀b∈l,b∈m.erase a:=fun b hb=>by
   have hne:b≠a:=fun e=>nd'.1 (e▸hb);exact(List.mem_erase_of_ne hne).mpr (h b (jW _ hb))
  have:=iT nd'.2 q;have e:=List.length_erase_of_mem ha;have:0<m.length:=wcf ha;simp only[Bl];omega
theorem Sub.len{j:Nat}{l:List Int}(h:Sub j l):l.length<=j:=by
 have q:=iT (m:=(List.range j).map fun(k:Nat)=>(k:Int)) h.nd fun i hi=>by
  have:=h.lt i hi;exact oJ.mpr ⟨i.toNat,sy.mpr (by omega),by omega⟩
 simpa using q
structure aO(n:Int)(ps:L0):Prop where
 nd:ps.Nodup
 lt:∀p∈ps,0<=p.1/\p.1<p.2/\p.2<n
noncomputable def abb(n:Nat):L0:=((List.range n).map fun(j:Nat)=>(List.range j).map fun(i:Nat)=>((i:Int),(j:Int))).flatten
theorem pairs_len{n:Int}{ps:L0}(h:aO n ps)(hn:n<=10):ps.length<=45:=by
 have q:=iT (m:=abb 10) h.nd fun p hp=>by
  obtain⟨h0,h1,h2⟩:=h.lt p hp;obtain⟨a,b⟩:=p;dsimp only at h0 h1 h2;refine List.mem_flatten.mpr ⟨(List.range b.toNat).map fun(i:Nat)=>((i:Int),((b.toNat:Nat):Int)),oJ.mpr ⟨b.toNat,sy.mpr (by omega),rfl⟩,oJ.mpr ⟨a.toNat,sy.mpr (by omega),?_⟩⟩;have e1:((a.toNat:Nat):Int)=a:=by omega
  have e2:((b.toNat:Nat):Int)=b:=by omega
  rw[e1,e2]
 have e:(abb 10).length=45:=by decide
 omega
noncomputable def pl(p:Int×Int):List Int:=[p.1,p.2]
noncomputable def bQ(ts:L0)(i j:Int):Bool:=decide ((i,j)∈ts)||decide ((j,i)∈ts)
theorem tied_eq{n:Int}{ts:L0}(h:aO n ts)(i j:Int):kJ ts i j=bQ ts i j:=by
 unfold kJ bQ;have no:∀{a b:Int},b<=a->decide ((a,b)∈ts)=false:=fun{a b} hab=>lV fun hm=>by
  have:=(h.lt _ hm).2.1;dsimp only at this;omega
 rcases Int.lt_trichotomy i j with c|c|c
 ·rw[aB (show¬j<i by omega),aH (show j>i by omega),no (show i<=j by omega),Bool.or_false]
 ·subst c;rw[aB (show¬i<i by omega),Bool.or_self]
  try rw[aB (show¬i>i by omega)]
 ·rw[aH (show j<i by omega),aB (show¬j>i by omega),no (show j<=i by omega),Bool.false_or]
end oG
namespace Hs
open PySem L2 oG
noncomputable def jL(p q:Int×Int):Prop:=p.1<q.1\/(p.1=q.1/\p.2<q.2)
theorem jL.trans{p q r:Int×Int}(a:jL p q)(b:jL q r):jL p r:=by
 unfold jL at *;omega
theorem Hg{p q:Int×Int}(h:HT.lexLt (pl p) (pl q)=true):jL p q:=by
 rw[HT.bN]at h;have:=fM h;unfold pl at this;rw[ydi]at this;rcases this with a|⟨a,b⟩
 ·exact .inl a
 ·rw[ydi]at b;rcases b with b|⟨_,b⟩
  ·exact .inr ⟨a,b⟩
  ·exact absurd b (by simp)
theorem rK{l:L0}(h:∀k,(hk:k+1<l.length)->jL l[k] l[k+1]):l.Pairwise jL:=by
 rw[U8];intro i j hi hj hij;have go:∀d:Nat,(hd:i+1+d<l.length)->jL l[i] l[i+1+d]:=by
  intro d
  induction d with
  |zero=>intro hd;exact h i hd
  |succ d ih=>intro hd;exact(ih (by omega)).trans (h (i+1+d) hd)
 have e:j=i+1+(j-i-1):=by omega
 have:=go (j-i-1) (by omega);simpa[<-e]using this
theorem Bm{n:Int}{ts:L0}(h:Ao n ts):ts.Pairwise jL:=by
 have h1:oN n (.tuple (ts.map pairD))=true:=by
  unfold Ao fY mW at h;rw[oM]at h;exact h.2
 unfold oN at h1;rw[oM]at h1;have h2:=h1.2;unfold dG at h2;rw[oA]at h2;refine rK fun k hk=> ?_;have e:(List.map (fun t=>(kids t).map intD) (ts.map pairD))=ts.map pl:=by
  rw[v8];rfl
 rw[e,aM]at h2;have h3:=h2 k (by rw[sy];omega);have g:∀j,(hj:j<ts.length)->(ts.map pl).getD j []=pl ts[j]:=fun j hj=>by
  rw[oK,fu,fL hj];rfl
 rw[g k (by omega),g (k+1) hk]at h3;exact Hg h3
noncomputable def row(so:Int->Int->Bool)(i:Int)(k:Nat):L0:=((List.range k).map fun(t:Nat)=>(i,i+1+(t:Int))).filter fun p=>so p.1 p.2
noncomputable def rows(so:Int->Int->Bool)(m:Int)(i:Nat):L0:=((List.range i).map fun(t:Nat)=>row so (0+(t:Int)) (m-(0+(t:Int)+1)).toNat).flatten
end Hs
namespace L2
open PySem
theorem cJ.get'{K:W.Frag}{H:Hp}:∀{xs:List V} {ds:List θ} {i:Nat},cJ K H xs ds->i<ds.length->∃x d,xs[i]? =some x/\ds[i]? =some d/\DV K H x d
 |_,_,i,.nil,h=>by simp at h
 |_,_,0,.cons h _,_=>⟨_,_,rfl,rfl,h⟩
 |_,_,i+1,.cons _ t,h=>by
  obtain⟨x,d,h1,h2,h3⟩:=cJ.get' (i:=i) t (by simpa using h);exact⟨x,d,by simpa using h1,by simpa using h2,h3⟩
end L2
namespace Hs
open PySem L2 oG
structure aQ(K:W.Frag)(H:Hp)(a:Addr)(n:Int)(ts:L0):Prop where
 web:rO K H a n ts
 h0:0<=n
 h1:n<=10
 pk:aO n ts
 ok:Ao n ts
theorem aQ.same{K:W.Frag}{H H':Hp}{a:Addr}{n:Int}{ts:L0}(h:aQ K H a n ts)(e:Same H H'):aQ K H' a n ts:=⟨h.web.same e,h.h0,h.h1,h.pk,h.ok⟩
theorem aQ.len{K:W.Frag}{H:Hp}{a:Addr}{n:Int}{ts:L0}(h:aQ K H a n ts):ts.length<=45:=pairs_len h.pk h.h1
theorem aQ.FW{K:W.Frag}{H:Hp}{a:Addr}{n:Int}{ts:L0}(h:aQ K H a n ts):ts.Pairwise jL:=Bm h.ok
theorem Gu{K:W.Frag}{H:Hp}{rs:List V}{ps:L0}{i:Nat}{x:V}(h:cJ K H rs (ps.map pairD))(hx:rs[i]? =some x):∃(t:Addr) (hi:i<ps.length),x= .ref t/\SqT K H t [.int (ps[i]).1,.int (ps[i]).2]:=by
 have hlen:=h.len;rw[aM]at hlen;have hi:i<ps.length:=by rw[<-hlen];exact(oF.mp hx).1
 obtain⟨x',d,e1,e2,e3⟩:=cJ.get' (i:=i) h (by rw[aM];exact hi);rw[hx]at e1;cases e1;rw[fu,fL hi]at e2;cases e2;cases e3 with
 |tup hp tp=>
  cases tp with
  |cons ta tb=>
   cases tb with
   |cons tc td=>
    cases td;cases ta;cases tc;exact⟨_,hi,rfl,hp⟩
noncomputable def g8(K:W.Frag)(H:Hp)(l:Addr)(R:L0)(P:Int×Int->Prop):Prop:=∃(rs:List V) (ts:L0),H l=some (.lst rs)/\cJ K H rs (ts.map pairD)/\ts.Sublist R/\∀p∈ts,P p
theorem g8.nil{K:W.Frag}{H:Hp}{l:Addr}{R:L0}{P:Int×Int->Prop}(h:H l=some (.lst [])):g8 K H l R P:=⟨[],[],h,.nil,List.nil_sublist _,fun p hp=>(nomatch hp)⟩
theorem g8.step{K:W.Frag}{H H':Hp}{l c:Addr}{R:L0}{P:Int×Int->Prop}{zs:List V}(h:g8 K H l R P)(e:aA c H H')(hc:H c=some (.lst zs))(n:l≠c):g8 K H' l R P:=by
 obtain⟨rs,ts,h1,h2,h3⟩:=h;exact⟨rs,ts,e _ _ n h1,gR e hc h2,h3⟩
theorem g8.mono{K:W.Frag}{H:Hp}{l:Addr}{R R':L0}{P:Int×Int->Prop}(h:g8 K H l R P)(e:R.Sublist R'):g8 K H l R' P:=by
 obtain⟨rs,ts,h1,h2,h3,h4⟩:=h;exact⟨rs,ts,h1,h2,h3.trans e,h4⟩
structure cg(n:Int)(xs:List Int):Prop where
 FW:xs.Pairwise (· < ·)
 lt:∀x∈xs,0<=x/\x<n
theorem cg.nil(n:Int):cg n []:=⟨.nil,fun _ h=>nomatch h⟩
theorem cg.len{n:Int}{xs:List Int}(h:cg n xs)(hn:n<=10):xs.length<=10:=by
 have h1:Sub n.toNat xs:=⟨h.FW.imp fun h e=>by omega,fun i hi=>by have:=h.lt i hi;omega⟩;have:=h1.len;omega
end Hs
namespace Hs
open oG
noncomputable def inB(xs:List Int)(p:Int×Int):Bool:=decide (p.1∈xs)&&decide (p.2∈xs)
end Hs
namespace Hs
noncomputable def ff:Nat->Nat
 |0=>1
 |1=>1
 |2=>2
 |3=>3
 |4=>4
 |5=>6
 |6=>9
 |7=>12
 |8=>18
 |9=>27
 |_=>36
theorem xr:∀m n:Nat,m<=n->n<=10->ff m<=ff n:=by
 have h:∀n:Fin 11,∀m:Fin 11,m.val<=n.val->ff m.val<=ff n.val:=by decide
 intro m n hm hn;exact h ⟨n,by omega⟩ ⟨m,by omega⟩ hm
theorem Uk:∀n d:Nat,0<d->d<=n->n<=10->d*ff (n-d)<=ff n:=by
 have h:∀n:Fin 11,∀d:Fin 11,0<d.val->d.val<=n.val->d.val*ff (n.val-d.val)<=ff n.val:=by decide
 intro n d h0 hd hn;exact h ⟨n,by omega⟩ ⟨d,by omega⟩ h0 hd
structure Full(r:Int->Int->Bool)(V:List Int)(s:List Int):Prop where
 up:s.Pairwise (· < ·)
 sub:∀x∈s,x∈V
 ind:∀x∈s,∀y∈s,x≠y->r x y=false
 max:∀v∈V,v∉s->∃x∈s,r x v=true
theorem zO(g:Int->Nat):∀V:List Int,V≠[]->∃v∈V,∀u∈V,g v<=g u
 |[],h=>absurd rfl h
 |[x],_=>⟨x,by simp,fun u hu=>by rw[oE.mp hu];exact aW _⟩
 |x::y::V,_=>by
  obtain⟨v,hv,hm⟩:=zO g (y::V) (by simp);by_cases c:g x<=g v
  ·refine⟨x,by simp,fun u hu=> ?_⟩;rcases cZ.mp hu with e|e
   ·rw[e];exact aW _
   ·exact dD c (hm u e)
  ·refine⟨v,jW _ hv,fun u hu=> ?_⟩;rcases cZ.mp hu with e|e
   ·rw[e];omega
   ·exact hm u e
theorem nQ{α:Type}(p:α->Bool):∀l:List α,(l.filter p).length+(l.filter fun x=> !p x).length=l.length
 |[]=>rfl
 |x::l=>by
  have ih:=nQ p l;rw[Ib,Ib];cases p x<;>simp <;>omega
theorem vX{α β:Type}(p:β->α->Bool)(m:Nat):∀(us:List β) (fs:List α),(∀s∈fs,∃u∈us,p u s=true)->(∀u∈us,∀gs:List α,gs.Sublist fs->(∀s∈gs,p u s=true)->gs.length<=m)->fs.length<=us.length*m
 |[],fs,h,_=>by
  cases fs with
  |nil=>simp
  |cons s fs=>obtain⟨u,hu,_⟩:=h s (by simp);cases hu
 |u::us,fs,h,hm=>by
  have e:=nQ (p u) fs;have a:=hm u (by simp) (fs.filter (p u)) wdb (fun s hs=>(gP.mp hs).2);have b:=vX p m us (fs.filter fun x=> !p u x) (fun s hs=>by
   obtain⟨h1,h2⟩:=gP.mp hs;obtain⟨w,hw,hp⟩:=h s h1;rcases cZ.mp hw with z|z
   ·rw[z]at hp;rw[hp]at h2;cases h2
   ·exact⟨w,z,hp⟩) (fun w hw gs hg hp=>hm w (jW _ hw) gs (hg.trans wdb) hp)
  rw[Bl,Nat.succ_mul];omega
theorem Fx:∀{xs ys:List Int},xs.Pairwise (· < ·)->ys.Pairwise (· < ·)->(∀k,k∈xs↔k∈ys)->xs=ys
 |[],[],_,_,_=>rfl
 |[],y::ys,_,_,h=>by have:=(h y).mpr (by simp);simp at this
 |x::xs,[],_,_,h=>by have:=(h x).mp (by simp);simp at this
 |x::xs,y::ys,hx,hy,h=>by
  rw[YW]at hx hy;have e:x=y:=by
   have a:=(h x).mp (by simp);have b:=(h y).mpr (by simp);rcases cZ.mp a with a|a
   ·exact a
   ·rcases cZ.mp b with b|b
    ·exact b.symm
    ·have:=hy.1 x a;have:=hx.1 y b;omega
  subst e;rw[Fx hx.2 hy.2 fun k=> ?_];constructor
  ·intro hk;rcases cZ.mp ((h k).mp (jW _ hk))with a|a
   ·have:=hx.1 k hk;omega
   ·exact a
  ·intro hk;rcases cZ.mp ((h k).mpr (jW _ hk))with a|a
   ·have:=hy.1 k hk;omega
   ·exact a
theorem qJ{α β:Type}{g:α->β}:∀{l:List α},l.Nodup->(∀a∈l,∀b∈l,g a=g b->a=b)->(l.map g).Nodup
 |[],_,_=>List.nodup_nil
 |a::l,h,hi=>by
  rw[QG]at h;rw[Ia,QG];refine⟨fun hm=> ?_,qJ h.2 fun x hx y hy=>hi x (jW _ hx) y (jW _ hy)⟩;obtain⟨b,hb,e⟩:=oJ.mp hm;have:=hi b (jW _ hb) a (by simp) e;rw[this]at hb;exact h.1 hb
noncomputable def bU(r:Int->Int->Bool)(v u:Int):Bool:=decide (u=v)||r u v
theorem DQ{r:Int->Int->Bool}(sym:∀i j,r i j=r j i):∀(n:Nat) (V:List Int),V.length=n->n<=10->∀fs:List (List Int),fs.Nodup->(∀s∈fs,Full r V s)->fs.length<=ff n:=by
 intro n
 induction n using Nat.strongRecOn with
 |ind n ih=>
  intro V hV hn fs nd hf;by_cases hz:V=[]
  ·have e:∀s∈fs,s=[]:=fun s hs=>by
    cases s with
    |nil=>rfl
    |cons x s=>have:=(hf _ hs).sub x (by simp);rw[hz]at this;cases this
   have l1:fs.length<=1:=by
    match fs,nd,e with
    |[],_,_=>simp
    |[_],_,_=>simp
    |a::b::fs,nd,e=>
     exfalso;rw[QG]at nd;apply nd.1;rw[e a (by simp),e b (by simp)];simp
   have:1<=ff n:=by
    have:=xr 0 n (dF _) hn;exact this
   omega
  obtain⟨v,hv,hmin⟩:=zO (fun u=>(V.filter (bU r u)).length) V hz;have key:=vX (fun(u:Int) (s:List Int)=>decide (u∈s)) (ff (n-(V.filter (bU r v)).length)) (V.filter (bU r v)) fs (fun s hs=> ?_) (fun u hu gs hg hp=> ?_)
  ·have hle:(V.filter (bU r v)).length<=n:=by rw[<-hV];exact yp _ _
   have hpos:0<(V.filter (bU r v)).length:=wcf (gP.mpr ⟨hv,by unfold bU;simp⟩);exact dD key (Uk n _ hpos hle hn)
  ·by_cases c:v∈s
   ·exact⟨v,gP.mpr ⟨hv,by unfold bU;simp⟩,cX c⟩
   ·obtain⟨x,hx,hr⟩:=(hf s hs).max v hv c;exact⟨x,gP.mpr ⟨(hf s hs).sub x hx,by unfold bU;rw[hr];simp⟩,cX hx⟩
  ·have huV:u∈V:=(gP.mp hu).1;have fg:∀s∈gs,Full r V s/\u∈s:=fun s hs=>⟨hf s (hg.subset hs),fM (hp s hs)⟩;have hle:(V.filter (bU r u)).length<=n:=by rw[<-hV];exact yp _ _
   have hge:=hmin u huV;have hpos:0<(V.filter (bU r u)).length:=wcf (gP.mpr ⟨huV,by unfold bU;simp⟩);have hV2:(V.filter fun x=> !bU r u x).length=n-(V.filter (bU r u)).length:=by have:=nQ (bU r u) V;omega
   have Cv:∀(s:List Int) (x:Int),x∈s.filter (fun x=> !decide (x=u))↔x∈s/\x≠u:=fun s x=>by rw[gP];simp
   have h1:=ih (n-(V.filter (bU r u)).length) (by omega) (V.filter fun x=> !bU r u x) hV2 (by omega) (gs.map fun s=>s.filter fun x=> !decide (x=u)) (qJ (nd.sublist hg) fun s hs t ht e=> ?_) (fun t ht=> ?_)
   ·rw[aM]at h1;exact dD h1 (xr _ _ (by omega) (by omega))
   ·obtain⟨a1,a2⟩:=fg s hs;obtain⟨b1,b2⟩:=fg t ht;refine Fx a1.up b1.up fun k=> ?_;have hk:k∈s.filter (fun x=> !decide (x=u))↔k∈t.filter (fun x=> !decide (x=u)):=by rw[show s.filter (fun x=> !decide (x=u))=t.filter (fun x=> !decide (x=u))from e]
    rw[Cv,Cv]at hk;by_cases c:k=u
    ·rw[c];exact⟨fun _=>b2,fun _=>a2⟩
    ·exact⟨fun z=>(hk.mp ⟨z,c⟩).1,fun z=>(hk.mpr ⟨z,c⟩).1⟩
   ·obtain⟨s,hs,rfl⟩:=oJ.mp ht;obtain⟨a1,a2⟩:=fg s hs;refine⟨a1.up.sublist wdb,fun x hx=> ?_,fun x hx y hy=> ?_,fun w hw hn=> ?_⟩
    ·obtain⟨x1,x2⟩:=(Cv s x).mp hx;refine gP.mpr ⟨a1.sub x x1,?_⟩;unfold bU;rw[a1.ind x x1 u a2 x2,lV x2];rfl
    ·exact a1.ind x ((Cv s x).mp hx).1 y ((Cv s y).mp hy).1
    ·obtain⟨w1,w2⟩:=gP.mp hw;have w3:bU r u w=false:=by simpa using w2
     unfold bU at w3;rw[Bool.or_eq_false_iff]at w3;have wu:w≠u:=Kf w3.1;have ws:w∉s:=fun z=>hn ((Cv s w).mpr ⟨z,wu⟩);obtain⟨x,hx,hr⟩:=a1.max w w1 ws;have xu:x≠u:=fun z=>by rw[z,sym u w,w3.2]at hr;cases hr
     exact⟨x,(Cv s x).mpr ⟨hx,xu⟩,hr⟩
end Hs
namespace Hs
open PySem oG
noncomputable def rng(n:Nat):List Int:=(List.range n).map fun k=>((k:Nat):Int)
theorem gY{n:Nat}{x:Int}:x∈rng n↔0<=x/\x<(n:Int):=by
 unfold rng;rw[oJ];constructor
 ·rintro⟨k,hk,rfl⟩;have:=sy.mp hk;omega
 ·rintro⟨h0,h1⟩;exact⟨x.toNat,sy.mpr (by omega),by omega⟩
theorem Q7(ts:L0)(i j:Int):bQ ts i j=bQ ts j i:=by unfold bQ;rw[Bool.or_comm]
noncomputable def goB(ts:L0)(w:Bool)(s:List Int)(p:Int):Bool:=s.all fun q=>bQ ts p q==w
noncomputable def bM(ts:L0)(w:Bool):Nat->List (List Int)
 |0=>[[]]
 |k+1=>bM ts w k++((bM ts w k).filter fun s=>goB ts w s (k:Int)).map fun s=>s++[(k:Int)]
noncomputable def pJ(ts:L0)(w:Bool)(n:Nat)(s:List Int):Bool:= !((rng n).any fun p=> !decide (p∈s)&&goB ts w s p)
noncomputable def kO(ts:L0)(w:Bool)(n:Nat):List (List Int):=(bM ts w n).filter (pJ ts w n)
structure uK(ts:L0)(w:Bool)(k:Nat)(s:List Int):Prop where
 up:s.Pairwise (· < ·)
 lt:∀x∈s,0<=x/\x<(k:Int)
 all:∀x∈s,∀y∈s,x≠y->(bQ ts x y==w)=true
theorem nA{ts:L0}{w:Bool}:∀(k:Nat) (s:List Int),s∈bM ts w k->uK ts w k s
 |0,s,h=>by
  rw[oE.mp (show s∈[[]]from h)];exact⟨List.Pairwise.nil,fun x hx=>(nomatch hx),fun x hx=>(nomatch hx)⟩
 |k+1,s,h=>by
  rcases qg.mp (show s∈bM ts w k++((bM ts w k).filter fun s=>goB ts w s (k:Int)).map fun s=>s++[(k:Int)]from h)with q|q
  ·have S:=nA k s q;exact⟨S.up,fun x hx=>by have:=S.lt x hx;omega,S.all⟩
  ·obtain⟨t,ht,rfl⟩:=oJ.mp q;obtain⟨t1,t2⟩:=gP.mp ht;have S:=nA k t t1;have g:∀y∈t,(bQ ts (k:Int) y==w)=true:=fun y hy=>oA.mp t2 y hy;refine⟨?_,fun x hx=> ?_,fun x hx y hy hne=> ?_⟩
   ·rw[ZK];refine⟨S.up,Y0 _ _,fun x hx y hy=> ?_⟩;rw[oE.mp hy];exact(S.lt x hx).2
   ·rcases qg.mp hx with z|z
    ·have:=S.lt x z;omega
    ·rw[oE.mp z];omega
   ·rcases qg.mp hx with z|z
    ·rcases qg.mp hy with z'|z'
     ·exact S.all x z y z' hne
     ·rw[oE.mp z',Q7];exact g x z
    ·rw[oE.mp z]at hne⊢;rcases qg.mp hy with z'|z'
     ·exact g y z'
     ·exact absurd (oE.mp z').symm hne
theorem jj{ts:L0}{w:Bool}:∀k:Nat,(bM ts w k).Nodup
 |0=>by show([[]]:List (List Int)).Nodup;simp
 |k+1=>by
  show(bM ts w k++((bM ts w k).filter fun s=>goB ts w s (k:Int)).map fun s=>s++[(k:Int)]).Nodup;refine List.nodup_append.mpr ⟨jj k,qJ ((jj k).filter _) (fun a _ b _ e=>List.append_cancel_right e),fun a ha b hb e=> ?_⟩;obtain⟨t,_,rfl⟩:=oJ.mp hb;have:=(nA k a ha).lt (k:Int) (by rw[e];simp);omega
theorem yS{ts:L0}{w:Bool}:∀k:Nat,(bM ts w k).length<=2^k
 |0=>aW _
 |k+1=>by
  show(bM ts w k++((bM ts w k).filter fun s=>goB ts w s (k:Int)).map fun s=>s++[(k:Int)]).length<=2^(k+1);rw[rJ,aM,Nat.pow_succ];have a:=yS (ts:=ts) (w:=w) k;have b:=yp (fun s=>goB ts w s (k:Int)) (bM ts w k);omega
theorem Hv{ts:L0}{w:Bool}{n:Nat}{s:List Int}(h:s∈kO ts w n):Full (fun i j=> !(bQ ts i j==w)) (rng n) s:=by
 obtain⟨h1,h2⟩:=gP.mp h;have S:=nA n s h1;refine⟨S.up,fun x hx=>gY.mpr (S.lt x hx),fun x hx y hy hne=>by rw[S.all x hx y hy hne];rfl,fun v hv hn=> ?_⟩;unfold pJ at h2;apply Y7;intro hc;have h3:((rng n).any fun p=> !decide (p∈s)&&goB ts w s p)=false:=by simpa using h2
 rw[wcg]at h3;apply h3 v hv;rw[lV hn];show goB ts w s v=true;unfold goB;rw[oA];intro q hq;cases e:(bQ ts v q==w)with
 |true=>rfl
 |false=>exact absurd ⟨q,hq,by show(!(bQ ts q v==w))=true;rw[Q7,e];rfl⟩ hc
theorem vU{ts:L0}{w:Bool}{n:Nat}(hn:n<=10):(kO ts w n).length<=36:=by
 have h:=DQ (r:=fun i j=> !(bQ ts i j==w)) (fun i j=>by rw[Q7]) n (rng n) (by unfold rng;simp) hn (kO ts w n) ((jj n).filter _) (fun s hs=>Hv hs);have:=xr n 10 hn (aW _);exact dD h this
noncomputable def jM(ts:L0)(w:Bool)(n:Nat)(s:List Int):List Int:=(rng n).filter fun p=>s.all fun q=> !decide (p=q)&&(bQ ts q p==w)
noncomputable def pL(ts:L0)(w:Bool)(n:Nat)(q:Int):List Int:=(rng n).filter fun p=> !decide (p=q)&&(bQ ts q p==w)
theorem Od(ts:L0)(w:Bool)(n:Nat):jM ts w n []=rng n:=by unfold jM;exact List.filter_eq_self.mpr fun _ _=>rfl
theorem Jp(ts:L0)(w:Bool)(n:Nat)(s:List Int)(k:Int):jM ts w n (s++[k])=(jM ts w n s).filter fun p=>decide (p∈pL ts w n k):=by
 unfold jM;rw[List.filter_filter];refine List.filter_congr fun p hp=> ?_;rw[List.all_append,Bool.and_comm];congr 1;unfold pL;rw[was,QH,gP];simp[hp]
theorem Tz{ts:L0}{w:Bool}{n k:Nat}{s:List Int}(hs:uK ts w k s)(hk:k<n):decide ((k:Int)∈jM ts w n s)=goB ts w s (k:Int):=by
 unfold jM goB;rw[was,QH,gP,oA,oA];constructor
 ·rintro⟨_,h⟩ q hq;have:=h q hq;rw[oM]at this;rw[Q7];exact this.2
 ·intro h;refine⟨gY.mpr ⟨by omega,by omega⟩,fun q hq=> ?_⟩;have:=(hs.lt q hq).2;rw[oM];refine⟨?_,by rw[Q7];exact h q hq⟩;rw[lV (by omega)];rfl
theorem Jq(ts:L0)(w:Bool)(n:Nat)(s:List Int):decide (jM ts w n s=[])=pJ ts w n s:=by
 unfold jM pJ;rw[was,QH,List.filter_eq_nil_iff,wbp,wcg];constructor
 ·intro h p hp hc;rw[oM]at hc;apply h p hp;rw[oA];intro q hq;have h1:p∉s:=by simpa using hc.1
  have h2:=oA.mp hc.2 q hq;rw[oM];refine⟨?_,by rw[Q7];exact h2⟩;have ne:¬p=q:=fun e=>h1 (by rw[e];exact hq);rw[lV ne];rfl
 ·intro h p hp hc;apply h p hp;rw[oA]at hc;rw[oM];refine⟨?_,?_⟩
  ·have:p∉s:=fun z=>by
    have:=hc p z;simp at this
   rw[lV this];rfl
  ·unfold goB;rw[oA];intro q hq;have:=hc q hq;rw[oM]at this;rw[Q7];exact this.2
theorem rm:∀{xs ys:List Int},xs.Pairwise (· < ·)->ys.Pairwise (· < ·)->(∀k,k∈xs↔k∈ys)->xs=ys
 |[],[],_,_,_=>rfl
 |[],y::ys,_,_,h=>by have:=(h y).mpr (by simp);simp at this
 |x::xs,[],_,_,h=>by have:=(h x).mp (by simp);simp at this
 |x::xs,y::ys,hx,hy,h=>by
  rw[YW]at hx hy;have e:x=y:=by
   have a:=(h x).mp (by simp);have b:=(h y).mpr (by simp);rcases cZ.mp a with a|a
   ·exact a
   ·rcases cZ.mp b with b|b
    ·exact b.symm
    ·have:=hy.1 x a;have:=hx.1 y b;omega
  subst e;rw[rm hx.2 hy.2 fun k=> ?_];constructor
  ·intro hk;rcases cZ.mp ((h k).mp (jW _ hk))with a|a
   ·have:=hx.1 k hk;omega
   ·exact a
  ·intro hk;rcases cZ.mp ((h k).mpr (jW _ hk))with a|a
   ·have:=hy.1 k hk;omega
   ·exact a
theorem oX{ts:L0}{w:Bool}:∀(k:Nat) (s:List Int),uK ts w k s->s∈bM ts w k
 |0,s,h=>by
  cases s with
  |nil=>show([]:List Int)∈[[]];simp
  |cons x s=>have:=h.lt x (by simp);omega
 |k+1,s,h=>by
  show s∈bM ts w k++((bM ts w k).filter fun s=>goB ts w s (k:Int)).map fun s=>s++[(k:Int)];by_cases c:(k:Int)∈s
  ·have hm:∀x,x∈s.filter (fun x=> !decide (x=(k:Int)))↔x∈s/\x≠(k:Int):=fun x=>by rw[gP];simp
   refine Ie _ (oJ.mpr ⟨s.filter (fun x=> !decide (x=(k:Int))),gP.mpr ⟨oX k _ ⟨h.up.filter _,fun x hx=> ?_,fun x hx y hy hne=> ?_⟩,?_⟩,?_⟩)
   ·have a:=(hm x).mp hx;have b:=h.lt x a.1;have:=a.2;omega
   ·exact h.all x ((hm x).mp hx).1 y ((hm y).mp hy).1 hne
   ·unfold goB;rw[oA];intro q hq;have a:=(hm q).mp hq;exact h.all _ c q a.1 (fun e=>a.2 e.symm)
   ·refine rm ?_ h.up fun x=> ?_
    ·rw[ZK];refine⟨h.up.filter _,Y0 _ _,fun x hx y hy=> ?_⟩;rw[oE.mp hy];have a:=(hm x).mp hx;have b:=h.lt x a.1;have:=a.2;omega
    ·rw[qg,hm,oE];constructor
     ·rintro(a|a)
      ·exact a.1
      ·rw[a];exact c
     ·intro a;by_cases e:x=(k:Int)
      ·exact .inr e
      ·exact .inl ⟨a,e⟩
  ·refine ydp _ (oX k s ⟨h.up,fun x hx=> ?_,h.all⟩);have b:=h.lt x hx;have:x≠(k:Int):=fun e=>c (by rw[<-e];exact hx);omega
theorem uK.of{ts:L0}{w:Bool}{n:Nat}{s:List Int}(F:Full (fun i j=> !(bQ ts i j==w)) (rng n) s):uK ts w n s:=
 ⟨F.up,fun x hx=>gY.mp (F.sub x hx),fun x hx y hy hne=>by
  have:=F.ind x hx y hy hne
  try dsimp only at this
  cases e:(bQ ts x y==w)with
  |true=>rfl
  |false=>rw[e]at this;cases this⟩
theorem Uh{ts:L0}{w:Bool}{n:Nat}{s:List Int}(F:Full (fun i j=> !(bQ ts i j==w)) (rng n) s):s∈kO ts w n:=by
 refine gP.mpr ⟨oX n s (uK.of F),?_⟩;unfold pJ;rw[wbp,wcg];intro p hp hc;rw[oM]at hc;have hn:p∉s:=by simpa using hc.1
 obtain⟨x,hx,hr⟩:=F.max p hp hn;have:=oA.mp hc.2 x hx
 try dsimp only at hr this
 rw[Q7,this]at hr;cases hr
theorem GJ{α:Type}(g:α->Nat):∀V:List α,V≠[]->∃v∈V,∀u∈V,g u<=g v
 |[],h=>absurd rfl h
 |[x],_=>⟨x,by simp,fun u hu=>by rw[oE.mp hu];exact aW _⟩
 |x::y::V,_=>by
  obtain⟨v,hv,hm⟩:=GJ g (y::V) (by simp);by_cases c:g v<=g x
  ·refine⟨x,by simp,fun u hu=> ?_⟩;rcases cZ.mp hu with e|e
   ·rw[e];exact aW _
   ·exact dD (hm u e) c
  ·refine⟨v,jW _ hv,fun u hu=> ?_⟩;rcases cZ.mp hu with e|e
   ·rw[e];omega
   ·exact hm u e
theorem Qd{ts:L0}{w:Bool}{n:Nat}{s:List Int}(hs:uK ts w n s):∃t∈kO ts w n,∀x∈s,x∈t:=by
 let C:=(bM ts w n).filter fun t=>s.all fun x=>decide (x∈t);have mC:∀t,t∈C↔t∈bM ts w n/\∀x∈s,x∈t:=fun t=>by
  show t∈(bM ts w n).filter _↔_;rw[gP,oA];simp
 have hne:C≠[]:=fun e=>by
  have:s∈C:=(mC s).mpr ⟨oX n s hs,fun x hx=>hx⟩;rw[e]at this;cases this
 obtain⟨t,ht,hm⟩:=GJ List.length C hne;obtain⟨h1,h2⟩:=(mC t).mp ht;have T:=nA n t h1;refine⟨t,Uh ⟨T.up,fun x hx=>gY.mpr (T.lt x hx),fun x hx y hy hne=> ?_,fun v hv hn=> ?_⟩,h2⟩
 ·show(!(bQ ts x y==w))=false;rw[T.all x hx y hy hne];rfl
 ·apply Y7;intro hc;have go:∀x∈t,(bQ ts x v==w)=true:=fun x hx=>by
   cases e:(bQ ts x v==w)with
   |true=>rfl
   |false=>exact absurd ⟨x,hx,by show(!(bQ ts x v==w))=true;rw[e];rfl⟩ hc
  have mU:∀x,x∈(rng n).filter (fun x=>decide (x∈t)||decide (x=v))↔x∈t\/x=v:=fun x=>by
   rw[gP,Bool.or_eq_true,QH,QH];constructor
   ·exact fun z=>z.2
   ·rintro(z|z)
    ·exact⟨gY.mpr (T.lt x z),.inl z⟩
    ·exact⟨by rw[z];exact hv,.inr z⟩
  have up:((rng n).filter (fun x=>decide (x∈t)||decide (x=v))).Pairwise (· < ·):=by
   refine List.Pairwise.filter _ ?_;unfold rng;rw[U0];exact ydf.imp fun{a b} h=>by omega
  have U:uK ts w n ((rng n).filter (fun x=>decide (x∈t)||decide (x=v))):=⟨up,fun x hx=>gY.mp (gP.mp hx).1,fun x hx y hy hne=>by
   rcases(mU x).mp hx with a|a
   ·rcases(mU y).mp hy with b|b
    ·exact T.all x a y b hne
    ·rw[b];exact go x a
   ·rcases(mU y).mp hy with b|b
    ·rw[a,Q7];exact go y b
    ·exact absurd (a.trans b.symm) hne⟩
  have inC:=(mC _).mpr ⟨oX n _ U,fun x hx=>(mU x).mpr (.inl (h2 x hx))⟩;have l1:=hm _ inC;have l2:=iT (l:=v::t) (m:=(rng n).filter (fun x=>decide (x∈t)||decide (x=v))) (QG.mpr ⟨hn,T.up.imp fun{a b} h=>by omega⟩) (fun x hx=>by
   rcases cZ.mp hx with z|z
   ·exact(mU x).mpr (.inr z)
   ·exact(mU x).mpr (.inl z))
  rw[Bl]at l2;omega
end Hs
namespace Hs
open PySem L2 oG
section
variable{P:ξ}{w:τ}{K:W.Frag}{mg:L4}{base:Heap}
theorem blV_eq(a b:Bool):decide (V.bl a=V.bl b)=(a==b):=by cases a<;>cases b<;>rfl
theorem intV_eq(a b:Int):decide (V.int a=V.int b)=decide (a=b):=by
 by_cases e:a=b
 ·subst e;simp
 ·rw[lV e,lV (by intro z;injection z with z;exact e z)]
theorem Tw{a b:Int}:(!decide (V.int a=V.int b))= !decide (a=b):=by rw[intV_eq]
theorem any_ints(xs:List Int)(k:Int):((xs.map PyData.int).any fun d=>PyData.eqv d (.int k))=decide (k∈xs):=by
 induction xs with
 |nil=>simp
 |cons x xs ih=>
  rw[Ia,Z0,ih];have e:PyData.eqv (.int x) (.int k)=decide (k=x):=by
   show(x==k)=_;rw[was];simp;exact⟨fun h=>h.symm,fun h=>h.symm⟩
  rw[e,was];simp
theorem zcb{α:Type}{p:α->Bool}{l:List α}{i:Nat}(hi:i<l.length):(l.take (i+1)).filter p=(l.take i).filter p++(if p l[i]=true then[l[i]]else[]):=by
 rw[Fq,fL hi,Kd];congr 1;show[l[i]].filter p=_;rw[Ib];rfl
theorem Mr(k:Nat):rng (k+1)=rng k++[(k:Int)]:=by unfold rng;rw[Bf,cU];rfl
theorem KZ(n:Nat):dX n=(rng n).map V.int:=by unfold dX rng;rw[v8];rfl
noncomputable def yN(K:W.Frag):Sp:=fun vs H Q _=>∃(l m:Addr) (xs ys:List Int),vs=[.ref l,.ref m]/\SqL K H l (xs.map V.int)/\SqL K H m (ys.map V.int)/\∀r H',Same H H'->H' r=some (.lst ((xs.filter fun p=>decide (p∈ys)).map V.int))->H r=none->Q (.ref r) H'
theorem Jj{f:Addr}{fd:ρ}(F:Fun K "in_both" "in_both" qp f fd):
  FnOk P w K mg base CX0 1 f fd ["ones","others"] (yN K):=by
 refine F.cQ ["ones","others"] fun cdv A outer s H vs Q E hr h=> ?_;obtain⟨l,m,xs,ys,rfl,hL,hM,q⟩:=h;refine⟨_,(aP (bO (pK ["place"] ["others"] [1] (yh (pv 0)) (pG 0) (HW (dg (lO K hr.units) (pv 0) (pv 1) (by with_unfolding_all rfl))) (pv 0)))),?_⟩;refine⟨_,rfl,l,_,rfl,hL,fun hz=> ?_⟩;let jR:Nat->List V->St->Hp->Prop:=fun k acc σ H'=>acc=((xs.take k).filter fun p=>decide (p∈ys)).map V.int/\Same H H'/\∃o,σ=[o,some (.ref m)];refine J0 (xs:=xs.map V.int) jR ⟨rfl,Same.refl _,_,rfl⟩ (fun k acc σ H' _ p=>p.2.1.seq hL) (fun k acc σ H' hk p=> ?_) hz (fun k x acc σ H' hx p=> ?_) (fun acc σ H' p=> ?_)
 ·rw[p.1,aM];exact dD (yp _ _) (by rw[yw];exact Ks _ _)
 ·obtain⟨rfl,sm,o,rfl⟩:=p;rw[fu]at hx;cases ex:xs[k]? with
  |none=>rw[ex]at hx;cases hx
  |some y=>
   rw[ex]at hx;cases hx;obtain⟨hk,ey⟩:=oF.mp ex;have e:=zcb (p:=fun p=>decide (p∈ys)) hk;rw[ey]at e;refine⟨_,rfl,_,rfl,m,_,_,.int y,rfl,.inl (sm.seq hM),cJ.ints ys,.int _,QB ys,rfl,(by show 0<=60;decide),_,rfl,?_⟩;rw[any_ints];refine ite2 (fun c=> ?_) (fun c=> ?_)
   ·exact⟨_,rfl,by rw[e,aH c,cU];rfl,sm,_,rfl⟩
   ·exact⟨by rw[e,aB c,Bg],sm,_,rfl⟩
 ·intro p1 hp1;obtain⟨rfl,sm,_⟩:=p;rw[aM,yt];exact q p1 _ (sm.trans (aK hp1 _)) au (sm.free hp1)
noncomputable def Gj(K:W.Frag):Sp:=fun vs H Q _=>∃(a:Addr) (n i:Int) (ts:L0) (w:Bool),vs=[.ref a,.int i,.bl w]/\aQ K H a n ts/\∀r H',Same H H'->H' r=some (.lst ((pL ts w n.toNat i).map V.int))->H r=none->Q (.ref r) H'
theorem Np{f f1:Addr}{fd d1:ρ}(F:Fun K "places_by_tie" "places_by_tie" eE f fd)(D1:bK K mg "has_tie" UJ ["web","one","other"] f1 d1)(G1:FnOk P w K mg base CX0 1 f1 d1 ["web","one","other"] (qX K))(aL:mg "range"=none):
  FnOk P w K mg base CX0 2 f fd ["web","place","tied"] (Gj K):=by
 refine F.cQ ["web","place","tied"] fun cdv A outer s H vs Q E hr h=> ?_;obtain⟨a,n,i,ts,w,rfl,hA,q⟩:=h;refine⟨_,(aP (bO (pK ["other"] ["place","web","tied"] [1,0,2] (J2 rfl aL (aj (bf cW (pv 0) aq) ak)) (pG 0) (HW (PW.pt (pw_and (dg op_ne (pv 0) (pv 1)) (pw_and1 (dg op_eq (pc G1 hr D1 (aj (pv 2) (aj (pv 1) (aj (pv 0) ak)))) (pv 3)))))) (pv 0)))),?_⟩;have h0:=hA.h0;have h10:=hA.h1;obtain⟨ta,ra,a1,a2,a3⟩:=id hA.web;refine⟨_,rfl,a,_,_,.int n,rfl,rfl,a1,rfl,n,rfl,by omega,by omega,?_⟩;let vp:Nat->List V->St->Hp->Prop:=fun k acc σ H'=>acc=((rng k).filter fun p=> !decide (p=i)&&(bQ ts i p==w)).map V.int/\Same H H'/\∃o,σ=[o,some (.int i),some (.ref a),some (.bl w)];refine UL (n:=n.toNat) vp ⟨rfl,Same.refl _,_,rfl⟩ (fun k acc σ H' hk p=> ?_) (by rw[fZ];omega) (fun k acc σ H' hk p=> ?_) (fun acc σ H' p=> ?_)
 ·rw[p.1,aM];exact dD (yp _ _) (by unfold rng;simp)
 ·obtain⟨rfl,sm,o,rfl⟩:=p;have ek:(0+(k:Int))=(k:Int):=by omega
  rw[ek];have e:∀b,b=(!decide ((k:Int)=i)&&(bQ ts i (k:Int)==w))->((rng (k+1)).filter fun p=> !decide (p=i)&&(bQ ts i p==w))=((rng k).filter fun p=> !decide (p=i)&&(bQ ts i p==w))++(if b=true then[(k:Int)]else[]):=fun b hb=>by
   rw[Mr,Kd,Ib,hb];rfl
  refine⟨_,rfl,_,rfl,rfl,_,rfl,?_⟩;rw[Tw];refine ite2 (fun c=> ?_) (fun c=> ?_)
  ·refine⟨_,rfl,_,rfl,_,rfl,a,n,_,_,ts,rfl,(hA.same sm).web,fun H5 s5=>⟨_,rfl,rfl,_,rfl,?_⟩⟩;rw[blV_eq,tied_eq hA.pk];refine ite2 (fun c2=> ?_) (fun c2=> ?_)
   ·exact⟨_,rfl,by rw[e true (by rw[c,c2];rfl),cU];rfl,sm.trans s5,_,rfl⟩
   ·exact⟨by rw[e false (by rw[c,Bool.eq_false_iff.mpr c2];rfl)];simp,sm.trans s5,_,rfl⟩
  ·exact⟨by rw[e false (by rw[Bool.eq_false_iff.mpr c];rfl)];simp,sm,_,rfl⟩
 ·intro p1 hp1;obtain⟨rfl,sm,_⟩:=p;exact q p1 _ (sm.trans (aK hp1 _)) au (sm.free hp1)
noncomputable def Qv(K:W.Frag)(H:Hp)(r:Addr)(ss:List (List Int)):Prop:=∃its:List (Addr×List Int),H r=some (.lst (its.map fun p=>V.ref p.1))/\(∀p∈its,SqT K H p.1 (p.2.map V.int))/\its.map (fun p=>p.2)=ss
noncomputable def cR(ss:List (List Int))(ts:L0)(w:Bool)(n:Nat):Prop:=ss.Perm (kO ts w n)/\ss.Pairwise fun a b=>HT.lexLt b a=false
theorem Ug{ts:L0}{w:Bool}{n:Nat}(h2:2<=(kO ts w n).length):∀s∈kO ts w n,s≠[]:=by
 intro s hs e;subst e;have F:=Hv hs;cases n with
 |zero=>
  have:(kO ts w 0).length<=1:=by
   show(([[]]:List (List Int)).filter (pJ ts w 0)).length<=1;exact yp _ _
  omega
 |succ n=>
  obtain⟨x,hx,_⟩:=F.max 0 (gY.mpr ⟨by omega,by omega⟩) (by simp);cases hx
structure Fit(K:W.Frag)(H:Hp)(ts:L0)(w:Bool)(n:Nat)(q:Addr×Addr×Addr×List Int):Prop where
 pr:SqT K H q.1 [.ref q.2.1,.ref q.2.2.1]
 so:SqT K H q.2.1 (q.2.2.2.map V.int)
 le:H q.2.2.1=some (.lst ((jM ts w n q.2.2.2).map V.int))
theorem Fit.same{H H':Hp}{ts:L0}{w:Bool}{n:Nat}{q:Addr×Addr×Addr×List Int}(h:Fit K H ts w n q)(e:Same H H'):Fit K H' ts w n q:=⟨e.tup h.pr,e.tup h.so,e _ _ h.le⟩
noncomputable def Qy(K:W.Frag)(H:Hp)(fd:Addr)(ts:L0)(w:Bool)(n:Nat)(ss:List (List Int)):Prop:=∃its:List (Addr×Addr×Addr×List Int),H fd=some (.lst (its.map fun q=>V.ref q.1))/\(∀q∈its,Fit K H ts w n q)/\its.map (fun q=>q.2.2.2)=ss
noncomputable def tL(K:W.Frag):Sp:=fun vs H Q _=>∃(fl:Addr) (fas:List Addr) (ts:L0) (w:Bool) (n:Nat),vs=[.ref fl]/\H fl=some (.lst (fas.map V.ref))/\fas.length=n/\n<=10/\(∀(i:Nat) f,fas[i]? =some f->H f=some (.lst ((pL ts w n (i:Int)).map V.int)))/\
 ∀r ss H',Same H H'->Qv K H' r ss->cR ss ts w n->H r=none->Q (.ref r) H'
theorem zE{f f1:Addr}{fd d1:ρ}(F:Fun K "full_sets" "full_sets" j8 f fd)(D1:bK K mg "in_both" qp ["ones","others"] f1 d1)(G1:FnOk P w K mg base CX0 1 f1 d1 ["ones","others"] (yN K))(eX:mg "list"=none)(aL:mg "range"=none)(cO:mg "len"=none)(dR:mg "sorted"=none):
  FnOk P w K mg base CX0 2 f fd ["friends"] (tL K):=by
 refine F.cQ ["friends","found","place","wider"] fun cdv A outer s H vs Q E hr h=> ?_;obtain⟨fl,fas,ts,w,n,rfl,hF,hn,h10,hfr,q⟩:=h;refine bw ?_;intro Y;refine⟨_,(aJ (pS 1 (uQ (aj (fV (aj (fV ak) (aj (rA rfl rfl eX rfl aL (aj (pB v7 cO (aj (pv 0) ak)) ak)) ak))) ak))) (aJ (ps_for yD rfl (J2 rfl aL (aj (pB v7 cO (aj (pv 0) ak)) ak)) (pG 2) (aJ (pX 3 ["some","left"] ["place","friends"] [2,0] (yh (pv 1)) (fH K (n:=2) rfl (qe (pG 0) (qe (pG 1) Fo))) (HW (dg (lO K hr.units) (pv 2) (pv 1) (by with_unfolding_all rfl))) (fV (aj (bB (MK K) (pv 0) (fV (aj (pv 2) ak))) (aj (pc G1 hr D1 (aj (pv 1) (aj (bf (iW K) (pv 3) (pv 2)) ak))) ak)))) (aP (pS 1 (bB op_cat (pv 1) (pv 3)))))) (aP (bO (pB xQ dR (aj (pK ["some","left"] [] [] (yh (pv 1)) (fH K (n:=2) rfl (qe (pG 0) (qe (pG 1) Fo))) (HW (rH (Jc K (pv 1) (fun _=>rfl)))) (pv 0)) ak)))))),?_⟩;refine mF ?_;intro c3 c2;have el:((fas.map V.ref).length:Int)=(n:Int):=by rw[aM,hn]
 refine⟨(by show 0<=sizeLine;decide),fun e1 he1=> ?_⟩;have s1:=aK he1 (.tup []);have t1:SqT K (upd H e1 (.tup [])) e1 []:=SqT.of au;generalize (upd H e1 (.tup []))=H1 at *;refine⟨_,rfl,fl,_,rfl,.inl (SqL.of (s1 _ _ hF)),fun _=>⟨_,rfl,by omega,by rw[el];omega,fun rl hrl=> ?_⟩⟩;have er:dX ((fas.map V.ref).length:Int).toNat=(rng n).map V.int:=by rw[el,U4,KZ]
 rw[er];have s2:=aK hrl (.lst ((rng n).map V.int));have t2:(upd H1 rl (.lst ((rng n).map V.int))) rl=some (.lst ((rng n).map V.int)):=au;generalize (upd H1 rl (.lst ((rng n).map V.int)))=H2 at *;refine⟨(by show 2<=sizeLine;decide),fun e3 he3=> ?_⟩;have s3:=aK he3 (.tup [.ref e1,.ref rl]);have t3:SqT K (upd H2 e3 (.tup [.ref e1,.ref rl])) e3 [.ref e1,.ref rl]:=SqT.of au;generalize (upd H2 e3 (.tup [.ref e1,.ref rl]))=H3 at *;refine⟨(by show 1<=sizeLine;decide),fun fd hfd=> ?_⟩;have s4:=aK hfd (.lst [.ref e3]);have F4:Qy K (upd H3 fd (.lst [.ref e3])) fd ts w n (bM ts w 0):=by
  refine⟨[(e3,e1,rl,[])],au,fun q hq=> ?_,rfl⟩;rw[oE.mp hq];exact⟨s4.tup t3,s4.tup (s3.tup (s2.tup t1)),by rw[Od];exact s4 _ _ (s3 _ _ t2)⟩
 have s04:=s1.trans (s2.trans (s3.trans s4));generalize (upd H3 fd (.lst [.ref e3]))=H4 at *;refine⟨_,rfl,fl,_,rfl,.inl (SqL.of (s04 _ _ hF)),fun _=>⟨_,rfl,by omega,by rw[el];omega,?_⟩⟩;have en:((fas.map V.ref).length:Int).toNat=n:=by rw[el,U4]
 rw[en];let jR:Nat->St->Hp->Prop:=fun k σ H'=>Same H H'/\∃fd b2 b3,Qy K H' fd ts w n (bM ts w k)/\σ=[some (.ref fl),some (.ref fd),b2,b3];refine Q6 (n:=n) jR ⟨s04,fd,_,_,F4,rfl⟩ (fun k σ H' hk p=> ?_) (fun σ H' p=> ?_)
 ·obtain⟨s5,fd,b2,b3,F5,rfl⟩:=p;have ek:(0+(k:Int))=(k:Int):=by omega
  rw[ek];obtain⟨its,f1,f2,f3⟩:=F5;have hlen:its.length<=1024:=by
   have a:=yS (ts:=ts) (w:=w) k;rw[<-f3,aM]at a;have b:2^k<=2^10:=Nat.pow_le_pow_right (by decide) (by omega);have c:2^10=1024:=by decide
   omega
  have hkf:k<fas.length:=by omega
  have hfk:(fas.map V.ref)[k]? =some (.ref fas[k]):=by rw[fu,fL hkf];rfl
  have hgk:=hfr k fas[k] (fL hkf);refine⟨_,rfl,fd,_,rfl,SqL.of f1,fun hzf=> ?_⟩;let vp:Nat->List V->St->Hp->Prop:=fun i acc σ HN=>(∃its2:List (Addr×Addr×Addr×List Int),acc=its2.map (fun q=>V.ref q.1)/\(∀q∈its2,Fit K HN ts w n q)/\its2.map (fun q=>q.2.2.2)=(((bM ts w k).take i).filter fun s=>goB ts w s (k:Int)).map fun s=>s++[(k:Int)])/\Same H' HN/\∃o1 o2,σ=[o1,o2,some (.int (k:Int)),some (.ref fl)];refine J0 (xs:=its.map fun q=>V.ref q.1) vp ⟨⟨[],rfl,fun q hq=>(nomatch hq),rfl⟩,Same.refl _,_,_,rfl⟩ (fun i acc σ HN _ p=>p.2.1.seq (SqL.of f1)) (fun i acc σ HN hi p=> ?_) hzf (fun i x acc σ HN hx p=> ?_) (fun acc σ HN p=> ?_)
  ·obtain⟨⟨its2,rfl,g2,g3⟩,_⟩:=p;have a:=jX List.length g3;rw[aM,aM]at a;rw[aM,a];exact dD (yp _ _) (by rw[yw];exact Ks _ _)
  ·obtain⟨⟨its2,rfl,g2,g3⟩,sm,o1,o2,rfl⟩:=p;rw[fu]at hx;cases ex:its[i]? with
   |none=>rw[ex]at hx;cases hx
   |some v=>
    rw[ex]at hx;cases hx;have fv:=(f2 v (uT ex)).same sm;have hsv:(bM ts w k)[i]? =some v.2.2.2:=by rw[<-f3,fu,ex];rfl
    obtain⟨hi,esv⟩:=oF.mp hsv;have Sv:=nA k v.2.2.2 (uT hsv);have e:=zcb (p:=fun s=>goB ts w s (k:Int)) hi;rw[esv]at e;refine⟨v.1,_,rfl,fv.pr,rfl,_,_,rfl,_,_,rfl,rfl,?_⟩;refine⟨_,rfl,_,rfl,v.2.2.1,_,_,.int (k:Int),rfl,.inl (SqL.of fv.le),cJ.ints _,.int _,QB _,rfl,(by show 0<=60;decide),_,rfl,?_⟩;rw[any_ints,Tz Sv hk];refine ite2 (fun c=> ?_) (fun c=> ?_)
    ·refine⟨_,rfl,_,rfl,(by show 1<=sizeLine;decide),fun e5 he5=> ?_⟩;have s6:=aK he5 (.tup [.int (k:Int)]);have t6:SqT K (upd HN e5 (.tup [.int (k:Int)])) e5 [.int (k:Int)]:=SqT.of au;generalize (upd HN e5 (.tup [.int (k:Int)]))=H6 at *;have hvl:v.2.2.2.length<=10:=by
      have a:=iT (l:=v.2.2.2) (m:=rng n) (Sv.up.imp fun{x y} h=>by omega) (fun x hx=>gY.mpr (by have:=Sv.lt x hx;omega));have b:(rng n).length=n:=by unfold rng;simp
      omega
     refine⟨v.2.1,e5,_,_,rfl,rfl,s6.tup fv.so,t6,(by rw[aM,fZ];show v.2.2.2.length+1<=_;omega),fun r7 H7 s7 h7=> ?_⟩;have s67:=s6.trans s7;refine⟨_,rfl,_,rfl,_,rfl,fl,_,_,.ref fas[k],rfl,rfl,SqL.of ((s5.trans (sm.trans s67)) _ _ hF),atI_nat hfk,v.2.2.1,fas[k],_,_,rfl,SqL.of (s67 _ _ fv.le),SqL.of ((s5.trans (sm.trans s67)) _ _ hgk),fun r8 H8 s8 h8 n8=> ?_⟩;refine⟨(by show 2<=sizeLine;decide),fun e9 he9=> ?_⟩;have s9:=aK he9 (.tup [.ref r7,.ref r8]);have s69:=s67.trans (s8.trans s9);refine⟨⟨its2++[(e9,r7,r8,v.2.2.2++[(k:Int)])],by rw[cU];rfl,fun q hq=> ?_,by rw[cU,g3,e,aH c,cU];rfl⟩,sm.trans s69,_,_,rfl⟩;rcases qg.mp hq with z|z
     ·exact(g2 q z).same s69
     ·rw[oE.mp z];refine⟨SqT.of au,s9.tup (s8.tup ?_),by rw[Jp];exact s9 _ _ h8⟩;rw[cU];exact h7
    ·exact⟨⟨its2,rfl,g2,by rw[g3,e,aB c,Bg]⟩,sm,_,_,rfl⟩
  ·intro p1 hp1;obtain⟨⟨its2,rfl,g2,g3⟩,sm,o1,o2,rfl⟩:=p;have hle:(its.map fun q=>V.ref q.1).length=(bM ts w k).length:=by rw[aM,<-f3,aM]
   rw[hle,yt]at g3;have s6:=aK hp1 (.lst (its2.map fun q=>V.ref q.1));have l2:its2.length<=1024:=by
    have a:=jX List.length g3;rw[aM,aM]at a;have b:=yp (fun s=>goB ts w s (k:Int)) (bM ts w k);rw[<-f3,aM]at b;rw[<-f3]at a;omega
   refine⟨_,rfl,_,rfl,fd,p1,_,_,rfl,rfl,(sm.trans s6) _ _ f1,au,by rw[aM,aM,fZ];omega,fun p2 hp2=> ?_⟩;have s7:=aK hp2 (.lst ((its.map fun q=>V.ref q.1)++(its2.map fun q=>V.ref q.1)));refine⟨s5.trans (sm.trans (s6.trans s7)),p2,_,_,⟨its++its2,by rw[au,cU],fun q hq=> ?_,by rw[cU,f3,g3];rfl⟩,rfl⟩;rcases qg.mp hq with z|z
   ·exact(f2 q z).same (sm.trans (s6.trans s7))
   ·exact(g2 q z).same (s6.trans s7)
 ·obtain⟨s5,fd,b2,b3,⟨its,f1,f2,f3⟩,rfl⟩:=p;refine⟨_,rfl,fd,_,rfl,SqL.of f1,fun hzf=> ?_⟩;let JQ:Nat->List V->St->Hp->Prop:=fun i acc σ HN=>(∃its2:List (Addr×List Int),acc=its2.map (fun q=>V.ref q.1)/\(∀q∈its2,SqT K H' q.1 (q.2.map V.int))/\its2.map (fun q=>q.2)=((bM ts w n).take i).filter (pJ ts w n))/\Same H' HN/\∃o1 o2,σ=[o1,o2];refine J0 (xs:=its.map fun q=>V.ref q.1) JQ ⟨⟨[],rfl,fun q hq=>(nomatch hq),rfl⟩,Same.refl _,_,_,rfl⟩ (fun i acc σ HN _ p=>p.2.1.seq (SqL.of f1)) (fun i acc σ HN hi p=> ?_) hzf (fun i x acc σ HN hx p=> ?_) (fun acc σ HN p=> ?_)
  ·obtain⟨⟨its2,rfl,g2,g3⟩,_⟩:=p;have a:=jX List.length g3;rw[aM]at a;rw[aM,a];exact dD (yp _ _) (by rw[yw];exact Ks _ _)
  ·obtain⟨⟨its2,rfl,g2,g3⟩,sm,o1,o2,rfl⟩:=p;rw[fu]at hx;cases ex:its[i]? with
   |none=>rw[ex]at hx;cases hx
   |some v=>
    rw[ex]at hx;cases hx;have fv:=f2 v (uT ex);have hsv:(bM ts w n)[i]? =some v.2.2.2:=by rw[<-f3,fu,ex];rfl
    obtain⟨hi,esv⟩:=oF.mp hsv;have e:=zcb (p:=pJ ts w n) hi;rw[esv]at e;refine⟨v.1,_,rfl,sm.tup fv.pr,rfl,_,_,rfl,_,_,rfl,rfl,?_⟩;refine⟨_,rfl,_,.inl ⟨_,SqL.of (sm _ _ fv.le),rfl⟩,?_⟩;have eb:(!!((jM ts w n v.2.2.2).map V.int).isEmpty)=pJ ts w n v.2.2.2:=by
     rw[Bool.not_not,<-Jq];cases jM ts w n v.2.2.2<;>rfl
    dsimp only;rw[eb];refine ite2 (fun c=> ?_) (fun c=> ?_)
    ·refine⟨_,rfl,⟨its2++[(v.2.1,v.2.2.2)],by rw[cU];rfl,fun q hq=> ?_,by rw[cU,g3,e,aH c];rfl⟩,sm,_,_,rfl⟩;rcases qg.mp hq with z|z
     ·exact g2 q z
     ·rw[oE.mp z];exact fv.so
    ·exact⟨⟨its2,rfl,g2,by rw[g3,e,aB c,Bg]⟩,sm,_,_,rfl⟩
  ·intro p1 hp1;obtain⟨⟨its2,rfl,g2,g3⟩,sm,_⟩:=p;have hle:(its.map fun q=>V.ref q.1).length=(bM ts w n).length:=by rw[aM,<-f3,aM]
   rw[hle,yt]at g3;have g4:its2.map (fun q=>q.2)=kO ts w n:=g3;have hl2:its2.length=(kO ts w n).length:=by rw[<-g4,aM]
   have h36:=vU (ts:=ts) (w:=w) h10;have s6:=aK hp1 (.lst (its2.map fun q=>V.ref q.1));refine⟨p1,its2,rfl,SqL.of au,fun p hp=>⟨(sm.trans s6).tup (g2 p hp),fun h2=> ?_⟩,by omega,fun l its' hl hpm hpw=> ?_⟩
   ·exact Ug (ts:=ts) (w:=w) (n:=n) (by omega) p.2 (by rw[<-g4];exact oJ.mpr ⟨p,hp,rfl⟩)
   ·have s7:=aK hl (.lst (its'.map fun q=>V.ref q.1));have s57:=s5.trans (sm.trans (s6.trans s7));refine q l (its'.map fun q=>q.2) _ s57 ⟨its',au,fun p hp=>(sm.trans (s6.trans s7)).tup (g2 p (hpm.mem_iff.mp hp)),rfl⟩ ⟨?_,?_⟩ ((s5.trans (sm.trans s6)).free hl)
    ·rw[<-g4];exact hpm.map _
    ·rw[U0];exact hpw
noncomputable def qY(K:W.Frag):Sp:=fun vs H Q _=>∃(a:Addr) (n:Int) (ts:L0),vs=[.ref a]/\aQ K H a n ts/\∀r ss H',Same H H'->Qv K H' r ss->cR ss ts false n.toNat->H r=none->Q (.ref r) H'
theorem wL{f f1 f2 f3:Addr}{fd d1 d2 d3:ρ}(F:Fun K "full_apart" "full_apart" jw f fd)(D1:bK K mg "need_web" Q8 ["thing"] f1 d1)(G1:FnOk P w K mg base CX0 7 f1 d1 ["thing"] (fO K))(D2:bK K mg "full_sets" j8 ["friends"] f2 d2)(G2:FnOk P w K mg base CX0 2 f2 d2 ["friends"] (tL K))(D3:bK K mg "places_by_tie" eE ["web","place","tied"] f3 d3)(G3:FnOk P w K mg base CX0 2 f3 d3 ["web","place","tied"] (Gj K))(aL:mg "range"=none):
  FnOk P w K mg base CX0 8 f fd ["web"] (qY K):=by
 refine F.cQ ["web"] fun cdv A outer s H vs Q E hr h=> ?_;obtain⟨a,n,ts,rfl,hA,q⟩:=h;refine bw ?_;intro Y;refine⟨_,(aJ (iG (pc G1 hr D1 (aj (pv 0) ak))) (aP (bO (pc G2 hr D2 (aj (pK ["place"] ["web"] [0] (J2 rfl aL (aj (bf cW (pv 0) aq) ak)) (pG 0) sX (pc G3 hr D3 (aj (pv 1) (aj (pv 0) (aj pe_bl ak))))) ak))))),?_⟩;refine mH ?_;intro c2;have h0:=hA.h0;have h10:=hA.h1;refine⟨_,rfl,_,_,rfl,hA.web.dv.dx,hA.ok,fun H1 s1=> ?_⟩;have QT:=hA.same s1;obtain⟨ta,ra,a1,a2,a3⟩:=id QT.web;refine⟨_,rfl,a,_,_,.int n,rfl,rfl,a1,rfl,n,rfl,by omega,by omega,?_⟩;let jR:Nat->List V->St->Hp->Prop:=fun k acc σ H'=>(∃fas:List Addr,acc=fas.map V.ref/\fas.length=k/\∀(i:Nat) f,fas[i]? =some f->H' f=some (.lst ((pL ts false n.toNat (i:Int)).map V.int)))/\Same H1 H'/\∃o,σ=[o,some (.ref a)];refine UL (n:=n.toNat) jR ⟨⟨[],rfl,rfl,fun i f h=>by simp at h⟩,Same.refl _,_,rfl⟩ (fun k acc σ H' hk p=> ?_) (by rw[fZ];omega) (fun k acc σ H' hk p=> ?_) (fun acc σ H' p=> ?_)
 ·obtain⟨⟨fas,rfl,hl,_⟩,_⟩:=p;rw[aM];omega
 ·obtain⟨⟨fas,rfl,hl,hf⟩,sm,o,rfl⟩:=p;have ek:(0+(k:Int))=(k:Int):=by omega
  rw[ek];refine⟨_,rfl,_,rfl,a,n,_,ts,false,rfl,QT.same sm,fun r H5 s5 h5 n5=>⟨⟨fas++[r],by rw[cU];rfl,by rw[rJ,hl];rfl,fun i f hi=> ?_⟩,sm.trans s5,_,rfl⟩⟩;by_cases c:i<fas.length
  ·rw[ydr c]at hi;exact s5 _ _ (hf i f hi)
  ·have hb:i<(fas++[r]).length:=(oF.mp hi).1;rw[rJ]at hb;have e:i=fas.length:=by have:[r].length=1:=rfl;omega
   rw[e,yct (aW _),Nat.sub_self]at hi;cases hi;rw[e,hl];exact h5
 ·intro p1 hp1;obtain⟨⟨fas,rfl,hl,hf⟩,sm,_⟩:=p;have s6:=aK hp1 (.lst (fas.map V.ref));exact⟨p1,fas,ts,false,n.toNat,rfl,au,hl,by omega,fun i f hi=>s6 _ _ (hf i f hi),fun r ss H7 s7 h7 h8 n7=>q r ss H7 (s1.trans (sm.trans (s6.trans s7))) h7 h8 ((s1.trans (sm.trans s6)).free n7)⟩
end
end Hs
namespace L2
open PySem PySem.Spec PyProof.Rows
theorem Yw{n:Nat}(h:n<=10^200):n<2^700:=Ke h (by decide+kernel)
section
variable{X:Cx}
theorem zq:OpR X (binaryOp .FloorDiv) (rI (fun _ j=>0<j/\j.natAbs<=10^200) fun i j=> .int (i/j)):=opI fun i j _ _ _ _ _ hc q=>by
 have h1:(0:Int)<j:=hc.1;refine floordiv_int (by omega) ?_ (Or.inl (wdr ?_))
 ·rw[wdc _ (by omega)];exact q
 ·have h3:j.natAbs≠0:=by omega
  have h4:=(Nat.log2_lt h3).mpr (Yw hc.2);omega
end
end L2
namespace Hs
open PySem L2 oG
theorem Pq(m n:Nat):Nat.gcd n (m %n)=Nat.gcd m n:=by
 rw[Nat.gcd_comm m n,Nat.gcd_rec n m,Nat.gcd_comm]
structure Low(a:Int)(b:Nat)(u:Int)(v:Nat):Prop where
 pos:0<v
 cop:Nat.gcd u.natAbs v=1
 eq:u*(b:Int)=a*(v:Int)
 lu:u.natAbs<=a.natAbs
 lv:v<=b
 nn:0<=a->0<=u
theorem N7(a:Int)(b:Nat)(hb:0<b):Low a b (a/((Nat.gcd a.natAbs b:Nat):Int)) (b/Nat.gcd a.natAbs b):=by
 have hg:0<Nat.gcd a.natAbs b:=wdt _ hb;obtain⟨x,hx⟩:((Nat.gcd a.natAbs b:Nat):Int)∣a:=Int.natAbs_dvd_natAbs.mp (by rw[wdj];exact Nat.gcd_dvd_left _ _);obtain⟨y,hy⟩:=ZD a.natAbs b;generalize hgg:Nat.gcd a.natAbs b=g at *;have e1:a/(g:Int)=x:=by rw[hx];exact wds _ (by omega)
 have e2:b/g=y:=by rw[hy];exact Rf _ hg
 rw[e1,e2];have hna:a.natAbs=g*x.natAbs:=by rw[hx,weu];rfl
 have hy0:0<y:=by
  rcases ZJ y with h|h
  ·subst h;simp at hy;omega
  ·exact h
 refine⟨hy0,?_,?_,?_,?_,fun h=> ?_⟩
 ·have h2:Nat.gcd (g*x.natAbs) (g*y)=g:=by rw[<-hna,<-hy];exact hgg
  rw[Nat.gcd_mul_left]at h2;have h3:g*Nat.gcd x.natAbs y=g*1:=by omega
  exact Nat.eq_of_mul_eq_mul_left hg h3
 ·rw[hx];have:(b:Int)=(g:Int)*(y:Int):=by rw[hy];exact ZC _ _
  rw[this,QF (g:Int) x,V0]
 ·rw[hna];exact wek _ hg
 ·rw[hy];exact wek _ hg
 ·rw[<-e1];exact wep h (by omega)
theorem abs_eq(i:Int):(if i<0 then -i else i)=((i.natAbs:Nat):Int):=by split<;>omega
theorem XS(a:Int)(b:Nat)(hb:0<b):Nat.gcd a.natAbs b<=b:=wez hb (ZD _ _)
section
variable{P:ξ}{w:τ}{K:W.Frag}{mg:L4}{base:Heap}
noncomputable def Wk(K:W.Frag):Sp:=fun vs H Q _=>∃(m n:Nat),vs=[.int m,.int n]/\Q (.int ((Nat.gcd m n:Nat):Int)) H
theorem aau{f:Addr}{fd:ρ}(F:Fun K "greatest_divisor" "greatest_divisor" zbn f fd):FnOk P w K mg base CX0 1 f fd ["one","other"] (Wk K):=by
 refine F.cQ ["one","other","rest"] fun cdv A outer s H vs Q E hr h=> ?_;obtain⟨m,n,rfl,q⟩:=h;refine bw ?_;intro Y;refine⟨_,aJ (ps_while yD (pt_truth (pv 1) (fun _=>rfl)) (aJ (pS 2 (bB op_mod (pv 0) (pv 1))) (aJ (pS 0 (pv 1)) (aP (pS 1 (pv 2)))))) (aP (bO (pv 0))),?_⟩;refine mH ?_;intro c2;refine⟨fun k σ H'=>H'=H/\∃(m':Nat) (r:Option V),σ=[some (.int (m':Int)),some (.int (k:Int)),r]/\Nat.gcd m' k=Nat.gcd m n,⟨n,rfl,m,_,rfl,rfl⟩,?_⟩;rintro k σ H' ⟨rfl,m',r,rfl,hg⟩;refine⟨_,rfl,_,rfl,?_⟩;refine ite2 (fun c=> ?_) (fun c=> ?_)
 ·have hk:0<k:=by
   rcases ZJ k with h|h
   ·subst h;exact absurd c (by decide)
   ·exact h
  refine⟨fun σ' H2=>H2=H'/\∃r',σ'=[some (.int (k:Int)),some (.int ((m' %k:Nat):Int)),r'],fun σ' H2 ⟨e1,r',e2⟩=>⟨m' %k,Nat.mod_lt _ hk,e1,k,r',e2,?_⟩,?_⟩
  ·rw[Pq];exact hg
  ·exact⟨_,rfl,_,rfl,_,_,rfl,rfl,Int.ofNat_lt.mpr hk,_,rfl,_,rfl,rfl,_,rfl⟩
 ·have hk:k=0:=by
   rcases ZJ k with h|h
   ·exact h
   ·exfalso;apply c;show((k:Int) !=0)=true;simp;omega
  subst hk;rw[Nat.gcd_zero_right]at hg;refine⟨_,rfl,?_⟩;rw[hg];exact q
noncomputable def yM(K:W.Frag):Sp:=fun vs H Q _=>∃(a:Int) (b:Nat),vs=[.int a,.int b]/\0<b/\b<=10^200/\∀p H' u v,Same H H'->H' p=some (.tup [.int u,.int ((v:Nat):Int)])->Low a b u v->Q (.ref p) H'
theorem Tn{H:Hp}{a:Int}{b:Nat}{p:Addr}(hp:H p=none):(upd H p (.tup [.int (a/((Nat.gcd a.natAbs b:Nat):Int)),.int ((b:Int)/((Nat.gcd a.natAbs b:Nat):Int))])) p=some (.tup [.int (a/((Nat.gcd a.natAbs b:Nat):Int)),.int (((b/Nat.gcd a.natAbs b:Nat)):Int)]):=by
 rw[au,weh]
theorem Xc{f f1:Addr}{fd d1:ρ}(F:Fun K "lowest" "lowest" iK f fd)(D1:bK K mg "greatest_divisor" zbn ["one","other"] f1 d1)(G1:FnOk P w K mg base CX0 1 f1 d1 ["one","other"] (Wk K))(mA:mg "abs"=none):
  FnOk P w K mg base CX0 2 f fd ["a","b"] (yM K):=by
 refine F.cQ ["a","b","by"] fun cdv A outer s H vs Q E hr h=> ?_;obtain⟨a,b,rfl,hb,hB,q⟩:=h;refine bw ?_;intro Y;refine⟨_,aJ (pS 2 (pc G1 hr D1 (aj (pB call_abs mA (aj (pv 0) ak)) (aj (pv 1) ak)))) (aP (bO (fV (aj (bB zq (pv 0) (pv 2)) (aj (bB zq (pv 1) (pv 2)) ak))))),?_⟩;refine mH ?_;intro c2;refine⟨_,rfl,a,rfl,_,rfl,a.natAbs,b,?_,?_⟩
 ·rw[abs_eq];rfl
 have hg:0<Nat.gcd a.natAbs b:=wdt _ hb;have hg2:(((Nat.gcd a.natAbs b:Nat):Int)).natAbs<=10^200:=dD (XS a b hb) hB;refine⟨_,rfl,_,rfl,_,_,rfl,rfl,⟨Int.ofNat_lt.mpr hg,hg2⟩,_,rfl,_,rfl,_,_,rfl,rfl,⟨Int.ofNat_lt.mpr hg,hg2⟩,(by show 2<=sizeLine;decide),fun p hp=> ?_⟩;exact q p _ _ _ (aK hp _) (Tn hp) (N7 a b hb)
noncomputable def aX(n:Nat)(X:Nat->Int):List V:=((List.range (n+1)).map X).map V.int
noncomputable def bR(n:Nat)(c:Nat->Nat):List Int:=(List.range n).map fun k=>((c k:Nat):Int)
noncomputable def flds(cl co ro:Addr)(o:Int):List (Str×V):=[("cells",.ref cl),("over",.int o),("columns",.ref co),("rows",.ref ro)]
structure cD(K:W.Frag)(C:Addr)(H0 H:Hp)(o dx cl co ro:Addr)(rws:List Addr)(n m:Nat)(T:Sx.Tab):Prop where
 same:Same H0 H
 o0:H0 o=none
 Yr:H0 cl=none
 VF:H0 co=none
 Vr:H0 ro=none
 ne:co≠ro
 nc:co∉rws
 nr:ro∉rws
 at_:H o=some (.ins C dx (flds cl co ro T.over))
 cells:H cl=some (.lst (rws.map V.ref))
 len:rws.length=m+1
 row:∀r a,rws[r]? =some a->H a=some (.lst (aX n (T.cell r)))
 cols:H co=some (.lst ((bR n T.col).map V.int))
 rows:H ro=some (.lst ((bR m T.row).map V.int))
noncomputable def lg(K:W.Frag)(C:Addr)(H0 H:Hp)(o:Addr)(n m:Nat)(T:Sx.Tab):Prop:=∃dx cl co ro rws,cD K C H0 H o dx cl co ro rws n m T
theorem cD.sm{C:Addr}{H0 H H':Hp}{o dx cl co ro:Addr}{rws:List Addr}{n m:Nat}{T:Sx.Tab}(h:cD K C H0 H o dx cl co ro rws n m T)(s:Same H H'):cD K C H0 H' o dx cl co ro rws n m T:=
 ⟨h.same.trans s,h.o0,h.Yr,h.VF,h.Vr,h.ne,h.nc,h.nr,s _ _ h.at_,s _ _ h.cells,h.len,fun r a e=>s _ _ (h.row r a e),s _ _ h.cols,s _ _ h.rows⟩
theorem lg.sm{C:Addr}{H0 H H':Hp}{o:Addr}{n m:Nat}{T:Sx.Tab}(h:lg K C H0 H o n m T)(s:Same H H'):lg K C H0 H' o n m T:=by
 obtain⟨dx,cl,co,ro,rws,h⟩:=h;exact⟨dx,cl,co,ro,rws,h.sm s⟩
structure TG(n m:Nat)(S:Nat->Nat->Bool)(wt:Nat->Int)(T:Sx.Tab):Prop where
 good:Sx.Good n m S wt T
 n10:n<=10
 m40:m<=40
 wb:∀p,p<n->0<=wt p/\wt p<=99
 cov:∀p,p<n->∃k,k<m/\S k p=true
theorem TG.cell{n m:Nat}{S:Nat->Nat->Bool}{wt:Nat->Int}{T:Sx.Tab}(h:TG n m S wt T){r c:Nat}(hr:r<=m)(hc:c<=n): -4000000000<=T.cell r c/\T.cell r c<=4000000000:=by
 have a:=h.good.Qn h.wb hr hc;have b:=Sx.Qc (k:=n+1) (by have:=h.n10;omega);omega
theorem TG.over{n m:Nat}{S:Nat->Nat->Bool}{wt:Nat->Int}{T:Sx.Tab}(h:TG n m S wt T):0<T.over/\T.over<=39916800:=by
 have a:=h.good.RX;have b:=Sx.Qc (k:=n+1) (by have:=h.n10;omega);exact⟨h.good.pos,by omega⟩
theorem HX(n:Nat)(X:Nat->Int):(aX n X).length=n+1:=by unfold aX;rw[aM,aM,yx]
theorem pq{n c:Nat}(X:Nat->Int)(h:c<=n):(aX n X)[c]? =some (.int (X c)):=by
 unfold aX;rw[fu,fu,YZ (by omega)];rfl
theorem dM{n c:Nat}(X:Nat->Int)(h:c<=n):atI (aX n X) (c:Int)=some (.int (X c)):=atI_nat (pq X h)
theorem atI_last{xs:List V}{v:V}(h:xs[xs.length-1]? =some v)(h0:0<xs.length):atI xs (-1)=some v:=by
 have e:ixN xs.length (-1)=some (xs.length-1):=by
  unfold ixN;rw[aB (by decide),aH (by omega)];congr 1;omega
 unfold atI;rw[e];exact h
theorem qu(n:Nat)(X:Nat->Int):atI (aX n X) (-1)=some (.int (X n)):=atI_last (by rw[HX];exact pq X (aW n)) (by rw[HX];omega)
theorem HY(n:Nat)(c:Nat->Nat):(bR n c).length=n:=by unfold bR;rw[aM,yx]
theorem Fp{n k:Nat}(c:Nat->Nat)(h:k<n):(bR n c)[k]? =some ((c k:Nat):Int):=by
 unfold bR;rw[fu,YZ h];rfl
theorem pD{n k:Nat}(c:Nat->Nat)(h:k<n):atI ((bR n c).map V.int) (k:Int)=some (.int ((c k:Nat):Int)):=atI_nat (by rw[fu,Fp c h];rfl)
theorem vP{n k:Nat}(c:Nat->Nat)(v:Nat)(h:k<n):(bR n c).set k (v:Int)=bR n (fun i=>if i=k then v else c i):=by
 refine ZF fun i=> ?_;rw[wdu];by_cases hi:i<n
 ·rw[Fp _ hi,Fp _ hi,HY];by_cases e:k=i
  ·rw[aH e,aH h,aH e.symm]
  ·rw[aB e,aB (mj e)]
 ·rw[U7 (by rw[HY];omega),U7 (by rw[HY];omega),aB (by omega)]
theorem cD.IK{C:Addr}{H0 H:Hp}{o dx cl co ro:Addr}{rws:List Addr}{n m:Nat}{T:Sx.Tab}(h:cD K C H0 H o dx cl co ro rws n m T){r:Nat}(hr:r<=m):∃a,rws[r]? =some a/\atI (rws.map V.ref) (r:Int)=some (.ref a)/\H a=some (.lst (aX n (T.cell r))):=by
 have hl:=h.len;have e:rws[r]? =some rws[r]:=fL (by omega);exact⟨rws[r],e,atI_nat (by rw[fu,e];rfl),h.row r _ e⟩
theorem cD.aao{C:Addr}{H0 H:Hp}{o dx cl co ro:Addr}{rws:List Addr}{n m:Nat}{T:Sx.Tab}(h:cD K C H0 H o dx cl co ro rws n m T):∃a,rws[m]? =some a/\atI (rws.map V.ref) (-1)=some (.ref a)/\H a=some (.lst (aX n (T.cell m))):=by
 obtain⟨a,e,_,f⟩:=h.IK (aW m);exact⟨a,e,atI_last (by rw[aM,h.len,fu,Nat.add_sub_cancel,e];rfl) (by rw[aM,h.len];omega),f⟩
noncomputable def Lf(K:W.Frag)(C:Addr):Sp:=fun vs H Q _=>∃(o:Addr) (H0:Hp) (n m:Nat) (S:Nat->Nat->Bool) (wt:Nat->Int) (T:Sx.Tab),vs=[.ref o]/\lg K C H0 H o n m T/\TG n m S wt T/\
 ((∀c,c<n->0<=T.cell m c)->∀H',Same H H'->Q .non H')/\∀(q:Nat) H',q<n->T.cell m q<0->(∀c,c<n->T.cell m c<0->T.col q<=T.col c)->Same H H'->Q (.int (q:Int)) H'
theorem W5{f C:Addr}{fd:ρ}(F:Fun K "next_column" "Tableau.next_column" zbr f fd)
  (Cc:Cls K C)(aY:NoAttr K C "cells")(cV:NoAttr K C "over")(aV:NoAttr K C "columns")(cu:NoAttr K C "rows")(cP:mg "enumerate"=none)(zG:mg "min"=none):
  FnOk P w K mg base CX0 1 f fd ["self"] (Lf K C):=by
 refine F.cQ ["self","worth","names"] fun cdv A outer s H vs Q E hr h=> ?_;obtain⟨o,H0,n,m,S,wt,T,rfl,⟨dx,cl,co,ro,rws,hT⟩,hG,q1,q2⟩:=h;refine bw ?_;intro Y;refine⟨_,(aJ (pS 1 (bf jF (dB (pv 0) rfl) (pe_un un_neg aq))) (aJ (pX 2 ["k","name"] ["worth"] [1] (sJ rfl cP (aj (dB (pv 0) rfl) ak)) (fH K (n:=2) rfl (qe (pG 0) (qe (pG 1) Fo))) (HW (dg op_lt (bf (iW K) (pv 2) (pv 0)) aq)) (pv 1)) (aP (bO (pe_ifExp (pt_truth (pv 2) (fun _=>rfl)) (pe_bm QJ wbk wbl qH (dB (pv 0) rfl) (aj (pB (JK rfl) zG (aj (pv 2) ak)) ak)) pe_non))))),?_⟩;refine mF ?_;intro c3 c2;obtain⟨za,ze,zi,zr⟩:=hT.aao;refine⟨_,rfl,o,C,dx,_,_,rfl,hT.at_,Cc,aY,rfl,_,rfl,cl,_,_,_,rfl,rfl,SqL.of hT.cells,zi,?_⟩;refine⟨_,rfl,o,C,dx,_,_,rfl,hT.at_,Cc,aV,rfl,false,co,_,rfl,SqL.of hT.cols,fun hz=> ?_⟩;let jR:Nat->List V->St->Hp->Prop:=fun i acc σ H'=>acc=(((List.range i).filter fun c=>decide (T.cell m c<0)).map fun c=>((T.col c:Nat):Int)).map V.int/\Same H H'/\∃o1 o2,σ=[o1,o2,some (.ref za)];refine lR (K:=K) (b:=false) (a:=co) (xs:=(bR n T.col).map V.int) jR ⟨rfl,Same.refl _,_,_,rfl⟩ (fun i acc σ H' _ p=>p.2.1.seq (SqL.of hT.cols)) (fun i acc σ H' _ p=> ?_) hz (fun i v t acc σ H' hv p ht=> ?_) (fun acc σ H' p=> ?_)
 ·rw[p.1,aM,aM];exact dD (yp _ _) (by rw[yx];exact aW _)
 ·obtain⟨rfl,sm,o1,o2,rfl⟩:=p;have hi:i<n:=by
   have:=(oF.mp hv).1;rw[aM,HY]at this;exact this
  rw[fu,Fp _ hi]at hv;cases hv;have s1:=aK ht (.tup [.int (i:Int),.int ((T.col i:Nat):Int)]);refine⟨t,_,rfl,SqT.of au,rfl,_,_,rfl,_,_,rfl,rfl,?_⟩;refine⟨_,rfl,_,rfl,za,_,_,_,rfl,rfl,SqL.of ((sm.trans s1) _ _ zr),dM _ (cY hi),_,_,rfl,rfl,_,rfl,?_⟩;have go:((List.range (i+1)).filter fun c=>decide (T.cell m c<0))=((List.range i).filter fun c=>decide (T.cell m c<0))++(if decide (T.cell m i<0)=true then[i]else[]):=by
   rw[Bf,Kd];congr 1;rw[Ib];split<;>rfl
  refine ite2 (fun c=> ?_) (fun c=> ?_)
  ·exact⟨_,rfl,by rw[go,aH c,cU,cU];rfl,sm.trans s1,_,_,rfl⟩
  ·exact⟨by rw[go,aB c,Bg],sm.trans s1,_,_,rfl⟩
 ·intro p1 hp1;obtain⟨rfl,sm,_⟩:=p;rw[aM,HY];have s1:=aK hp1 (.lst ((((List.range n).filter fun c=>decide (T.cell m c<0)).map fun c=>((T.col c:Nat):Int)).map V.int));have e1:(upd H' p1 (.lst ((((List.range n).filter fun c=>decide (T.cell m c<0)).map fun c=>((T.col c:Nat):Int)).map V.int))) p1=some (.lst ((((List.range n).filter fun c=>decide (T.cell m c<0)).map fun c=>((T.col c:Nat):Int)).map V.int)):=au;have s2:=sm.trans s1;generalize (upd H' p1 (.lst ((((List.range n).filter fun c=>decide (T.cell m c<0)).map fun c=>((T.col c:Nat):Int)).map V.int)))=H1 at *;have hT1:=hT.sm s2;refine⟨_,rfl,_,.inl ⟨_,SqL.of e1,rfl⟩,?_⟩;cases hl:(List.range n).filter fun c=>decide (T.cell m c<0)with
  |nil=>
   refine iteF ?_;refine q1 (fun c hc=>Int.not_lt.mp fun hn=> ?_) _ s2;have:c∈(List.range n).filter fun c=>decide (T.cell m c<0):=gP.mpr ⟨sy.mpr hc,cX hn⟩;rw[hl]at this;cases this
  |cons c0 rest=>
   rw[hl]at e1;refine iteT ?_;refine⟨_,rfl,o,C,dx,_,_,rfl,hT1.at_,Cc,aV,rfl,.inl ⟨rfl,_,SqL.of hT1.cols⟩,_,rfl,p1,_,rfl,SqL.of e1,(fun e=>nomatch e),fun mn hmn hle=> ?_⟩;rw[<-hl]at hmn hle;obtain⟨c,hc,rfl⟩:=oJ.mp hmn;obtain⟨hc1,hc2⟩:=gP.mp hc;have hcn:=sy.mp hc1;refine⟨co,bR n T.col,_,c,rfl,rfl,hT1.cols,Fp _ hcn,fun i hi e=> ?_,by rw[HY];have:=hG.n10;omega,?_⟩
   ·rw[Fp _ (by omega)]at e;have:T.col i=T.col c:=ZX (tu e);have:=hG.good.Ec i c (by omega) hcn this;omega
   ·refine q2 c _ hcn (fM hc2) (fun c' hc' hn=> ?_) s2;have:=hle _ (oJ.mpr ⟨c',gP.mpr ⟨sy.mpr hc',cX hn⟩,rfl⟩);omega
noncomputable def Y8(n q:Nat)(T:Sx.Tab)(r t:Nat):Bool:=decide (T.cell r n*T.cell t q<T.cell t n*T.cell r q)||(decide (T.cell r n*T.cell t q=T.cell t n*T.cell r q)&&decide (T.row r<T.row t))
noncomputable def Vi(K:W.Frag)(C:Addr):Sp:=fun vs H Q _=>∃(o:Addr) (H0:Hp) (n m q r t:Nat) (S:Nat->Nat->Bool) (wt:Nat->Int) (T:Sx.Tab),vs=[.ref o,.int (q:Int),.int (r:Int),.int (t:Int)]/\lg K C H0 H o n m T/\TG n m S wt T/\q<n/\r<m/\t<m/\Q (.bl (Y8 n q T r t)) H
theorem WQ{f C:Addr}{fd:ρ}(F:Fun K "is_tighter" "Tableau.is_tighter" zby f fd)
  (Cc:Cls K C)(aY:NoAttr K C "cells")(cV:NoAttr K C "over")(aV:NoAttr K C "columns")(cu:NoAttr K C "rows"):
  FnOk P w K mg base CX0 1 f fd ["self","column","row","other"] (Vi K C):=by
 refine F.cQ ["self","column","row","other","one","two"] fun cdv A outer s H vs Q E hr h=> ?_;obtain⟨o,H0,n,m,q,r,t,S,wt,T,rfl,⟨dx,cl,co,ro,rws,hT⟩,hG,hq,hr0,ht,qq⟩:=h;refine bw ?_;intro Y;refine⟨_,(aJ (pS 4 (bB uP (bf jF (bf jF (dB (pv 0) rfl) (pv 2)) (pe_un un_neg aq)) (bf jF (bf jF (dB (pv 0) rfl) (pv 3)) (pv 1)))) (aJ (pS 5 (bB uP (bf jF (bf jF (dB (pv 0) rfl) (pv 3)) (pe_un un_neg aq)) (bf jF (bf jF (dB (pv 0) rfl) (pv 2)) (pv 1)))) (aP (bO (pe_or (JW op_lt (pv 4) (pv 5)) (pe_one (pe_and (JW op_eq (pv 4) (pv 5)) (pe_one (JW op_lt (bf jF (dB (pv 0) rfl) (pv 2)) (bf jF (dB (pv 0) rfl) (pv 3))))))))))),?_⟩;refine mF ?_;intro c3 c2;obtain⟨ra,re,ri,rr⟩:=hT.IK (cY hr0);obtain⟨ta,te,ti,tr⟩:=hT.IK (cY ht);have b1:=hG.cell (cY hr0) (aW n);have b2:=hG.cell (cY ht) (aW n);refine⟨_,rfl,o,C,dx,_,_,rfl,hT.at_,Cc,aY,rfl,_,rfl,cl,_,_,_,rfl,rfl,SqL.of hT.cells,ri,_,rfl,ra,_,_,_,rfl,rfl,SqL.of rr,qu _ _,?_⟩;refine⟨_,rfl,o,C,dx,_,_,rfl,hT.at_,Cc,aY,rfl,_,rfl,cl,_,_,_,rfl,rfl,SqL.of hT.cells,ti,_,rfl,ta,_,_,_,rfl,rfl,SqL.of tr,dM _ (cY hq),_,_,rfl,rfl,.inl ⟨by omega,by omega⟩,?_⟩;refine⟨_,rfl,o,C,dx,_,_,rfl,hT.at_,Cc,aY,rfl,_,rfl,cl,_,_,_,rfl,rfl,SqL.of hT.cells,ti,_,rfl,ta,_,_,_,rfl,rfl,SqL.of tr,qu _ _,?_⟩;refine⟨_,rfl,o,C,dx,_,_,rfl,hT.at_,Cc,aY,rfl,_,rfl,cl,_,_,_,rfl,rfl,SqL.of hT.cells,ri,_,rfl,ra,_,_,_,rfl,rfl,SqL.of rr,dM _ (cY hq),_,_,rfl,rfl,.inl ⟨by omega,by omega⟩,?_⟩;refine⟨_,rfl,_,rfl,_,_,rfl,rfl,_,rfl,?_⟩;unfold Y8 at qq;refine ite2 (fun c=> ?_) (fun c=> ?_)
 ·rw[c,Bool.true_or]at qq;exact qq
 ·rw[eq_false_of_ne_true c,Bool.false_or]at qq;refine⟨_,rfl,_,rfl,rfl,_,rfl,?_⟩;refine ite2 (fun c2=> ?_) (fun c2=> ?_)
  ·have c2':decide (T.cell r n*T.cell t q=T.cell t n*T.cell r q)=true:=cX (V.int.inj (fM c2));rw[c2',Bool.true_and]at qq;refine⟨_,rfl,o,C,dx,_,_,rfl,hT.at_,Cc,cu,rfl,_,rfl,ro,_,_,_,rfl,rfl,SqL.of hT.rows,pD _ hr0,?_⟩;refine⟨_,rfl,o,C,dx,_,_,rfl,hT.at_,Cc,cu,rfl,_,rfl,ro,_,_,_,rfl,rfl,SqL.of hT.rows,pD _ ht,_,_,rfl,rfl,?_⟩;rw[<-show decide (((T.row r:Nat):Int)<((T.row t:Nat):Int))=decide (T.row r<T.row t)from decide_eq_decide.mpr Int.ofNat_lt]at qq;exact qq
  ·have c2':decide (T.cell r n*T.cell t q=T.cell t n*T.cell r q)=false:=lV fun e=>c2 (cX (jX V.int e));rw[c2',Bool.false_and]at qq;exact qq
noncomputable def VH(n q:Nat)(T:Sx.Tab)(p r:Nat):Prop:=T.cell p n*T.cell r q<T.cell r n*T.cell p q\/(T.cell p n*T.cell r q=T.cell r n*T.cell p q/\T.row p<=T.row r)
theorem Jo{n q:Nat}{T:Sx.Tab}{a b c:Nat}(ha:0<T.cell a q)(hb:0<T.cell b q)(hc:0<T.cell c q)(h1:VH n q T a b)(h2:VH n q T b c):VH n q T a c:=by
 have cm:∀x y:Nat,T.cell x n*T.cell y q=T.cell y q*T.cell x n:=fun x y=>QF _ _;have cn:∀x y:Nat,T.cell y n*T.cell x q=T.cell x q*T.cell y n:=fun x y=>QF _ _;unfold VH at *;rw[cm a b,cn a b]at h1;rw[cm b c,cn b c]at h2;rw[cm a c,cn a c];rcases h1 with h1|⟨h1,l1⟩
 ·rcases h2 with h2|⟨h2,_⟩
  ·exact .inl (Sx.w6 hb ha hc (QD h1) h2)
  ·exact .inl (Sx.Ac hb ha hc h1 (ZV h2))
 ·rcases h2 with h2|⟨h2,l2⟩
  ·exact .inl (Sx.w6 hb ha hc (ZV h1) h2)
  ·exact .inr ⟨Int.le_antisymm (Sx.xg hb ha hc (ZV h1) (ZV h2)) (Sx.xg hb hc ha (by rw[<-h2];exact J4 _) (by rw[<-h1];exact J4 _)),dD l1 l2⟩
theorem Wf{n q:Nat}{T:Sx.Tab}{r t:Nat}(h:Y8 n q T r t=true):VH n q T r t:=by
 unfold Y8 at h;rw[Bool.or_eq_true,oM]at h;rcases h with h|⟨h1,h2⟩
 ·exact .inl (fM h)
 ·exact .inr ⟨fM h1,cY (fM h2)⟩
theorem aaf{n q:Nat}{T:Sx.Tab}{r t:Nat}(h:Y8 n q T r t=false):VH n q T t r:=by
 unfold Y8 at h;rw[Bool.or_eq_false_iff,weq]at h;have h1:=Kf h.1;by_cases c:T.cell r n*T.cell t q=T.cell t n*T.cell r q
 ·refine .inr ⟨c.symm,?_⟩;rcases h.2 with z|z
  ·exact absurd c (Kf z)
  ·exact Nat.not_lt.mp (Kf z)
 ·exact .inl (by omega)
noncomputable def Vk(K:W.Frag)(C:Addr):Sp:=fun vs H Q _=>∃(o:Addr) (H0:Hp) (n m q:Nat) (S:Nat->Nat->Bool) (wt:Nat->Int) (T:Sx.Tab),vs=[.ref o,.int (q:Int)]/\lg K C H0 H o n m T/\TG n m S wt T/\q<n/\
 ∀p:Nat,p<m->0<T.cell p q->(∀r,r<m->0<T.cell r q->VH n q T p r)->Q (.int (p:Int)) H
theorem WY{f f1 C:Addr}{fd d1:ρ}(F:Fun K "next_row" "Tableau.next_row" zcj f fd)
  (Cc:Cls K C)(aY:NoAttr K C "cells")(cV:NoAttr K C "over")(aV:NoAttr K C "columns")(cu:NoAttr K C "rows")(D1:jU K C "is_tighter" "Tableau.is_tighter" zby ["self","column","row","other"] f1 d1)(G1:FnOk P w K mg base CX0 1 f1 d1 ["self","column","row","other"] (Vi K C))(aL:mg "range"=none)(cO:mg "len"=none):
  FnOk P w K mg base CX0 2 f fd ["self","column"] (Vk K C):=by
 refine F.cQ ["self","column","tightest","row"] fun cdv A outer s H vs Q E hr h=> ?_;obtain⟨o,H0,n,m,q,S,wt,T,rfl,⟨dx,cl,co,ro,rws,hT⟩,hG,hq,qq⟩:=h;refine⟨_,(aJ (pS 2 pe_non) (aJ (ps_for yD rfl (J2 rfl aL (aj (pB v7 cO (aj (dB (pv 0) rfl) ak)) ak)) (pG 3) (aP (dN (PW.pt (pw_and (dg op_gt (bf jF (bf jF (dB (pv 0) rfl) (pv 3)) (pv 1)) aq) (pw_and1 (PW.pt (pw_or (dg op_isN (pv 2) pe_non) (pw_or1 (qd (qj (pv 0) Cc D1.m G1 hr D1.b .nil pass0 (aj (pv 1) (aj (pv 3) (aj (pv 2) ak))))))))))) (aP (pS 2 (pv 3))) dW))) (aP (bO (pv 2))))),?_⟩;refine⟨_,rfl,o,C,dx,_,_,rfl,hT.at_,Cc,cu,rfl,ro,_,rfl,.inl (SqL.of hT.rows),fun _=> ?_⟩;rw[aM,HY];refine⟨_,rfl,by have:=hG.m40;omega,by have:=hG.m40;omega,?_⟩;refine Q6 (n:=m) (fun i σ H'=>H'=H/\∃(x:V) (o3:Option V),σ=[some (.ref o),some (.int (q:Int)),some x,o3]/\((x= .non/\∀r,r<i->T.cell r q<=0)\/∃p:Nat,p<i/\x= .int (p:Int)/\0<T.cell p q/\∀r,r<i->0<T.cell r q->VH n q T p r)) ⟨rfl,_,_,rfl,.inl ⟨rfl,fun r hr=>absurd hr (V1 r)⟩⟩ (fun i σ H' hi p=> ?_) (fun σ H' p=> ?_)
 ·obtain⟨rfl,x,o3,rfl,hx⟩:=p;rw[weo];obtain⟨ra,re,ri,rr⟩:=hT.IK (cY hi);refine⟨_,rfl,o,C,dx,_,_,rfl,hT.at_,Cc,aY,rfl,_,rfl,cl,_,_,_,rfl,rfl,SqL.of hT.cells,ri,_,rfl,ra,_,_,_,rfl,rfl,SqL.of rr,dM _ (cY hq),_,_,rfl,rfl,_,rfl,?_⟩;refine ite2 (fun c=> ?_) (fun c=> ?_)
  ·have c':0<T.cell i q:=fM c;rcases hx with⟨rfl,hx⟩|⟨p,hp,rfl,hp0,hlev⟩
   ·refine⟨_,rfl,rfl,_,rfl,?_⟩;refine iteT ?_;refine iteT ?_;refine⟨_,rfl,rfl,_,_,rfl,.inr ⟨i,vH i,rfl,c',fun r hr h0=> ?_⟩⟩;by_cases e:r=i
    ·subst e;exact .inr ⟨rfl,aW _⟩
    ·have:=hx r (by omega);omega
   ·refine⟨_,rfl,rfl,_,rfl,?_⟩;refine iteF ?_;refine⟨_,rfl,o,dx,_,rfl,hT.at_,rfl,_,rfl,_,rfl,_,rfl,o,H0,n,m,q,i,p,S,wt,T,rfl,⟨dx,cl,co,ro,rws,hT⟩,hG,hq,hi,by omega,_,rfl,?_⟩;refine ite2 (fun z=> ?_) (fun z=> ?_)
    ·refine⟨_,rfl,rfl,_,_,rfl,.inr ⟨i,vH i,rfl,c',fun r hr h0=> ?_⟩⟩;by_cases e:r=i
     ·subst e;exact .inr ⟨rfl,aW _⟩
     ·exact Jo c' hp0 h0 (Wf z) (hlev r (by omega) h0)
    ·refine⟨rfl,_,_,rfl,.inr ⟨p,by omega,rfl,hp0,fun r hr h0=> ?_⟩⟩;by_cases e:r=i
     ·subst e;exact aaf (eq_false_of_ne_true z)
     ·exact hlev r (by omega) h0
  ·refine iteF ?_;have c':T.cell i q<=0:=Int.not_lt.mp fun h=>c (cX h);refine⟨rfl,_,_,rfl,?_⟩;rcases hx with⟨rfl,hx⟩|⟨p,hp,rfl,hp0,hlev⟩
   ·refine .inl ⟨rfl,fun r hr=> ?_⟩;by_cases e:r=i
    ·subst e;exact c'
    ·exact hx r (by omega)
   ·refine .inr ⟨p,by omega,rfl,hp0,fun r hr h0=> ?_⟩;by_cases e:r=i
    ·subst e;omega
    ·exact hlev r (by omega) h0
 ·obtain⟨rfl,x,o3,rfl,hx⟩:=p;rcases hx with⟨rfl,hx⟩|⟨p,hp,rfl,hp0,hlev⟩
  ·obtain⟨r,hr0,h0⟩:=hG.good.bounded hG.cov hq;have:=hx r hr0;omega
  ·exact⟨_,rfl,qq p hp hp0 hlev⟩
noncomputable def tdF(ov:Int)(X Y:Nat->Int)(q c:Nat):Int:=if c=q then -X q else(X c*Y q-X q*Y c)/ov
theorem yW{n q:Nat}(X:Nat->Int)(v:Int)(h:q<=n):(aX n X).set q (.int v)=aX n fun c=>if c=q then v else X c:=by
 refine ZF fun i=> ?_;rw[wdu];by_cases hi:i<=n
 ·rw[pq _ hi,pq _ hi,HX];by_cases e:q=i
  ·rw[aH e,aH (by omega),aH e.symm]
  ·rw[aB e,aB (mj e)]
 ·rw[U7 (by rw[HX];omega),U7 (by rw[HX];omega),aB (by omega)]
theorem nJ{n:Nat}{X Y:Nat->Int}(h:∀c,c<=n->X c=Y c):aX n X=aX n Y:=by
 unfold aX;rw[YX fun c hc=>h c (by have:=sy.mp hc;omega)]
noncomputable def Vj(K:W.Frag)(C:Addr):Sp:=fun vs H Q _=>∃(o xa ya:Addr) (H0:Hp) (n m q:Nat) (X Y:Nat->Int) (T:Sx.Tab),vs=[.ref o,.ref xa,.ref ya,.int (q:Int)]/\lg K C H0 H o n m T/\n<=10/\(0<T.over/\T.over<=39916800)/\q<=n/\H xa=some (.lst (aX n X))/\H ya=some (.lst (aX n Y))/\
 (∀c,c<=n->(-4000000000<=X c/\X c<=4000000000)/\(-4000000000<=Y c/\Y c<=4000000000))/\∀r H',Same H H'->H r=none->H' r=some (.lst (aX n (tdF T.over X Y q)))->Q (.ref r) H'
theorem WR{f C:Addr}{fd:ρ}(F:Fun K "turned" "Tableau.turned" zdc f fd)
  (Cc:Cls K C)(aY:NoAttr K C "cells")(cV:NoAttr K C "over")(aV:NoAttr K C "columns")(cu:NoAttr K C "rows")(cP:mg "enumerate"=none):
  FnOk P w K mg base CX0 1 f fd ["self","cells","pivots","column"] (Vj K C):=by
 refine F.cQ ["self","cells","pivots","column","by","fresh"] fun cdv A outer s H vs Q E hr h=> ?_;obtain⟨o,xa,ya,H0,n,m,q,X,Y,T,rfl,⟨dx,cl,co,ro,rws,hT⟩,hn,⟨ho0,ho1⟩,hq,hX,hY,hb,qq⟩:=h;refine⟨_,(aJ (pS 4 (bf jF (pv 2) (pv 3))) (aJ (pX 5 ["k","cell"] ["by","cells","column","pivots","self"] [4,1,3,2,0] (sJ rfl cP (aj (pv 1) ak)) (fH K (n:=2) rfl (qe (pG 0) (qe (pG 1) Fo))) sX (bB pC (bB op_sub (bB uP (pv 1) (pv 2)) (bB uP (bf (iW K) (pv 3) (pv 4)) (bf (iW K) (pv 5) (pv 0)))) (RV K (pv 6) rfl))) (aJ (ps_asg (pe_un un_neg (bf jF (pv 1) (pv 3))) (pg_sub (pv 5) (pv 3) set_list)) (aP (bO (pv 5)))))),?_⟩;refine⟨_,rfl,_,rfl,ya,_,_,_,rfl,rfl,SqL.of hY,dM _ hq,?_⟩;refine⟨_,rfl,false,xa,_,rfl,SqL.of hX,fun hz=> ?_⟩;refine lR (K:=K) (b:=false) (a:=xa) (xs:=aX n X) (fun i acc σ H'=>acc=((List.range i).map fun c=>(X c*Y q-X q*Y c)/T.over).map V.int/\Same H H'/\∃o1 o2,σ=[o1,o2,some (.int (Y q)),some (.ref xa),some (.int (q:Int)),some (.ref ya),some (.ref o)]) ⟨rfl,Same.refl _,_,_,rfl⟩ (fun i acc σ H' _ p=>p.2.1.seq (SqL.of hX)) (fun i acc σ H' _ p=> ?_) hz (fun i v t acc σ H' hv p ht=> ?_) (fun acc σ H' p=> ?_)
 ·rw[p.1,aM,aM,yx];exact aW _
 ·obtain⟨rfl,sm,o1,o2,rfl⟩:=p;have hi:i<=n:=by
   have:=(oF.mp hv).1;rw[HX]at this;omega
  rw[pq _ hi]at hv;cases hv;have s1:=aK ht (.tup [.int (i:Int),.int (X i)]);have s2:=sm.trans s1;have bi:=(hb i hi).1;have bq:=(hb q hq).1;refine⟨t,_,rfl,SqT.of au,rfl,_,_,rfl,_,_,rfl,rfl,?_⟩;refine⟨_,rfl,_,rfl,_,_,rfl,rfl,.inl ⟨by omega,by omega⟩,?_⟩;refine⟨_,rfl,_,rfl,xa,_,_,_,rfl,rfl,SqL.of (s2 _ _ hX),dM _ hq,_,rfl,_,rfl,ya,_,_,_,rfl,rfl,SqL.of (s2 _ _ hY),dM _ hi,_,_,rfl,rfl,.inl ⟨by omega,by omega⟩,_,_,rfl,rfl,?_⟩;refine⟨_,rfl,o,C,dx,_,_,rfl,s2 _ _ hT.at_,Cc,cV,rfl,_,_,rfl,rfl,⟨ho0,by omega⟩,?_⟩;exact⟨by rw[Bf,cU,cU];rfl,s2,_,_,rfl⟩
 ·intro p1 hp1;obtain⟨rfl,sm,_⟩:=p;rw[HX];have s1:=aK hp1 (.lst (aX n fun c=>(X c*Y q-X q*Y c)/T.over));have s2:=sm.trans s1;have h0:H p1=none:=by
   cases e:H p1 with
   |none=>rfl
   |some u=>rw[sm _ _ e]at hp1;cases hp1
  refine⟨_,rfl,_,rfl,xa,_,_,_,rfl,rfl,SqL.of (s2 _ _ hX),dM _ hq,_,rfl,?_⟩;refine⟨_,rfl,_,rfl,p1,_,_,q,rfl,rfl,au,?_,?_⟩
  ·have e:ixN (aX n fun c=>(X c*Y q-X q*Y c)/T.over).length (q:Int)=some q:=by
    rw[HX];unfold ixN;rw[aH (by omega),aH (by omega)];rfl
   exact e
  ·refine⟨_,rfl,qq p1 _ (fun b u hb=> ?_) h0 ?_⟩
   ·have nb:b≠p1:=fun e=>by rw[e,h0]at hb;cases hb
    rw[cG nb];exact s2 _ _ hb
   ·rw[au];have e:=yW (fun c=>(X c*Y q-X q*Y c)/T.over) (-X q) hq;exact jX (fun l=>some (HO.lst l)) e
theorem Ur{xs:List V}{k:Nat}(hk:k<=xs.length):cutV xs none (some (k:Int))=xs.take k:=by
 unfold cutV;rw[HT.sIx_nat,HT.sIx_none,Nat.min_eq_left hk,List.drop_zero,Nat.sub_zero]
theorem JH{xs:List V}{k:Nat}(hk:k<=xs.length):cutV xs (some (k:Int)) none=xs.drop k:=by
 unfold cutV;rw[HT.sIx_nat,HT.sIx_none,Nat.min_eq_left hk,ZM (by rw[List.length_drop];omega)]
theorem _root_.L2.Same.uY{H0 H:Hp}{a:Addr}{u:HO}(s:Same H0 H)(h:H0 a=none):Same H0 (upd H a u):=fun b o hb=>by
 have nb:b≠a:=fun e=>by rw[e,h]at hb;cases hb
 rw[cG nb];exact s _ _ hb
theorem _root_.L2.Same.none{H0 H:Hp}{a:Addr}(s:Same H0 H)(h:H a=none):H0 a=none:=by
 cases e:H0 a with
 |none=>rfl
 |some u=>rw[s _ _ e]at h;cases h
section
variable{C:Addr}{H0 H:Hp}{o dx cl co ro:Addr}{rws:List Addr}{n m:Nat}{T:Sx.Tab}
theorem cD.ocl(h:cD K C H0 H o dx cl co ro rws n m T):o≠cl:=ne_of h.at_ h.cells fun e=>nomatch e
theorem cD.oco(h:cD K C H0 H o dx cl co ro rws n m T):o≠co:=ne_of h.at_ h.cols fun e=>nomatch e
theorem cD.oro(h:cD K C H0 H o dx cl co ro rws n m T):o≠ro:=ne_of h.at_ h.rows fun e=>nomatch e
theorem lN{rws:List Addr}{xs:List Int}(h:0<rws.length)(e:rws.map V.ref=xs.map V.int):False:=by
 cases rws with
 |nil=>exact absurd h (uR 0)
 |cons a r=>
  cases xs with
  |nil=>cases e
  |cons x xs=>injection e with e1 _;cases e1
theorem cD.aa7(h:cD K C H0 H o dx cl co ro rws n m T):cl≠co:=fun e=>by
 have z:=h.cols;rw[<-e,h.cells]at z;exact lN (by rw[h.len];omega) (HO.lst.inj (tu z))
theorem cD.aa6(h:cD K C H0 H o dx cl co ro rws n m T):cl≠ro:=fun e=>by
 have z:=h.rows;rw[<-e,h.cells]at z;exact lN (by rw[h.len];omega) (HO.lst.inj (tu z))
theorem cD.aa5(h:cD K C H0 H o dx cl co ro rws n m T){r:Nat}{a:Addr}(e:rws[r]? =some a):a≠cl:=fun z=>by
 have y:=h.row r a e;rw[z,h.cells]at y;exact lN (by rw[h.len];omega) (HO.lst.inj (tu y))
theorem cD.orow(h:cD K C H0 H o dx cl co ro rws n m T){r:Nat}{a:Addr}(e:rws[r]? =some a):a≠o:=fun z=>by
 have y:=h.row r a e;rw[z,h.at_]at y;cases y
theorem cD.Mj(h:cD K C H0 H o dx cl co ro rws n m T){Zk:Addr}{BX:List Addr}{X:Nat->Nat->Int}(h0:H0 Zk=none)(hc:H Zk=some (.lst (BX.map V.ref)))(hl:BX.length=m+1)(hr:∀r a,BX[r]? =some a->H a=some (.lst (aX n (X r))))(n1:co∉BX)(n2:ro∉BX):
  cD K C H0 (upd H o (.ins C dx (putF "cells" (.ref Zk) (flds cl co ro T.over)))) o dx Zk co ro BX n m {T with cell:=X}:=by
 have k:∀b,b≠o->∀u,H b=some u->(upd H o (.ins C dx (putF "cells" (.ref Zk) (flds cl co ro T.over)))) b=some u:=fun b hb u e=>by rw[cG hb];exact e
 refine⟨h.same.uY h.o0,h.o0,h0,h.VF,h.Vr,h.ne,n1,n2,au,k _ (fun e=> ?_) _ hc,hl,fun r a e=>k _ (fun z=> ?_) _ (hr r a e),k _ h.oco.symm _ h.cols,k _ h.oro.symm _ h.rows⟩
 ·rw[e,h.at_]at hc;cases hc
 ·have y:=hr r a e;rw[z,h.at_]at y;cases y
theorem cD.Wu(h:cD K C H0 H o dx cl co ro rws n m T){p:Nat}{a:Addr}{X:Nat->Int}(hp:p<=m)(ha:H a=some (.lst (aX n X)))(n1:co≠a)(n2:ro≠a):
  cD K C H0 (upd H cl (.lst ((rws.map V.ref).set p (.ref a)))) o dx cl co ro (rws.set p a) n m {T with cell:=fun r c=>if r=p then X c else T.cell r c}:=by
 have k:∀b,b≠cl->∀u,H b=some u->(upd H cl (.lst ((rws.map V.ref).set p (.ref a)))) b=some u:=fun b hb u e=>by rw[cG hb];exact e
 have hac:a≠cl:=fun z=>by
  rw[z,h.cells]at ha;exact lN (by rw[h.len];omega) (HO.lst.inj (tu ha))
 refine⟨h.same.uY h.Yr,h.o0,h.Yr,h.VF,h.Vr,h.ne,fun z=> ?_,fun z=> ?_,k _ h.ocl _ h.at_,by rw[au,wfc],by rw[List.length_set];exact h.len,fun r b e=> ?_,k _ h.aa7.symm _ h.cols,k _ h.aa6.symm _ h.rows⟩
 ·rcases wdm z with z|z
  ·exact h.nc z
  ·exact n1 z
 ·rcases wdm z with z|z
  ·exact h.nr z
  ·exact n2 z
 ·rw[wdu]at e;by_cases c:p=r
  ·rw[aH c,aH (by rw[h.len];omega)]at e;cases e;rw[k _ hac _ ha];exact jX (fun l=>some (HO.lst l)) (nJ fun c' _=>by show X c'=if r=p then X c' else T.cell r c';rw[aH c.symm])
  ·rw[aB c]at e;rw[k _ (h.aa5 e) _ (h.row r b e)];exact jX (fun l=>some (HO.lst l)) (nJ fun c' _=>by show T.cell r c'=if r=p then X c' else T.cell r c';rw[aB (mj c)])
theorem cD.setOver(h:cD K C H0 H o dx cl co ro rws n m T)(v:Int):cD K C H0 (upd H o (.ins C dx (putF "over" (.int v) (flds cl co ro T.over)))) o dx cl co ro rws n m {T with over:=v}:=by
 have k:∀b,b≠o->∀u,H b=some u->(upd H o (.ins C dx (putF "over" (.int v) (flds cl co ro T.over)))) b=some u:=fun b hb u e=>by rw[cG hb];exact e
 exact⟨h.same.uY h.o0,h.o0,h.Yr,h.VF,h.Vr,h.ne,h.nc,h.nr,au,k _ h.ocl.symm _ h.cells,h.len,fun r a e=>k _ (h.orow e) _ (h.row r a e),k _ h.oco.symm _ h.cols,k _ h.oro.symm _ h.rows⟩
theorem cD.Ry(h:cD K C H0 H o dx cl co ro rws n m T){p:Nat}(v:Nat)(hp:p<m):cD K C H0 (upd H ro (.lst (((bR m T.row).map V.int).set p (.int (v:Int))))) o dx cl co ro rws n m {T with row:=fun r=>if r=p then v else T.row r}:=by
 have k:∀b,b≠ro->∀u,H b=some u->(upd H ro (.lst (((bR m T.row).map V.int).set p (.int (v:Int))))) b=some u:=fun b hb u e=>by rw[cG hb];exact e
 refine⟨h.same.uY h.Vr,h.o0,h.Yr,h.VF,h.Vr,h.ne,h.nc,h.nr,k _ h.oro _ h.at_,k _ h.aa6 _ h.cells,h.len,fun r a e=>k _ (fun z=>h.nr (z▸uT e)) _ (h.row r a e),k _ h.ne _ h.cols,?_⟩;rw[au,<-wfc,vP _ _ hp]
theorem cD.Rz(h:cD K C H0 H o dx cl co ro rws n m T){q:Nat}(v:Nat)(hq:q<n):cD K C H0 (upd H co (.lst (((bR n T.col).map V.int).set q (.int (v:Int))))) o dx cl co ro rws n m {T with col:=fun c=>if c=q then v else T.col c}:=by
 have k:∀b,b≠co->∀u,H b=some u->(upd H co (.lst (((bR n T.col).map V.int).set q (.int (v:Int))))) b=some u:=fun b hb u e=>by rw[cG hb];exact e
 refine⟨h.same.uY h.VF,h.o0,h.Yr,h.VF,h.Vr,h.ne,h.nc,h.nr,k _ h.oco _ h.at_,k _ h.aa7 _ h.cells,h.len,fun r a e=>k _ (fun z=>h.nc (z▸uT e)) _ (h.row r a e),?_,k _ h.ne.symm _ h.rows⟩;rw[au,<-wfc,vP _ _ hq]
end
theorem Mq{n q:Nat}(X:Nat->Int)(v:Int)(h:q<=n):((aX n X).take q++[.int v])++(aX n X).drop (q+1)=aX n fun c=>if c=q then v else X c:=by
 rw[<-yW X v h,List.set_eq_take_append_cons_drop,aH (by rw[HX];omega),wdo];rfl
noncomputable def Vh(K:W.Frag)(C:Addr):Sp:=fun vs H Q _=>∃(o:Addr) (H0:Hp) (n m p q:Nat) (S:Nat->Nat->Bool) (wt:Nat->Int) (T:Sx.Tab),vs=[.ref o,.int (p:Int),.int (q:Int)]/\lg K C H0 H o n m T/\TG n m S wt T/\p<m/\q<n/\∀H',lg K C H0 H' o n m (Sx.turn T p q)->Q .non H'
theorem WM{f f1 C:Addr}{fd d1:ρ}(F:Fun K "turn" "Tableau.turn" gA f fd)
  (Cc:Cls K C)(aY:NoAttr K C "cells")(cV:NoAttr K C "over")(aV:NoAttr K C "columns")(cu:NoAttr K C "rows")(D1:jU K C "turned" "Tableau.turned" zdc ["self","cells","pivots","column"] f1 d1)(G1:FnOk P w K mg base CX0 1 f1 d1 ["self","cells","pivots","column"] (Vj K C)):
  FnOk P w K mg base CX0 2 f fd ["self","row","column"] (Vh K C):=by
 refine F.cQ ["self","row","column","pivots","by","name"] fun cdv A outer s H vs Q E hr h=> ?_;obtain⟨o,H0,n,m,p,q,S,wt,T,rfl,⟨dx,cl,co,ro,rws,hT⟩,hG,hp,hq,qq⟩:=h;refine bw ?_;intro Y;refine⟨_,(aJ (pS 3 (bf jF (dB (pv 0) rfl) (pv 1))) (aJ (pS 4 (bf jF (pv 3) (pv 2))) (aJ (ps_fld (pv 0) (pK ["cells"] ["self","pivots","column"] [0,3,2] (yh (dB (pv 0) rfl)) (pG 0) sX (qj (pv 1) Cc D1.m G1 hr D1.b .nil pass0 (aj (pv 0) (aj (pv 2) (aj (pv 3) ak))))) rfl) (aJ (ps_asg (bB op_cat (bB op_cat (pe_slice sl_list (pv 3) po_none (po_some (pv 2))) (uQ (aj (dB (pv 0) rfl) ak))) (pe_slice sl_list (pv 3) (po_some (bB mQ (pv 2) aq)) po_none)) (pg_sub (dB (pv 0) rfl) (pv 1) set_list)) (aJ (ps_fld (pv 0) (pv 4) rfl) (aJ (pS 5 (bf jF (dB (pv 0) rfl) (pv 1))) (aJ (ps_asg (bf jF (dB (pv 0) rfl) (pv 2)) (pg_sub (dB (pv 0) rfl) (pv 1) set_list)) (aP (ps_asg (pv 5) (pg_sub (dB (pv 0) rfl) (pv 2) set_list)))))))))),?_⟩;refine aaI ?_;intro c8 c7 c6 c5 c4 c3 c2;obtain⟨pa,pe,pi,pr⟩:=hT.IK (cY hp);refine⟨_,rfl,o,C,dx,_,_,rfl,hT.at_,Cc,aY,rfl,_,rfl,cl,_,_,_,rfl,rfl,SqL.of hT.cells,pi,?_⟩;refine⟨_,rfl,_,rfl,pa,_,_,_,rfl,rfl,SqL.of pr,dM _ (cY hq),?_⟩;refine⟨_,rfl,o,C,dx,_,_,rfl,hT.at_,Cc,aY,rfl,cl,_,rfl,SqL.of hT.cells,fun hz=> ?_⟩;let jR:Nat->List V->St->Hp->Prop:=fun i acc σ H'=>∃as:List Addr,acc=as.map V.ref/\as.length=i/\Same H H'/\(∀r a,as[r]? =some a->H a=none/\H' a=some (.lst (aX n (tdF T.over (T.cell r) (T.cell p) q))))/\∃o1,σ=[o1,some (.ref o),some (.ref pa),some (.int (q:Int))];refine J0 (xs:=rws.map V.ref) jR ⟨[],rfl,rfl,Same.refl _,fun r a e=>(nomatch e),_,rfl⟩ (fun i acc σ H' _ x=> ?_) (fun i acc σ H' _ x=> ?_) hz (fun i v acc σ H' hv x=> ?_) (fun acc σ H' x=> ?_)
 ·obtain⟨_,_,_,sm,_⟩:=x;exact sm.seq (SqL.of hT.cells)
 ·obtain⟨as,rfl,hl,_⟩:=x;rw[aM,hl];exact aW _
 ·obtain⟨as,rfl,hl,sm,has,o1,rfl⟩:=x;rw[fu]at hv;cases er:rws[i]? with
  |none=>rw[er]at hv;cases hv
  |some ra=>
   rw[er]at hv;cases hv;have him:i<=m:=by have:=(oF.mp er).1;rw[hT.len]at this;omega
   refine⟨_,rfl,o,dx,_,rfl,sm _ _ hT.at_,rfl,_,rfl,_,rfl,_,rfl,o,ra,pa,H0,n,m,q,T.cell i,T.cell p,T,rfl,⟨dx,cl,co,ro,rws,hT.sm sm⟩,hG.n10,hG.over,cY hq,sm _ _ (hT.row i ra er),sm _ _ pr,fun c hc=>⟨hG.cell him hc,hG.cell (cY hp) hc⟩,fun r1 H1 s1 h1 e1=> ?_⟩;refine⟨as++[r1],by rw[cU];rfl,by rw[rJ,hl];rfl,sm.trans s1,fun r a e=> ?_,_,rfl⟩;rw[wcq]at e;by_cases c:r<as.length
   ·rw[aH c]at e;exact⟨(has r a e).1,s1 _ _ (has r a e).2⟩
   ·rw[aB c]at e;have er':r-as.length=0:=by
     have:=(oF.mp e).1;have:r-as.length<1:=this;omega
    rw[er']at e;cases e;have:r=i:=by omega
    subst this;exact⟨sm.none h1,e1⟩
 ·intro p1 hp1;obtain⟨as,rfl,hl,sm,has,_⟩:=x;rw[aM,hT.len]at hl;have s1:=aK hp1 (.lst (as.map V.ref));have hT1:=hT.sm (sm.trans s1);have h10:H0 p1=none:=hT.same.none (sm.none hp1);have nas:∀b u,H b=some u->b∉as:=fun b u hb hm=>by
   obtain⟨r,hr1,rfl⟩:=U6 hm;have:=(has r _ (fL hr1)).1;rw[hb]at this;cases this
  have hT2:=hT1.Mj (Zk:=p1) (BX:=as) (X:=fun r=>tdF T.over (T.cell r) (T.cell p) q) h10 au hl (fun r a e=>s1 _ _ (has r a e).2) (nas _ _ hT.cols) (nas _ _ hT.rows);refine⟨_,rfl,o,C,dx,_,rfl,hT1.at_,Cc,aY,(by show 4<1000;decide),?_⟩;have npo:pa≠o:=hT.orow pe;have pr2:=(sm.trans s1) _ _ pr;have pr3:(upd (upd H' p1 (.lst (as.map V.ref))) o (.ins C dx (putF "cells" (.ref p1) (flds cl co ro T.over)))) pa=some (.lst (aX n (T.cell p))):=by rw[cG npo];exact pr2
  generalize (upd (upd H' p1 (.lst (as.map V.ref))) o (.ins C dx (putF "cells" (.ref p1) (flds cl co ro T.over))))=H2 at *
  -- the row of the turn
  refine⟨_,rfl,_,rfl,_,rfl,pa,_,rfl,SqL.of pr3,fun l1 hl1=> ?_⟩;have t1:=aK hl1 (.lst (cutV (aX n (T.cell p)) none (some (q:Int))));have f1:(upd H2 l1 (.lst (cutV (aX n (T.cell p)) none (some (q:Int))))) l1=some (.lst (cutV (aX n (T.cell p)) none (some (q:Int)))):=au;generalize (upd H2 l1 (.lst (cutV (aX n (T.cell p)) none (some (q:Int)))))=H3 at *;refine⟨_,rfl,o,C,dx,_,_,rfl,t1 _ _ hT2.at_,Cc,cV,rfl,(by show 1<=sizeLine;decide),fun l2 hl2=> ?_⟩;have t2:=aK hl2 (.lst [.int T.over]);have f2:(upd H3 l2 (.lst [.int T.over])) l2=some (.lst [.int T.over]):=au;have f1':=t2 _ _ f1;refine⟨l1,l2,_,_,rfl,rfl,f1',f2,?_,fun l3 hl3=> ?_⟩
  ·have:=cutV_length (aX n (T.cell p)) none (some (q:Int));rw[HX]at this;have:=hG.n10;rw[fZ];show _+1<=_;omega
  have t3:=aK hl3 (.lst (cutV (aX n (T.cell p)) none (some (q:Int))++[.int T.over]));have f3:(upd (upd H3 l2 (.lst [.int T.over])) l3 (.lst (cutV (aX n (T.cell p)) none (some (q:Int))++[.int T.over]))) l3=some (.lst (cutV (aX n (T.cell p)) none (some (q:Int))++[.int T.over])):=au;have t13:=t1.trans (t2.trans t3);generalize (upd (upd H3 l2 (.lst [.int T.over])) l3 (.lst (cutV (aX n (T.cell p)) none (some (q:Int))++[.int T.over])))=H5 at *;refine⟨_,rfl,_,rfl,_,_,rfl,rfl,_,rfl,pa,_,rfl,SqL.of (t13 _ _ pr3),fun l4 TJ=> ?_⟩;have t4:=aK TJ (.lst (cutV (aX n (T.cell p)) (some ((q:Int)+1)) none));refine⟨l3,l4,_,_,rfl,rfl,t4 _ _ f3,au,?_,fun l5 XJ=> ?_⟩
  ·have a1:=cutV_length (aX n (T.cell p)) none (some (q:Int));have a2:=cutV_length (aX n (T.cell p)) (some ((q:Int)+1)) none;rw[HX]at a1 a2;have:=hG.n10;rw[rJ,fZ];show _+1+_<=_;omega
  have t5:=aK XJ (.lst ((cutV (aX n (T.cell p)) none (some (q:Int))++[.int T.over])++cutV (aX n (T.cell p)) (some ((q:Int)+1)) none));have abY:(cutV (aX n (T.cell p)) none (some (q:Int))++[.int T.over])++cutV (aX n (T.cell p)) (some ((q:Int)+1)) none=aX n fun c=>if c=q then T.over else T.cell p c:=by
   rw[Ur (by rw[HX];omega),show(q:Int)+1=((q+1:Nat):Int)from by omega,JH (by rw[HX];omega)];exact Mq _ _ (cY hq)
  rw[abY]at t5⊢;have hT3:=hT2.sm (t13.trans (t4.trans t5));have f5:(upd (upd H5 l4 (.lst (cutV (aX n (T.cell p)) (some ((q:Int)+1)) none))) l5 (.lst (aX n fun c=>if c=q then T.over else T.cell p c))) l5=some (.lst (aX n fun c=>if c=q then T.over else T.cell p c)):=au;have g1:co≠l5:=oH ((t13.trans t4) _ _ hT2.cols) XJ;have g2:ro≠l5:=oH ((t13.trans t4) _ _ hT2.rows) XJ;generalize (upd (upd H5 l4 (.lst (cutV (aX n (T.cell p)) (some ((q:Int)+1)) none))) l5 (.lst (aX n fun c=>if c=q then T.over else T.cell p c)))=H6 at *;have Zd:=hT3.Wu (p:=p) (cY hp) f5 g1 g2;refine⟨_,rfl,o,C,dx,_,_,rfl,hT3.at_,Cc,aY,rfl,_,rfl,p1,_,_,p,rfl,rfl,hT3.cells,?_,?_⟩
  ·have e:ixN (as.map V.ref).length (p:Int)=some p:=by
    rw[aM,hl];unfold ixN;rw[aH (by omega),aH (by omega)];rfl
   exact e
  generalize (upd H6 p1 (.lst ((as.map V.ref).set p (.ref l5))))=H7 at *;have hT5:=Zd.setOver (T.cell p q);refine⟨_,rfl,_,rfl,o,C,dx,_,rfl,Zd.at_,Cc,cV,(by show 4<1000;decide),?_⟩;generalize (upd H7 o (.ins C dx (putF "over" (.int (T.cell p q)) (flds p1 co ro T.over))))=H8 at *;refine⟨_,rfl,o,C,dx,_,_,rfl,hT5.at_,Cc,cu,rfl,_,rfl,ro,_,_,_,rfl,rfl,SqL.of hT5.rows,pD _ hp,?_⟩;refine⟨_,rfl,o,C,dx,_,_,rfl,hT5.at_,Cc,aV,rfl,_,rfl,co,_,_,_,rfl,rfl,SqL.of hT5.cols,pD _ hq,?_⟩;have Zc:=hT5.Ry (p:=p) (T.col q) hp;refine⟨_,rfl,o,C,dx,_,_,rfl,hT5.at_,Cc,cu,rfl,_,rfl,ro,_,_,p,rfl,rfl,hT5.rows,?_,?_⟩
  ·have e:ixN ((bR m T.row).map V.int).length (p:Int)=some p:=by
    rw[aM,HY];unfold ixN;rw[aH (by omega),aH (by omega)];rfl
   exact e
  generalize (upd H8 ro (.lst (((bR m T.row).map V.int).set p (.int ((T.col q:Nat):Int)))))=H9 at *;have zV:=Zc.Rz (q:=q) (T.row p) hq;refine⟨_,rfl,_,rfl,o,C,dx,_,_,rfl,Zc.at_,Cc,aV,rfl,_,rfl,co,_,_,q,rfl,rfl,Zc.cols,?_,?_⟩
  ·have e:ixN ((bR n T.col).map V.int).length (q:Int)=some q:=by
    rw[aM,HY];unfold ixN;rw[aH (by omega),aH (by omega)];rfl
   exact e
  refine qq _ ⟨dx,p1,co,ro,_,zV.same,zV.o0,zV.Yr,zV.VF,zV.Vr,zV.ne,zV.nc,zV.nr,zV.at_,zV.cells,zV.len,fun r a e=> ?_,zV.cols,zV.rows⟩;rw[zV.row r a e];refine jX (fun l=>some (HO.lst l)) (nJ fun c _=> ?_);show(if r=p then(if c=q then T.over else T.cell p c)else tdF T.over (T.cell r) (T.cell p) q c)=_;rfl
theorem Mp{n m:Nat}{S:Nat->Nat->Bool}{wt:Nat->Int}{Ts:Nat->Sx.Tab}{ps qs:Nat->Nat}{L p q:Nat}(R:Sx.Run n m S wt Ts ps qs L)(s:Sx.Step n m (Ts L) p q):
  Sx.Run n m S wt (fun t=>if t<=L then Ts t else Sx.turn (Ts L) p q) (fun t=>if t<L then ps t else p) (fun t=>if t<L then qs t else q) (L+1):=by
 refine⟨by rw[aH (dF L)];exact R.first,fun t ht=> ?_,fun t ht=> ?_⟩
 ·by_cases c:t<L
  ·rw[aH (cY c),aH c,aH c];exact R.step t c
  ·have e:t=L:=by omega
   subst e;rw[aH (aW t),aB c,aB c];exact s
 ·by_cases c:t<L
  ·rw[aH (show t+1<=L from c),aH (cY c),aH c,aH c];exact R.next t c
  ·have e:t=L:=by omega
   subst e;rw[aB (by omega),aH (aW t),aB c,aB c]
structure Sta(n m:Nat)(S:Nat->Nat->Bool)(wt:Nat->Int):Prop where
 n10:n<=10
 m40:m<=40
 wb:∀p,p<n->0<=wt p/\wt p<=99
 cov:∀p,p<n->∃k,k<m/\S k p=true
theorem Sta.tg{n m:Nat}{S:Nat->Nat->Bool}{wt:Nat->Int}{T:Sx.Tab}(h:Sta n m S wt)(g:Sx.Good n m S wt T):TG n m S wt T:=⟨g,h.n10,h.m40,h.wb,h.cov⟩
noncomputable def NcV(n m:Nat)(T:Sx.Tab)(x:V):Prop:=(x= .non/\∀c,c<n->0<=T.cell m c)\/∃q:Nat,x= .int (q:Int)/\q<n/\T.cell m q<0/\∀c,c<n->T.cell m c<0->T.col q<=T.col c
noncomputable def Qu(K:W.Frag)(C o:Addr)(H0:Hp)(n m:Nat)(S:Nat->Nat->Bool)(wt:Nat->Int)(k:Nat)(σ:St)(H:Hp):Prop:=
 ∃(Ts:Nat->Sx.Tab) (ps qs:Nat->Nat) (L:Nat) (x:V),Sx.Run n m S wt Ts ps qs L/\L+k=2^(n+m)/\lg K C H0 H o n m (Ts L)/\σ=[some (.ref o),some x]/\NcV n m (Ts L) x
noncomputable def Lb(K:W.Frag)(C:Addr):Sp:=fun vs H Q _=>∃(o:Addr) (H0:Hp) (n m:Nat) (S:Nat->Nat->Bool) (wt:Nat->Int) (T:Sx.Tab),vs=[.ref o]/\lg K C H0 H o n m T/\Sta n m S wt/\Sx.Good n m S wt T/\
 ∀T' H',lg K C H0 H' o n m T'->Sx.Good n m S wt T'->(∀c,c<n->0<=T'.cell m c)->Q .non H'
theorem WT{f f1 f2 f3 C:Addr}{fd d1 d2 d3:ρ}(F:Fun K "solve" "Tableau.solve" eN f fd)
  (Cc:Cls K C)(aY:NoAttr K C "cells")(cV:NoAttr K C "over")(aV:NoAttr K C "columns")(cu:NoAttr K C "rows")(D1:jU K C "next_column" "Tableau.next_column" zbr ["self"] f1 d1)(JR:FnOk P w K mg base CX0 1 f1 d1 ["self"] (Lf K C))(D2:jU K C "turn" "Tableau.turn" gA ["self","row","column"] f2 d2)(G2:FnOk P w K mg base CX0 2 f2 d2 ["self","row","column"] (Vh K C))(D3:jU K C "next_row" "Tableau.next_row" zcj ["self","column"] f3 d3)(G3:FnOk P w K mg base CX0 2 f3 d3 ["self","column"] (Vk K C)):
  FnOk P w K mg base CX0 3 f fd ["self"] (Lb K C):=by
 have G1:FnOk P w K mg base CX0 2 f1 d1 ["self"] (Lf K C):=JR.mono (by decide);refine F.cQ ["self","column"] fun cdv A outer s H vs Q E hr h=> ?_;obtain⟨o,H0,n,m,S,wt,T,rfl,hT,hS,hg,qq⟩:=h;refine bw ?_;intro Y;refine⟨_,(aJ (pS 1 (Q0 (pv 0) Cc D1.m G1 hr D1.b .nil pass0)) (aP (ps_while yD (dg op_notN (pv 1) pe_non) (aJ (iG (qj (pv 0) Cc D2.m G2 hr D2.b .nil pass0 (aj (qj (pv 0) Cc D3.m G3 hr D3.b .nil pass0 (aj (pv 1) ak)) (aj (pv 1) ak)))) (aP (pS 1 (Q0 (pv 0) Cc D1.m G1 hr D1.b .nil pass0))))))),?_⟩;refine mH ?_;intro c2;have key:∀(x:V) (H1:Hp),lg K C H0 H1 o n m T->NcV n m T x->∃k,Qu K C o H0 n m S wt k [some (.ref o),some x] H1:=fun x H1 h1 h2=>
  ⟨2^(n+m),fun _=>T,fun _=>0,fun _=>0,0,x,⟨hg,fun t ht=>absurd ht (V1 t),fun t ht=>absurd ht (V1 t)⟩,Nat.zero_add _,h1,rfl,h2⟩
 obtain⟨dx,cl,co,ro,rws,hA0⟩:=id hT;refine⟨_,rfl,o,dx,_,rfl,hA0.at_,rfl,o,H0,n,m,S,wt,T,rfl,hT,hS.tg hg,?a,?b⟩
 case' a=>
  intro h H1 s1;have w0:=key _ _ (hT.sm s1) (.inl ⟨rfl,h⟩);refine⟨Qu K C o H0 n m S wt,w0,?_⟩;clear w0 s1 h
 case' b=>
  intro q H1 hq hn he s1;have w0:=key _ _ (hT.sm s1) (.inr ⟨q,rfl,hq,hn,he⟩);refine⟨Qu K C o H0 n m S wt,w0,?_⟩;clear w0 s1 he hn hq q
 all_goals
  clear H1;intro k σ H1 h;obtain⟨Ts,ps,qs,L,x,R,hk,⟨dx',cl,co,ro,rws,hA⟩,rfl,hx⟩:=h;have hgL:=R.good L (aW L);have hG:=hS.tg hgL;have hsh:=R.short;rcases hx with⟨rfl,hx⟩|⟨q,rfl,hq,hn,he⟩
  ·refine⟨_,rfl,rfl,_,rfl,?_⟩;refine iteF ?_;exact qq (Ts L) H1 ⟨dx',cl,co,ro,rws,hA⟩ hgL hx
  ·refine⟨_,rfl,rfl,_,rfl,?_⟩;refine iteT ?_;refine⟨Qu K C o H0 n m S wt (k-1),fun σ' H' z=>⟨k-1,by omega,z⟩,?_⟩;refine⟨_,rfl,o,dx',_,rfl,hA.at_,rfl,_,rfl,o,dx',_,rfl,hA.at_,rfl,_,rfl,o,H0,n,m,q,S,wt,Ts L,rfl,⟨dx',cl,co,ro,rws,hA⟩,hG,hq,fun p hp h0 hlev=> ?_⟩;have st:Sx.Step n m (Ts L) p q:=⟨hp,hq,hn,he,h0,hlev⟩;refine⟨_,rfl,o,H0,n,m,p,q,S,wt,Ts L,rfl,⟨dx',cl,co,ro,rws,hA⟩,hG,hp,hq,fun H2 hT2=> ?_⟩;have R2:=Mp R st;have g2:=st.good hgL;obtain⟨dx2,cl2,co2,ro2,ab6,hA2⟩:=id hT2;have fin:∀(x:V) (H3:Hp),Same H2 H3->NcV n m (Sx.turn (Ts L) p q) x->Qu K C o H0 n m S wt (k-1) [some (.ref o),some x] H3:=fun x H3 s3 hx=>by
    refine⟨_,_,_,L+1,x,R2,by omega,?_,rfl,?_⟩
    ·rw[aB (by omega)];exact hT2.sm s3
    ·rw[aB (by omega)];exact hx
   exact⟨_,rfl,o,dx2,_,rfl,hA2.at_,rfl,o,H0,n,m,S,wt,_,rfl,hT2,hS.tg g2,fun h H3 s3=>fin _ H3 s3 (.inl ⟨rfl,h⟩),fun q' H3 hq' hn' he' s3=>fin _ H3 s3 (.inr ⟨q',rfl,hq',hn',he'⟩)⟩
noncomputable def abh(k:Nat)(i:Int)(r:Nat):Prop:=(i=(r:Int)/\r<=k)\/(i= -1/\r=k)
noncomputable def yI(K:W.Frag)(C:Addr):Sp:=fun vs H Q _=>∃(o:Addr) (H0:Hp) (n m r c:Nat) (i j:Int) (S:Nat->Nat->Bool) (wt:Nat->Int) (T:Sx.Tab),vs=[.ref o,.int i,.int j]/\lg K C H0 H o n m T/\TG n m S wt T/\abh m i r/\abh n j c/\
 ∀p H' u v,Same H H'->H' p=some (.tup [.int u,.int ((v:Nat):Int)])->Low (T.cell r c) T.over.toNat u v->Q (.ref p) H'
theorem W6{f f1 C:Addr}{fd d1:ρ}(F:Fun K "fraction_at" "Tableau.fraction_at" Zx f fd)
  (Cc:Cls K C)(aY:NoAttr K C "cells")(cV:NoAttr K C "over")(aV:NoAttr K C "columns")(cu:NoAttr K C "rows")(D1:bK K mg "lowest" iK ["a","b"] f1 d1)(G1:FnOk P w K mg base CX0 2 f1 d1 ["a","b"] (yM K)):
  FnOk P w K mg base CX0 3 f fd ["self","row","column"] (yI K C):=by
 refine F.cQ ["self","row","column"] fun cdv A outer s H vs Q E hr h=> ?_;obtain⟨o,H0,n,m,r,c,i,j,S,wt,T,rfl,⟨dx,cl,co,ro,rws,hT⟩,hG,hi,hj,qq⟩:=h;refine⟨_,(aP (bO (pc G1 hr D1 (aj (bf jF (bf jF (dB (pv 0) rfl) (pv 1)) (pv 2)) (aj (dB (pv 0) rfl) ak))))),?_⟩;have hri:∃a,atI (rws.map V.ref) i=some (.ref a)/\H a=some (.lst (aX n (T.cell r))):=by
  rcases hi with⟨rfl,h⟩|⟨rfl,rfl⟩
  ·obtain⟨a,_,h1,h2⟩:=hT.IK h;exact⟨a,h1,h2⟩
  ·obtain⟨a,_,h1,h2⟩:=hT.aao;exact⟨a,h1,h2⟩
 have hcj:atI (aX n (T.cell r)) j=some (.int (T.cell r c)):=by
  rcases hj with⟨rfl,h⟩|⟨rfl,rfl⟩
  ·exact dM _ h
  ·exact qu _ _
 obtain⟨a,h1,h2⟩:=hri;have ho:=hG.over;refine⟨_,rfl,o,C,dx,_,_,rfl,hT.at_,Cc,aY,rfl,_,rfl,cl,_,_,_,rfl,rfl,SqL.of hT.cells,h1,_,rfl,a,_,_,_,rfl,rfl,SqL.of h2,hcj,?_⟩;refine⟨_,rfl,o,C,dx,_,_,rfl,hT.at_,Cc,cV,rfl,T.cell r c,T.over.toNat,?_,by omega,dD (show T.over.toNat<=39916800 by omega) (by decide),fun p H' u v s e l=>qq p H' u v s e l⟩;rw[show((T.over.toNat:Nat):Int)=T.over by omega];rfl
theorem zK{u:Int}{v b:Nat}(hb:0<b)(h:Low 0 1 u v):Low 0 b u v:=by
 have e:=h.eq;have hu:u=0:=by omega
 subst hu;have c:=h.cop;rw[show(0:Int).natAbs=0 from rfl,Nat.gcd_zero_left]at c;subst c;exact⟨by decide,rfl,by omega,aW _,hb,fun _=>J4 _⟩
noncomputable def Le(K:W.Frag)(C:Addr):Sp:=fun vs H Q _=>∃(o:Addr) (H0:Hp) (n m a:Nat) (S:Nat->Nat->Bool) (wt:Nat->Int) (T:Sx.Tab),vs=[.ref o,.int (a:Int)]/\lg K C H0 H o n m T/\TG n m S wt T/\
 ∀p H' u v,Same H H'->H' p=some (.tup [.int u,.int ((v:Nat):Int)])->Low (Sx.Xs n m T a) T.over.toNat u v->Q (.ref p) H'
theorem WX{f f1 f2 C:Addr}{fd d1 d2:ρ}(F:Fun K "price_of" "Tableau.price_of" zci f fd)
  (Cc:Cls K C)(aY:NoAttr K C "cells")(cV:NoAttr K C "over")(aV:NoAttr K C "columns")(cu:NoAttr K C "rows")(D1:bK K mg "lowest" iK ["a","b"] f1 d1)(G1:FnOk P w K mg base CX0 2 f1 d1 ["a","b"] (yM K))(D2:jU K C "fraction_at" "Tableau.fraction_at" Zx ["self","row","column"] f2 d2)(G2:FnOk P w K mg base CX0 3 f2 d2 ["self","row","column"] (yI K C)):
  FnOk P w K mg base CX0 4 f fd ["self","name"] (Le K C):=by
 refine F.cQ ["self","name"] fun cdv A outer s H vs Q E hr h=> ?_;obtain⟨o,H0,n,m,a,S,wt,T,rfl,⟨dx,cl,co,ro,rws,hT⟩,hG,qq⟩:=h;refine bw ?_;intro Y;refine⟨_,(aJ (dN (dg (vO hr.units) (pv 1) (dB (pv 0) rfl) (by with_unfolding_all rfl)) (aP (bO (pc G1 hr D1 (aj aq (aj aq ak))))) dW) (aP (bO (qj (pv 0) Cc D2.m G2 hr D2.b .nil pass0 (aj (pe_bm QJ wbk wbl qH (dB (pv 0) rfl) (aj (pv 1) ak)) (aj (pe_un un_neg aq) ak)))))),?_⟩;refine mH ?_;intro c2;have ho:=hG.over;refine⟨_,rfl,_,rfl,o,C,dx,_,_,rfl,hT.at_,Cc,cu,rfl,ro,_,_,.int (a:Int),rfl,.inl (SqL.of hT.rows),cJ.ints _,.int _,QB _,rfl,(by show 0<=60;decide),_,rfl,?_⟩;rw[any_ints];refine ite2 (fun c=> ?_) (fun c=> ?_)
 ·have c':((a:Nat):Int)∉bR m T.row:=by
   intro hm;rw[cX hm]at c;cases c
  refine⟨0,1,rfl,by decide,by decide,fun p H' u v s e l=>qq p H' u v s e ?_⟩;rw[Sx.U9 fun r hr z=>c' (by
   have:=Fp T.row hr;rw[z]at this;exact uT this)]
  exact zK (by omega) l
 ·have c':((a:Nat):Int)∈bR m T.row:=by
   refine Y7 fun hm=>c ?_;rw[lV hm];rfl
  obtain⟨r,hr1,er⟩:=U6 c';have hr0:r<m:=by rw[HY]at hr1;exact hr1
  have e0:=fL hr1;rw[er]at e0;have ea:T.row r=a:=by
   rw[Fp _ hr0]at e0;exact ZX (tu e0)
  subst ea;refine⟨_,rfl,o,dx,_,rfl,hT.at_,rfl,_,rfl,o,C,dx,_,_,rfl,hT.at_,Cc,cu,rfl,.inl ⟨rfl,_,SqL.of hT.rows⟩,_,rfl,ro,bR m T.row,_,r,rfl,rfl,hT.rows,Fp _ hr0,fun i hi e=> ?_,by rw[HY];have:=hG.m40;omega,?_⟩
  ·rw[Fp _ (by omega)]at e;have:=hG.good.Mt i r (by omega) hr0 (ZX (tu e));omega
  ·refine⟨_,rfl,o,H0,n,m,r,n,_,_,S,wt,T,rfl,⟨dx,cl,co,ro,rws,hT⟩,hG,.inl ⟨rfl,cY hr0⟩,.inr ⟨rfl,rfl⟩,fun p H' u v s e l=>qq p H' u v s e ?_⟩;rw[hG.good.Vb hr0];exact l
noncomputable def Ld(K:W.Frag)(C:Addr):Sp:=fun vs H Q _=>∃(o:Addr) (H0:Hp) (n m a:Nat) (S:Nat->Nat->Bool) (wt:Nat->Int) (T:Sx.Tab),vs=[.ref o,.int (a:Int)]/\lg K C H0 H o n m T/\TG n m S wt T/\
 ∀p H' u v,Same H H'->H' p=some (.tup [.int u,.int ((v:Nat):Int)])->Low (Sx.Ys n m T a) T.over.toNat u v->Q (.ref p) H'
theorem WW{f f1 f2 C:Addr}{fd d1 d2:ρ}(F:Fun K "share_of" "Tableau.share_of" zch f fd)
  (Cc:Cls K C)(aY:NoAttr K C "cells")(cV:NoAttr K C "over")(aV:NoAttr K C "columns")(cu:NoAttr K C "rows")(D1:bK K mg "lowest" iK ["a","b"] f1 d1)(G1:FnOk P w K mg base CX0 2 f1 d1 ["a","b"] (yM K))(D2:jU K C "fraction_at" "Tableau.fraction_at" Zx ["self","row","column"] f2 d2)(G2:FnOk P w K mg base CX0 3 f2 d2 ["self","row","column"] (yI K C)):
  FnOk P w K mg base CX0 4 f fd ["self","name"] (Ld K C):=by
 refine F.cQ ["self","name"] fun cdv A outer s H vs Q E hr h=> ?_;obtain⟨o,H0,n,m,a,S,wt,T,rfl,⟨dx,cl,co,ro,rws,hT⟩,hG,qq⟩:=h;refine bw ?_;intro Y;refine⟨_,(aJ (dN (dg (vO hr.units) (pv 1) (dB (pv 0) rfl) (by with_unfolding_all rfl)) (aP (bO (pc G1 hr D1 (aj aq (aj aq ak))))) dW) (aP (bO (qj (pv 0) Cc D2.m G2 hr D2.b .nil pass0 (aj (pe_un un_neg aq) (aj (pe_bm QJ wbk wbl qH (dB (pv 0) rfl) (aj (pv 1) ak)) ak)))))),?_⟩;refine mH ?_;intro c2;have ho:=hG.over;refine⟨_,rfl,_,rfl,o,C,dx,_,_,rfl,hT.at_,Cc,aV,rfl,co,_,_,.int (a:Int),rfl,.inl (SqL.of hT.cols),cJ.ints _,.int _,QB _,rfl,(by show 0<=60;decide),_,rfl,?_⟩;rw[any_ints];refine ite2 (fun c=> ?_) (fun c=> ?_)
 ·have c':((a:Nat):Int)∉bR n T.col:=by
   intro hm;rw[cX hm]at c;cases c
  refine⟨0,1,rfl,by decide,by decide,fun p H' u v s e l=>qq p H' u v s e ?_⟩;rw[Sx.Zy fun r hr z=>c' (by
   have:=Fp T.col hr;rw[z]at this;exact uT this)]
  exact zK (by omega) l
 ·have c':((a:Nat):Int)∈bR n T.col:=by
   refine Y7 fun hm=>c ?_;rw[lV hm];rfl
  obtain⟨r,hr1,er⟩:=U6 c';have hr0:r<n:=by rw[HY]at hr1;exact hr1
  have e0:=fL hr1;rw[er]at e0;have ea:T.col r=a:=by
   rw[Fp _ hr0]at e0;exact ZX (tu e0)
  subst ea;refine⟨_,rfl,o,dx,_,rfl,hT.at_,rfl,_,rfl,_,rfl,o,C,dx,_,_,rfl,hT.at_,Cc,aV,rfl,.inl ⟨rfl,_,SqL.of hT.cols⟩,_,rfl,co,bR n T.col,_,r,rfl,rfl,hT.cols,Fp _ hr0,fun i hi e=> ?_,by rw[HY];have:=hG.n10;omega,?_⟩
  ·rw[Fp _ (by omega)]at e;have:=hG.good.Ec i r (by omega) hr0 (ZX (tu e));omega
  ·refine⟨o,H0,n,m,m,r,_,_,S,wt,T,rfl,⟨dx,cl,co,ro,rws,hT⟩,hG,.inr ⟨rfl,rfl⟩,.inl ⟨rfl,cY hr0⟩,fun p H' u v s e l=>qq p H' u v s e ?_⟩;rw[hG.good.Zz hr0];exact l
noncomputable def iJ(L:List (List Int))(k p:Nat):Bool:=decide (((p:Nat):Int)∈L.getD k [])
noncomputable def v9(wl:List Int)(p:Nat):Int:=wl.getD p 0
theorem Ww{n m r:Nat}{L:List (List Int)}{wt:Nat->Int}(hr:r<m):((List.range n).map fun(p:Nat)=>if decide (((p:Nat):Int)∈L.getD r [])=true then(1:Int)else 0).map V.int++[.int 1]=aX n ((Sx.start n m (iJ L) wt).cell r):=by
 unfold aX;rw[Bf,cU,cU];congr 1
 ·refine jX _ (YX fun c hc=> ?_);have hc':=sy.mp hc;show _=if r=m then _ else if c=n then(1:Int)else if iJ L r c=true then 1 else 0
  rw[aB (show¬r=m by omega),aB (show¬c=n by omega)];rfl
 ·show[V.int 1]=[V.int (if r=m then _ else if n=n then(1:Int)else _)];rw[aB (by omega),aH rfl]
theorem RL{m:Nat}{L:List (List Int)}{wl:List Int}:(wl.map fun x=> -x).map V.int++[.int 0]=aX wl.length ((Sx.start wl.length m (iJ L) (v9 wl)).cell m):=by
 unfold aX;rw[Bf,cU,cU];congr 1
 ·refine jX _ (ZF fun i=> ?_);rw[fu,fu];by_cases hi:i<wl.length
  ·rw[fL hi,YZ hi];show some (-wl[i])=some (if m=m then(if i=wl.length then(0:Int)else -(wl.getD i 0))else _);rw[aH rfl,aB (by omega),oK,fL hi];rfl
  ·rw[U7 (by omega),U7 (by rw[yx];omega)];rfl
 ·show[V.int 0]=[V.int (if m=m then(if wl.length=wl.length then(0:Int)else _)else _)];rw[aH rfl,aH rfl]
theorem _root_.L2.SqT.Il{H:Hp}{a o C dx:Addr}{fs:List (Str×V)}{u:HO}{xs:List V}(hO:H o=some (.ins C dx fs))(h:SqT K H a xs):SqT K (upd H o u) a xs:=by
 rcases h with(h|⟨ob,h⟩)|h
 ·exact .inl (.inl (by rw[cG (ne_of h hO fun e=>nomatch e)];exact h))
 ·exact .inl (.inr ⟨ob,by rw[cG (ne_of h hO fun e=>nomatch e)];exact h⟩)
 ·exact .inr h
noncomputable def Bs(K:W.Frag)(C:Addr):Sp:=fun vs H Q _=>∃(o dx sl wa:Addr) (H0:Hp) (its:List (Addr×List Int)) (wl:List Int),vs=[.ref o,.ref sl,.ref wa]/\H o=some (.ins C dx [])/\Same H0 H/\H0 o=none/\H sl=some (.lst (its.map fun p=>V.ref p.1))/\(∀p∈its,SqT K H p.1 (p.2.map V.int))/\SqT K H wa (wl.map V.int)/\wl.length<=10/\its.length<=40/\
 ∀H',lg K C H0 H' o wl.length its.length (Sx.start wl.length its.length (iJ (its.map (·.2))) (v9 wl))->Q .non H'
theorem Sg{f C:Addr}{fd:ρ}(F:Fun K "__init__" "Tableau.__init__" gB f fd)
  (Cc:Cls K C)(aY:NoAttr K C "cells")(cV:NoAttr K C "over")(aV:NoAttr K C "columns")(cu:NoAttr K C "rows")(cO:mg "len"=none)(aL:mg "range"=none)(eX:mg "list"=none):
  FnOk P w K mg base CX0 1 f fd ["self","sets","wants"] (Bs K C):=by
 refine F.cQ ["self","sets","wants","n"] fun cdv A outer s H vs Q E hr h=> ?_;obtain⟨o,dx,sl,wa,H0,its,wl,rfl,hO,hS0,h0,hS,hP,hW,hn,hm,qq⟩:=h;refine bw ?_;intro Y;refine⟨_,(aJ (pS 3 (pB v7 cO (aj (pv 2) ak))) (aJ (ps_fld (pv 0) (pK ["some"] ["n"] [3] (yh (pv 1)) (pG 0) sX (bB op_cat (pK ["place"] ["some"] [0] (J2 rfl aL (aj (pv 1) ak)) (pG 0) sX (pe_ifExp (dg (lO K hr.units) (pv 0) (pv 1) (by with_unfolding_all rfl)) aq aq)) (uQ (aj aq ak)))) rfl) (aJ (iG (pe_bm QJ wbg wbh mt_append (dB (pv 0) rfl) (aj (bB op_cat (pK ["want"] [] [] (JX (pv 2)) (pG 0) sX (pe_un un_neg (pv 0))) (uQ (aj aq ak))) ak))) (aJ (ps_fld (pv 0) aq rfl) (aJ (ps_fld (pv 0) (rA rfl rfl eX rfl aL (aj (pv 3) ak)) rfl) (aP (ps_fld (pv 0) (wG rfl rfl eX rfl aL (aj (pv 3) (aj (bB mQ (pv 3) (pB v7 cO (aj (pv 1) ak))) ak))) rfl))))))),?_⟩;refine Vw ?_;intro c6 c5 c4 c3 c2;refine⟨_,rfl,wa,_,rfl,.inr hW,fun _=> ?_⟩;rw[aM];refine⟨_,rfl,sl,_,rfl,SqL.of hS,fun hz=> ?_⟩;let jR:Nat->List V->St->Hp->Prop:=fun i acc σ H'=>∃as:List Addr,acc=as.map V.ref/\as.length=i/\Same H H'/\(∀r a,as[r]? =some a->H' a=some (.lst (aX wl.length ((Sx.start wl.length its.length (iJ (its.map (·.2))) (v9 wl)).cell r))))/\∃o1,σ=[o1,some (.int (wl.length:Int))];refine J0 (xs:=its.map fun p=>V.ref p.1) jR ⟨[],rfl,rfl,Same.refl _,fun r a e=>(nomatch e),_,rfl⟩ (fun i acc σ H' _ x=> ?_) (fun i acc σ H' _ x=> ?_) hz (fun i v acc σ H1 hv x=> ?_) (fun acc σ H1 x=> ?_)
 ·obtain⟨_,_,_,sm,_⟩:=x;exact sm.seq (SqL.of hS)
 ·obtain⟨as,rfl,hl,_⟩:=x;rw[aM,hl];exact aW _
 ·obtain⟨as,rfl,hl,sm,has,o1,rfl⟩:=x;rw[fu]at hv;cases ev:its[i]? with
  |none=>rw[ev]at hv;cases hv
  |some it=>
   rw[ev]at hv;cases hv;have him:i<its.length:=(oF.mp ev).1;have hit:=hP it (uT ev);have eg:(its.map (·.2)).getD i []=it.2:=by rw[oK,fu,ev];rfl
   refine⟨_,rfl,_,rfl,by omega,by omega,?_⟩;let vp:Nat->List V->St->Hp->Prop:=fun c acc σ H'=>acc=((List.range c).map fun(p:Nat)=>if decide (((p:Nat):Int)∈it.2)=true then(1:Int)else 0).map V.int/\H'=H1/\∃o2,σ=[o2,some (.ref it.1)];refine UL (n:=wl.length) vp ⟨rfl,rfl,_,rfl⟩ (fun c acc σ H' hc y=> ?_) (by rw[fZ];omega) (fun c acc σ H' hc y=> ?_) (fun acc σ H' y=> ?_)
   ·rw[y.1,aM,aM,yx];exact aW _
   ·obtain⟨rfl,rfl,o2,rfl⟩:=y;refine⟨_,rfl,_,rfl,it.1,_,_,.int (0+(c:Int)),rfl,.inr (sm.tup hit),cJ.ints _,.int _,QB _,rfl,(by show 0<=60;decide),_,rfl,?_⟩;rw[any_ints,weo];refine ite2 (fun z=> ?_) (fun z=> ?_)
    ·exact⟨by rw[Bf,cU,cU];show _=_++[V.int (if _ then _ else _)];rw[aH z],rfl,_,rfl⟩
    ·exact⟨by rw[Bf,cU,cU];show _=_++[V.int (if _ then _ else _)];rw[aB z],rfl,_,rfl⟩
   ·intro p1 hp1;obtain⟨rfl,rfl,_⟩:=y;have s1:=aK hp1 (.lst (((List.range wl.length).map fun(p:Nat)=>if decide (((p:Nat):Int)∈it.2)=true then(1:Int)else 0).map V.int));refine⟨(by show 1<=sizeLine;decide),fun p2 hp2=> ?_⟩;have s2:=aK hp2 (.lst [.int 1]);refine⟨p1,p2,_,_,rfl,rfl,s2 _ _ au,au,(by rw[aM,aM,yx,fZ];show _+1<=_;omega),fun p3 hp3=> ?_⟩;have s3:=aK hp3 (.lst (((List.range wl.length).map fun(p:Nat)=>if decide (((p:Nat):Int)∈it.2)=true then(1:Int)else 0).map V.int++[.int 1]));have qZ:=s1.trans (s2.trans s3);refine⟨as++[p3],by rw[cU];rfl,by rw[rJ,hl];rfl,sm.trans qZ,fun r a e=> ?_,_,rfl⟩;rw[wcq]at e;by_cases c:r<as.length
    ·rw[aH c]at e;exact qZ _ _ (has r a e)
    ·rw[aB c]at e;have er':r-as.length=0:=by
      have:=(oF.mp e).1;have:r-as.length<1:=this;omega
     rw[er']at e;cases e;have:r=i:=by omega
     subst this;rw[au,<-Ww (wt:=v9 wl) him,eg]
 ·intro p1 hp1;obtain⟨as,rfl,hl,sm,has,_⟩:=x;rw[aM]at hl;have s1:=aK hp1 (.lst (as.map V.ref));have hO1:=(sm.trans s1) _ _ hO;refine⟨_,rfl,o,C,dx,_,rfl,hO1,Cc,aY,(by show 0<1000;decide),?_⟩
  -- what lies beside the object
  have np:p1≠o:=(oH (sm _ _ hO) hp1).symm;have h10:H p1=none:=sm.none hp1;have Qt:∀r a,as[r]? =some a->a≠o/\a≠p1:=fun r a e=>⟨fun z=>(by have y:=has r a e;rw[z,sm _ _ hO]at y;cases y),fun z=>(by have y:=has r a e;rw[z,hp1]at y;cases y)⟩;have W2:SqT K (upd (upd H1 p1 (.lst (as.map V.ref))) o (.ins C dx (putF "cells" (.ref p1) []))) wa (wl.map V.int):=((sm.trans s1).tup hW).Il hO1;have S2:(upd (upd H1 p1 (.lst (as.map V.ref))) o (.ins C dx (putF "cells" (.ref p1) []))) sl=some (.lst (its.map fun p=>V.ref p.1)):=by
   rw[cG (ne_of ((sm.trans s1) _ _ hS) hO1 fun e=>nomatch e)];exact(sm.trans s1) _ _ hS
  have A2:∀r a,as[r]? =some a->(upd (upd H1 p1 (.lst (as.map V.ref))) o (.ins C dx (putF "cells" (.ref p1) []))) a=some (.lst (aX wl.length ((Sx.start wl.length its.length (iJ (its.map (·.2))) (v9 wl)).cell r))):=fun r a e=>by
   rw[cG (Qt r a e).1];exact s1 _ _ (has r a e)
  have P2:(upd (upd H1 p1 (.lst (as.map V.ref))) o (.ins C dx (putF "cells" (.ref p1) []))) p1=some (.lst (as.map V.ref)):=by rw[cG np,au]
  have O2:(upd (upd H1 p1 (.lst (as.map V.ref))) o (.ins C dx (putF "cells" (.ref p1) []))) o=some (.ins C dx [("cells",.ref p1)]):=au;have Z2:Same H0 (upd (upd H1 p1 (.lst (as.map V.ref))) o (.ins C dx (putF "cells" (.ref p1) []))):=Same.uY (hS0.trans (sm.trans s1)) h0;generalize (upd (upd H1 p1 (.lst (as.map V.ref))) o (.ins C dx (putF "cells" (.ref p1) [])))=H2 at *;refine⟨_,rfl,o,C,dx,_,_,rfl,O2,Cc,aY,rfl,.inl ⟨rfl,_,SqL.of P2⟩,_,rfl,wa,_,rfl,W2,fun hz2=> ?_⟩;let JQ:Nat->List V->St->Hp->Prop:=fun i acc σ H'=>acc=((wl.take i).map fun x=> -x).map V.int/\H'=H2/\∃o2,σ=[o2];refine JZ (xs:=wl.map V.int) JQ ⟨rfl,rfl,_,rfl⟩ (fun i acc σ H' _ y=>by rw[y.2.1];exact W2) (fun i acc σ H' _ y=> ?_) hz2 (fun i v acc σ H' hv y=> ?_) (fun acc σ H' y=> ?_)
  ·rw[y.1,aM,aM,yw];exact Ks _ _
  ·obtain⟨rfl,rfl,o2,rfl⟩:=y;rw[fu]at hv;cases ev:wl[i]? with
   |none=>rw[ev]at hv;cases hv
   |some x=>
    rw[ev]at hv;cases hv;exact⟨_,rfl,_,rfl,by rw[Fq,ev,cU,cU];rfl,rfl,_,rfl⟩
  intro p2 hp2;obtain⟨rfl,rfl,_⟩:=y;rw[aM,yt];have s2:=aK hp2 (.lst ((wl.map fun x=> -x).map V.int));refine⟨(by show 1<=sizeLine;decide),fun p3 hp3=> ?_⟩;have s3:=aK hp3 (.lst [.int 0]);refine⟨p2,p3,_,_,rfl,rfl,s3 _ _ au,au,(by rw[aM,aM,fZ];show _+1<=_;omega),fun p4 hp4=> ?_⟩;have s4:=aK hp4 (.lst ((wl.map fun x=> -x).map V.int++[.int 0]));have BW:=s2.trans (s3.trans s4);rw[RL (m:=its.length) (L:=its.map (·.2))]at BW s4⊢;have e4:(upd (upd (upd H' p2 (.lst ((wl.map fun x=> -x).map V.int))) p3 (.lst [.int 0])) p4 (.lst (aX wl.length ((Sx.start wl.length its.length (iJ (its.map (·.2))) (v9 wl)).cell its.length)))) p4=some (.lst (aX wl.length ((Sx.start wl.length its.length (iJ (its.map (·.2))) (v9 wl)).cell its.length))):=au;have n4:p4≠p1:=(oH (s3 _ _ (s2 _ _ P2)) hp4).symm;have n4o:p4≠o:=(oH (s3 _ _ (s2 _ _ O2)) hp4).symm;have P3:=BW _ _ P2;have O3:=BW _ _ O2;have S3:=BW _ _ S2;have Z3:=Z2.trans BW;have A3:∀r a,as[r]? =some a->_:=fun r a e=>BW _ _ (A2 r a e);generalize (upd (upd (upd H' p2 (.lst ((wl.map fun x=> -x).map V.int))) p3 (.lst [.int 0])) p4 (.lst (aX wl.length ((Sx.start wl.length its.length (iJ (its.map (·.2))) (v9 wl)).cell its.length))))=H3 at *;refine⟨p1,_,_,rfl,rfl,P3,(by rw[aM,fZ];omega),?_⟩
  -- all rows
  have h1n:H0 p1=none:=hS0.none h10;have nos:o≠p1:=np.symm;have nsl:sl≠p1:=(oH hS h10);have C4:(upd H3 p1 (.lst (as.map V.ref++[.ref p4]))) p1=some (.lst ((as++[p4]).map V.ref)):=by rw[au,cU];rfl
  have O4:(upd H3 p1 (.lst (as.map V.ref++[.ref p4]))) o=some (.ins C dx [("cells",.ref p1)]):=by rw[cG nos];exact O3
  have S4:(upd H3 p1 (.lst (as.map V.ref++[.ref p4]))) sl=some (.lst (its.map fun p=>V.ref p.1)):=by rw[cG nsl];exact S3
  have Z4:Same H0 (upd H3 p1 (.lst (as.map V.ref++[.ref p4]))):=Same.uY Z3 h1n;have R4:∀r a,(as++[p4])[r]? =some a->(upd H3 p1 (.lst (as.map V.ref++[.ref p4]))) a=some (.lst (aX wl.length ((Sx.start wl.length its.length (iJ (its.map (·.2))) (v9 wl)).cell r)))/\a≠o:=fun r a e=>by
   rw[wcq]at e;by_cases c:r<as.length
   ·rw[aH c]at e;refine⟨?_,(Qt r a e).1⟩;rw[cG (Qt r a e).2];exact A3 r a e
   ·rw[aB c]at e;have er':r-as.length=0:=by
     have:=(oF.mp e).1;have:r-as.length<1:=this;omega
    rw[er']at e;cases e;have:r=its.length:=by omega
    subst this;refine⟨?_,n4o⟩;rw[cG n4];exact e4
  generalize (upd H3 p1 (.lst (as.map V.ref++[.ref p4])))=H4 at *;refine⟨_,rfl,o,C,dx,_,rfl,O4,Cc,cV,(by show 1<1000;decide),?_⟩;have O5:(upd H4 o (.ins C dx (putF "over" (.int 1) [("cells",.ref p1)]))) o=some (.ins C dx [("cells",.ref p1),("over",.int 1)]):=au;have k5:∀b u,b≠o->H4 b=some u->(upd H4 o (.ins C dx (putF "over" (.int 1) [("cells",.ref p1)]))) b=some u:=fun b u hb e=>by rw[cG hb];exact e
  have nso:sl≠o:=ne_of S4 O4 fun e=>nomatch e
  have C5:=k5 _ _ np C4;have S5:=k5 _ _ nso S4;have Z5:Same H0 (upd H4 o (.ins C dx (putF "over" (.int 1) [("cells",.ref p1)]))):=Same.uY Z4 h0;have R5:∀r a,(as++[p4])[r]? =some a->_:=fun r a e=>k5 _ _ (R4 r a e).2 (R4 r a e).1;generalize (upd H4 o (.ins C dx (putF "over" (.int 1) [("cells",.ref p1)])))=H5 at *;refine⟨_,rfl,(wl.length:Int),rfl,by omega,by omega,fun co hco=> ?_⟩;have s6:=aK hco (.lst (dX (wl.length:Int).toNat));have O6:=s6 _ _ O5;refine⟨_,rfl,o,C,dx,_,rfl,O6,Cc,aV,(by show 2<1000;decide),?_⟩;have nco:co≠o:=(oH O5 hco).symm;have k7:∀b u,b≠o->(upd H5 co (.lst (dX (wl.length:Int).toNat))) b=some u->(upd (upd H5 co (.lst (dX (wl.length:Int).toNat))) o (.ins C dx (putF "columns" (.ref co) [("cells",.ref p1),("over",.int 1)]))) b=some u:=fun b u hb e=>by rw[cG hb];exact e
  have O7:(upd (upd H5 co (.lst (dX (wl.length:Int).toNat))) o (.ins C dx (putF "columns" (.ref co) [("cells",.ref p1),("over",.int 1)]))) o=some (.ins C dx [("cells",.ref p1),("over",.int 1),("columns",.ref co)]):=au;have C7:=k7 _ _ np (s6 _ _ C5);have S7:=k7 _ _ nso (s6 _ _ S5);have L7:=k7 _ _ nco au;have R7:∀r a,(as++[p4])[r]? =some a->_:=fun r a e=>k7 _ _ (R4 r a e).2 (s6 _ _ (R5 r a e));have Z7:Same H0 (upd (upd H5 co (.lst (dX (wl.length:Int).toNat))) o (.ins C dx (putF "columns" (.ref co) [("cells",.ref p1),("over",.int 1)]))):=Same.uY (Z5.trans s6) h0;have c0:H0 co=none:=Z5.none hco;have ncr:co∉as++[p4]:=fun hm=>by
   obtain⟨r,hr1,e⟩:=U6 hm;have:=R5 r _ (fL hr1);rw[e,hco]at this;cases this
  generalize (upd (upd H5 co (.lst (dX (wl.length:Int).toNat))) o (.ins C dx (putF "columns" (.ref co) [("cells",.ref p1),("over",.int 1)])))=H7 at *;refine⟨_,rfl,_,rfl,_,rfl,sl,_,rfl,.inl (SqL.of S7),fun _=>⟨_,_,rfl,rfl,_,_,rfl,by omega,?_,?_,fun ro hro=> ?_⟩⟩
  ·rw[aM];omega
  ·rw[aM];omega
  rw[aM];have s8:=aK hro (.lst ((pA (wl.length:Int) ((wl.length:Int)+(its.length:Int)-(wl.length:Int)).toNat).map V.int));have O8:=s8 _ _ O7;refine⟨_,rfl,o,C,dx,_,rfl,O8,Cc,cu,(by show 3<1000;decide),?_⟩;have nro:ro≠o:=(oH O7 hro).symm;have k9:∀b u,b≠o->(upd H7 ro (.lst ((pA (wl.length:Int) ((wl.length:Int)+(its.length:Int)-(wl.length:Int)).toNat).map V.int))) b=some u->(upd (upd H7 ro (.lst ((pA (wl.length:Int) ((wl.length:Int)+(its.length:Int)-(wl.length:Int)).toNat).map V.int))) o (.ins C dx (putF "rows" (.ref ro) [("cells",.ref p1),("over",.int 1),("columns",.ref co)]))) b=some u:=fun b u hb e=>by rw[cG hb];exact e
  refine qq _ ⟨dx,p1,co,ro,as++[p4],Same.uY (Z7.trans s8) h0,h0,h1n,c0,Z7.none hro,oH L7 hro,ncr,fun hm=> ?_,au,k9 _ _ np (s8 _ _ C7),by rw[rJ,hl];rfl,fun r a e=>k9 _ _ (R4 r a e).2 (s8 _ _ (R7 r a e)),?_,?_⟩
  ·obtain⟨r,hr1,e⟩:=U6 hm;have:=R7 r _ (fL hr1);rw[e,hro]at this;cases this
  ·rw[k9 _ _ nco (s8 _ _ L7)];congr 2;unfold dX bR;rw[v8,show(wl.length:Int).toNat=wl.length by omega];rfl
  ·rw[k9 _ _ nro au];congr 2;unfold pA bR;rw[show((wl.length:Int)+(its.length:Int)-(wl.length:Int)).toNat=its.length by omega];refine jX _ (YX fun k _=> ?_);show(wl.length:Int)+(k:Int)=((wl.length+k:Nat):Int);omega
end
noncomputable def bJ(a:Int)(b:Nat):Int×Nat:=(a/((Nat.gcd a.natAbs b:Nat):Int),b/Nat.gcd a.natAbs b)
theorem Kp(a:Int){b:Nat}(hb:0<b):Low a b (bJ a b).1 (bJ a b).2:=N7 a b hb
theorem zJ{a:Int}{b:Nat}{u u':Int}{v v':Nat}(hb:0<b)(h:Low a b u v)(h':Low a b u' v'):u=u'/\v=v':=by
 have e1:=h.eq;have e2:=h'.eq;have bi:(0:Int)<(b:Int):=by omega
 have cr:u*(v':Int)=u'*(v:Int):=by
  refine wdk (a:=(b:Int)) (by omega) ?_;have x:(b:Int)*(u*(v':Int))=u*(b:Int)*(v':Int):=by grind
  have y:(b:Int)*(u'*(v:Int))=u'*(b:Int)*(v:Int):=by grind
  rw[x,y,e1,e2];grind
 have cn:u.natAbs*v'=u'.natAbs*v:=by
  have:=jX Int.natAbs cr
  rwa [weu,weu,wdj,wdj]at this
 have d1:v∣v':=by
  have:v∣u.natAbs*v':=by rw[cn];exact Nat.dvd_mul_left _ _
  exact(Nat.Coprime.symm h.cop).dvd_of_dvd_mul_left this
 have d2:v'∣v:=by
  have:v'∣u'.natAbs*v:=by rw[<-cn];exact Nat.dvd_mul_left _ _
  exact(Nat.Coprime.symm h'.cop).dvd_of_dvd_mul_left this
 have ev:=Nat.dvd_antisymm d1 d2;subst ev;refine⟨?_,rfl⟩;have hv:=h.pos;exact wde (a:=(v:Int)) (by omega) cr
theorem CJ{a:Int}{b:Nat}{u:Int}{v:Nat}(hb:0<b)(h:Low a b u v):(u,v)=bJ a b:=by
 obtain⟨e1,e2⟩:=zJ hb h (Kp a hb);rw[e1,e2]
theorem tY{x y:Int}(h:0<x*y)(hy:0<y):0<x:=by
 refine Int.not_le.mp fun hn=> ?_;have:=Kr (a:= -x) (b:=y) (by omega) (by omega)
 grind
theorem zL{a:Int}{b:Nat}(hb:0<b):0<(bJ a b).1↔0<a:=by
 have l:=Kp a hb;have e:=l.eq;have hv:(0:Int)<((bJ a b).2:Int):=by have:=l.pos;omega
 have bi:(0:Int)<(b:Int):=by omega
 constructor
 ·intro h;have:0<(bJ a b).1*(b:Int):=ZR h bi;rw[e]at this;exact tY this hv
 ·intro h;have:0<a*((bJ a b).2:Int):=ZR h hv;rw[<-e]at this;exact tY this bi
structure Sh(n:Nat)(L:List (List Int))(wl:List Int)(ov:Nat)(Z:Int)(Y X:Nat->Int):Prop where
 pos:0<ov
 big:ov<=39916800
 yn:∀k,0<=Y k
 xn:∀p,0<=X p
 tot:Sx.sm L.length Y=Z
 eno:∀p,p<n->(ov:Int)*v9 wl p<=Sx.sm L.length fun k=>if iJ L k p=true then Y k else 0
 lig:∀k,k<L.length->(Sx.sm n fun p=>if iJ L k p=true then X p else 0)<=(ov:Int)
 wor:(Sx.sm n fun p=>v9 wl p*X p)=Z
theorem aak{n:Nat}{L:List (List Int)}{wl:List Int}{T:Sx.Tab}(hg:TG n L.length (iJ L) (v9 wl) T)(hz:∀c,c<n->0<=T.cell L.length c):
  Sh n L wl T.over.toNat (T.cell L.length n) (fun k=>Sx.Ys n L.length T (n+k)) (fun p=>Sx.Xs n L.length T p):=by
 have ho:=hg.over;have eo:((T.over.toNat:Nat):Int)=T.over:=by omega
 refine⟨by omega,by omega,fun k=>Sx.UW hz _,fun p=>hg.good.Va _,hg.good.total,fun p hp=> ?_,fun k hk=> ?_,hg.good.prices⟩
 ·rw[eo,hg.good.enough hp];have:=Sx.UW hz p;omega
 ·rw[eo];exact hg.good.light hk
theorem Yp{ts:L0}{n:Nat}{ss:List (List Int)}(h:cR ss ts false n){p:Nat}(hp:p<n):∃k,k<ss.length/\iJ ss k p=true:=by
 have sk:uK ts false n [(p:Int)]:=⟨Y0 _ _,fun x hx=>by rw[oE.mp hx];omega,fun x hx y hy hn=>absurd ((oE.mp hx).trans (oE.mp hy).symm) hn⟩;obtain⟨t,ht,hx⟩:=Qd sk;have ht':=h.1.mem_iff.mpr ht;obtain⟨k,hk,rfl⟩:=U6 ht';refine⟨k,hk,?_⟩;unfold iJ;rw[oK,fL hk];exact cX (hx _ jG)
theorem tO{ts:L0}{n:Nat}{ss:List (List Int)}(h:cR ss ts false n)(hn:n<=10):ss.length<=36:=by rw[h.1.length_eq];exact vU hn
noncomputable def gZ(ss:List (List Int))(ov:Nat)(Y:Nat->Int):List (List Int×(Int×Nat)):=((List.range ss.length).filter fun k=>decide (0<Y k)).map fun k=>(ss.getD k [],bJ (Y k) ov)
noncomputable def vN(n ov:Nat)(X:Nat->Int):List (Int×Nat):=(List.range n).map fun p=>bJ (X p) ov
section
variable{K:W.Frag}
noncomputable def yq(K:W.Frag)(H:Hp)(a:Addr)(f:Int×Nat):Prop:=SqT K H a [.int f.1,.int ((f.2:Nat):Int)]
noncomputable def EY(K:W.Frag)(H:Hp)(v:V)(q:List Int×(Int×Nat)):Prop:=∃t sa fa,v= .ref t/\SqT K H t [.ref sa,.ref fa]/\SqT K H sa (q.1.map V.int)/\yq K H fa q.2
noncomputable def eZ(K:W.Frag)(H:Hp):List V->List (List Int×(Int×Nat))->Prop:=Paired (EY K H)
noncomputable def lq(K:W.Frag)(H:Hp):List V->List (Int×Nat)->Prop:=Paired fun v f=>∃a,v= .ref a/\yq K H a f
theorem EY.same{H H':Hp}{v:V}{q:List Int×(Int×Nat)}(h:EY K H v q)(s:Same H H'):EY K H' v q:=by
 obtain⟨t,sa,fa,e,h1,h2,h3⟩:=h;exact⟨t,sa,fa,e,s.tup h1,s.tup h2,s.tup h3⟩
theorem eZ.same{H H':Hp}{vs:List V}{l:List (List Int×(Int×Nat))}(h:eZ K H vs l)(s:Same H H'):eZ K H' vs l:=Paired.mapP h fun _ _ z=>z.same s
theorem lq.same{H H':Hp}{vs:List V}{l:List (Int×Nat)}(h:lq K H vs l)(s:Same H H'):lq K H' vs l:=Paired.mapP h fun _ _ ⟨a,e,z⟩=>⟨a,e,s.tup z⟩
theorem Paired.snoc{α β:Type}{R:α->β->Prop}:∀{l:List α} {m:List β} {a:α} {b:β},Paired R l m->R a b->Paired R (l++[a]) (m++[b])
 |_,_,_,_,.nil,h=> .cons h .nil
 |_,_,_,_,.cons r t,h=> .cons r (Paired.snoc t h)
theorem Paired.at_{α β:Type}{R:α->β->Prop}:∀{l:List α} {m:List β} {i:Nat} {a:α},Paired R l m->l[i]? =some a->∃b,m[i]? =some b/\R a b
 |_,_,_,_,.nil,e=>by simp at e
 |_,_,0,_,.cons r _,e=>by simp at e;subst e;exact⟨_,rfl,r⟩
 |_,_,i+1,a,.cons _ t,e=>by
  obtain⟨b,h1,h2⟩:=Paired.at_ (i:=i) (a:=a) t (by simpa using e);exact⟨b,by simpa using h1,h2⟩
theorem Paired.kj{α β:Type}{R:α->β->Prop}:∀{l:List α} {m:List β},Paired R l m->l.length=m.length
 |_,_,.nil=>rfl
 |_,_,.cons _ t=>by simp[Paired.kj t]
end
section
variable{P:ξ}{w:τ}{K:W.Frag}{mg:L4}{base:Heap}
noncomputable def xT(n:Int)(wl:List Int):Prop:=(wl.length:Int)=n/\∀x∈wl,0<=x/\x<=99
theorem all_true(k:Nat):(List.replicate k true).all id=true:=by
 rw[oA];intro b hb;rw[(List.mem_replicate.mp hb).2];rfl
noncomputable def jZ(K:W.Frag):Sp:=fun vs H Q _=>∃(a wa:Addr) (n:Int) (t:V) (wl:List Int),vs=[.ref a,.ref wa]/\SqT K H a [.int n,t]/\SqT K H wa (wl.map V.int)/\xT n wl/\∀H',Same H H'->Q .non H'
theorem wJ{f f1:Addr}{fd d1:ρ}{tk0:Tok}(F:Fun K "need_wants" "need_wants" fD f fd)(D1:bK K mg "is_whole" YK ["thing"] f1 d1)(G1:FnOk P w K mg base CX0 1 f1 d1 ["thing"] (oO K))(cO:mg "len"=none)(bW:mg "isinstance"=none)(aR:mg "tuple"=none)(ux:mg "all"=none)(zH:mg "MOST_WANT"=some (.int 99 tk0)):
  FnOk P w K mg base CX0 2 f fd ["web","thing"] (jZ K):=by
 refine F.cQ ["web","thing"] fun cdv A outer s H vs Q E hr h=> ?_;obtain⟨a,wa,n,t,wl,rfl,hA,hW,⟨hl,hb⟩,qq⟩:=h;refine bw ?_;intro Y;refine⟨_,(aJ (dN (PW.pt (pw_or (rH (qd (pB QX bW (aj (pv 1) (aj (pN "tuple" aR) ak))))) (pw_or1 (dg op_ne (pB v7 cO (aj (pv 1) ak)) (bf cW (pv 0) aq))))) vG dW) (aP (dN (rH (qd (pB (gF rfl) ux (aj (pK ["want"] [] [] (JX (pv 1)) (pG 0) sX (pe_and (pc G1 hr D1 (aj (pv 0) ak)) (pe_one (pe_chain op_le op_le aq (pv 0) (Fj rfl zH (v:= .int 99) ⟨_,rfl⟩))))) ak)))) vG dW))),?_⟩;refine mH ?_;intro c2;refine⟨_,rfl,.ref wa,"tuple",_,rfl,.inl ⟨rfl,_,hW⟩,.inr (.inr (.inl rfl)),_,rfl,?_⟩;refine iteF ?_;refine⟨_,rfl,wa,_,rfl,.inr hW,fun hz=>⟨_,rfl,a,_,_,.int n,rfl,rfl,hA,rfl,rfl,_,rfl,?_⟩⟩;have e1:(!decide (V.int (((wl.map V.int).length:Nat):Int)=V.int n))=false:=by rw[aM,hl];simp
 rw[e1];refine iteF ?_;refine⟨_,rfl,wa,_,rfl,hW,fun hz=> ?_⟩;let jR:Nat->List V->St->Hp->Prop:=fun i acc σ H'=>acc=(List.replicate i true).map V.bl/\H'=H/\∃o,σ=[o];refine JZ (xs:=wl.map V.int) jR ⟨rfl,rfl,_,rfl⟩ (fun i acc σ H' _ p=>by rw[p.2.1];exact hW) (fun i acc σ H' _ p=>by rw[p.1,aM,ydh];exact aW _) hz (fun i x acc σ H' hx p=> ?_) (fun acc σ H' p=> ?_)
 ·obtain⟨rfl,rfl,o,rfl⟩:=p;rw[fu]at hx;cases ex:wl[i]? with
  |none=>rw[ex]at hx;cases hx
  |some y=>
   rw[ex]at hx;cases hx;have hy:=hb y (uT ex);refine⟨_,rfl,.int y,.int y,rfl,.int _,_,rfl,iteT ?_⟩;refine⟨_,rfl,_,_,rfl,rfl,_,rfl,?_⟩;rw[cX hy.1];refine iteT ?_;refine⟨_,_,rfl,rfl,?_,rfl,_,rfl⟩;show _++[V.bl (decide (y<=99))]=_;rw[cX hy.2,List.replicate_succ',cU];rfl
 ·intro p1 hp1;obtain⟨rfl,rfl,_⟩:=p;refine⟨p1,_,rfl,SqL.of au,_,rfl,?_⟩;rw[all_true];exact iteF (qq _ (aK hp1 _))
noncomputable def tG(K:W.Frag):Sp:=fun vs H Q _=>∃(a wa:Addr) (n:Int) (ts:L0) (wl:List Int),vs=[.ref a,.ref wa]/\aQ K H a n ts/\SqT K H wa (wl.map V.int)/\xT n wl/\
 ∀(r va la pa:Addr) (lrefs Vt:List V) (ss:List (List Int)) (ov:Nat) (Z:Int) (Y X:Nat->Int) H',Same H H'->H' r=some (.tup [.ref va,.ref la,.ref pa])->yq K H' va (bJ Z ov)->H' la=some (.lst lrefs)->eZ K H' lrefs (gZ ss ov Y)->H' pa=some (.lst Vt)->lq K H' Vt (vN n.toNat ov X)->
  cR ss ts false n.toNat->Sh n.toNat ss wl ov Z Y X->H la=none->H pa=none->la≠pa->Q (.ref r) H'
theorem Jf{f f1 f2 f3 f4 f5 f6 f7 f8 C:Addr}{fd d1 d2 d3 d4 d5 d6 d7 d8:ρ}(F:Fun K "shares" "shares" o7 f fd)
  (Cc:Cls K C)(aY:NoAttr K C "cells")(cV:NoAttr K C "over")(aV:NoAttr K C "columns")(cu:NoAttr K C "rows")(qK:mg "Tableau"=some (.ref C))(D1:bK K mg "need_web" Q8 ["thing"] f1 d1)(G1:FnOk P w K mg base CX0 7 f1 d1 ["thing"] (fO K))(D2:bK K mg "need_wants" fD ["web","thing"] f2 d2)(G2:FnOk P w K mg base CX0 2 f2 d2 ["web","thing"] (jZ K))(D3:bK K mg "full_apart" jw ["web"] f3 d3)(G3:FnOk P w K mg base CX0 8 f3 d3 ["web"] (qY K))(D4:jU K C "__init__" "Tableau.__init__" gB ["self","sets","wants"] f4 d4)(Mk4:Mk K C f4)(ab2:FnOk P w K mg base CX0 1 f4 d4 ["self","sets","wants"] (Bs K C))(D5:jU K C "solve" "Tableau.solve" eN ["self"] f5 d5)(G5':FnOk P w K mg base CX0 3 f5 d5 ["self"] (Lb K C))(D6:jU K C "share_of" "Tableau.share_of" zch ["self","name"] f6 d6)(G6':FnOk P w K mg base CX0 4 f6 d6 ["self","name"] (Ld K C))(D7:jU K C "price_of" "Tableau.price_of" zci ["self","name"] f7 d7)(G7':FnOk P w K mg base CX0 4 f7 d7 ["self","name"] (Le K C))(D8:jU K C "fraction_at" "Tableau.fraction_at" Zx ["self","row","column"] f8 d8)(G8':FnOk P w K mg base CX0 3 f8 d8 ["self","row","column"] (yI K C))(cP:mg "enumerate"=none)(aL:mg "range"=none):
  FnOk P w K mg base CX0 9 f fd ["web","wants"] (tG K):=by
 have G4m:FnOk P w K mg base CX0 7 f4 d4 ["self","sets","wants"] (Bs K C):=ab2.mono (by decide);have G5:FnOk P w K mg base CX0 8 f5 d5 ["self"] (Lb K C):=G5'.mono (by decide);have G6:FnOk P w K mg base CX0 8 f6 d6 ["self","name"] (Ld K C):=G6'.mono (by decide);have G7:FnOk P w K mg base CX0 8 f7 d7 ["self","name"] (Le K C):=G7'.mono (by decide);have G8:FnOk P w K mg base CX0 8 f8 d8 ["self","row","column"] (yI K C):=G8'.mono (by decide);refine F.cQ ["web","wants","n","sets","tableau","given","laying","prices"] fun cdv A outer s H vs Q E hr h=> ?_;obtain⟨a,wa,n,ts,wl,rfl,hA,hW,hwl,qq⟩:=h;refine bw ?_;intro Y;refine⟨_,(aJ (iG (pc G1 hr D1 (aj (pv 0) ak))) (aJ (iG (pc G2 hr D2 (aj (pv 0) (aj (pv 1) ak)))) (aJ (pS 2 (bf cW (pv 0) aq)) (aJ (pS 3 (pc G3 hr D3 (aj (pv 0) ak))) (aJ (pS 4 (pe_make Mk4 G4m hr rfl qK D4.b .nil pass0 (aj (pv 3) (aj (pv 1) ak)))) (aJ (iG (Q0 (pv 4) Cc D5.m G5 hr D5.b .nil pass0)) (aJ (pX 5 ["k","some"] ["tableau","n"] [4,2] (sJ rfl cP (aj (pv 3) ak)) (fH K (n:=2) rfl (qe (pG 0) (qe (pG 1) Fo))) sX (fV (aj (pv 1) (aj (qj (pv 2) Cc D6.m G6 hr D6.b .nil pass0 (aj (bB mQ (pv 3) (pv 0)) ak)) ak)))) (aJ (pX 6 ["share"] [] [] (yh (pv 5)) (pG 0) (HW (dg op_gt (bf (HS K) (bf (HS K) (pv 0) aq) aq) aq)) (pv 0)) (aJ (pX 7 ["place"] ["tableau"] [4] (J2 rfl aL (aj (pv 2) ak)) (pG 0) sX (qj (pv 1) Cc D7.m G7 hr D7.b .nil pass0 (aj (pv 0) ak))) (aP (bO (fV (aj (qj (pv 4) Cc D8.m G8 hr D8.b .nil pass0 (aj (pe_un un_neg aq) (aj (pe_un un_neg aq) ak))) (aj (pv 6) (aj (pv 7) ak))))))))))))))),?_⟩;refine XM ?_;intro Yv c9 c8 c7 c6 c5 c4 c3 c2;have h0:=hA.h0;have h10:=hA.h1;refine⟨_,rfl,.ref a,_,rfl,hA.web.dv.dx,hA.ok,fun H1 s1=> ?_⟩;obtain⟨tt1,rr1,w1,w2,w3⟩:=id (hA.same s1).web;refine⟨_,rfl,_,rfl,a,wa,n,_,wl,rfl,w1,s1.tup hW,hwl,fun H2 s2=> ?_⟩;have s12:=s1.trans s2;have hA2:=hA.same s12;obtain⟨tt2,rr2,x1,x2,x3⟩:=id hA2.web;refine⟨_,rfl,a,_,_,.int n,rfl,rfl,x1,rfl,?_⟩;refine⟨_,rfl,a,n,ts,rfl,hA2,fun sl ss H3 s3 abX Ph hsl=> ?_⟩;obtain⟨its,hS,hP,hss⟩:=abX;have qZ:=s12.trans s3;have hm:its.length=ss.length:=by rw[<-hss,aM]
 have acq:=tO Ph (by omega);have hwn:wl.length=n.toNat:=by have:=hwl.1;omega
 refine⟨_,rfl,_,rfl,fun o dx ho hdx hne=> ?_⟩;have sM:Same H3 (upd (upd H3 dx (.own o)) o (.ins C dx [])):=(aK hdx _).trans (aK (by rw[cG (mj hne)];exact ho) _);refine⟨o,dx,sl,wa,H3,its,wl,rfl,au,sM,ho,sM _ _ hS,fun p hp=>sM.tup (hP p hp),sM.tup (qZ.tup hW),by omega,by omega,fun H4 Zd=>⟨rfl,?_⟩⟩;rw[hss,hm,hwn]at Zd;have aaL:Sta n.toNat ss.length (iJ ss) (v9 wl):=by
  refine⟨by omega,by omega,fun p hp=> ?_,fun p hp=>Yp Ph hp⟩;unfold v9;rw[oK,fL (by omega)];exact hwl.2 _ (Ka _)
 obtain⟨dx4,cl4,co4,ro4,rw4,hA4⟩:=id Zd;refine⟨_,rfl,o,dx4,_,rfl,hA4.at_,rfl,o,H3,n.toNat,ss.length,iJ ss,v9 wl,_,rfl,Zd,aaL,Sx.Br,fun T H5 hT5 hg5 hz5=> ?_⟩;have hG:=aaL.tg hg5;have hSh:=aak hG hz5;obtain⟨dx5,cl5,co5,ro5,rw5,hA5⟩:=id hT5;have Y9:=hA5.same;have ovp:=hSh.pos;generalize hY:(fun k=>Sx.Ys n.toNat ss.length T (n.toNat+k))=Y at *;generalize hX:(fun p=>Sx.Xs n.toNat ss.length T p)=X at *
 -- given
 refine⟨_,rfl,false,sl,_,rfl,SqL.of (Y9 _ _ hS),fun hz=> ?_⟩;let vp:Nat->List V->St->Hp->Prop:=fun i acc σ H'=>eZ K H' acc ((List.range i).map fun k=>(ss.getD k [],bJ (Y k) T.over.toNat))/\Same H5 H'/\∃o1 o2,σ=[o1,o2,some (.ref o),some (.int n)];refine lR (K:=K) (b:=false) (a:=sl) (xs:=its.map fun p=>V.ref p.1) vp ⟨.nil,Same.refl _,_,_,rfl⟩ (fun i acc σ H' _ p=>p.2.1.seq (SqL.of (Y9 _ _ hS))) (fun i acc σ H' _ p=> ?_) hz (fun i v t acc σ H' hv p ht=> ?_) (fun acc σ H' p=> ?_)
 ·rw[Paired.kj p.1,aM,yx];exact aW _
 ·obtain⟨hl,sm,o1,o2,rfl⟩:=p;rw[fu]at hv;cases ev:its[i]? with
  |none=>rw[ev]at hv;cases hv
  |some it=>
   rw[ev]at hv;cases hv;have eg:ss.getD i []=it.2:=by rw[<-hss,oK,fu,ev];rfl
   have t1:=aK ht (.tup [.int (i:Int),.ref it.1]);have Zc:=hT5.sm (sm.trans t1);obtain⟨dx6,cl6,co6,ro6,rw6,hA6⟩:=id Zc;refine⟨t,_,rfl,SqT.of au,rfl,_,_,rfl,_,_,rfl,rfl,?_⟩;refine⟨_,rfl,_,rfl,o,dx6,_,rfl,hA6.at_,rfl,_,rfl,_,rfl,_,_,rfl,rfl,o,H3,n.toNat,ss.length,n.toNat+i,iJ ss,v9 wl,T,?_,Zc,hG,fun fa H7 u v' s7 e7 l7=> ?_⟩
   ·rw[show(((n.toNat+i:Nat)):Int)=n+(i:Int) by omega];rfl
   ·refine⟨(by show 2<=sizeLine;decide),fun tp htp=> ?_⟩;have s8:=aK htp (.tup [.ref it.1,.ref fa]);have s68:=t1.trans (s7.trans s8);have hlow:(u,v')=bJ (Y i) T.over.toNat:=by rw[<-hY];exact CJ ovp l7
    refine⟨?_,sm.trans s68,_,_,rfl⟩;rw[Bf,cU];refine Paired.snoc (eZ.same hl s68) ⟨tp,it.1,fa,rfl,SqT.of au,?_,?_⟩
    ·show SqT K _ it.1 ((ss.getD i []).map V.int);rw[eg];exact(Y9.trans (sm.trans s68)).tup (hP it (uT ev))
    ·show yq K _ fa (bJ (Y i) T.over.toNat);rw[<-hlow];exact s8.tup (SqT.of e7)
 intro gl hgl;obtain⟨hl,sm5,_⟩:=p;rw[aM,hm]at hl;have g1:=aK hgl (.lst acc);have s6:=sm5.trans g1;have eg1:(upd H' gl (.lst acc)) gl=some (.lst acc):=au;have hl6:=eZ.same hl g1;generalize (upd H' gl (.lst acc))=H6 at *
 -- laying
 refine⟨_,rfl,gl,_,rfl,SqL.of eg1,fun hz=> ?_⟩;let JQ:Nat->List V->St->Hp->Prop:=fun i acc' σ H'=>H'=H6/\eZ K H6 acc' (((List.range i).filter fun k=>decide (0<Y k)).map fun k=>(ss.getD k [],bJ (Y k) T.over.toNat))/\∃o1,σ=[o1];refine J0 (xs:=acc) JQ ⟨rfl,.nil,_,rfl⟩ (fun i acc' σ H' _ p=>by rw[p.1];exact SqL.of eg1) (fun i acc' σ H' _ p=> ?_) hz (fun i v acc' σ H' hv p=> ?_) (fun acc' σ H' p=> ?_)
 ·rw[Paired.kj p.2.1,aM];exact dD (yp _ _) (by rw[yx];exact aW _)
 ·obtain⟨rfl,hl',o1,rfl⟩:=p;obtain⟨qv,eq1,hv1⟩:=Paired.at_ hl6 hv;have hi:i<ss.length:=by
   have:=(oF.mp hv).1;rw[Paired.kj hl6,aM,yx]at this;exact this
  rw[fu,YZ hi]at eq1;have eq2:qv=(ss.getD i [],bJ (Y i) T.over.toNat):=(tu eq1).symm;obtain⟨t,sa,fa,rfl,h1,h2,h3⟩:=id hv1;have h3':yq K H' fa (bJ (Y i) T.over.toNat):=by rw[eq2]at h3;exact h3
  refine⟨_,rfl,t,_,_,.ref fa,rfl,rfl,h1,rfl,fa,_,_,.int (bJ (Y i) T.over.toNat).1,rfl,rfl,h3',rfl,_,_,rfl,rfl,_,rfl,?_⟩;have go:((List.range (i+1)).filter fun k=>decide (0<Y k))=((List.range i).filter fun k=>decide (0<Y k))++(if decide (0<Y i)=true then[i]else[]):=by
   rw[Bf,Kd];congr 1;rw[Ib];split<;>rfl
  have ed:decide (0<(bJ (Y i) T.over.toNat).1)=decide (0<Y i):=decide_eq_decide.mpr (zL ovp);refine ite2 (fun c=> ?_) (fun c=> ?_)
  ·have c':decide (0<Y i)=true:=by rw[<-ed];exact c
   refine⟨_,rfl,rfl,?_,_,rfl⟩;rw[go,aH c',cU];refine Paired.snoc hl' ?_;rw[eq2]at hv1;exact hv1
  ·have c':¬decide (0<Y i)=true:=by rw[<-ed];exact c
   refine⟨rfl,?_,_,rfl⟩;rw[go,aB c',Bg];exact hl'
 intro la hla;obtain⟨rfl,hlay,_⟩:=p;rw[Paired.kj hl6,aM,yx]at hlay;have g2:=aK hla (.lst acc');have s7:=s6.trans g2;have ela:(upd H' la (.lst acc')) la=some (.lst acc'):=au;have aaG:=eZ.same hlay g2;have zV:=hT5.sm s7;generalize (upd H' la (.lst acc'))=H7 at *
 -- prices
 refine⟨_,rfl,n,rfl,by omega,by omega,?_⟩;let Yz:Nat->List V->St->Hp->Prop:=fun i xR σ H2=>lq K H2 xR ((List.range i).map fun p=>bJ (X p) T.over.toNat)/\Same H7 H2/\∃o1,σ=[o1,some (.ref o)];refine UL (n:=n.toNat) Yz ⟨.nil,Same.refl _,_,rfl⟩ (fun i xR σ H2 hi p=> ?_) (by rw[fZ];omega) (fun i xR σ H2 hi p=> ?_) (fun xR σ H2 p=> ?_)
 ·rw[Paired.kj p.1,aM,yx];exact aW _
 ·obtain⟨hf,sm,o1,rfl⟩:=p;have hT8:=zV.sm sm;obtain⟨dx8,cl8,co8,ro8,rw8,hA8⟩:=id hT8;refine⟨_,rfl,o,dx8,_,rfl,hA8.at_,rfl,_,rfl,o,H3,n.toNat,ss.length,i,iJ ss,v9 wl,T,by rw[weo];rfl,hT8,hG,fun fa H9 u v' s9 e9 l9=> ?_⟩;have hlow:(u,v')=bJ (X i) T.over.toNat:=by rw[<-hX];exact CJ ovp l9
  refine⟨?_,sm.trans s9,_,rfl⟩;rw[Bf,cU];refine Paired.snoc (lq.same hf s9) ⟨fa,rfl,?_⟩;show yq K H9 fa (bJ (X i) T.over.toNat);rw[<-hlow];exact SqT.of e9
 intro pa hpa;obtain⟨hf,sm7,_⟩:=p;have g3:=aK hpa (.lst xR);have s8:=sm7.trans g3;have epa:(upd H2 pa (.lst xR)) pa=some (.lst xR):=au;have hf8:=lq.same hf g3;have hT8:=zV.sm s8;have nlp:la≠pa:=oH (sm7 _ _ ela) hpa;generalize (upd H2 pa (.lst xR))=H8 at *;obtain⟨dx8,cl8,co8,ro8,rw8,hA8⟩:=id hT8;refine⟨_,rfl,o,dx8,_,rfl,hA8.at_,rfl,_,rfl,_,rfl,o,H3,n.toNat,ss.length,ss.length,n.toNat,_,_,iJ ss,v9 wl,T,rfl,hT8,hG,.inr ⟨rfl,rfl⟩,.inr ⟨rfl,rfl⟩,fun va H9 u v' s9 e9 l9=> ?_⟩;refine⟨_,rfl,_,rfl,(by show 3<=sizeLine;decide),fun r hr'=> ?_⟩;have s10:=aK hr' (.tup [.ref va,.ref la,.ref pa]);have Ml:=s9.trans s10;have hlow:(u,v')=bJ (T.cell ss.length n.toNat) T.over.toNat:=CJ ovp l9;refine qq r va la pa acc' xR ss T.over.toNat (T.cell ss.length n.toNat) Y X _ (qZ.trans (Y9.trans (s7.trans (s8.trans Ml)))) au ?_ ((s8.trans Ml) _ _ ela) (eZ.same aaG (s8.trans Ml)) (Ml _ _ epa) (lq.same hf8 Ml) Ph hSh ?_ ?_ nlp
 ·rw[<-hlow];exact s10.tup (SqT.of e9)
 ·exact(qZ.trans (Y9.trans s6)).none hla
 ·exact(qZ.trans (Y9.trans (s7.trans sm7))).none hpa
theorem Wj{b:Bool}{H:Hp}{a:Addr}{xs:List V}(h:Uw K b H a xs):SqL K H a xs\/SqT K H a xs:=by
 cases b with
 |false=>exact .inl h
 |true=>exact .inr h
noncomputable def Gi(K:W.Frag):Sp:=fun vs H Q _=>∃(b:Bool) (a l:Addr) (n:Int) (ts:L0) (xs:List Int),vs=[.ref a,.ref l]/\aQ K H a n ts/\Uw K b H l (xs.map V.int)/\∀H',Same H H'->Q (.int ((ts.filter (inB xs)).length:Int)) H'
theorem Nm{f:Addr}{fd:ρ}(F:Fun K "count_ties_in" "count_ties_in" eG f fd)(cO:mg "len"=none):
  FnOk P w K mg base CX0 1 f fd ["web","some"] (Gi K):=by
 refine F.cQ ["web","some"] fun cdv A outer s H vs Q E hr h=> ?_;obtain⟨b,a,l,n,ts,xs,rfl,hA,hL,q⟩:=h;refine⟨_,(aP (bO (pB v7 cO (aj (pK ["tie"] ["some"] [1] (JX (bf cW (pv 0) aq)) (pG 0) (HW (PW.pt (pw_and (dg (lO K hr.units) (bf (HS K) (pv 0) aq) (pv 1) (by with_unfolding_all rfl)) (pw_and1 (dg (lO K hr.units) (bf (HS K) (pv 0) aq) (pv 1) (by with_unfolding_all rfl)))))) (pv 0)) ak)))),?_⟩;obtain⟨ta,ra,a1,a2,a3⟩:=id hA.web;have hra:=a3.len;rw[aM]at hra;have h45:=hA.len;refine⟨_,rfl,a,_,_,.ref ta,rfl,rfl,a1,rfl,ta,ra,rfl,a2,fun hz=> ?_⟩;let jR:Nat->List V->St->Hp->Prop:=fun i acc σ H'=>acc.length=((ts.take i).filter (inB xs)).length/\Same H H'/\∃o,σ=[o,some (.ref l)];refine JZ (xs:=ra) jR ⟨rfl,Same.refl _,_,rfl⟩ (fun i acc σ H' _ p=>p.2.1.tup a2) (fun i acc σ H' hi p=> ?_) hz (fun i x acc σ H' hx p=> ?_) (fun acc σ H' p=> ?_)
 ·rw[p.1];exact dD (yp _ _) (by rw[yw];exact Ks _ _)
 ·obtain⟨ea,sm,o,rfl⟩:=p;obtain⟨t,hi,rfl,ht⟩:=Gu a3 hx;have hl:=Wj (hL.same sm);have e:∀(acc':List V) (c:Bool),c=inB xs ts[i]->acc'.length=acc.length+(if c=true then 1 else 0)->acc'.length=((ts.take (i+1)).filter (inB xs)).length:=fun acc' c hc hl=>by
   rw[zcb hi,rJ,<-ea,hl,<-hc];cases c<;>rfl
  refine⟨_,rfl,t,_,_,.int (ts[i]).1,rfl,rfl,sm.tup ht,rfl,_,rfl,l,_,_,.int (ts[i]).1,rfl,hl,cJ.ints xs,.int _,QB xs,rfl,(by show 0<=60;decide),_,rfl,?_⟩;rw[any_ints];refine ite2 (fun c=> ?_) (fun c=> ?_)
  ·refine⟨_,rfl,t,_,_,.int (ts[i]).2,rfl,rfl,sm.tup ht,rfl,_,rfl,l,_,_,.int (ts[i]).2,rfl,hl,cJ.ints xs,.int _,QB xs,rfl,(by show 0<=60;decide),_,rfl,?_⟩;rw[any_ints];refine ite2 (fun c2=> ?_) (fun c2=> ?_)
   ·exact⟨_,rfl,e _ true (by unfold inB;rw[c,c2];rfl) (by rw[rJ];rfl),sm,_,rfl⟩
   ·exact⟨e _ false (by unfold inB;rw[c,Bool.eq_false_iff.mpr c2];rfl) rfl,sm,_,rfl⟩
  ·exact⟨e _ false (by unfold inB;rw[Bool.eq_false_iff.mpr c];rfl) rfl,sm,_,rfl⟩
 ·intro p1 hp1;obtain⟨ea,sm,_⟩:=p;refine⟨p1,acc,rfl,.inl (SqL.of au),fun _=> ?_⟩;rw[ea,hra,yt];exact q _ (sm.trans (aK hp1 (.lst acc)))
theorem ug{b:Bool}(h:(!b)=true):b=false:=by cases b<;>first |rfl|cases h
theorem uh{b:Bool}(h:¬(!b)=true):b=true:=by cases b<;>first |rfl|exact absurd rfl h
noncomputable def frB:θ->Bool
 | .tuple [x,y]=>fX x&&(fX y&&(decide (0<=intD x)&&(decide (1<=intD y)&&decide (intD y<=1000000000))))
 |_=>false
theorem lJ:∀{d:θ},fX d=true->∃i,d= .int i
 | .int i,_=>⟨i,rfl⟩
theorem PX{d:θ}(h:frB d=true):∃(u:Int) (v:Nat),d= .tuple [.int u,.int ((v:Nat):Int)]/\0<=u/\0<v/\v<=1000000000:=by
 unfold frB at h;split at h
 ·rename_i x y;simp only[oM,QH]at h;obtain⟨h1,h2,h3,h4,h5⟩:=h;obtain⟨u,rfl⟩:=lJ h1;obtain⟨v,rfl⟩:=lJ h2;have h4':1<=v:=h4;have h5':v<=1000000000:=h5;refine⟨u,v.toNat,?_,h3,by omega,by omega⟩;rw[show((v.toNat:Nat):Int)=v by omega]
 ·cases h
theorem _root_.L2.DX.ints{H:Hp}{x:V}{i:Int}(h:DX K H x (.int i)):x= .int i:=by cases h;rfl
theorem KQ{H:Hp}{x:V}{d:θ}(hx:DX K H x d):(∃a x0 x1 d0 d1,x= .ref a/\d= .tuple [d0,d1]/\SqT K H a [x0,x1]/\DX K H x0 d0/\DX K H x1 d1)\/(∃a xs ds,x= .ref a/\d= .tuple ds/\SqT K H a xs/\xs.length=ds.length/\ds.length≠2)\/kI d≠"tuple":=by
 cases hx with
 | @tup a xs ds h t=>
  have hl:=t.len;by_cases e:ds.length=2
  ·cases t with
   |nil=>simp at e
   |cons h0 t0=>
    cases t0 with
    |nil=>simp at e
    |cons h1 t1=>
     cases t1 with
     |cons _ _=>simp at e
     |nil=>exact .inl ⟨a,_,_,_,_,rfl,rfl,h,h0,h1⟩
  ·exact .inr (.inl ⟨a,xs,ds,rfl,rfl,h,by omega,e⟩)
 |_=>exact .inr (.inr (by simp[kI]))
theorem Uj{ds:List θ}(h:ds.length≠2):frB (.tuple ds)=false:=by
 match ds,h with
 |[],_=>rfl
 |[_],_=>rfl
 |[_,_],h=>exact absurd rfl h
 |_::_::_::_,_=>rfl
theorem P0{d:θ}(h:kI d≠"tuple"):frB d=false:=by
 cases d<;>first |rfl|exact absurd rfl h
noncomputable def Vm(K:W.Frag):Sp:=fun vs H Q _=>∃(x:V) (d:θ),vs=[x]/\DX K H x d/\Q (.bl (frB d)) H
theorem S9{f f1:Addr}{fd d1:ρ}{tk0:Tok}(F:Fun K "is_fraction" "is_fraction" iu f fd)(D1:bK K mg "is_whole" YK ["thing"] f1 d1)(G1:FnOk P w K mg base CX0 1 f1 d1 ["thing"] (oO K))(cO:mg "len"=none)(bW:mg "isinstance"=none)(aR:mg "tuple"=none)(u9:mg "MOST_BOTTOM"=some (.int 1000000000 tk0)):
  FnOk P w K mg base CX0 2 f fd ["thing"] (Vm K):=by
 refine F.cQ ["thing"] fun cdv A outer s H vs Q E hr h=> ?_;obtain⟨x,d,rfl,hx,q⟩:=h;refine bw ?_;intro Y;refine⟨_,(aJ (dN (PW.pt (pw_or (rH (qd (pB QX bW (aj (pv 0) (aj (pN "tuple" aR) ak))))) (pw_or (dg op_ne (pB v7 cO (aj (pv 0) ak)) aq) (pw_or (rH (qd (pc G1 hr D1 (aj (bf cW (pv 0) aq) ak)))) (pw_or1 (rH (qd (pc G1 hr D1 (aj (bf cW (pv 0) aq) ak))))))))) (aP (bO pe_bl)) dW) (aP (bO (pe_and (JW op_ge (bf cW (pv 0) aq) aq) (pe_one (pe_chain op_le op_le aq (bf cW (pv 0) aq) (Fj rfl u9 (v:= .int 1000000000) ⟨_,rfl⟩))))))),?_⟩;refine mH ?_;intro c2;have no:frB d=false->Q (.bl false) H:=fun e=>by rw[e]at q;exact q
 refine⟨_,rfl,x,_,_,rfl,hx.kind,.inr (.inr (.inl rfl)),_,rfl,?_⟩;rcases KQ hx with⟨a,x0,x1,d0,d1,rfl,rfl,h,h0,h1⟩|⟨a,xs,ds,rfl,rfl,h,el,hn⟩|hk
 ·refine iteF ?_;refine⟨_,rfl,a,_,rfl,.inr h,fun hz=>⟨rfl,_,rfl,?_⟩⟩;refine iteF ?_;refine⟨_,rfl,a,_,_,x0,rfl,rfl,h,rfl,x0,d0,rfl,h0,_,rfl,?_⟩;refine ite2 (fun c=> ?_) (fun c=> ?_)
  ·exact no (by show(fX d0&&_)=false;rw[ug c];rfl)
  have c:=uh c;refine⟨_,rfl,a,_,_,x1,rfl,rfl,h,rfl,x1,d1,rfl,h1,_,rfl,?_⟩;refine ite2 (fun c2=> ?_) (fun c2=> ?_)
  ·exact no (by show(fX d0&&(fX d1&&_))=false;rw[c,ug c2];rfl)
  have c2:=uh c2;obtain⟨u,rfl⟩:=lJ c;obtain⟨v,rfl⟩:=lJ c2;obtain rfl:=h0.ints;obtain rfl:=h1.ints;have e:frB (.tuple [.int u,.int v])=(decide (0<=u)&&(decide (1<=v)&&decide (v<=1000000000))):=rfl;rw[e]at q no;refine⟨_,rfl,a,_,_,.int u,rfl,rfl,h,rfl,_,_,rfl,rfl,_,rfl,?_⟩;refine ite2 (fun c3=> ?_) (fun c3=> ?_)
  ·have c3:0<=u:=fM c3;rw[cX c3]at q no;refine⟨_,rfl,a,_,_,.int v,rfl,rfl,h,rfl,_,_,rfl,rfl,_,rfl,?_⟩;refine ite2 (fun c4=> ?_) (fun c4=> ?_)
   ·have c4:1<=v:=fM c4;rw[cX c4]at q;exact⟨_,_,rfl,rfl,q⟩
   ·exact no (by rw[Bool.eq_false_iff.mpr c4];rfl)
  ·exact no (by rw[lV (fun z=>c3 (cX z))];rfl)
 ·refine iteF ?_;refine⟨_,rfl,a,_,rfl,.inr h,fun hz=>⟨rfl,_,rfl,?_⟩⟩;refine ite2 (fun c=>no (Uj hn)) (fun c=> ?_);exfalso;have c:¬(!decide (V.int (xs.length:Int)=V.int 2))=true:=c;simp at c;omega
 ·refine ite2 (fun c=>no (P0 hk)) (fun c=> ?_);exfalso;cases d<;>first |exact hk rfl|(simp[wW,kI]at c;done)
noncomputable def Lp(K:W.Frag):Sp:=fun vs H Q _=>∃(a:Addr) (xs:List V) (ls:List (List Int)),vs=[.ref a]/\SqL K H a xs/\Paired (fun v l=>∃p,v= .ref p/\SqT K H p (l.map V.int)) xs ls/\∀H',Same H H'->Q (.bl (dG ls)) H'
theorem Ce{f:Addr}{fd:ρ}(F:Fun K "is_rising" "is_rising" YM f fd)(ux:mg "all"=none)(aL:mg "range"=none)(cO:mg "len"=none):
  FnOk P w K mg base CX0 1 f fd ["things"] (Lp K):=by
 refine F.cQ ["things"] fun cdv A outer s H vs Q E hr h=> ?_;obtain⟨a,xs,ls,rfl,hS,hP,q⟩:=h;refine⟨_,(aP (bO (pB (gF rfl) ux (aj (pK ["k"] ["things"] [0] (pi_range2 rfl aL (aj aq (aj (pB v7 cO (aj (pv 0) ak)) ak))) (pG 0) sX (JW (Gw K hr.units0) (bf (iW K) (pv 1) (bB op_sub (pv 0) aq)) (bf (iW K) (pv 1) (pv 0)))) ak)))),?_⟩;have hl:=Paired.kj hP;refine⟨_,rfl,a,xs,rfl,.inl hS,fun hz=>⟨1,_,rfl,⟨by omega,by omega,by omega,by omega⟩,?_⟩⟩;have en:((xs.length:Int)-1).toNat=ls.length-1:=by omega
 rw[en];let jR:Nat->List V->St->Hp->Prop:=fun i acc σ H'=>acc=((List.range i).map fun k=>HT.lexLt (ls.getD k []) (ls.getD (k+1) [])).map V.bl/\Same H H'/\∃o,σ=[o,some (.ref a)];refine UL jR ⟨rfl,Same.refl _,_,rfl⟩ (fun i acc σ H' hi p=>by rw[p.1];simp) (by rw[fZ];omega) (fun i acc σ H' hi p=> ?_) (fun acc σ H' p=> ?_)
 ·obtain⟨rfl,sm,o,rfl⟩:=p;have e1:(1+(i:Int))-1=((i:Nat):Int):=by omega
  have e2:(1+(i:Int))=((i+1:Nat):Int):=by omega
  have x1:xs[i]? =some xs[i]:=fL (by omega);have x2:xs[i+1]? =some xs[i+1]:=fL (by omega);obtain⟨l1,m1,p1,q1,t1⟩:=Paired.at_ hP x1;obtain⟨l2,m2,p2,q2,t2⟩:=Paired.at_ hP x2;have a1:atI xs (1+(i:Int)-1)=some (.ref p1):=by rw[e1,<-q1];exact atI_nat x1
  have a2:atI xs (1+(i:Int))=some (.ref p2):=by rw[e2,<-q2];exact atI_nat x2
  refine⟨_,rfl,_,rfl,_,_,rfl,rfl,a,xs,_,_,rfl,rfl,sm.seq hS,a1,_,rfl,_,rfl,a,xs,_,_,rfl,rfl,sm.seq hS,a2,?_⟩;refine⟨p1,p2,l1,l2,rfl,rfl,sm.tup t1,sm.tup t2,?_,sm,_,rfl⟩;show _++[V.bl (HT.lexLt l1 l2)]=_;rw[Bf,cU,cU,ydv,ydv,show ls.getD i []=l1 by rw[oK,m1];rfl,show ls.getD (i+1) []=l2 by rw[oK,m2];rfl]
 ·intro p1 hp1;obtain⟨rfl,sm,_⟩:=p;refine⟨p1,_,rfl,SqL.of au,?_⟩;rw[jd];exact q _ (sm.trans (aK hp1 _))
noncomputable def BK(n:Int)(ts:L0):θ->Bool
 | .tuple [s,f]=>dZ n s&&(frB f&&(decide (ts.filter (inB ((kids s).map intD))=[])&&decide (0<intD ((kids f).headD .none))))
 |_=>false
theorem Ru{n:Int}{ts:L0}{ds:List θ}(h:ds.length≠2):BK n ts (.tuple ds)=false:=by
 match ds,h with
 |[],_=>rfl
 |[_],_=>rfl
 |[_,_],h=>exact absurd rfl h
 |_::_::_::_,_=>rfl
theorem Mh{n:Int}{ts:L0}{d:θ}(h:kI d≠"tuple"):BK n ts d=false:=by
 cases d<;>first |rfl|exact absurd rfl h
theorem tZ{n:Int}:∀{ds:List θ},ds.all (bx n)=true->ds=(ds.map intD).map PyData.int/\∀x∈ds.map intD,0<=x/\x<n
 |[],_=>⟨rfl,fun x hx=>(nomatch hx)⟩
 |d::ds,h=>by
  rw[wey,oM]at h;obtain⟨i,rfl,h0,h1⟩:=uc h.1;obtain⟨e,f⟩:=tZ h.2;refine⟨by rw[Ia,Ia,<-e];rfl,fun x hx=> ?_⟩;rcases cZ.mp hx with rfl|hx
  ·exact⟨h0,h1⟩
  ·exact f x hx
theorem Mi{n:Int}{s:θ}(h:dZ n s=true):∃xs:List Int,s= .tuple (xs.map PyData.int)/\(∀x∈xs,0<=x/\x<n)/\cM xs=true/\(kids s).map intD=xs:=by
 cases s with
 |tuple ds=>
  have h:(ds.all (bx n)&&cM (ds.map intD))=true:=h;rw[oM]at h;obtain⟨e,f⟩:=tZ h.1;exact⟨ds.map intD,by rw[<-e],f,h.2,rfl⟩
 |_=>cases h
theorem Af{H:Hp}:∀{xs:List Int} {vs:List V},jg K H vs (xs.map PyData.int)->vs=xs.map V.int
 |[],_,h=>by cases h;rfl
 |x::xs,_,h=>by
  cases h with
  |cons h t=>rw[DX.ints h,Af t];rfl
theorem _root_.L2.DX.tupI{H:Hp}{x:V}{xs:List Int}(h:DX K H x (.tuple (xs.map PyData.int))):∃a,x= .ref a/\SqT K H a (xs.map V.int):=by
 cases h with
 |tup h t=>exact⟨_,rfl,by rw[<-Af t];exact h⟩
theorem _root_.L2.DX.fr{H:Hp}{x:V}{u:Int}{v:Nat}(h:DX K H x (.tuple [.int u,.int ((v:Nat):Int)])):∃a,x= .ref a/\yq K H a (u,v):=DX.tupI (xs:=[u,((v:Nat):Int)]) h
noncomputable def Vl(K:W.Frag):Sp:=fun vs H Q _=>∃(a:Addr) (n:Int) (ts:L0) (x:V) (d:θ),vs=[.ref a,x]/\aQ K H a n ts/\DX K H x d/\∀H',Same H H'->Q (.bl (BK n ts d)) H'
theorem Cm{f f1 f2 f3:Addr}{fd d1 d2 d3:ρ}(F:Fun K "is_share" "is_share" nF f fd)(D1:bK K mg "is_fraction" iu ["thing"] f1 d1)(G1:FnOk P w K mg base CX0 2 f1 d1 ["thing"] (Vm K))(D2:bK K mg "is_set" iM ["n","thing"] f2 d2)(G2:FnOk P w K mg base CX0 4 f2 d2 ["n","thing"] (yJ K))(D3:bK K mg "count_ties_in" eG ["web","some"] f3 d3)(G3:FnOk P w K mg base CX0 1 f3 d3 ["web","some"] (Gi K))(cO:mg "len"=none)(bW:mg "isinstance"=none)(aR:mg "tuple"=none):
  FnOk P w K mg base CX0 5 f fd ["web","thing"] (Vl K):=by
 refine F.cQ ["web","thing"] fun cdv A outer s H vs Q E hr h=> ?_;obtain⟨a,n,ts,x,d,rfl,hA,hx,q⟩:=h;refine bw ?_;intro Y;refine⟨_,(aJ (dN (PW.pt (pw_or (rH (qd (pB QX bW (aj (pv 1) (aj (pN "tuple" aR) ak))))) (pw_or1 (dg op_ne (pB v7 cO (aj (pv 1) ak)) aq)))) (aP (bO pe_bl)) dW) (aJ (dN (PW.pt (pw_or (rH (qd (pc G2 hr D2 (aj (bf cW (pv 0) aq) (aj (bf cW (pv 1) aq) ak))))) (pw_or1 (rH (qd (pc G1 hr D1 (aj (bf cW (pv 1) aq) ak))))))) (aP (bO pe_bl)) dW) (aP (bO (pe_and (JW op_eq (pc G3 hr D3 (aj (pv 0) (aj (bf cW (pv 1) aq) ak))) aq) (pe_one (JW op_gt (bf cW (bf cW (pv 1) aq) aq) aq))))))),?_⟩;refine mF ?_;intro c3 c2;have no:BK n ts d=false->∀H',Same H H'->Q (.bl false) H':=fun e H' sm=>by have:=q H' sm;rw[e]at this;exact this
 obtain⟨tt1,rr1,w1,w2,w3⟩:=id hA.web;refine⟨_,rfl,x,_,_,rfl,hx.kind,.inr (.inr (.inl rfl)),_,rfl,?_⟩;rcases KQ hx with⟨t,x0,x1,d0,d1,rfl,rfl,h,h0,h1⟩|⟨t,xs,ds,rfl,rfl,h,el,hn⟩|hk
 ·refine iteF ?_;refine⟨_,rfl,t,_,rfl,.inr h,fun hz=>⟨rfl,_,rfl,?_⟩⟩;refine iteF ?_;refine⟨_,rfl,a,_,_,.int n,rfl,rfl,w1,rfl,_,rfl,t,_,_,x0,rfl,rfl,h,rfl,n,x0,d0,rfl,h0,fun H1 s1=>⟨_,rfl,?_⟩⟩;refine ite2 (fun c=> ?_) (fun c=> ?_)
  ·exact no (by show(dZ n d0&&_)=false;rw[ug c];rfl) _ s1
  have c:=uh c;refine⟨_,rfl,t,_,_,x1,rfl,rfl,s1.tup h,rfl,x1,d1,rfl,h1.same s1,_,rfl,?_⟩;refine ite2 (fun c2=> ?_) (fun c2=> ?_)
  ·exact no (by show(dZ n d0&&(frB d1&&_))=false;rw[c,ug c2];rfl) _ s1
  have c2:=uh c2;have e:BK n ts (.tuple [d0,d1])=(decide (ts.filter (inB ((kids d0).map intD))=[])&&decide (0<intD ((kids d1).headD .none))):=by
   show(dZ n d0&&(frB d1&&_))=_;rw[c,c2];rfl
  rw[e]at no;rw[e]at q;obtain⟨xs,rfl,hlt,hri,ek⟩:=Mi c;obtain⟨u,v,rfl,hu,hv,hvb⟩:=PX c2;rw[ek]at no q;obtain⟨sa,rfl,h2⟩:=h0.tupI;obtain⟨fa,rfl,h3⟩:=h1.fr;refine⟨_,rfl,_,rfl,t,_,_,.ref sa,rfl,rfl,s1.tup h,rfl,true,a,sa,n,ts,xs,rfl,hA.same s1,s1.tup h2,fun H2 s2=> ?_⟩;have s12:=s1.trans s2;refine⟨rfl,_,rfl,?_⟩;by_cases hc:ts.filter (inB xs)=[]
  ·rw[hc];refine iteT ?_;rw[cX hc]at q;refine⟨_,rfl,t,_,_,.ref fa,rfl,rfl,s12.tup h,rfl,fa,_,_,.int u,rfl,rfl,s12.tup h3,rfl,_,_,rfl,rfl,?_⟩;exact q _ s12
  ·refine ite2 (fun c3=> ?_) (fun c3=> ?_)
   ·exfalso;have c3:decide (V.int ((ts.filter (inB xs)).length:Int)=V.int 0)=true:=c3;simp at c3;exact hc (List.filter_eq_nil_iff.mpr fun p hp=>by have:=c3 p.1 p.2 hp;simpa using this)
   ·have:=no (by rw[lV hc];rfl) _ s12;exact this
 ·refine iteF ?_;refine⟨_,rfl,t,_,rfl,.inr h,fun hz=>⟨rfl,_,rfl,?_⟩⟩;refine ite2 (fun c=>no (Ru hn) _ (Same.refl _)) (fun c=> ?_);exfalso;have c:¬(!decide (V.int (xs.length:Int)=V.int 2))=true:=c;simp at c;omega
 ·refine ite2 (fun c=>no (Mh hk) _ (Same.refl _)) (fun c=> ?_);exfalso;cases d<;>first |exact hk rfl|(simp[wW,kI]at c;done)
structure ShG(n:Int)(ts:L0)(q:List Int×(Int×Nat)):Prop where
 rise:cM q.1=true
 lt:∀x∈q.1,0<=x/\x<n
 no:ts.filter (inB q.1)=[]
 pos:0<q.2.1
 bot:0<q.2.2
 big:q.2.2<=1000000000
noncomputable def jJ(q:List Int×(Int×Nat)):θ:= .tuple [.tuple (q.1.map PyData.int),.tuple [.int q.2.1,.int ((q.2.2:Nat):Int)]]
noncomputable def setOf(d:θ):List Int:=(kids ((kids d).headD .none)).map intD
theorem vM(q:List Int×(Int×Nat)):setOf (jJ q)=q.1:=by
 show((q.1.map PyData.int).map intD)=q.1;rw[v8];exact wer q.1
theorem Wq{n:Int}{ts:L0}{d:θ}(h:BK n ts d=true):∃q,d=jJ q/\ShG n ts q:=by
 unfold BK at h;split at h
 ·rename_i s f;simp only[oM]at h;obtain⟨h1,h2,h3,h4⟩:=h;obtain⟨xs,rfl,hlt,hri,ek⟩:=Mi h1;obtain⟨u,v,rfl,hu,hv,hvb⟩:=PX h2;rw[ek]at h3;exact⟨(xs,(u,v)),rfl,hri,hlt,fM h3,fM h4,hv,hvb⟩
 ·cases h
theorem _root_.L2.DX.sh{H:Hp}{x:V}{q:List Int×(Int×Nat)}(h:DX K H x (jJ q)):EY K H x q:=by
 unfold jJ at h;cases h with
 |tup h t=>
  cases t with
  |cons h0 t0=>
   cases t0 with
   |cons h1 t1=>
    cases t1 with
    |nil=>
     obtain⟨sa,rfl,h2⟩:=h0.tupI;obtain⟨fa,rfl,h3⟩:=h1.fr;exact⟨_,sa,fa,rfl,h,h2,h3⟩
theorem lay_of{n:Int}{ts:L0}{H:Hp}:∀{rs:List V} {ds:List θ},jg K H rs ds->ds.all (BK n ts)=true->∃l,ds=l.map jJ/\eZ K H rs l/\∀q∈l,ShG n ts q
 |[],_,h,_=>by cases h;exact⟨[],rfl,.nil,fun q hq=>(nomatch hq)⟩
 |_::_,_,h,ha=>by
  cases h with
  |cons h t=>
   rw[wey,oM]at ha;obtain⟨q,rfl,hq⟩:=Wq ha.1;obtain⟨l,rfl,hl,hg⟩:=lay_of t ha.2;refine⟨q::l,rfl,.cons h.sh hl,fun p hp=> ?_⟩;rcases cZ.mp hp with rfl|hp
   ·exact hq
   ·exact hg p hp
noncomputable def layB(n:Int)(ts:L0)(ds:List θ):Bool:=ds.all (BK n ts)&&dG (ds.map setOf)
theorem yR(l:List (List Int×(Int×Nat))):(l.map jJ).map setOf=l.map (·.1):=by
 rw[v8];exact YX fun q _=>vM q
noncomputable def Lr(K:W.Frag):Sp:=fun vs H Q _=>∃(a la:Addr) (n:Int) (ts:L0) (rs:List V) (ds:List θ),vs=[.ref a,.ref la]/\aQ K H a n ts/\SqL K H la rs/\jg K H rs ds/\∀H',Same H H'->Q (.bl (layB n ts ds)) H'
theorem zA{f f1 f2:Addr}{fd d1 d2:ρ}(F:Fun K "is_laying" "is_laying" j6 f fd)(D1:bK K mg "is_share" nF ["web","thing"] f1 d1)(G1:FnOk P w K mg base CX0 5 f1 d1 ["web","thing"] (Vl K))(D2:bK K mg "is_rising" YM ["things"] f2 d2)(G2:FnOk P w K mg base CX0 1 f2 d2 ["things"] (Lp K))(ux:mg "all"=none)(bW:mg "isinstance"=none)(eX:mg "list"=none):
  FnOk P w K mg base CX0 6 f fd ["web","thing"] (Lr K):=by
 refine F.cQ ["web","thing"] fun cdv A outer s H vs Q E hr h=> ?_;obtain⟨a,la,n,ts,rs,ds,rfl,hA,hL,hd,q⟩:=h;refine bw ?_;intro Y;refine⟨_,(aJ (dN (PW.pt (pw_or (rH (qd (pB QX bW (aj (pv 1) (aj (pN "list" eX) ak))))) (pw_or1 (rH (qd (pB (gF rfl) ux (aj (pK ["share"] ["web"] [0] (yh (pv 1)) (pG 0) sX (pc G1 hr D1 (aj (pv 1) (aj (pv 0) ak)))) ak))))))) (aP (bO pe_bl)) dW) (aP (bO (pc G2 hr D2 (aj (pK ["share"] [] [] (yh (pv 1)) (pG 0) sX (bf (HS K) (pv 0) aq)) ak))))),?_⟩;refine mH ?_;intro c2;have hlen:=hd.len;refine⟨_,rfl,.ref la,"list",_,rfl,.inr (.inl ⟨rfl,_,hL⟩),.inr (.inr (.inr rfl)),_,rfl,?_⟩;refine iteF ?_;refine⟨_,rfl,la,rs,rfl,hL,fun hz=> ?_⟩;let vp:Nat->List V->St->Hp->Prop:=fun i acc σ H'=>acc=((ds.take i).map (BK n ts)).map V.bl/\Same H H'/\∃o,σ=[o,some (.ref a)];refine J0 (xs:=rs) vp ⟨rfl,Same.refl _,_,rfl⟩ (fun i acc σ H' _ p=>p.2.1.seq hL) (fun i acc σ H' hi p=> ?_) hz (fun i x acc σ H' hx p=> ?_) (fun acc σ H' p=> ?_)
 ·rw[p.1];simp;omega
 ·obtain⟨rfl,sm,o,rfl⟩:=p;obtain⟨d,e1,e2⟩:=hd.get hx;refine⟨_,rfl,_,rfl,a,n,ts,x,d,rfl,hA.same sm,DX.same sm e2,fun H2 s2=>⟨?_,sm.trans s2,_,rfl⟩⟩;rw[Fq,e1];simp
 intro p1 hp1;obtain⟨rfl,sm,_⟩:=p;have s1:=sm.trans (aK hp1 (.lst (((ds.take rs.length).map (BK n ts)).map V.bl)));refine⟨p1,ds.map (BK n ts),rfl,SqL.of (by rw[au,hlen,yt]),_,rfl,?_⟩;rw[jd];refine ite2 (fun c=> ?_) (fun c=> ?_)
 ·have:=q _ s1;unfold layB at this;rw[ug c]at this;exact this
 have c:=uh c;generalize upd H' p1 (.lst (((ds.take rs.length).map (BK n ts)).map V.bl))=H1 at *;obtain⟨l,rfl,hv,hg⟩:=lay_of hd c;have hv1:=eZ.same hv s1;have hll:=Paired.kj hv;refine⟨_,rfl,la,rs,rfl,s1.seq hL,fun hz=> ?_⟩;let JQ:Nat->List V->St->Hp->Prop:=fun i acc σ H'=>H'=H1/\Paired (fun v l=>∃p,v= .ref p/\SqT K H1 p (l.map V.int)) acc ((l.take i).map (·.1))/\∃o,σ=[o];refine J0 (xs:=rs) JQ ⟨rfl,.nil,_,rfl⟩ (fun i acc σ H' _ p=>by rw[p.1];exact s1.seq hL) (fun i acc σ H' _ p=> ?_) hz (fun i x acc σ H' hx p=> ?_) (fun acc σ H' p=> ?_)
 ·rw[Paired.kj p.2.1,aM,yw];exact Ks _ _
 ·obtain⟨rfl,hp,o,rfl⟩:=p;obtain⟨q,hq,t,sa,fa,rfl,h1,h2,h3⟩:=Paired.at_ hv1 hx;refine⟨_,rfl,t,_,_,.ref sa,rfl,rfl,h1,rfl,rfl,?_,_,rfl⟩;obtain⟨hi,rfl⟩:=oF.mp hq;rw[ych hi,cU];exact Paired.snoc hp ⟨sa,rfl,h2⟩
 intro p2 hp2;obtain⟨rfl,hp,_⟩:=p;have s2:=aK hp2 (.lst acc);rw[ZM (by omega)]at hp;refine⟨p2,acc,l.map (·.1),rfl,SqL.of au,Paired.mapP hp fun _ _ ⟨p,e,z⟩=>⟨p,e,s2.tup z⟩,fun H3 s3=> ?_⟩;have:=q _ (s1.trans (s2.trans s3));unfold layB at this;rw[c,yR]at this;exact this
noncomputable def Bj(D:Nat):List (Int×Nat)->Int
 |[]=>0
 |f::fs=>f.1*((D/f.2:Nat):Int)+Bj D fs
theorem xq(D:Nat):∀(l m:List (Int×Nat)),Bj D (l++m)=Bj D l+Bj D m
 |[],m=>by simp[Bj]
 |f::l,m=>by simp[Bj,xq D l m,Int.add_assoc]
theorem Hw(D:Nat)(f:Int×Nat):Bj D [f]=f.1*((D/f.2:Nat):Int):=by simp[Bj]
structure UG(D:Nat)(fs:List (Int×Nat)):Prop where
 pos:0<D
 le:D<=1000000000000000000
 all:∀f∈fs,0<=f.1/\0<f.2/\f.2∣D
structure mJ(D:Nat)(S:Int)(a:Int)(b:Nat):Prop where
 pos:0<b
 dvd:b∣D
 eq:a*((D/b:Nat):Int)=S
theorem mJ.le{D b:Nat}{S a:Int}(h:mJ D S a b)(hD:0<D):b<=D:=wez hD h.dvd
theorem K6{D b v:Nat}{S a u:Int}(hD:0<D)(h:mJ D S a b)(hv:0<v)(dv:v∣D):
  mJ D (S+u*((D/v:Nat):Int)) (a*((v/Nat.gcd b v:Nat):Int)+u*((b*(v/Nat.gcd b v)/v:Nat):Int)) (b*(v/Nat.gcd b v)):=by
 obtain⟨hb,db,he⟩:=h;have hg:0<Nat.gcd b v:=wea _ hb;obtain⟨b1,eb⟩:=Nat.gcd_dvd_left b v;obtain⟨v1,ev⟩:=ZD b v;have dl:Nat.lcm b v∣D:=Nat.lcm_dvd db dv;have e1:v/Nat.gcd b v=v1:=by
  conv=>lhs;arg 1;rw[ev]
  exact Rf _ hg
 have el:Nat.lcm b v=b*v1:=by
  unfold Nat.lcm;rw[Nat.mul_div_assoc _ (ZD b v),e1]
 rw[el]at dl;rw[e1];obtain⟨e,eD⟩:=dl;have hv1:0<v1:=Nat.pos_of_ne_zero fun z=>by rw[z,wfd]at ev;omega
 have hbv:0<b*v1:=Nat.mul_pos hb hv1;have c1:b*v1=v*b1:=by
  have:b*v1*Nat.gcd b v=v*b1*Nat.gcd b v:=by
   have h1:b*v1*Nat.gcd b v=b*(Nat.gcd b v*v1):=by rw[wec,ZW v1]
   have h2:v*b1*Nat.gcd b v=v*(Nat.gcd b v*b1):=by rw[wec,ZW b1]
   rw[h1,h2,<-ev,<-eb,ZW]
  exact Nat.eq_of_mul_eq_mul_right hg this
 have c2:b*v1/v=b1:=by rw[c1];exact Rf _ hv
 have c3:D/(b*v1)=e:=by rw[eD];exact Rf _ hbv
 have c4:D/b=v1*e:=by rw[eD,wec];exact Rf _ hb
 have c5:D/v=b1*e:=by rw[eD,c1,wec];exact Rf _ hv
 refine⟨hbv,⟨e,eD⟩,?_⟩;rw[c2,c3,c5,<-he,c4]
 push_cast
 grind
noncomputable def Bw(K:W.Frag):Sp:=fun vs H Q _=>∃(p p':Addr) (u u':Int) (v v':Nat),vs=[.ref p,.ref p']/\SqT K H p [.int u,.int ((v:Nat):Int)]/\SqT K H p' [.int u',.int ((v':Nat):Int)]/\v<=1000000000000000000/\v'<=1000000000000000000/\Q (.bl (decide (u*(v':Int)<u'*(v:Int)))) H
theorem S6{f:Addr}{fd:ρ}(F:Fun K "is_less" "is_less" lK f fd):
  FnOk P w K mg base CX0 1 f fd ["one","other"] (Bw K):=by
 refine F.cQ ["one","other"] fun cdv A outer s H vs Q E hr h=> ?_;obtain⟨p,p1,u,u1,v,v1,rfl,h1,h2,b1,b2,q⟩:=h;refine⟨_,(aP (bO (JW op_lt (bB uP (bf cW (pv 0) aq) (bf cW (pv 1) aq)) (bB uP (bf cW (pv 1) aq) (bf cW (pv 0) aq))))),?_⟩;exact⟨_,rfl,p,_,_,.int u,rfl,rfl,h1,rfl,_,rfl,p1,_,_,.int v1,rfl,rfl,h2,rfl,_,_,rfl,rfl,.inr ⟨by omega,by omega⟩,_,rfl,p1,_,_,.int u1,rfl,rfl,h2,rfl,_,rfl,p,_,_,.int v,rfl,rfl,h1,rfl,_,_,rfl,rfl,.inr ⟨by omega,by omega⟩,_,_,rfl,rfl,q⟩
theorem Nt{k:Nat}(h:k<=1000000000000000000)(x:Int):CMul x ((k:Nat):Int):= .inr ⟨by omega,by omega⟩
noncomputable def wB(K:W.Frag):Sp:=fun vs H Q _=>∃(la:Addr) (rs:List V) (fs:List (Int×Nat)) (D:Nat),vs=[.ref la]/\SqL K H la rs/\lq K H rs fs/\UG D fs/\rs.length<=1000/\
 ∀(p:Addr) (a:Int) (b:Nat) H',Same H H'->H' p=some (.tup [.int a,.int ((b:Nat):Int)])->mJ D (Bj D fs) a b->Q (.ref p) H'
theorem M4{f f1:Addr}{fd d1:ρ}(F:Fun K "sum_of" "sum_of" oZ f fd)(D1:bK K mg "greatest_divisor" zbn ["one","other"] f1 d1)(G1:FnOk P w K mg base CX0 1 f1 d1 ["one","other"] (Wk K)):
  FnOk P w K mg base CX0 2 f fd ["fractions"] (wB K):=by
 refine F.cQ ["fractions","a","b","top","bottom","by"] fun cdv A outer s H vs Q E hr h=> ?_;obtain⟨la,rs,fs,D,rfl,hL,hF,hD,hlen,q⟩:=h;refine bw ?_;intro Y;refine⟨_,(aJ (pS 1 aq) (aJ (pS 2 aq) (aJ (ps_for yD rfl (yh (pv 0)) (pg_tup rfl (qe (pG 3) (qe (pG 4) Fo))) (aJ (pS 5 (bB pC (pv 4) (pc G1 hr D1 (aj (pv 2) (aj (pv 4) ak))))) (aJ (pS 1 (bB mQ (bB uP (pv 1) (pv 5)) (bB uP (pv 3) (bB pC (bB uP (pv 2) (pv 5)) (pv 4))))) (aP (pS 2 (bB uP (pv 2) (pv 5))))))) (aP (bO (fV (aj (pv 1) (aj (pv 2) ak)))))))),?_⟩;refine uD ?_;intro c4 c3 c2;have hl:=Paired.kj hF;have hD0:=hD.pos;have hD1:=hD.le;refine⟨_,rfl,la,rs,rfl,hL,fun hz=> ?_⟩;let jR:Nat->St->Hp->Prop:=fun i σ H'=>H'=H/\∃(a:Int) (b:Nat) (o1 o2 o3:Option V),mJ D (Bj D (fs.take i)) a b/\σ=[some (.ref la),some (.int a),some (.int ((b:Nat):Int)),o1,o2,o3];refine for_list (xs:=rs) jR ⟨rfl,0,1,_,_,_,⟨by omega,Nat.one_dvd _,by simp[Bj]⟩,rfl⟩ (fun i σ H' _ p=>by rw[p.1];exact hL) (fun i x σ H' hx p=> ?_) (fun σ H' p=> ?_)
 ·obtain⟨rfl,a,b,o1,o2,o3,hs,rfl⟩:=p;obtain⟨f,hf,t,rfl,ht⟩:=Paired.at_ hF hx;obtain⟨f0,f1,f2⟩:=hD.all f (uT hf);have hb:=hs.pos;have hbD:=hs.le hD0;have hfD:=wez hD0 f2;have st:=K6 (u:=f.1) hD0 hs f1 f2;have hg:0<Nat.gcd b f.2:=wea _ hb;have hg2:Nat.gcd b f.2<=b:=Nat.gcd_le_left _ hb;have hby:f.2/Nat.gcd b f.2<=f.2:=Nat.div_le_self _ _;have hbb:=st.le hD0;refine⟨t,_,rfl,ht,rfl,_,_,rfl,_,_,rfl,rfl,?_⟩;refine⟨_,rfl,_,rfl,_,rfl,b,f.2,rfl,_,_,rfl,rfl,⟨by omega,by omega⟩,?_⟩;have eby:((f.2:Nat):Int)/((Nat.gcd b f.2:Nat):Int)=((f.2/Nat.gcd b f.2:Nat):Int):=(weh _ _).symm;have Zh:((b:Nat):Int)*((f.2/Nat.gcd b f.2:Nat):Int)=((b*(f.2/Nat.gcd b f.2):Nat):Int):=(ZC _ _).symm;have eb3:((b*(f.2/Nat.gcd b f.2):Nat):Int)/((f.2:Nat):Int)=((b*(f.2/Nat.gcd b f.2)/f.2:Nat):Int):=(weh _ _).symm;have hq:b*(f.2/Nat.gcd b f.2)/f.2<=b*(f.2/Nat.gcd b f.2):=Nat.div_le_self _ _;have c1:∀x:Int,CMul x (((f.2:Nat):Int)/((Nat.gcd b f.2:Nat):Int)):=fun x=>by rw[eby];exact Nt (dD hby (dD hfD hD1)) x
  have c2:∀x:Int,CMul x (((b:Nat):Int)*(((f.2:Nat):Int)/((Nat.gcd b f.2:Nat):Int))/((f.2:Nat):Int)):=fun x=>by rw[eby,Zh,eb3];exact Nt (dD hq (dD hbb hD1)) x
  refine⟨_,rfl,_,rfl,_,_,rfl,rfl,c1 _,_,rfl,_,rfl,_,rfl,_,_,rfl,rfl,c1 _,_,rfl,_,_,rfl,rfl,⟨by omega,by omega⟩,_,_,rfl,rfl,c2 _,_,_,rfl,rfl,?_⟩;refine⟨_,rfl,_,rfl,_,_,rfl,rfl,c1 _,?_⟩;refine⟨rfl,a*((f.2/Nat.gcd b f.2:Nat):Int)+f.1*((b*(f.2/Nat.gcd b f.2)/f.2:Nat):Int),b*(f.2/Nat.gcd b f.2),some (.int f.1),some (.int ((f.2:Nat):Int)),some (.int ((f.2/Nat.gcd b f.2:Nat):Int)),?_,?_⟩
  rotate_left
  ·show[some (V.ref la),some (.int (a*(((f.2:Nat):Int)/((Nat.gcd b f.2:Nat):Int))+f.1*(((b:Nat):Int)*(((f.2:Nat):Int)/((Nat.gcd b f.2:Nat):Int))/((f.2:Nat):Int)))),some (.int (((b:Nat):Int)*(((f.2:Nat):Int)/((Nat.gcd b f.2:Nat):Int)))),some (.int f.1),some (.int ((f.2:Nat):Int)),some (.int (((f.2:Nat):Int)/((Nat.gcd b f.2:Nat):Int)))]=_;rw[eby,Zh,eb3]
  obtain⟨hi,rfl⟩:=oF.mp hf;rw[ych hi,xq,Hw];exact st
 ·obtain⟨rfl,a,b,o1,o2,o3,hs,rfl⟩:=p;refine⟨_,rfl,_,rfl,(by show 2<=sizeLine;decide),fun r hr'=> ?_⟩;refine q r a b _ (aK hr' _) au ?_;rw[ZM (by omega)]at hs;exact hs
theorem vV{α:Type}{l:List α}{i:Nat}(h:i<l.length)(g:α->Bool):(l.take (i+1)).filter g=(l.take i).filter g++(if g l[i]=true then[l[i]]else[]):=by
 rw[ych h,Kd,Ib];split<;>rfl
theorem yP{H:Hp}{rs:List V}{l:List (List Int×(Int×Nat))}(hv:eZ K H rs l){i:Nat}{x:V}(hx:rs[i]? =some x):∃(hi:i<l.length) (t sa fa:Addr),x= .ref t/\SqT K H t [.ref sa,.ref fa]/\SqT K H sa (l[i].1.map V.int)/\yq K H fa l[i].2:=by
 obtain⟨q,hq,t,sa,fa,e,h1,h2,h3⟩:=Paired.at_ hv hx;obtain⟨hi,rfl⟩:=oF.mp hq;exact⟨hi,t,sa,fa,e,h1,h2,h3⟩
theorem mJ.cmp{D b:Nat}{S a u:Int}{v:Nat}(h:mJ D S a b)(hD:0<D):a*(v:Int)<=u*(b:Int)↔S*(v:Int)<=u*(D:Int):=by
 obtain⟨hb,⟨k,rfl⟩,rfl⟩:=h;have hk:0<k:=by
  rcases ZJ k with z|z
  ·rw[z,wfd]at hD;cases hD
  ·exact z
 rw[Rf _ hb,Int.mul_right_comm a (k:Int) (v:Int),ZC,<-V0];exact⟨fun h=>wcl h (by omega),fun h=>wdf h (by omega)⟩
theorem mJ.abZ{D b:Nat}{S a x:Int}(h:mJ D S a b)(hD:0<D):x*(b:Int)<=a↔x*(D:Int)<=S:=by
 obtain⟨hb,⟨k,rfl⟩,rfl⟩:=h;have hk:0<k:=by
  rcases ZJ k with z|z
  ·rw[z,wfd]at hD;cases hD
  ·exact z
 rw[Rf _ hb,ZC,<-V0];exact⟨fun h=>wcl h (by omega),fun h=>wdf h (by omega)⟩
theorem dec_not{a b:Int}:(!decide (a<b))=decide (b<=a):=by
 by_cases h:a<b
 ·rw[cX h,lV (by omega)];rfl
 ·rw[lV h,cX (by omega)];rfl
theorem UG.sub{D:Nat}{fs gs:List (Int×Nat)}(h:UG D fs)(s:∀f∈gs,f∈fs):UG D gs:=⟨h.pos,h.le,fun f hf=>h.all f (s f hf)⟩
noncomputable def Ju(D:Nat)(l:List (List Int×(Int×Nat)))(p w:Int):Bool:=decide (w*(D:Int)<=Bj D ((l.filter fun q=>decide (p∈q.1)).map (·.2)))
noncomputable def Gg(K:W.Frag):Sp:=fun vs H Q _=>∃(la:Addr) (p w:Int) (rs:List V) (l:List (List Int×(Int×Nat))) (D:Nat),vs=[.ref la,.int p,.int w]/\SqL K H la rs/\eZ K H rs l/\l.length<=1000/\UG D (l.map (·.2))/\∀H',Same H H'->Q (.bl (Ju D l p w)) H'
theorem Tc{f f1 f2:Addr}{fd d1 d2:ρ}(F:Fun K "gets" "gets" BR f fd)(D1:bK K mg "is_less" lK ["one","other"] f1 d1)(G1:FnOk P w K mg base CX0 1 f1 d1 ["one","other"] (Bw K))(D2:bK K mg "sum_of" oZ ["fractions"] f2 d2)(G2:FnOk P w K mg base CX0 2 f2 d2 ["fractions"] (wB K)):
  FnOk P w K mg base CX0 3 f fd ["laying","place","want"] (Gg K):=by
 refine F.cQ ["laying","place","want"] fun cdv A outer s H vs Q E hr h=> ?_;obtain⟨la,p,w,rs,l,D,rfl,hL,hv,h1k,hD,qq⟩:=h;refine⟨_,(aP (bO (pe_not (pc G1 hr D1 (aj (pc G2 hr D2 (aj (pK ["share"] ["place"] [1] (yh (pv 0)) (pG 0) (HW (dg (lO K hr.units) (pv 1) (bf (HS K) (pv 0) aq) (by with_unfolding_all rfl))) (bf (HS K) (pv 0) aq)) ak)) (aj (fV (aj (pv 2) (aj aq ak))) ak)))))),?_⟩;have hlen:=Paired.kj hv;refine⟨_,rfl,la,rs,rfl,hL,fun hz=> ?_⟩;let vp:Nat->List V->St->Hp->Prop:=fun i acc σ H'=>H'=H/\lq K H acc (((l.take i).filter fun q=>decide (p∈q.1)).map (·.2))/\∃o,σ=[o,some (.int p)];refine J0 (xs:=rs) vp ⟨rfl,.nil,_,rfl⟩ (fun i acc σ H' _ p=>by rw[p.1];exact hL) (fun i acc σ H' _ p=> ?_) hz (fun i x acc σ H' hx p'=> ?_) (fun acc σ H' p'=> ?_)
 ·rw[Paired.kj p.2.1,aM];exact dD (yp _ _) (by rw[yw];exact Ks _ _)
 ·obtain⟨rfl,hf,o,rfl⟩:=p';obtain⟨hi,t,sa,fa,rfl,h1,h2,h3⟩:=yP hv hx;refine⟨_,rfl,_,rfl,t,_,_,.ref sa,rfl,rfl,h1,rfl,sa,_,_,.int p,rfl,.inr h2,cJ.ints _,.int _,QB _,rfl,(by show 0<=60;decide),_,rfl,?_⟩;rw[any_ints];refine ite2 (fun c=> ?_) (fun c=> ?_)
  ·refine⟨_,rfl,t,_,_,.ref fa,rfl,rfl,h1,rfl,rfl,?_,_,rfl⟩;rw[vV hi,aH c,cU];exact Paired.snoc hf ⟨fa,rfl,h3⟩
  ·refine⟨rfl,?_,_,rfl⟩;rw[vV hi,aB c,Bg];exact hf
 intro p1 hp1;obtain⟨rfl,hf,_⟩:=p';rw[ZM (by omega)]at hf;have s1:=aK hp1 (.lst acc);have hal:acc.length<=1000:=by
  rw[Paired.kj hf,aM];exact dD (yp _ _) h1k
 have hDf:UG D ((l.filter fun q=>decide (p∈q.1)).map (·.2)):=hD.sub fun f hf=>by
  obtain⟨q,hq,rfl⟩:=oJ.mp hf;exact List.mem_map_of_mem (gP.mp hq).1
 refine⟨p1,acc,_,D,rfl,SqL.of au,lq.same hf s1,hDf,by omega,fun r a b H2 s2 hr2 hs=> ?_⟩;refine⟨_,rfl,(by show 2<=sizeLine;decide),fun r2 Zb=> ?_⟩;have s3:=aK Zb (.tup [.int w,.int 1]);have hbD:=hs.le hD.pos;have hD1:=hD.le;refine⟨r,r2,a,w,b,1,rfl,s3.tup (SqT.of hr2),SqT.of au,by omega,by omega,_,rfl,?_⟩;have e:=hs.abZ hD.pos (x:=w);show Q (.bl (!decide (a*((1:Nat):Int)<w*(b:Int)))) _;rw[dec_not,show a*((1:Nat):Int)=a by rw[show((1:Nat):Int)=1 from rfl,ZS],decide_eq_decide.mpr e];exact qq _ (s1.trans (s2.trans s3))
noncomputable def Io(d:θ):List Int×(Int×Nat):=(setOf d,(intD ((kids ((kids d).getD 1 .none)).getD 0 .none),(intD ((kids ((kids d).getD 1 .none)).getD 1 .none)).toNat))
theorem KH(q:List Int×(Int×Nat)):Io (jJ q)=q:=by
 show(setOf (jJ q),(q.2.1,(((q.2.2:Nat):Int)).toNat))=q;rw[vM,U4]
theorem tE(l:List (List Int×(Int×Nat))):(l.map jJ).map Io=l:=by
 rw[v8];exact(YX fun q _=>KH q).trans (wer l)
noncomputable def hasB(D:Nat)(wl:List Int)(l:List (List Int×(Int×Nat))):Bool:=(List.range wl.length).all fun i=>Ju D l ((i:Nat):Int) (wl.getD i 0)
noncomputable def xH(n:Int)(ts:L0)(wl:List Int)(D:Nat)(ds:List θ)(u:Int)(v:Nat):Bool:=layB n ts ds&&(hasB D wl (ds.map Io)&&decide (Bj D ((ds.map Io).map (·.2))*(v:Int)<=u*(D:Int)))
noncomputable def Ly(K:W.Frag):Sp:=fun vs H Q _=>∃(a wa la na:Addr) (n:Int) (ts:L0) (wl:List Int) (rs:List V) (ds:List θ) (D:Nat) (u:Int) (v:Nat),vs=[.ref a,.ref wa,.ref la,.ref na]/\aQ K H a n ts/\SqT K H wa (wl.map V.int)/\xT n wl/\SqL K H la rs/\jg K H rs ds/\rs.length<=1000/\yq K H na (u,v)/\v<=1000000000000000000/\(layB n ts ds=true->UG D ((ds.map Io).map (·.2)))/\∀H',Same H H'->Q (.bl (xH n ts wl D ds u v)) H'
theorem zB{f f1 f2 f3 f4 f5 f6:Addr}{fd d1 d2 d3 d4 d5 d6:ρ}(F:Fun K "is_enough" "is_enough" j7 f fd)(D1:bK K mg "need_web" Q8 ["thing"] f1 d1)(G1:FnOk P w K mg base CX0 7 f1 d1 ["thing"] (fO K))(D2:bK K mg "need_wants" fD ["web","thing"] f2 d2)(G2:FnOk P w K mg base CX0 2 f2 d2 ["web","thing"] (jZ K))(D3:bK K mg "is_laying" j6 ["web","thing"] f3 d3)(G3:FnOk P w K mg base CX0 6 f3 d3 ["web","thing"] (Lr K))(D4:bK K mg "gets" BR ["laying","place","want"] f4 d4)(G4:FnOk P w K mg base CX0 3 f4 d4 ["laying","place","want"] (Gg K))(D5:bK K mg "is_less" lK ["one","other"] f5 d5)(G5:FnOk P w K mg base CX0 1 f5 d5 ["one","other"] (Bw K))(D6:bK K mg "sum_of" oZ ["fractions"] f6 d6)(G6:FnOk P w K mg base CX0 2 f6 d6 ["fractions"] (wB K))(ux:mg "all"=none)(cP:mg "enumerate"=none):
  FnOk P w K mg base CX0 8 f fd ["web","wants","laying","number"] (Ly K):=by
 refine F.cQ ["web","wants","laying","number"] fun cdv A outer s H vs Q E hr h=> ?_;obtain⟨a,wa,la,na,n,ts,wl,rs,ds,D,u,v,rfl,hA,hW,hwl,hL,hd,hrs,hN,abP,hD,q⟩:=h;refine bw ?_;intro Y;refine⟨_,(aJ (iG (pc G1 hr D1 (aj (pv 0) ak))) (aJ (iG (pc G2 hr D2 (aj (pv 0) (aj (pv 1) ak)))) (aJ (dN (rH (qd (pc G3 hr D3 (aj (pv 0) (aj (pv 2) ak))))) (aP (bO pe_bl)) dW) (aJ (dN (rH (qd (pB (gF rfl) ux (aj (pK ["place","want"] ["laying"] [2] (sJ rfl cP (aj (pv 1) ak)) (fH K (n:=2) rfl (qe (pG 0) (qe (pG 1) Fo))) sX (pc G4 hr D4 (aj (pv 2) (aj (pv 0) (aj (pv 1) ak))))) ak)))) (aP (bO pe_bl)) dW) (aP (bO (pe_not (pc G5 hr D5 (aj (pv 3) (aj (pc G6 hr D6 (aj (pK ["share"] [] [] (yh (pv 2)) (pG 0) sX (bf (HS K) (pv 0) aq)) ak)) ak)))))))))),?_⟩;refine Hl ?_;intro c5 c4 c3 c2;have no:(layB n ts ds&&hasB D wl (ds.map Io))=false->∀H',Same H H'->Q (.bl false) H':=fun e H' sm=>by
  have:=q H' sm;unfold xH at this;rw[<-Bool.and_assoc,e]at this;exact this
 have h0:=hA.h0;have h10:=hA.h1;have hwn:wl.length=n.toNat:=by have:=hwl.1;omega
 refine⟨_,rfl,.ref a,_,rfl,hA.web.dv.dx,hA.ok,fun H1 s1=> ?_⟩;obtain⟨tt1,rr1,w1,w2,w3⟩:=id (hA.same s1).web;refine⟨_,rfl,_,rfl,a,wa,n,_,wl,rfl,w1,s1.tup hW,hwl,fun H2 s2=> ?_⟩;have s12:=s1.trans s2;refine⟨_,rfl,_,rfl,a,la,n,ts,rs,ds,rfl,hA.same s12,s12.seq hL,jg.same s12 hd,fun H3 s3=>⟨_,rfl,?_⟩⟩;have qZ:=s12.trans s3;refine ite2 (fun c=>no (by rw[ug c];rfl) _ qZ) (fun c=> ?_);have c:=uh c;have hD:=hD c;have ca:ds.all (BK n ts)=true:=by
  have c':=c;unfold layB at c';exact(Bool.and_eq_true_iff.mp c').1
 obtain⟨l,rfl,hv,hg⟩:=lay_of hd ca;unfold xH at q;rw[c]at no q;rw[tE]at no q hD;have hlen:=Paired.kj hv;refine⟨_,rfl,true,wa,_,rfl,qZ.tup hW,fun hz=> ?_⟩;let JQ:Nat->List V->St->Hp->Prop:=fun i acc σ H'=>acc=((List.range i).map fun i=>Ju D l ((i:Nat):Int) (wl.getD i 0)).map V.bl/\Same H3 H'/\∃o1 o2,σ=[o1,o2,some (.ref la)];refine lR (K:=K) (b:=true) (a:=wa) (xs:=wl.map V.int) JQ ⟨rfl,Same.refl _,_,_,rfl⟩ (fun i acc σ H' _ p=>(qZ.trans p.2.1).tup hW) (fun i acc σ H' _ p=>by rw[p.1,aM,aM,yx];exact aW _) hz (fun i v' t acc σ H' hv' p ht=> ?_) (fun acc σ H' p=> ?_)
 ·obtain⟨rfl,sm,o1,o2,rfl⟩:=p;rw[fu]at hv';cases ev:wl[i]? with
  |none=>rw[ev]at hv';cases hv'
  |some y=>
   rw[ev]at hv';cases hv';have t1:=aK ht (.tup [.int (i:Int),.int y]);have st:=qZ.trans (sm.trans t1);have hwy:wl.getD i 0=y:=by rw[oK,ev];rfl
   refine⟨t,_,rfl,SqT.of au,rfl,_,_,rfl,_,_,rfl,rfl,?_⟩;refine⟨_,rfl,_,rfl,_,rfl,la,(i:Int),y,rs,l,D,rfl,st.seq hL,eZ.same hv st,by omega,hD,fun H5 s5=>⟨?_,sm.trans (t1.trans s5),_,_,rfl⟩⟩;rw[Bf,cU,cU,ydv,ydv,hwy]
 intro p1 hp1;obtain⟨rfl,sm,_⟩:=p;rw[aM]at *;have Iz:=qZ.trans (sm.trans (aK hp1 (.lst (((List.range wl.length).map fun i=>Ju D l ((i:Nat):Int) (wl.getD i 0)).map V.bl))));refine⟨p1,_,rfl,SqL.of au,_,rfl,?_⟩;rw[jd];refine ite2 (fun c2=>no (by show hasB D wl l=false;exact ug c2) _ Iz) (fun c2=> ?_);have c2:hasB D wl l=true:=uh c2;rw[c2]at q;generalize upd H' p1 (.lst (((List.range wl.length).map fun i=>Ju D l ((i:Nat):Int) (wl.getD i 0)).map V.bl))=H4 at *;have hv4:=eZ.same hv Iz;refine⟨_,rfl,_,rfl,la,rs,rfl,Iz.seq hL,fun hz=> ?_⟩;let Yz:Nat->List V->St->Hp->Prop:=fun i acc σ H'=>H'=H4/\lq K H4 acc ((l.take i).map (·.2))/\∃o,σ=[o];refine J0 (xs:=rs) Yz ⟨rfl,.nil,_,rfl⟩ (fun i acc σ H' _ p=>by rw[p.1];exact Iz.seq hL) (fun i acc σ H' _ p=> ?_) hz (fun i x acc σ H' hx p=> ?_) (fun acc σ H' p=> ?_)
 ·rw[Paired.kj p.2.1,aM,yw];exact Ks _ _
 ·obtain⟨rfl,hp,o,rfl⟩:=p;obtain⟨hi,t,sa,fa,rfl,h1,h2,h3⟩:=yP hv4 hx;refine⟨_,rfl,t,_,_,.ref fa,rfl,rfl,h1,rfl,rfl,?_,_,rfl⟩;rw[ych hi,cU];exact Paired.snoc hp ⟨fa,rfl,h3⟩
 intro p2 hp2;obtain⟨rfl,hp,_⟩:=p;rw[ZM (by omega)]at hp;have s2':=aK hp2 (.lst acc);have hal:acc.length<=1000:=by rw[Paired.kj hp,aM];omega
 refine⟨p2,acc,_,D,rfl,SqL.of au,lq.same hp s2',hD,hal,fun r a' b' H5 s5 hr5 hs=> ?_⟩;have hbD:=hs.le hD.pos;have hD1:=hD.le;refine⟨na,r,u,a',v,b',rfl,(Iz.trans (s2'.trans s5)).tup hN,SqT.of hr5,abP,by omega,_,rfl,?_⟩;have e:=hs.cmp hD.pos (u:=u) (v:=v);show Q (.bl (!decide (u*((b':Nat):Int)<a'*((v:Nat):Int)))) _;rw[dec_not,decide_eq_decide.mpr e];exact q _ (Iz.trans (s2'.trans s5))
end
theorem Rw{n:Nat}{ts:L0}{ss:List (List Int)}(hS:cR ss ts false n){s:List Int}(h:s∈ss):uK ts false n s:=nA n s (gP.mp (hS.1.mem_iff.mp h)).1
section
variable{P:ξ}{w:τ}{K:W.Frag}{mg:L4}{base:Heap}
noncomputable def iI(K:W.Frag):Sp:=fun vs H Q _=>∃(a:Addr) (n:Int) (t x:V) (d:θ),vs=[.ref a,x]/\SqT K H a [.int n,t]/\DX K H x d/\dZ n d=true/\∀H',Same H H'->Q .non H'
theorem Cj{f f1:Addr}{fd d1:ρ}(F:Fun K "need_set" "need_set" YL f fd)(D1:bK K mg "is_set" iM ["n","thing"] f1 d1)(G1:FnOk P w K mg base CX0 4 f1 d1 ["n","thing"] (yJ K)):FnOk P w K mg base CX0 5 f fd ["web","thing"] (iI K):=by
 refine F.cQ ["web","thing"] fun cdv A outer s H vs Q E hr h=> ?_;obtain⟨a,n,t,x,d,rfl,ha,hx,hd,q⟩:=h;refine⟨_,aP (dN (rH (qd (pc G1 hr D1 (aj (bf cW (pv 0) aq) (aj (pv 1) ak))))) vG dW),?_⟩;refine⟨_,rfl,a,_,_,.int n,rfl,rfl,ha,rfl,_,rfl,n,x,d,rfl,hx,fun H' sm=>⟨_,rfl,?_⟩⟩;rw[hd];exact iteF (q H' sm)
end
end Hs
namespace L2
open PySem
theorem Same.x{H H':Hp}(h:Same H H')(t:Addr):aA t H H':=fun b o _ e=>h b o e
theorem aA.upd{t:Addr}{H H':Hp}{o:HO}(h:aA t H H'):aA t H (upd H' t o):=fun b u n e=>by rw[cG n];exact h b u n e
theorem rP.sq{K:W.Frag}{H:Hp}{bh:Addr}{ns:List Int}(h:rP K H bh ns):SqL K H bh (ns.map V.int):=by
 rcases h with⟨o,h⟩|h
 ·exact .inl (.inr ⟨o,h⟩)
 ·exact .inr h
theorem rP.mq{K:W.Frag}{H H':Hp}{bh t:Addr}{ns:List Int}{zs:List V}(h:rP K H bh ns)(e:aA t H H')(n:H t=some (.lst zs)):rP K H' bh ns:=by
 rcases h with⟨o,h⟩|h
 ·exact .inl ⟨o,e _ _ (ne_of h n (by intro z;cases z)) h⟩
 ·exact .inr h
structure pU(K:W.Frag)(H:Hp)(tp bh:Addr)(ns:List Int):Prop where
 at_:∃(i r:Int),H tp=some (.lst [.ref bh,.int i,.int r])/\0<=i/\0<=r
 ab5:rP K H bh ns
 len:ns.length<=63
theorem pU.same{K:W.Frag}{H H':Hp}{tp bh:Addr}{ns:List Int}(h:pU K H tp bh ns)(e:Same H H'):pU K H' tp bh ns:=by
 obtain⟨⟨i,r,h1,h2,h3⟩,h4,h5⟩:=h;exact⟨⟨i,r,e _ _ h1,h2,h3⟩,h4.same e,h5⟩
theorem pU.other{K:W.Frag}{H H':Hp}{tp bh c:Addr}{ns:List Int}{zs:List V}(h:pU K H tp bh ns)(e:aA c H H')(hc:H c=some (.lst zs))(n:tp≠c):pU K H' tp bh ns:=by
 obtain⟨⟨i,r,h1,h2,h3⟩,h4,h5⟩:=h;exact⟨⟨i,r,e _ _ n h1,h2,h3⟩,h4.mq e hc,h5⟩
structure cT(K:W.Frag)(H:Hp)(tp bh:Addr)(ns:List Int)(b:Int):Prop where
 tv:pU K H tp bh ns
 le:∃(i r:Int),H tp=some (.lst [.ref bh,.int i,.int r])/\i<=b
theorem cT.same{K:W.Frag}{H H':Hp}{tp bh:Addr}{ns:List Int}{b:Int}(h:cT K H tp bh ns b)(e:Same H H'):cT K H' tp bh ns b:=by
 obtain⟨i,r,h1,h2⟩:=h.le;exact⟨h.tv.same e,i,r,e _ _ h1,h2⟩
theorem cT.mono{K:W.Frag}{H:Hp}{tp bh:Addr}{ns:List Int}{b c:Int}(h:cT K H tp bh ns b)(e:b<=c):cT K H tp bh ns c:=by
 obtain⟨i,r,h1,h2⟩:=h.le;exact⟨h.tv,i,r,h1,by omega⟩
theorem cT.other{K:W.Frag}{H H':Hp}{tp bh c:Addr}{ns:List Int}{b:Int}{zs:List V}(h:cT K H tp bh ns b)(e:aA c H H')(hc:H c=some (.lst zs))(n:tp≠c):cT K H' tp bh ns b:=by
 obtain⟨i,r,h1,h2⟩:=h.le;exact⟨h.tv.other e hc n,i,r,e _ _ n h1,h2⟩
theorem cT.lst{K:W.Frag}{H:Hp}{tp bh:Addr}{ns:List Int}{b:Int}(h:cT K H tp bh ns b):∃zs,H tp=some (.lst zs):=by
 obtain⟨i,r,h1,_⟩:=h.le;exact⟨_,h1⟩
theorem bZ{H:Hp}{a b:Addr}{o:HO}(h:H a=some o)(n:H b=none):b≠a:=fun e=>by rw[e,h]at n;cases n
end L2
namespace Hs
open PySem L2 oG
section
variable{P:ξ}{w:τ}{K:W.Frag}{mg:L4}{base:Heap}
theorem qI(a:Int){b:Int}(h:0<b):0<=a %b:=Int.emod_nonneg _ (by omega)
theorem mod_lt(a:Int){b:Int}(h:0<b):a %b<b:=Int.emod_lt_of_pos _ h
theorem HJ{ns:List Int}{k:Int}(h0:0<=k)(h1:k<(ns.length:Int)):∃v:Int,atI (ns.map V.int) k=some (.int v)/\ns[k.toNat]? =some v:=by
 have hk:k.toNat<ns.length:=by omega
 have ek:((k.toNat:Nat):Int)=k:=by omega
 have q:atI (ns.map V.int) ((k.toNat:Nat):Int)=some (.int ns[k.toNat]):=atI_nat (by rw[fu,fL hk];rfl);rw[ek]at q;exact⟨_,q,fL hk⟩
noncomputable def Gh(K:W.Frag):Sp:=fun vs H Q _=>∃(c i:Int),vs=[.int c,.int i]/\0<=i/\i<=1000000000/\∀r,0<=r->Q (.int r) H
theorem Nk{f:Addr}{fd:ρ}(F:Fun K "_law_e_stir" "_law_e_stir" jr f fd):
  FnOk P w K mg base CX0 1 f fd ["cell","at"] (Gh K):=by
 refine F.cQ ["cell","at","one","two","three"] fun cdv A outer s H vs Q E hr h=> ?_;obtain⟨c,i,rfl,hi0,hi1,q⟩:=h;refine bw ?_;intro Y;refine⟨_,(aJ (dN (dg op_ge (pv 0) (bB op_pow aq aq)) (aP (bO (pv 0))) dW) (aJ (pS 2 (bB op_mod (bB mQ (bB mQ (bB uP (bB op_mod (pv 0) aq) aq) (bB uP (pv 1) aq)) aq) aq)) (aJ (pS 3 (bB op_mod (bB mQ (bB mQ (bB mQ (bB uP (pv 2) (pv 2)) (bB uP (bB uP aq (pv 1)) (pv 1))) (bB uP aq (pv 2))) aq) aq)) (aJ (pS 4 (bB op_mod (bB mQ (bB mQ (bB mQ (bB uP (pv 3) (pv 3)) (bB uP aq (pv 3))) (pv 2)) (pv 1)) aq)) (aP (bO (bB mQ (bB uP (pv 3) aq) (pv 4)))))))),?_⟩;refine Hl ?_;intro c5 c4 c3 c2;refine⟨_,rfl,_,_,rfl,rfl,⟨by decide,by decide,by decide⟩,_,_,rfl,rfl,_,rfl,?_⟩;refine ite2 (fun c1=> ?_) (fun c1=> ?_)
 ·have c2:(10:Int)^(18:Int).toNat<=c:=fM c1;have c3:(0:Int)<=10^(18:Int).toNat:=by decide
  exact⟨_,rfl,q c (by omega)⟩
 ·refine⟨_,rfl,_,_,rfl,rfl,(by show(0:Int)<2147483549;decide),_,_,rfl,rfl,.inr ⟨by decide,by decide⟩,_,rfl,_,_,rfl,rfl,.inr ⟨by decide,by decide⟩,_,_,rfl,rfl,_,_,rfl,rfl,_,_,rfl,rfl,(by show(0:Int)<2147483543;decide),?_⟩;generalize hfirst:((fun i j=>V.int (i %j)) _ _:V)=vf;obtain⟨a1,e1,a2,a3⟩:∃a:Int,vf= .int a/\0<=a/\a<2147483543:=⟨_,hfirst.symm,qI _ (by decide),mod_lt _ (by decide)⟩;rw[e1];refine⟨_,rfl,_,rfl,_,_,rfl,rfl,.inl ⟨by omega,by omega⟩,_,rfl,_,_,rfl,rfl,.inl ⟨by decide,by decide⟩,_,rfl,_,_,rfl,rfl,.inr ⟨by omega,by omega⟩,_,_,rfl,rfl,_,rfl,_,_,rfl,rfl,.inl ⟨by decide,by decide⟩,_,_,rfl,rfl,_,_,rfl,rfl,_,_,rfl,rfl,(by show(0:Int)<2147483497;decide),?_⟩;generalize abT:((fun i j=>V.int (i %j)) _ _:V)=vs;obtain⟨b1,f1,b2,b3⟩:∃a:Int,vs= .int a/\0<=a/\a<2147483497:=⟨_,abT.symm,qI _ (by decide),mod_lt _ (by decide)⟩;rw[f1];refine⟨_,rfl,_,rfl,_,_,rfl,rfl,.inl ⟨by omega,by omega⟩,_,rfl,_,_,rfl,rfl,.inl ⟨by decide,by decide⟩,_,_,rfl,rfl,_,rfl,_,_,rfl,rfl,_,rfl,_,_,rfl,rfl,_,_,rfl,rfl,(by show(0:Int)<2147483489;decide),?_⟩;generalize abQ:((fun i j=>V.int (i %j)) _ _:V)=vt;obtain⟨c1',g1,c2,c3⟩:∃a:Int,vt= .int a/\0<=a/\a<2147483489:=⟨_,abQ.symm,qI _ (by decide),mod_lt _ (by decide)⟩;rw[g1];refine⟨_,rfl,_,_,rfl,rfl,.inr ⟨by decide,by decide⟩,_,rfl,_,_,rfl,rfl,q _ ?_⟩;have:=Kr b2 (show(0:Int)<=2147483489 by decide);omega
noncomputable def vL(K:W.Frag):Sp:=fun vs H Q _=>∃(tp bh:Addr) (ns:List Int) (m b:Int),vs=[.ref tp,.int m]/\cT K H tp bh ns b/\b<=1000000000/\0<m/\m<1000000000000000000000000000000/\
 ∀r H',0<=r->r<m->aA tp H H'->cT K H' tp bh ns (b+1)->Q (.int r) H'
theorem Xe{f f1:Addr}{fd d1:ρ}(F:Fun K "_law_e_dip" "_law_e_dip" VN f fd)(D1:bK K mg "_law_e_stir" jr ["cell","at"] f1 d1)(G1:FnOk P w K mg base CX0 1 f1 d1 ["cell","at"] (Gh K))(cO:mg "len"=none):
  FnOk P w K mg base CX0 2 f fd ["cup","many"] (vL K):=by
 refine F.cQ ["cup","many","at","cell","found"] fun cdv A outer s H vs Q E hr h=> ?_;obtain⟨tp,bh,ns,m,b,rfl,hC,hb,hm0,hm1,q⟩:=h;refine bw ?_;intro Y;refine⟨_,(aJ (dN (dg op_lt (bf jF (pv 0) aq) (pv 1)) (aJ (pS 2 (bf jF (pv 0) aq)) (aJ (pS 3 (bB mQ (bB uP aq (pv 2)) aq)) (aJ (dN (dg op_lt (pv 2) (pB v7 cO (aj (bf jF (pv 0) aq) ak))) (aP (pS 3 (bf jF (bf jF (pv 0) aq) (pv 2)))) (aP (dN (dg op_gt (pB v7 cO (aj (bf jF (pv 0) aq) ak)) aq) (aP (pS 3 (bB mQ (bB op_mod (bf jF (bf jF (pv 0) aq) (bB op_mod (bB mQ (bB uP aq (pv 2)) aq) (pB v7 cO (aj (bf jF (pv 0) aq) ak)))) aq) (bB uP (pv 2) aq)))) dW))) (aJ (ps_asg (bB mQ (pv 2) aq) (pg_sub (pv 0) aq set_list)) (aP (ps_asg (pc G1 hr D1 (aj (pv 3) (aj (pv 2) ak))) (pg_sub (pv 0) aq set_list))))))) dW) (aJ (pS 4 (bB op_mod (bf jF (pv 0) aq) (pv 1))) (aJ (ps_asg (bB pC (bf jF (pv 0) aq) (pv 1)) (pg_sub (pv 0) aq set_list)) (aP (bO (pv 4)))))),?_⟩;refine uD ?_;intro c4 c3 c2;obtain⟨⟨⟨i,r,hH,hi,hr0⟩,hS0,h63⟩,i',r',hH',hle⟩:=hC;have ei:i'=i/\r'=r:=by
  rw[hH]at hH';injection hH' with e1
  injection e1 with e2
  injection e2 with _ e3
  injection e3 with e4 e5
  injection e5 with e6 _
  injection e4 with e4
  injection e6 with e6
  exact⟨e4.symm,e6.symm⟩
 obtain⟨rfl,rfl⟩:=ei;have hS:=hS0.sq;refine⟨_,rfl,tp,_,_,.int r',rfl,rfl,SqL.of hH,rfl,_,rfl,_,_,rfl,rfl,_,rfl,?_⟩;refine ite2 (fun c=> ?_) (fun c=> ?_)
 ·refine⟨_,rfl,tp,_,_,.int i',rfl,rfl,SqL.of hH,rfl,?_⟩;refine⟨_,rfl,_,_,rfl,rfl,.inl ⟨by decide,by decide⟩,_,_,rfl,rfl,?_⟩;refine⟨_,rfl,_,rfl,tp,_,_,.ref bh,rfl,rfl,SqL.of hH,rfl,bh,_,rfl,.inl hS,fun hz=>⟨_,_,rfl,rfl,_,rfl,?_⟩⟩;have go:∀r2,0<=r2->∀q',q'=r2/m->
    ((0:Int)<=r2 %m/\r2 %m<m)/\aA tp H (upd (upd (upd H tp (.lst [.ref bh,.int (i'+1),.int r'])) tp (.lst [.ref bh,.int (i'+1),.int r2])) tp (.lst [.ref bh,.int (i'+1),.int q']))/\
    cT K (upd (upd (upd H tp (.lst [.ref bh,.int (i'+1),.int r'])) tp (.lst [.ref bh,.int (i'+1),.int r2])) tp (.lst [.ref bh,.int (i'+1),.int q'])) tp bh ns (b+1):=fun r2 h0 q' hq=>by
   have sx:aA tp H (upd (upd (upd H tp (.lst [.ref bh,.int (i'+1),.int r'])) tp (.lst [.ref bh,.int (i'+1),.int r2])) tp (.lst [.ref bh,.int (i'+1),.int q'])):=(aA.refl _ _).upd.upd.upd;have hq0:0<=q':=by rw[hq];exact wep h0 (by omega)
   exact⟨⟨qI _ hm0,mod_lt _ hm0⟩,sx,⟨⟨i'+1,q',au,by omega,hq0⟩,hS0.mq sx hH,h63⟩,i'+1,q',au,by omega⟩
  refine ite2 (fun c2=> ?_) (fun c2=> ?_)
  ·have c3:i'<((ns.map V.int).length:Int):=fM c2;rw[aM]at c3;obtain⟨v,hx,_⟩:=HJ hi c3;refine⟨_,rfl,tp,_,_,.ref bh,rfl,rfl,SqL.of hH,rfl,_,rfl,bh,_,_,_,rfl,rfl,hS,hx,?_⟩;refine⟨_,rfl,_,_,rfl,rfl,_,rfl,tp,_,_,1,rfl,rfl,hH,rfl,?_⟩;refine⟨_,rfl,_,rfl,_,_,rfl,hi,by omega,fun r2 h0=>⟨_,rfl,tp,_,_,2,rfl,rfl,au,rfl,?_⟩⟩;obtain⟨⟨g1,g2⟩,g3,g4⟩:=go r2 h0 _ rfl;refine⟨_,rfl,tp,_,_,.int r2,rfl,rfl,SqL.of au,rfl,_,rfl,_,_,rfl,rfl,hm0,?_⟩;refine⟨_,rfl,tp,_,_,.int r2,rfl,rfl,SqL.of au,rfl,_,rfl,_,_,rfl,rfl,⟨hm0,hm1⟩,_,rfl,tp,_,_,2,rfl,rfl,au,rfl,?_⟩;exact⟨_,rfl,q _ _ g1 g2 g3 g4⟩
  ·refine⟨_,rfl,tp,_,_,.ref bh,rfl,rfl,SqL.of hH,rfl,bh,_,rfl,.inl hS,fun hz2=>⟨_,_,rfl,rfl,_,rfl,?_⟩⟩;refine ite2 (fun c4=> ?_) (fun c4=> ?_)
   ·have e3:(0:Int)<((ns.map V.int).length:Int):=fM c4;have hk1:=qI (5*i'+2) e3;have hk2:=mod_lt (5*i'+2) e3;rw[aM]at hk1 hk2;obtain⟨v,hx,_⟩:=HJ hk1 hk2;rw[<-aM (f:=V.int)]at hx;refine⟨_,rfl,tp,_,_,.ref bh,rfl,rfl,SqL.of hH,rfl,_,rfl,_,_,rfl,rfl,.inl ⟨by decide,by decide⟩,_,_,rfl,rfl,_,rfl,tp,_,_,.ref bh,rfl,rfl,SqL.of hH,rfl,bh,_,rfl,.inl hS,fun hz2=>⟨_,_,rfl,rfl,e3,bh,_,_,_,rfl,rfl,hS,hx,?_⟩⟩;refine⟨_,_,rfl,rfl,(by show(0:Int)<777777769;decide),_,rfl,_,_,rfl,rfl,.inr ⟨by decide,by decide⟩,_,_,rfl,rfl,?_⟩;refine⟨_,rfl,_,_,rfl,rfl,_,rfl,tp,_,_,1,rfl,rfl,hH,rfl,?_⟩;refine⟨_,rfl,_,rfl,_,_,rfl,hi,by omega,fun r2 h0=>⟨_,rfl,tp,_,_,2,rfl,rfl,au,rfl,?_⟩⟩;obtain⟨⟨g1,g2⟩,g3,g4⟩:=go r2 h0 _ rfl;refine⟨_,rfl,tp,_,_,.int r2,rfl,rfl,SqL.of au,rfl,_,rfl,_,_,rfl,rfl,hm0,?_⟩;refine⟨_,rfl,tp,_,_,.int r2,rfl,rfl,SqL.of au,rfl,_,rfl,_,_,rfl,rfl,⟨hm0,hm1⟩,_,rfl,tp,_,_,2,rfl,rfl,au,rfl,?_⟩;exact⟨_,rfl,q _ _ g1 g2 g3 g4⟩
   ·refine⟨_,rfl,_,_,rfl,rfl,_,rfl,tp,_,_,1,rfl,rfl,hH,rfl,?_⟩;refine⟨_,rfl,_,rfl,_,_,rfl,hi,by omega,fun r2 h0=>⟨_,rfl,tp,_,_,2,rfl,rfl,au,rfl,?_⟩⟩;obtain⟨⟨g1,g2⟩,g3,g4⟩:=go r2 h0 _ rfl;refine⟨_,rfl,tp,_,_,.int r2,rfl,rfl,SqL.of au,rfl,_,rfl,_,_,rfl,rfl,hm0,?_⟩;refine⟨_,rfl,tp,_,_,.int r2,rfl,rfl,SqL.of au,rfl,_,rfl,_,_,rfl,rfl,⟨hm0,hm1⟩,_,rfl,tp,_,_,2,rfl,rfl,au,rfl,?_⟩;exact⟨_,rfl,q _ _ g1 g2 g3 g4⟩
 ·refine⟨_,rfl,tp,_,_,.int r',rfl,rfl,SqL.of hH,rfl,_,rfl,_,_,rfl,rfl,hm0,?_⟩;refine⟨_,rfl,tp,_,_,.int r',rfl,rfl,SqL.of hH,rfl,_,rfl,_,_,rfl,rfl,⟨hm0,hm1⟩,_,rfl,tp,_,_,2,rfl,rfl,hH,rfl,?_⟩;have sx:aA tp H (upd H tp (.lst [.ref bh,.int i',.int (r'/m)])):=(aA.refl _ _).upd;have hq0:0<=r'/m:=wep hr0 (by omega);exact⟨_,rfl,q _ _ (qI _ hm0) (mod_lt _ hm0) sx ⟨⟨⟨i',r'/m,au,hi,hq0⟩,hS0.mq sx hH,h63⟩,i',r'/m,au,by omega⟩⟩
end
end Hs
namespace oG
open PySem L2
theorem rO.mq{K:W.Frag}{t:Addr}{H H':Hp}{zs:List V}{a:Addr}{n:Int}{ts:L0}(h:rO K H a n ts)(e:aA t H H')(hn:H t=some (.lst zs)):rO K H' a n ts:=by
 obtain⟨u,rs,h1,h2,h3⟩:=h;exact⟨u,rs,e.tup hn h1,e.tup hn h2,gR e hn h3⟩
theorem WK{p q:Int×Int}(h:pl p=pl q):p=q:=by
 obtain⟨a,b⟩:=p;obtain⟨c,d⟩:=q;unfold pl at h;simp at h;rw[h.1,h.2]
theorem Oc{a b:List Int}(h:HT.lexLt b a=false)(ne:a≠b):HT.lexLt a b=true:=by
 rw[HT.bN]at h⊢;have h1:¬b<a:=Kf h;have h2:a<=b:=List.not_lt.mp h1;refine cX ?_;rcases Classical.em (a<b)with h3|h3
 ·exact h3
 ·exact absurd (List.le_antisymm h2 (List.not_lt.mp h3)) ne
theorem K3{n:Int}{p:Int×Int}(h0:0<=p.1)(h1:p.1<p.2)(h2:p.2<n):mX n (pairD p)=true:=by
 show((bx n (.int p.1)&&(bx n (.int p.2)&&true))&&cM [p.1,p.2]&&decide (([PyData.int p.1,PyData.int p.2]).length=2))=true;have e1:bx n (.int p.1)=true:=by
  show(decide (0<=p.1)&&decide (p.1<n))=true;rw[cX h0,cX (by omega)];rfl
 have e2:bx n (.int p.2)=true:=by
  show(decide (0<=p.2)&&decide (p.2<n))=true;rw[cX (by omega),cX h2];rfl
 have e3:cM [p.1,p.2]=true:=by
  show(decide (p.1<p.2)&&true)=true;rw[cX h1];rfl
 rw[e1,e2,e3];rfl
theorem Bo{n:Int}{ts:L0}(hn0:0<=n)(hn1:n<=10)(h:aO n ts)(hs:ts.Pairwise fun p q=>HT.lexLt (pl q) (pl p)=false):mW (fY n ts)=true:=by
 show(true&&(decide (0<=n)&&decide (n<=10))&&((ts.map pairD).all (mX n)&&dG ((ts.map pairD).map fun t=>(kids t).map intD)))=true;have e1:(ts.map pairD).all (mX n)=true:=by
  rw[YS,oA];intro p hp;obtain⟨h0,h1,h2⟩:=h.lt p hp;exact K3 h0 h1 h2
 have e2:(ts.map pairD).map (fun t=>(kids t).map intD)=ts.map pl:=by rw[v8];rfl
 have e3:dG (ts.map pl)=true:=by
  unfold dG;rw[oA];intro k hk;have hk':k<ts.length-1:=by simpa using hk
  have g1:(ts.map pl).getD k []=pl ts[k]:=by rw[oK,fu,fL (by omega)];rfl
  have g2:(ts.map pl).getD (k+1) []=pl ts[k+1]:=by rw[oK,fu,fL (by omega)];rfl
  rw[g1,g2];refine Oc (U8.mp hs k (k+1) (by omega) (by omega) (by omega)) fun e=> ?_;have:=(List.getElem_inj h.nd).mp (WK e);omega
 rw[cX hn0,cX hn1,e1,e2,e3];rfl
end oG
namespace Hs
open PySem L2 oG
theorem jL.Tv{p:Int×Int}(a:jL p p):False:=by
 unfold jL at a;omega
theorem eq_of_sorted:∀{l m:L0},l.Pairwise jL->m.Pairwise jL->(∀p,p∈l↔p∈m)->l=m
 |[],[],_,_,_=>rfl
 |[],q::m,_,_,h=>absurd ((h q).mpr (jG ..)) (by simp)
 |p::l,[],_,_,h=>absurd ((h p).mp (jG ..)) (by simp)
 |p::l,q::m,hl,hm,h=>by
  rw[YW]at hl hm;have e:p=q:=by
   rcases cZ.mp ((h p).mp (jG ..))with e|e
   ·exact e
   rcases cZ.mp ((h q).mpr (jG ..))with e'|e'
   ·exact e'.symm
   exact(jL.Tv ((hl.1 _ e').trans (hm.1 _ e))).elim
  subst e;have:l=m:=eq_of_sorted hl.2 hm.2 (fun r=>by
   have hr:=h r;rw[cZ,cZ]at hr;constructor
   ·intro hi;rcases hr.mp (.inr hi)with e|e
    ·subst e;exact(jL.Tv (hl.1 _ hi)).elim
    ·exact e
   ·intro hi;rcases hr.mpr (.inr hi)with e|e
    ·subst e;exact(jL.Tv (hm.1 _ hi)).elim
    ·exact e)
  rw[this]
theorem yV(so:Int->Int->Bool)(i:Int)(k:Nat):row so i (k+1)=row so i k++(if so i (i+1+(k:Int))=true then[(i,i+1+(k:Int))]else[]):=by
 unfold row;rw[Bf,cU,Kd];congr 1;show List.filter _ [(i,i+1+(k:Int))]=_;rw[Ib];rfl
theorem lM(so:Int->Int->Bool)(m:Int)(i:Nat):rows so m (i+1)=rows so m i++row so (0+(i:Int)) (m-(0+(i:Int)+1)).toNat:=by
 unfold rows;rw[Bf,cU,List.flatten_append];simp
theorem sO{so:Int->Int->Bool}{i:Int}{k:Nat}{p:Int×Int}:p∈row so i k↔p.1=i/\i<p.2/\p.2<i+1+(k:Int)/\so p.1 p.2=true:=by
 unfold row;rw[gP,oJ];constructor
 ·rintro⟨⟨t,ht,rfl⟩,h⟩;rw[sy]at ht;exact⟨rfl,by show i<i+1+(t:Int);omega,by show i+1+(t:Int)<_;omega,h⟩
 ·rintro⟨h1,h2,h3,h4⟩;refine⟨⟨(p.2-i-1).toNat,by rw[sy];omega,?_⟩,h4⟩;apply Prod.ext
  ·exact h1.symm
  ·show i+1+(((p.2-i-1).toNat:Nat):Int)=p.2;omega
theorem QZ{so:Int->Int->Bool}{m:Int}:∀{i:Nat} {p:Int×Int},p∈rows so m i↔0<=p.1/\p.1<(i:Int)/\p.1<p.2/\p.2<m/\so p.1 p.2=true
 |0,p=>by
  constructor
  ·intro h;simp[rows]at h
  ·intro h;omega
 |i+1,p=>by
  rw[lM,qg,QZ (i:=i),sO];constructor
  ·rintro(h|h)
   ·exact⟨h.1,by omega,h.2.2⟩
   ·exact⟨by omega,by omega,by omega,by omega,h.2.2.2⟩
  ·rintro⟨h1,h2,h3,h4,h5⟩;by_cases e:p.1<(i:Int)
   ·exact .inl ⟨h1,e,h3,h4,h5⟩
   ·exact .inr ⟨by omega,by omega,by omega,h5⟩
theorem tQ(so:Int->Int->Bool)(i:Int)(k:Nat):(row so i k).Pairwise jL:=by
 unfold row;refine List.Pairwise.filter _ ?_;rw[U0];exact ydf.imp fun h=> .inr ⟨rfl,by show i+1+_<i+1+_;omega⟩
theorem VL(so:Int->Int->Bool)(m:Int):∀i:Nat,(rows so m i).Pairwise jL
 |0=>by unfold rows;exact List.Pairwise.nil
 |i+1=>by
  rw[lM,ZK];refine⟨VL so m i,tQ so _ _,fun p hp q hq=> ?_⟩;rw[QZ]at hp;rw[sO]at hq;exact .inl (by omega)
theorem Gq{so:Int->Int->Bool}{m:Int}{i:Nat}:aO m (rows so m i):=
 ⟨(VL so m i).imp fun h e=>by subst e;exact jL.Tv h,fun p hp=>by rw[QZ]at hp;exact⟨hp.1,hp.2.2.1,hp.2.2.2.1⟩⟩
theorem qw{l:L0}(h:l.Pairwise jL):l.Nodup:=h.imp fun h e=>by subst e;exact jL.Tv h
theorem aQ.mq{K:W.Frag}{H H':Hp}{t a:Addr}{zs:List V}{n:Int}{ts:L0}(h:aQ K H a n ts)(e:aA t H H')(hn:H t=some (.lst zs)):aQ K H' a n ts:=⟨h.web.mq e hn,h.h0,h.h1,h.pk,h.ok⟩
noncomputable def tt(_ _:Int):Bool:=true
theorem GR{p q:Int×Int}(h:jL p q):HT.lexLt (pl q) (pl p)=false:=by
 rw[HT.bN];refine lV fun z=> ?_;have:jL q p:=Hg (by rw[HT.bN];exact cX z);exact jL.Tv (h.trans this)
theorem sZ{n:Int}{ts:L0}{i:Nat}(h0:0<=n)(h1:n<=10)(h:ts.Sublist (rows tt n i)):aO n ts/\Ao n ts:=by
 have hs:ts.Pairwise jL:=(VL tt n i).sublist h;have ho:aO n ts:=⟨qw hs,fun p hp=>(Gq (so:=tt) (m:=n) (i:=i)).lt p (h.subset hp)⟩;exact⟨ho,Bo h0 h1 ho (hs.imp GR)⟩
theorem Qs{xs:List Int}{i:Int}(h0:0<=i)(h1:i<(xs.length:Int)):atI (xs.map V.int) i=some (.int (xs.getD i.toNat 0)):=by
 have hk:i.toNat<xs.length:=by omega
 have ek:((i.toNat:Nat):Int)=i:=by omega
 have q:atI (xs.map V.int) ((i.toNat:Nat):Int)=some (.int (xs.getD i.toNat 0)):=atI_nat (by rw[fu,fL hk,oK,fL hk];rfl);rw[ek]at q;exact q
theorem g8.push{K:W.Frag}{H:Hp}{l p:Addr}{R:L0}{P:Int×Int->Prop}{i j:Int}{rs:List V}{ts:L0}(h1:H l=some (.lst rs))(h2:cJ K H rs (ts.map pairD))(h3:ts.Sublist R)(h4:∀p∈ts,P p)(hp:SqT K H p [.int i,.int j])(hP:P (i,j)):g8 K (upd H l (.lst (rs++[.ref p]))) l (R++[(i,j)]) P:=by
 have x:aA l H (upd H l (.lst (rs++[.ref p]))):=(aA.refl _ _).upd;refine⟨_,ts++[(i,j)],au,?_,h3.append (List.Sublist.refl _),fun q hq=> ?_⟩
 ·rw[cU];exact(gR x h1 h2).append (.cons (.tup (x.tup h1 hp) (.cons (.int _) (.cons (.int _) .nil))) .nil)
 ·rcases qg.mp hq with q'|q'
  ·exact h4 q q'
  ·rw[oE.mp q'];exact hP
theorem sub_len{n:Int}{ts:L0}{i k:Nat}(h1:n<=10)(hk:0+(i:Int)+1+(k:Int)<=n)(h:ts.Sublist (rows tt n i++row tt (0+(i:Int)) k)):ts.length<=45:=by
 refine pairs_len (n:=n) ⟨?_,fun p hp=> ?_⟩ h1
 ·refine qw (List.Pairwise.sublist h ?_);rw[ZK];refine⟨VL _ _ _,tQ _ _ _,fun p hp q hq=> ?_⟩;rw[QZ]at hp;rw[sO]at hq;exact .inl (by omega)
 ·rcases qg.mp (h.subset hp)with q|q
  ·rw[QZ]at q;exact⟨q.1,q.2.2.1,q.2.2.2.1⟩
  ·rw[sO]at q;exact⟨by omega,by omega,by omega⟩
section
variable{P:ξ}{w:τ}{K:W.Frag}{mg:L4}{base:Heap}
noncomputable def wA(K:W.Frag):Sp:=fun vs H Q _=>∃(cp bh:Addr) (ns:List Int) (n b:Int),vs=[.ref cp,.int n]/\cT K H cp bh ns b/\b<=900000000/\0<=n/\n<=10/\
 ∀r ts H',aA cp H H'->cT K H' cp bh ns (b+120)->aQ K H' r n ts->Q (.ref r) H'
theorem MP{f f1:Addr}{fd d1:ρ}(F:Fun K "_law_e_web_of" "_law_e_web_of" zcv f fd)(D1:bK K mg "_law_e_dip" VN ["cup","many"] f1 d1)(G1:FnOk P w K mg base CX0 2 f1 d1 ["cup","many"] (vL K))(aL:mg "range"=none)(aR:mg "tuple"=none):
  FnOk P w K mg base CX0 3 f fd ["cup","n"] (wA K):=by
 refine F.cQ ["cup","n","often","ties","i","j"] fun cdv A outer s H vs Q E hr h=> ?_;obtain⟨cp,bh,ns,n,b,rfl,hC,hb,hn0,hn1,q⟩:=h;refine⟨_,(aJ (pS 2 (pc G1 hr D1 (aj (pv 0) (aj aq ak)))) (aJ (pS 3 (uQ ak)) (aJ (ps_for yD rfl (J2 rfl aL (aj (pv 1) ak)) (pG 4) (aP (ps_for yD rfl (pi_range2 rfl aL (aj (bB mQ (pv 4) aq) (aj (pv 1) ak))) (pG 5) (aP (dN (dg op_lt (pc G1 hr D1 (aj (pv 0) (aj aq ak))) (pv 2)) (aP (iG (pe_bm QJ wbg wbh mt_append (pv 3) (aj (fV (aj (pv 4) (aj (pv 5) ak))) ak)))) dW))))) (aP (bO (fV (aj (pv 1) (aj (pT J3 aR (aj (pv 3) ak)) ak)))))))),?_⟩;refine⟨_,rfl,cp,bh,ns,7,b,rfl,hC,by omega,by decide,by decide,fun o H1 ho0 ho1 x1 c1=> ?_⟩;refine⟨(by show 0<=sizeLine;decide),fun tl htl=> ?_⟩;obtain⟨zs,hz⟩:=c1.lst;have s2:=aK htl (.lst []);have ntc:tl≠cp:=bZ hz htl;have tl0:H tl=none:=x1.free ntc htl;refine⟨_,rfl,n,rfl,by omega,by omega,?_⟩;refine Q6 (n:=n.toNat) (fun i σ H'=>aA cp H H'/\cT K H' cp bh ns (b+1+10*(i:Int))/\g8 K H' tl (rows tt n i) (fun _=>True)/\∃a4 a5,σ=[some (.ref cp),some (.int n),some (.int o),some (.ref tl),a4,a5])
  ⟨x1.trans (s2.x _),(c1.same s2).mono (by omega),g8.nil au,_,_,rfl⟩ (fun i σ H' hi p=> ?_) (fun σ H' p=> ?_)
 ·obtain⟨x,c,tl1,a4,a5,rfl⟩:=p;refine⟨_,rfl,_,_,rfl,rfl,_,rfl,_,_,rfl,⟨by omega,by omega,by omega,by omega⟩,?_⟩;refine Q6 (n:=(n-(0+(i:Int)+1)).toNat) (fun k σ H'=>aA cp H H'/\cT K H' cp bh ns (b+1+10*(i:Int)+(k:Int))/\g8 K H' tl (rows tt n i++row tt (0+(i:Int)) k) (fun _=>True)/\∃a5,σ=[some (.ref cp),some (.int n),some (.int o),some (.ref tl),some (.int (0+(i:Int))),a5])
   ⟨x,c.mono (by omega),by rw[show row tt (0+(i:Int)) 0=[]from rfl,Bg];exact tl1,_,rfl⟩ (fun k σ H' hk p=> ?_) (fun σ H' p=> ?_)
  ·obtain⟨x,c,tl1,a5,rfl⟩:=p;refine⟨_,rfl,cp,bh,ns,6,_,rfl,c,by omega,by decide,by decide,fun d H2 hd0 hd1 x2 c2=>⟨_,rfl,_,_,rfl,rfl,_,rfl,?_⟩⟩;obtain⟨zs,hz⟩:=c.lst;have tl2:=tl1.step x2 hz ntc;have er:rows tt n i++row tt (0+(i:Int)) (k+1)=(rows tt n i++row tt (0+(i:Int)) k)++[(0+(i:Int),0+(i:Int)+1+(k:Int))]:=by rw[yV,aH (show tt _ _=true from rfl),wdo]
   have ec:b+1+10*(i:Int)+((k+1:Nat):Int)=b+1+10*(i:Int)+(k:Int)+1:=by omega
   rw[er,ec];refine ite2 (fun cc=> ?_) (fun cc=> ?_)
   ·obtain⟨rs,ts,h1,h2,h3,h4⟩:=tl2;have hl:=sub_len hn1 (by omega) h3;have hrl:=h2.len;rw[aM]at hrl;refine⟨_,rfl,.inl ⟨rfl,_,SqL.of h1⟩,_,rfl,_,rfl,(by show 2<=sizeLine;decide),fun p hp=> ?_⟩;have s3:=aK hp (.tup [.int (0+(i:Int)),.int (0+(i:Int)+1+(k:Int))]);refine⟨tl,rs,_,rfl,rfl,s3 _ _ h1,(by rw[fZ];omega),?_⟩;have xw:aA tl (upd H2 p (.tup [.int (0+(i:Int)),.int (0+(i:Int)+1+(k:Int))])) (upd (upd H2 p (.tup [.int (0+(i:Int)),.int (0+(i:Int)+1+(k:Int))])) tl (.lst (rs++[.ref p]))):=(aA.refl _ _).upd;refine⟨fun q o hq e=> ?_,(c2.same s3).other xw (s3 _ _ h1) ntc.symm,g8.push (s3 _ _ h1) (h2.same s3) h3 h4 (SqT.of au) trivial,_,rfl⟩;have nq:q≠tl:=fun z=>by rw[z,tl0]at e;cases e
    exact xw _ _ nq (s3 _ _ (x2 _ _ hq (x _ _ hq e)))
   ·exact⟨x.trans x2,c2,tl2.mono (List.sublist_append_left _ _),_,rfl⟩
  ·obtain⟨x,c,tl1,a5,rfl⟩:=p;rw[<-lM]at tl1;exact⟨x,c.mono (by omega),tl1,_,_,rfl⟩
 ·obtain⟨x,c,⟨rs,ts,h1,h2,h3,h4⟩,a4,a5,rfl⟩:=p;refine⟨_,rfl,_,rfl,tl,rs,rfl,.inl ⟨SqL.of h1,fun t ht=>⟨(by show 2<=sizeLine;decide),fun wb zT=> ?_⟩⟩⟩;have s3:=aK ht (.tup rs);have s4:=aK zT (.tup [.int n,.ref t]);have s34:=s3.trans s4;obtain⟨g1,g2⟩:=sZ hn0 hn1 h3;exact q wb ts _ (x.trans (s34.x _)) ((c.same s34).mono (by omega)) ⟨⟨t,rs,SqT.of au,SqT.of (s4 _ _ au),h2.same s34⟩,hn0,hn1,g1,g2⟩
noncomputable def Lz(K:W.Frag):Sp:=fun vs H Q _=>∃(cp bh:Addr) (ns:List Int) (m b:Int),vs=[.ref cp,.int m]/\cT K H cp bh ns b/\b<=800000000/\0<=m/\m<=10/\
 ∀r n ts H',aA cp H H'->cT K H' cp bh ns (b+121)->aQ K H' r n ts->Q (.ref r) H'
theorem Td{f f1 f2:Addr}{fd d1 d2:ρ}(F:Fun K "_law_e_web" "_law_e_web" j5 f fd)(D1:bK K mg "_law_e_dip" VN ["cup","many"] f1 d1)(G1:FnOk P w K mg base CX0 2 f1 d1 ["cup","many"] (vL K))(D2:bK K mg "_law_e_web_of" zcv ["cup","n"] f2 d2)(G2:FnOk P w K mg base CX0 3 f2 d2 ["cup","n"] (wA K)):
  FnOk P w K mg base CX0 4 f fd ["cup","most"] (Lz K):=by
 refine F.cQ ["cup","most","n"] fun cdv A outer s H vs Q E hr h=> ?_;obtain⟨cp,bh,ns,m,b,rfl,hC,hb,hm0,hm1,q⟩:=h;refine⟨_,(aJ (pS 2 (pc G1 hr D1 (aj (pv 0) (aj (bB mQ (pv 1) aq) ak)))) (aP (bO (pc G2 hr D2 (aj (pv 0) (aj (pv 2) ak)))))),?_⟩;refine⟨_,rfl,_,rfl,_,_,rfl,rfl,cp,bh,ns,_,b,rfl,hC,by omega,by omega,by omega,fun o H1 ho0 ho1 x1 c1=> ?_⟩;refine⟨_,rfl,_,rfl,cp,bh,ns,o,b+1,rfl,c1,by omega,ho0,by omega,fun r ts H2 x2 c2 W=>q r o ts H2 (x1.trans x2) (c2.mono (by omega)) W⟩
end
theorem yU{so:Int->Int->Bool}{m:Int}{i:Nat}:(rows tt m i).filter (fun p=>so p.1 p.2)=rows so m i:=by
 refine eq_of_sorted ((VL _ _ _).filter _) (VL _ _ _) fun p=> ?_;rw[gP,QZ,QZ];constructor
 ·rintro⟨⟨a,b,c,d,_⟩,e⟩;exact⟨a,b,c,d,e⟩
 ·rintro⟨a,b,c,d,e⟩;exact⟨⟨a,b,c,d,rfl⟩,e⟩
section
variable{P:ξ}{w:τ}{K:W.Frag}{mg:L4}{base:Heap}
structure abf(K:W.Frag)(H:Hp)(l:Addr)(ps:L0):Prop where
 ex:∃rs,H l=some (.lst rs)/\cJ K H rs (ps.map pairD)
noncomputable def LQ(K:W.Frag):Sp:=fun vs H Q _=>∃(n:Int),vs=[.int n]/\0<=n/\n<=10/\∀l H',Same H H'->abf K H' l (rows tt n n.toNat)->Q (.ref l) H'
theorem Te{f:Addr}{fd:ρ}(F:Fun K "pairs" "pairs" wC f fd)(mR:mg "range"=none):FnOk P w K mg base CX0 1 f fd ["n"] (LQ K):=by
 refine F.cQ ["n","found","one"] fun cdv A outer s H vs Q E hr h=> ?_;obtain⟨n,rfl,hn0,hn1,q⟩:=h;refine bw ?_;intro Y;refine⟨_,aJ (pS 1 (uQ ak)) (aJ (ps_for yD rfl (J2 rfl mR (aj (pv 0) ak)) (pG 2) (aP (iG (pe_bm QJ PySem.F.slot_list_extend PySem.F.type_list_extend mt_extend (pv 1) (aj
    (pK ["other"] ["one"] [2] (pi_range2 rfl mR (aj (bB mQ (pv 2) aq) (aj (pv 0) ak))) (pG 0) sX (fV (aj (pv 1) (aj (pv 0) ak)))) ak))))) (aP (bO (pv 1)))),?_⟩
 refine mF ?_;intro c3 c2;refine⟨(by show 0<=sizeLine;decide),fun l hl=> ?_⟩;refine⟨_,rfl,n,rfl,by omega,by omega,?_⟩;let jR:Nat->St->Hp->Prop:=fun i σ H'=>Same H H'/\(∃rs,H' l=some (.lst rs)/\cJ K H' rs ((rows tt n i).map pairD))/\∃o,σ=[some (.int n),some (.ref l),o];refine Q6 (n:=n.toNat) jR ⟨aK hl _,⟨[],au,.nil⟩,_,rfl⟩ (fun i σ H' hi p=> ?_) (fun σ H' p=> ?_)
 ·obtain⟨sm,⟨rs,hr1,hr2⟩,o,rfl⟩:=p;have hlen:=hr2.len;rw[aM]at hlen;have h45:=pairs_len (Gq (so:=tt) (m:=n) (i:=i)) hn1;refine⟨_,rfl,.inl ⟨rfl,_,SqL.of hr1⟩,_,rfl,_,_,rfl,rfl,_,rfl,_,_,rfl,⟨by omega,by omega,by omega,by omega⟩,?_⟩;let vp:Nat->List V->St->Hp->Prop:=fun k acc σ H2=>Same H' H2/\acc.length=k/\cJ K H2 acc ((row tt (0+(i:Int)) k).map pairD)/\∃o1,σ=[o1,some (.int (0+(i:Int)))];refine UL (n:=(n-(0+(i:Int)+1)).toNat) vp ⟨Same.refl _,rfl,.nil,_,rfl⟩ (fun k acc σ H2 hk p=>by rw[p.2.1];exact aW _) (by rw[fZ];omega) (fun k acc σ H2 hk p=> ?_) (fun acc σ H2 p=> ?_)
  ·obtain⟨s2,hl2,hd,o1,rfl⟩:=p;refine⟨_,rfl,_,rfl,(by show 2<=sizeLine;decide),fun p hp=> ?_⟩;have s3:=aK hp (.tup [.int (0+(i:Int)),.int (0+(i:Int)+1+(k:Int))]);refine⟨s2.trans s3,by rw[rJ,hl2];rfl,?_,_,rfl⟩;rw[yV,cU,aH (show tt (0+(i:Int)) (0+(i:Int)+1+(k:Int))=true from rfl)];exact(hd.same s3).append (.cons (.tup (SqT.of au) (.cons (.int _) (.cons (.int _) .nil))) .nil)
  ·intro p1 hp1;obtain⟨s2,hl2,hd,_⟩:=p;have s3:=aK hp1 (.lst acc);have Zb:=s3 _ _ (s2 _ _ hr1);refine⟨l,p1,rs,acc,rfl,rfl,Zb,au,?_,?_⟩
   ·rw[fZ];omega
   ·have x4:aA l (upd H2 p1 (.lst acc)) (upd (upd H2 p1 (.lst acc)) l (.lst (rs++acc))):=(aA.refl _ _).upd;refine⟨?_,⟨_,au,?_⟩,_,rfl⟩
    ·intro b o hb;have nb:b≠l:=fun e=>by rw[e,hl]at hb;cases hb
     exact x4 _ _ nb (s3 _ _ (s2 _ _ (sm _ _ hb)))
    ·rw[lM];exact gR x4 Zb (by rw[cU];exact((hr2.same s2).same s3).append (hd.same s3))
 ·obtain⟨sm,⟨rs,hr1,hr2⟩,o,rfl⟩:=p;exact⟨_,rfl,q l _ sm ⟨rs,hr1,hr2⟩⟩
theorem Ae{so:Int×Int->Bool}{ps:L0}{i:Nat}(hi:i<ps.length):(ps.take (i+1)).filter so=(ps.take i).filter so++(if so ps[i]=true then[ps[i]]else[]):=by
 rw[Fq,fL hi,Kd];congr 1;show List.filter so [ps[i]]=_;rw[Ib];rfl
end
theorem cg.dZ{n:Int}{xs:List Int}(h:cg n xs):oG.dZ n (.tuple (xs.map PyData.int))=true:=by
 unfold oG.dZ;rw[oM];refine⟨?_,?_⟩
 ·rw[YS,oA];intro x hx;have:=h.lt x hx;show(decide (0<=x)&&decide (x<n))=true;rw[cX this.1,cX this.2];rfl
 ·rw[v8];have e:xs.map (intD∘PyData.int)=xs:=(YX fun x _=>rfl).trans (List.map_id xs);rw[e];unfold cM;rw[oA];intro k hk;rw[sy]at hk;have h2:=U8.mp h.FW k (k+1) (by omega) (by omega) (by omega);have g:∀j,(hj:j<xs.length)->xs.getD j 0=xs[j]:=fun j hj=>by rw[oK,fL hj];rfl
  rw[g k (by omega),g (k+1) (by omega)];exact cX h2
noncomputable def Wm(xs:List Int)(ts:L0)(i j:Int):Bool:=kJ ts (xs.getD i.toNat 0) (xs.getD j.toNat 0)
section
variable{P:ξ}{w:τ}{K:W.Frag}{mg:L4}{base:Heap}
noncomputable def Vo(K:W.Frag):Sp:=fun vs H Q _=>∃(a sm:Addr) (n:Int) (ts:L0) (xs:List Int),vs=[.ref a,.ref sm]/\aQ K H a n ts/\SqT K H sm (xs.map V.int)/\cg n xs/\
 ∀r H',Same H H'->rO K H' r (xs.length:Int) (rows (Wm xs ts) (xs.length:Int) (xs.length:Int).toNat)->Q (.ref r) H'
theorem Xf{f f1 f2 f3 f4:Addr}{fd d1 d2 d3 d4:ρ}(F:Fun K "cut_down" "cut_down" nG f fd)(D1:bK K mg "need_web" Q8 ["thing"] f1 d1)(G1:FnOk P w K mg base CX0 7 f1 d1 ["thing"] (fO K))(D2:bK K mg "need_set" YL ["web","thing"] f2 d2)(G2:FnOk P w K mg base CX0 5 f2 d2 ["web","thing"] (iI K))(D3:bK K mg "pairs" wC ["n"] f3 d3)(G3:FnOk P w K mg base CX0 1 f3 d3 ["n"] (LQ K))(D4:bK K mg "has_tie" UJ ["web","one","other"] f4 d4)(G4:FnOk P w K mg base CX0 1 f4 d4 ["web","one","other"] (qX K))(mT:mg "tuple"=none)(mL:mg "len"=none):
  FnOk P w K mg base CX0 8 f fd ["web","some"] (Vo K):=by
 refine F.cQ ["web","some","kept"] fun cdv A outer s H vs Q E hr h=> ?_;obtain⟨a,sm,n,ts,xs,rfl,hA,hX,hok,q⟩:=h;refine⟨_,aJ (iG (pc G1 hr D1 (aj (pv 0) ak))) (aJ (iG (pc G2 hr D2 (aj (pv 0) (aj (pv 1) ak)))) (aJ (pX 2 ["i","j"] ["web","some"] [0,1] (yh (pc G3 hr D3 (aj (pB v7 mL (aj (pv 1) ak)) ak))) (fH K (n:=2) rfl (qe (pG 0) (qe (pG 1) Fo))) (HW (qd (pc G4 hr D4 (aj (pv 2) (aj (bf (HS K) (pv 3) (pv 0)) (aj (bf (HS K) (pv 3) (pv 1)) ak)))))) (fV (aj (pv 0) (aj (pv 1) ak)))) (aP (bO (fV (aj (pB v7 mL (aj (pv 1) ak)) (aj (pT J3 mT (aj (pv 2) ak)) ak))))))),?_⟩;have QT:=hA.h1;have h10:=hok.len QT;refine⟨_,rfl,_,_,rfl,hA.web.dv.dx,hA.ok,fun H1 s1=> ?_⟩;obtain⟨ta,ra,a1,a2,a3⟩:=id (hA.same s1).web;have hDX:DX K H1 (.ref sm) (.tuple (xs.map PyData.int)):=(DV.tup (s1.tup hX) (cJ.ints xs)).dx;refine⟨_,rfl,_,rfl,a,n,_,_,_,rfl,a1,hDX,hok.dZ,fun H2 s2=> ?_⟩;have s12:=s1.trans s2;refine⟨_,rfl,sm,_,rfl,.inr (s12.tup hX),fun _=>⟨_,rfl,by omega,by rw[aM];omega,fun l H3 s3 p1=> ?_⟩⟩;rw[aM]at p1;obtain⟨rs,e1,v1⟩:=p1.ex;refine⟨l,rs,rfl,SqL.of e1,fun hz=> ?_⟩;have hlen:=v1.len;rw[aM]at hlen;have qZ:=s12.trans s3;generalize hR:rows tt (xs.length:Int) (xs.length:Int).toNat=R at *;have hR':∀p∈R,0<=p.1/\p.1<p.2/\p.2<(xs.length:Int):=fun p hp=>by rw[<-hR,QZ]at hp;exact⟨hp.1,hp.2.2.1,hp.2.2.2.1⟩
 refine J0 (xs:=rs) (fun i acc σ H'=>Same H3 H'/\acc.length<=i/\cJ K H' acc ((R.take i).filter (fun p=>Wm xs ts p.1 p.2)|>.map pairD)/\∃o1 o2,σ=[o1,o2,some (.ref a),some (.ref sm)]) ⟨Same.refl _,aW _,.nil,_,_,rfl⟩ (fun i acc σ H' _ p=>p.1.seq (SqL.of e1)) (fun i acc σ H' hi p=>p.2.1) hz (fun i x acc σ H' hx p=> ?_) (fun acc σ H' p=> ?_)
 ·obtain⟨sm',hl,hd,o1,o2,rfl⟩:=p;obtain⟨t,hi,rfl,ht⟩:=Gu v1 hx;have sA:=qZ.trans sm';have hb:=hR' _ (Ka hi);refine⟨t,_,rfl,sm'.tup ht,rfl,_,_,rfl,_,_,rfl,rfl,?_⟩;refine⟨_,rfl,_,rfl,_,rfl,sm,_,_,_,rfl,rfl,sA.tup hX,Qs hb.1 (by omega),_,rfl,_,rfl,sm,_,_,_,rfl,rfl,sA.tup hX,Qs (by omega) hb.2.2,?_⟩;refine⟨a,n,_,_,ts,rfl,(hA.same sA).web,fun H5 s5=>⟨_,rfl,?_⟩⟩;rw[Ae hi];refine ite2 (fun c=> ?_) (fun c=> ?_)
  ·refine⟨_,rfl,_,rfl,(by show 2<=sizeLine;decide),fun p hp=> ?_⟩;have s6:=aK hp (.tup [.int (R[i]).1,.int (R[i]).2]);refine⟨sm'.trans (s5.trans s6),by rw[rJ];show acc.length+1<=i+1;omega,?_,_,_,rfl⟩;rw[aH (show Wm xs ts _ _=true from c),cU];exact(hd.same (s5.trans s6)).append (.cons (.tup (SqT.of au) (.cons (.int _) (.cons (.int _) .nil))) .nil)
  ·refine⟨sm'.trans s5,by omega,?_,_,_,rfl⟩;rw[aB (show¬Wm xs ts _ _=true from c),Bg];exact hd.same s5
 ·intro p1 hp1;obtain⟨sm',hl,hd,_⟩:=p;rw[hlen,yt,<-hR,yU]at hd;have s5:=aK hp1 (.lst acc);have sA:=qZ.trans (sm'.trans s5);refine⟨_,rfl,sm,_,rfl,.inr (sA.tup hX),fun _=>⟨_,rfl,p1,_,rfl,.inl ⟨SqL.of au,fun t ht=> ?_⟩⟩⟩;have s6:=aK ht (.tup acc);refine⟨(by show 2<=sizeLine;decide),fun r hr'=> ?_⟩;rw[aM];have s7:=aK hr' (.tup [.int (xs.length:Int),.ref t]);exact q r _ (sA.trans (s6.trans s7)) ⟨t,acc,SqT.of au,SqT.of (s7 _ _ au),hd.same (s5.trans (s6.trans s7))⟩
end
noncomputable def gO(n:Nat):List Int:=List.replicate n 1
section
variable{P:ξ}{w:τ}{K:W.Frag}{mg:L4}{base:Heap}
noncomputable def qm(K:W.Frag):Sp:=fun vs H Q _=>∃(n:Int),vs=[.int n]/\n<=10/\Q .non H
theorem Ck{f:Addr}{fd:ρ}{tk:Tok}(F:Fun K "need_few" "need_few" gk f fd)(mM:mg "MOST_PLACES"=some (.int 10 tk)):FnOk P w K mg base CX0 1 f fd ["n"] (qm K):=by
 refine F.cQ ["n"] fun cdv A outer s H vs Q E hr h=> ?_;obtain⟨n,rfl,hn,q⟩:=h;refine⟨_,aP (dN (dg op_gt (pv 0) (Fj rfl mM (v:= .int 10) ⟨_,rfl⟩)) vG dW),?_⟩;refine⟨_,rfl,_,_,rfl,rfl,_,rfl,?_⟩;rw[lV (show¬(10:Int)<n by omega)];exact iteF q
end
noncomputable def sh(b:Int)(p:Int×Int):Int×Int:=(p.1+b,p.2+b)
section
variable{P:ξ}{w:τ}{K:W.Frag}{mg:L4}{base:Heap}
noncomputable def Gf(K:W.Frag):Sp:=fun vs H Q _=>∃(a:Addr) (n b:Int) (ts:L0),vs=[.ref a,.int b]/\rO K H a n ts/\∀l H',Same H H'->abf K H' l (ts.map (sh b))->H l=none->Q (.ref l) H'
theorem Nj{f:Addr}{fd:ρ}(F:Fun K "moved_ties" "moved_ties" jl f fd):FnOk P w K mg base CX0 1 f fd ["web","by"] (Gf K):=by
 refine F.cQ ["web","by"] fun cdv A outer s H vs Q E hr h=> ?_;obtain⟨a,n,b,ts,rfl,hW,q⟩:=h;refine⟨_,aP (bO (pK ["one","other"] ["by"] [1] (JX (bf cW (pv 0) aq)) (fH K (n:=2) rfl (qe (pG 0) (qe (pG 1) Fo))) sX (fV (aj (bB mQ (pv 0) (pv 2)) (aj (bB mQ (pv 1) (pv 2)) ak))))),?_⟩;obtain⟨t,rs,h1,h2,h3⟩:=hW;refine⟨_,rfl,a,_,_,.ref t,rfl,rfl,h1,rfl,t,rs,rfl,h2,fun hz=> ?_⟩;have hlen:=h3.len;rw[aM]at hlen;let jR:Nat->List V->St->Hp->Prop:=fun i acc σ H'=>Same H H'/\acc.length=i/\cJ K H' acc (((ts.take i).map (sh b)).map pairD)/\∃o1 o2,σ=[o1,o2,some (.int b)];refine JZ (xs:=rs) jR ⟨Same.refl _,rfl,.nil,_,_,rfl⟩ (fun i acc σ H' _ p=>p.1.tup h2) (fun i acc σ H' hi p=>by rw[p.2.1];exact aW _) hz (fun i x acc σ H' hx p=> ?_) (fun acc σ H' p=> ?_)
 ·obtain⟨sm,hl,hd,o1,o2,rfl⟩:=p;have hi:i<ts.length:=by rw[<-hlen];exact(oF.mp hx).1
  obtain⟨x',d,e1,e2,e3⟩:=cJ.get' (i:=i) h3 (by rw[aM];exact hi);rw[hx]at e1;cases e1;rw[fu,fL hi]at e2;cases e2;cases e3 with
  |tup hp tp=>
   cases tp with
   |cons ta tb=>
    cases tb with
    |cons tc td=>
     cases td;cases ta;cases tc;refine⟨_,_,rfl,sm.tup hp,rfl,_,_,rfl,_,_,rfl,rfl,?_⟩;refine⟨_,rfl,_,rfl,_,_,rfl,rfl,_,rfl,_,rfl,_,_,rfl,rfl,(by show 2<=sizeLine;decide),fun p hp'=> ?_⟩;have s2:=aK hp' (.tup [.int (ts[i].1+b),.int (ts[i].2+b)]);refine⟨sm.trans s2,by rw[rJ,hl];rfl,?_,_,_,rfl⟩;rw[Fq,fL hi];simp only[Option.toList_some,cU];refine(hd.same s2).append (.cons (.tup (SqT.of au) (.cons (.int _) (.cons (.int _) .nil))) .nil)
 ·intro p1 hp1;obtain⟨sm,hl,hd,_⟩:=p;rw[hlen,yt]at hd;have s2:=aK hp1 (.lst acc);exact q p1 _ (sm.trans s2) ⟨acc,au,hd.same s2⟩ (sm.free hp1)
noncomputable def j4(K:W.Frag):Sp:=fun vs H Q _=>∃(a:Addr) (n i:Int) (t:V),vs=[.ref a,.int i]/\SqT K H a [.int n,t]/\0<=i/\i<n/\Q .non H
theorem wK{f f1:Addr}{fd d1:ρ}(F:Fun K "need_place" "need_place" Zo f fd)(D1:bK K mg "is_place" gw ["n","thing"] f1 d1)(G1:FnOk P w K mg base CX0 2 f1 d1 ["n","thing"] (sH K)):FnOk P w K mg base CX0 3 f fd ["web","thing"] (j4 K):=by
 refine F.cQ ["web","thing"] fun cdv A outer s H vs Q E hr h=> ?_;obtain⟨a,n,i,t,rfl,hS,h0,h1,q⟩:=h;refine⟨_,aP (dN (rH (qd (pc G1 hr D1 (aj (bf cW (pv 0) aq) (aj (pv 1) ak))))) vG dW),?_⟩;refine⟨_,rfl,a,_,_,.int n,rfl,rfl,hS,rfl,_,rfl,n,.int i,.int i,rfl,.int i,_,rfl,?_⟩;have e:bx n (.int i)=true:=by show(decide (0<=i)&&decide (i<n))=true;rw[cX h0,cX h1];rfl
 rw[e];exact iteF q
end
theorem zM{a:Int}{D:Nat}(hD:0<D):(bJ a D).2∣D:=⟨Nat.gcd a.natAbs D,(Nat.div_mul_cancel (ZD _ _)).symm⟩
theorem N8{a:Int}{D:Nat}(hD:0<D):(bJ a D).1*((D/(bJ a D).2:Nat):Int)=a:=by
 have l:=Kp a hD;have e:=l.eq;have hv:=l.pos;obtain⟨c,hc⟩:=zM (a:=a) hD;generalize (bJ a D).1=u at *;generalize (bJ a D).2=v at *;have:D/v=c:=by rw[hc];exact Rf _ hv
 rw[this];rw[hc]at e
 push_cast at e
 refine wde (a:=(v:Int)) (by omega) ?_
 grind
theorem Tq{a:Int}{D:Nat}(hD:0<D)(ha:0<=a):0<=(bJ a D).1:=(Kp a hD).nn ha
theorem Tp{a:Int}{D:Nat}(hD:0<D)(ha:0<=a):0<=(bJ a D).1/\0<(bJ a D).2/\(bJ a D).2∣D:=⟨Tq hD ha,(Kp a hD).pos,zM hD⟩
theorem wV{ss:List (List Int)}{D:Nat}{Y:Nat->Int}(hD:0<D)(hY:∀k,0<=Y k)(g:List Int->Bool):∀m,Bj D (((((List.range m).filter fun k=>decide (0<Y k)).map fun k=>(ss.getD k [],bJ (Y k) D)).filter fun q=>g q.1).map (·.2))=Sx.sm m fun k=>if g (ss.getD k [])=true then Y k else 0
 |0=>rfl
 |m+1=>by
  have ih:=wV (ss:=ss) hD hY g m;rw[Bf,Kd,cU,Kd,cU,xq,ih];show _=Sx.sm m _+(if g (ss.getD m [])=true then Y m else 0);congr 1;by_cases hy:0<Y m
  ·rw[wed (by simpa using hy)];by_cases hg:g (ss.getD m [])=true
   ·rw[List.filter_nil,Ia,wen,wed (by exact hg),aH hg];exact(Hw D _).trans (N8 hD)
   ·rw[List.filter_nil,Ia,wen,wee (by exact hg),aB hg];rfl
  ·rw[wee (by simpa using hy)];have:Y m=0:=by have:=hY m;omega
   rw[this];show(0:Int)=_;split<;>rfl
structure abe(n:Int)(ts:L0)(q:List Int×(Int×Nat)):Prop where
 up:q.1.Pairwise (· < ·)
 lt:∀x∈q.1,0<=x/\x<n
 no:ts.filter (inB q.1)=[]
 pos:0<q.2.1
 bot:0<q.2.2
 big:q.2.2<=39916800
 low:Nat.gcd q.2.1.natAbs q.2.2=1
structure abg(n:Int)(ts:L0)(l:List (List Int×(Int×Nat))):Prop where
 all:∀q∈l,abe n ts q
 rise:(l.map (·.1)).Pairwise fun p q=>HT.lexLt p q=true
 len:l.length<=36
theorem Tg{n:Int}{k:Nat}{ts:L0}(hp:aO n ts){s:List Int}(h:uK ts false k s):ts.filter (inB s)=[]:=by
 refine List.filter_eq_nil_iff.mpr fun p hp1 hc=> ?_;unfold inB at hc;rw[oM]at hc;have m1:=fM hc.1;have m2:=fM hc.2;have hlt:=hp.2 p hp1;have hz:=h.all p.1 m1 p.2 m2 (by omega);unfold bQ at hz;rw[cX (show(p.1,p.2)∈ts from hp1)]at hz;cases hz
theorem CK{n:Nat}{ts:L0}{ss:List (List Int)}{wl:List Int}{ov:Nat}{Z:Int}{Y X:Nat->Int}(hp:aO (n:Int) ts)(hn:n<=10)(hS:cR ss ts false n)(h:Sh n ss wl ov Z Y X):abg (n:Int) ts (gZ ss ov Y):=by
 have nd:ss.Nodup:=hS.1.nodup_iff.mpr ((jj n).filter _);have up:ss.Pairwise fun p q=>HT.lexLt p q=true:=(hS.2.and nd).imp fun⟨a,b⟩=>Oc a b;have m36:=tO hS hn;refine⟨fun q hq=> ?_,?_,?_⟩
 ·obtain⟨k,hk,rfl⟩:=oJ.mp hq;obtain⟨hk1,hk2⟩:=gP.mp hk;have hk3:=sy.mp hk1;have e:ss.getD k []=ss[k]:=by rw[oK,fL hk3];rfl
  have K1:=Rw hS (Ka hk3);have hy:=fM hk2;have l:=Kp (Y k) h.pos;refine⟨by rw[e];exact K1.up,by rw[e];exact K1.lt,by rw[e];exact Tg hp K1,(zL h.pos).mpr hy,l.pos,dD l.lv h.big,l.cop⟩
 ·unfold gZ;rw[v8];have:((List.range ss.length).filter fun k=>decide (0<Y k)).Pairwise (· < ·):=ydf.filter _;refine U0.mpr (this.imp_of_mem fun{a b} ha hb hab=> ?_);have hb3:=sy.mp (gP.mp hb).1;have e:∀k,(hk:k<ss.length)->ss.getD k []=ss[k]:=fun k hk=>by rw[oK,fL hk];rfl
  show HT.lexLt (ss.getD a []) (ss.getD b [])=true;rw[e a (by omega),e b hb3];exact U8.mp up a b (by omega) hb3 hab
 ·unfold gZ;rw[aM];exact dD (yp _ _) (by rw[yx];exact m36)
noncomputable def upto(n:Nat):List Int:=(List.range n).map fun(k:Nat)=>(k:Int)
theorem Rm(n:Int):cg n (upto n.toNat):=by
 unfold upto;refine⟨?_,fun x hx=> ?_⟩
 ·rw[U0];exact ydf.imp fun h=>by omega
 ·obtain⟨k,hk,rfl⟩:=oJ.mp hx;rw[sy]at hk;omega
noncomputable def abj(n:Int)(ts:L0)(f:Int×Nat):Prop:=∃(ss:List (List Int)) (ov:Nat) (Z:Int) (Y X:Nat->Int),cR ss ts false n.toNat/\Sh n.toNat ss (gO n.toNat) ov Z Y X/\f=bJ Z ov
end Hs
namespace oG
open PySem L2
theorem aO.perm{n:Int}{ps qs:L0}(h:aO n ps)(e:qs.Perm ps):aO n qs:=⟨e.nodup_iff.mpr h.nd,fun p hp=>h.lt p (e.mem_iff.mp hp)⟩
theorem iY{K:W.Frag}{H:Hp}{rs:List V}{ps:L0}(h:cJ K H rs (ps.map pairD)):∃its:List (Addr×(Int×Int)),rs=its.map (fun p=>V.ref p.1)/\its.map (·.2)=ps/\∀p∈its,SqT K H p.1 ((pl p.2).map V.int):=by
 induction ps generalizing rs with
 |nil=>cases h;exact⟨[],rfl,rfl,fun p h=>(nomatch h)⟩
 |cons p ps ih=>
  cases h with
  |cons h tl=>
   obtain⟨its,e1,e2,e3⟩:=ih tl;cases h with
   | @tup a _ _ h hd=>
    cases hd with
    |cons a1 t1=>
     cases a1;cases t1 with
     |cons a2 t2=>
      cases a2;cases t2;refine⟨(a,p)::its,by rw[e1];rfl,by rw[<-e2];rfl,fun q hq=> ?_⟩;rcases cZ.mp hq with e|e
      ·rw[e];exact h
      ·exact e3 q e
theorem iR{K:W.Frag}{H:Hp}:∀(its:List (Addr×(Int×Int))),(∀p∈its,SqT K H p.1 ((pl p.2).map V.int))->cJ K H (its.map fun p=>V.ref p.1) ((its.map (·.2)).map pairD)
 |[],_=> .nil
 |p::its,h=> .cons (.tup (h p jG) (.cons (.int _) (.cons (.int _) .nil))) (iR its fun q hq=>h q (jW _ hq))
end oG
namespace Hs
open PySem L2 oG
section
variable{P:ξ}{w:τ}{K:W.Frag}{mg:L4}{base:Heap}
noncomputable def TK(K:W.Frag)(H H':Hp):Prop:=∀a xs,SqT K H a xs->SqT K H' a xs
theorem _root_.L2.Same.tk{H H':Hp}(e:Same H H'):TK K H H':=fun _ _ h=>e.tup h
theorem _root_.L2.aA.tk{H H':Hp}{c:Addr}{zs:List V}(e:aA c H H')(hc:H c=some (.lst zs)):TK K H H':=fun _ _ h=>e.tup hc h
theorem _root_.L2.aA.tkI{H H':Hp}{o C dx:Addr}{fs:List (Str×V)}(e:aA o H H')(hO:H o=some (.ins C dx fs)):TK K H H':=fun a xs h=>by
 rcases h with(h|⟨ob,h⟩)|h
 ·exact .inl (.inl (e _ _ (fun z=>by rw[z,hO]at h;cases h) h))
 ·exact .inl (.inr ⟨ob,e _ _ (fun z=>by rw[z,hO]at h;cases h) h⟩)
 ·exact .inr h
theorem zm{H H':Hp}(e:TK K H H'){rs:List V}{ps:L0}(h:cJ K H rs (ps.map pairD)):cJ K H' rs (ps.map pairD):=by
 induction ps generalizing rs with
 |nil=>cases h;exact .nil
 |cons p ps ih=>
  cases h with
  |cons h tl=>
   refine .cons ?_ (ih tl);cases h with
   |tup h hd=>
    cases hd with
    |cons a1 t1=>
     cases a1;cases t1 with
     |cons a2 t2=>
      cases a2;cases t2;exact .tup (e _ _ h) (.cons (.int _) (.cons (.int _) .nil))
theorem aQ.tk{H H':Hp}{a:Addr}{n:Int}{ts:L0}(h:aQ K H a n ts)(e:TK K H H'):aQ K H' a n ts:=by
 obtain⟨⟨t,rs,h1,h2,h3⟩,h4,h5,h6,h7⟩:=h;exact⟨⟨t,rs,e _ _ h1,e _ _ h2,zm e h3⟩,h4,h5,h6,h7⟩
theorem eZ.tk{H H':Hp}{vs:List V}{l:List (List Int×(Int×Nat))}(h:eZ K H vs l)(e:TK K H H'):eZ K H' vs l:=Paired.mapP h fun _ _ ⟨t,sa,fa,e0,h1,h2,h3⟩=>⟨t,sa,fa,e0,e _ _ h1,e _ _ h2,e _ _ h3⟩
theorem lq.tk{H H':Hp}{vs:List V}{l:List (Int×Nat)}(h:lq K H vs l)(e:TK K H H'):lq K H' vs l:=Paired.mapP h fun _ _ ⟨a,e0,z⟩=>⟨a,e0,e _ _ z⟩
noncomputable def Lw(f:Int×Nat):Prop:=0<f.2/\f.2<=39916800/\Nat.gcd f.1.natAbs f.2=1
structure Sd where
 n:Int
 ts:L0
 t:Int
 l:List (List Int×(Int×Nat))
 D:Nat
 f:Int×Nat
 ps:List (Int×Nat)
 la:Addr
 pa:Addr
noncomputable def yQ(la t wb va pa:V):List (Str×V):=[("kept_laying",la),("times_anew",t),("kept_web",wb),("kept_value",va),("kept_prices",pa)]
structure Ux(K:W.Frag)(C:Addr)(H:Hp)(o dx wb va:Addr)(lr pr:List V)(S:Sd):Prop where
 at_:H o=some (.ins C dx (yQ (.ref S.la) (.int S.t) (.ref wb) (.ref va) (.ref S.pa)))
 web:aQ K H wb S.n S.ts
 val:yq K H va S.f
 lay:H S.la=some (.lst lr)
 lv:eZ K H lr S.l
 prc:H S.pa=some (.lst pr)
 pv:lq K H pr S.ps
noncomputable def cL(K:W.Frag)(C:Addr)(H:Hp)(o:Addr)(S:Sd):Prop:=∃(dx wb va:Addr) (lr pr:List V),Ux K C H o dx wb va lr pr S
theorem cL.same{C o:Addr}{H H':Hp}{S:Sd}(h:cL K C H o S)(e:Same H H'):cL K C H' o S:=by
 obtain⟨dx,wb,va,lr,pr,h1,h2,h3,h4,h5,h6,h7⟩:=h;exact⟨dx,wb,va,lr,pr,e _ _ h1,h2.same e,e.tup h3,e _ _ h4,h5.same e,e _ _ h6,h7.same e⟩
theorem cL.mq{C o c:Addr}{H H':Hp}{S:Sd}{zs:List V}(h:cL K C H o S)(e:aA c H H')(hc:H c=some (.lst zs))(n1:S.la≠c)(n2:S.pa≠c):cL K C H' o S:=by
 obtain⟨dx,wb,va,lr,pr,h1,h2,h3,h4,h5,h6,h7⟩:=h;have k:TK K H H':=e.tk hc;exact⟨dx,wb,va,lr,pr,e _ _ (fun z=>by rw[z,hc]at h1;cases h1) h1,h2.tk k,k _ _ h3,e _ _ n1 h4,h5.tk k,e _ _ n2 h6,h7.tk k⟩
theorem cL.ins{C o:Addr}{H:Hp}{S:Sd}(h:cL K C H o S):∃dx fs,H o=some (.ins C dx fs):=let⟨dx,_,_,_,_,h⟩:=h;⟨dx,_,h.at_⟩
structure uV(K:W.Frag)(C:Addr):Prop where
 c:Cls K C
 la:NoAttr K C "kept_laying"
 ti:NoAttr K C "times_anew"
 wb:NoAttr K C "kept_web"
 va:NoAttr K C "kept_value"
 pr:NoAttr K C "kept_prices"
structure fK(S:Sd):Prop where
 dok:UG S.D (S.l.map (·.2))
 low:∀q∈S.l,Lw q.2
 len:S.l.length<=36
 val:abj S.n S.ts S.f
 prc:∃(ss:List (List Int)) (ov:Nat) (Z:Int) (Y X:Nat->Int),cR ss S.ts false S.n.toNat/\Sh S.n.toNat ss (gO S.n.toNat) ov Z Y X/\S.f=bJ Z ov/\S.ps=vN S.n.toNat ov X
 eno:xH S.n S.ts (gO S.n.toNat) S.D (S.l.map jJ) S.f.1 S.f.2=true
theorem ql{n:Int}(h:0<=n):xT n (gO n.toNat):=⟨by unfold gO;rw[ydh];omega,fun x hx=>by unfold gO at hx;rw[(List.mem_replicate.mp hx).2];decide⟩
theorem aal{H:Hp}{x:V}{q:List Int×(Int×Nat)}(h:EY K H x q):DX K H x (jJ q):=by
 obtain⟨t,sa,fa,rfl,h1,h2,h3⟩:=h;exact .tup h1 (.cons (.tup h2 (cJ.ints _).dx) (.cons (.tup h3 (.cons (.int _) (.cons (.int _) .nil))) .nil))
theorem Oe{H:Hp}:∀{vs:List V} {l:List (List Int×(Int×Nat))},eZ K H vs l->jg K H vs (l.map jJ)
 |_,_,.nil=> .nil
 |_,_,.cons h t=> .cons (aal h) (Oe t)
noncomputable def Bv(K:W.Frag):Sp:=fun vs H Q _=>∃(a:Addr) (n:Int) (t:V),vs=[.ref a]/\SqT K H a [.int n,t]/\0<=n/\n<=10/\∀wa H',Same H H'->SqT K H' wa ((gO n.toNat).map V.int)->Q (.ref wa) H'
theorem SX{f:Addr}{fd:ρ}(F:Fun K "ones_for" "ones_for" jk f fd):
  FnOk P w K mg base CX0 1 f fd ["web"] (Bv K):=by
 refine F.cQ ["web"] fun cdv A outer s H vs Q E hr h=> ?_;obtain⟨a,n,t,rfl,w1,h0,h10,qq⟩:=h;refine⟨_,(aP (bO (bB RZ (fV (aj aq ak)) (bf cW (pv 0) aq)))),?_⟩;refine⟨(by show 1<=sizeLine;decide),fun p1 hp1=> ?_⟩;have s2:=aK hp1 (.tup [.int 1]);refine⟨_,rfl,a,_,_,.int n,rfl,rfl,s2.tup w1,rfl,p1,n,_,rfl,rfl,SqT.of au,(fun e=>nomatch e),by omega,by omega,?_,fun wa H3 s3 h3=> ?_⟩
 ·show 1*n.toNat<=1000;omega
 have ew:(List.replicate n.toNat [V.int 1]).flatten=(gO n.toNat).map V.int:=by
  unfold gO;generalize n.toNat=k
  induction k with
  |zero=>rfl
  |succ k ih=>rw[V4,ZG,ih,V4];rfl
 rw[ew]at h3;exact qq wa H3 (s2.trans s3) h3
theorem Rt(ts:L0):ts.map (sh 0)=ts:=by
 rw[show sh 0=id from funext fun p=>by unfold sh;rw[wfb,wfb];rfl,List.map_id]
noncomputable def Vp(K:W.Frag):Sp:=fun vs H Q _=>∃(a:Addr) (n:Int) (ts:L0),vs=[.ref a]/\aQ K H a n ts/\∀r H',Same H H'->aQ K H' r n ts->Q (.ref r) H'
theorem Xg{f f1:Addr}{fd d1:ρ}(F:Fun K "copy_of_web" "copy_of_web" iw f fd)(D1:bK K mg "moved_ties" jl ["web","by"] f1 d1)(G1:FnOk P w K mg base CX0 1 f1 d1 ["web","by"] (Gf K))(aR:mg "tuple"=none):
  FnOk P w K mg base CX0 2 f fd ["web"] (Vp K):=by
 refine F.cQ ["web"] fun cdv A outer s H vs Q E hr h=> ?_;obtain⟨a,n,ts,rfl,hW,qq⟩:=h;refine⟨_,(aP (bO (fV (aj (bf cW (pv 0) aq) (aj (pT J3 aR (aj (pc G1 hr D1 (aj (pv 0) (aj aq ak))) ak)) ak))))),?_⟩;obtain⟨t0,QM,w1,_,_⟩:=id hW.web;refine⟨_,rfl,a,_,_,.int n,rfl,rfl,w1,rfl,_,rfl,a,n,0,ts,rfl,hW.web,fun l H1 s1 hl _=> ?_⟩;rw[Rt]at hl;obtain⟨rs,hl1,hl2⟩:=hl.ex;refine⟨l,rs,rfl,.inl ⟨SqL.of hl1,fun t ht=> ?_⟩⟩;have s2:=aK ht (.tup rs);refine⟨(by show 2<=sizeLine;decide),fun r hr=> ?_⟩;have s3:=aK hr (.tup [.int n,.ref t]);exact qq r _ (s1.trans (s2.trans s3)) ⟨⟨t,rs,SqT.of au,s3.tup (SqT.of au),hl2.same (s2.trans s3)⟩,hW.h0,hW.h1,hW.pk,hW.ok⟩
theorem Lw.one{f:Int×Nat}(h:Lw f){u:Int}{v:Nat}(l:Low f.1 f.2 u v):(u,v)=f:=by
 obtain⟨a,b⟩:=zJ h.1 l ⟨h.1,h.2.2,rfl,aW _,aW _,id⟩;exact Prod.ext a b
noncomputable def LC(K:W.Frag):Sp:=fun vs H Q _=>∃(a:Addr) (f:Int×Nat),vs=[.ref a]/\yq K H a f/\Lw f/\∀r H',Same H H'->yq K H' r f->Q (.ref r) H'
theorem Xi{f f1:Addr}{fd d1:ρ}(F:Fun K "copy_of_fraction" "copy_of_fraction" zbo f fd)(D1:bK K mg "lowest" iK ["a","b"] f1 d1)(G1:FnOk P w K mg base CX0 2 f1 d1 ["a","b"] (yM K)):
  FnOk P w K mg base CX0 3 f fd ["fraction"] (LC K):=by
 refine F.cQ ["fraction"] fun cdv A outer s H vs Q E hr h=> ?_;obtain⟨a,f,rfl,hF,hL,qq⟩:=h;refine⟨_,(aP (bO (pc G1 hr D1 (aj (bf cW (pv 0) aq) (aj (bf cW (pv 0) aq) ak))))),?_⟩;refine⟨_,rfl,a,_,_,.int f.1,rfl,rfl,hF,rfl,_,rfl,a,_,_,.int ((f.2:Nat):Int),rfl,rfl,hF,rfl,f.1,f.2,rfl,hL.1,dD hL.2.1 (by decide),fun p H' u v s e l=>qq p H' s ?_⟩;have:=hL.one l;unfold yq;rw[<-this];exact SqT.of e
noncomputable def Vq(K:W.Frag):Sp:=fun vs H Q _=>∃(a:Addr) (ys:List V),vs=[.ref a]/\SqT K H a ys/\∀r H',Same H H'->SqT K H' r ys->Q (.ref r) H'
theorem Xh{f:Addr}{fd:ρ}(F:Fun K "copy_of_set" "copy_of_set" iy f fd)(aR:mg "tuple"=none):
  FnOk P w K mg base CX0 1 f fd ["some"] (Vq K):=by
 refine F.cQ ["some"] fun cdv A outer s H vs Q E hr h=> ?_;obtain⟨a,ys,rfl,hT,qq⟩:=h;refine⟨_,(aP (bO (pT J3 aR (aj (pK ["place"] [] [] (JX (pv 0)) (pG 0) sX (pv 0)) ak)))),?_⟩;refine⟨_,rfl,a,_,rfl,hT,fun hz=> ?_⟩;let jR:Nat->List V->St->Hp->Prop:=fun i acc σ H'=>acc=ys.take i/\H'=H/\∃o,σ=[o];refine JZ (xs:=ys) jR ⟨rfl,rfl,_,rfl⟩ (fun i acc σ H' _ p=>by rw[p.2.1];exact hT) (fun i acc σ H' hi p=>by rw[p.1,yw];omega) hz (fun i x acc σ H' hx p=> ?_) (fun acc σ H' p=> ?_)
 ·obtain⟨rfl,rfl,o,rfl⟩:=p;exact⟨_,rfl,by rw[Fq,hx];rfl,rfl,_,rfl⟩
 ·obtain⟨rfl,rfl,o,rfl⟩:=p;intro l hl;rw[yt];have s1:=aK hl (.lst ys);refine⟨l,_,rfl,.inl ⟨SqL.of au,fun t ht=> ?_⟩⟩;exact qq t _ (s1.trans (aK ht (.tup ys))) (SqT.of au)
noncomputable def lo2(i j:Int):Int:=if j<i then j else i
noncomputable def hi2(i j:Int):Int:=if j>i then j else i
noncomputable def LK(K:W.Frag):Sp:=fun vs H Q _=>∃(i j:Int),vs=[.int i,.int j]/\∀r H',Same H H'->SqT K H' r [.int (lo2 i j),.int (hi2 i j)]->Q (.ref r) H'
theorem Xj{f:Addr}{fd:ρ}(F:Fun K "as_tie" "as_tie" o9 f fd)(zG:mg "min"=none)(NT:mg "max"=none):
  FnOk P w K mg base CX0 1 f fd ["one","other"] (LK K):=by
 refine F.cQ ["one","other"] fun cdv A outer s H vs Q E hr h=> ?_;obtain⟨i,j,rfl,qq⟩:=h;refine⟨_,(aP (bO (fV (aj (pB (call_min2 rfl) zG (aj (pv 0) (aj (pv 1) ak))) (aj (pB (call_max2 rfl) NT (aj (pv 0) (aj (pv 1) ak))) ak))))),?_⟩;refine⟨_,rfl,_,rfl,i,j,rfl,_,rfl,_,rfl,i,j,rfl,(by show 2<=sizeLine;decide),fun r hr=> ?_⟩;exact qq r _ (aK hr _) (SqT.of au)
end
theorem N6(a:Int){b:Nat}(h:0<b)(hb:b<=39916800):Lw (bJ a b):=⟨(Kp a h).pos,dD (Kp a h).lv hb,(Kp a h).cop⟩
theorem Uq{n:Nat}{ss:List (List Int)}{wl:List Int}{ov:Nat}{Z:Int}{Y X:Nat->Int}(h:Sh n ss wl ov Z Y X):UG ov ((gZ ss ov Y).map (·.2)):=⟨h.pos,dD h.big (by decide),fun f hf=>by
 obtain⟨q,hq,rfl⟩:=oJ.mp hf;obtain⟨k,hk,rfl⟩:=oJ.mp hq;exact Tp h.pos (h.yn k)⟩
theorem Wn{n:Int}{ts:L0}{q:List Int×(Int×Nat)}(h:abe n ts q):BK n ts (jJ q)=true:=by
 show(dZ n (.tuple (q.1.map PyData.int))&&((true&&(true&&(decide (0<=q.2.1)&&(decide (1<=((q.2.2:Nat):Int))&&decide (((q.2.2:Nat):Int)<=1000000000)))))&&(decide (ts.filter (inB ((q.1.map PyData.int).map intD))=[])&&decide (0<q.2.1))))=true;have e:(q.1.map PyData.int).map intD=q.1:=by rw[v8];exact wer q.1
 have a:=h.pos;have b:=h.bot;have c:=h.big;rw[cg.dZ ⟨h.up,h.lt⟩,e,cX h.no,cX (show(0:Int)<=q.2.1 by omega),cX (show(1:Int)<=((q.2.2:Nat):Int) by omega),cX (show((q.2.2:Nat):Int)<=1000000000 by omega),cX a];rfl
theorem Ms{l:List (List Int)}(h:l.Pairwise fun p q=>HT.lexLt p q=true):dG l=true:=by
 unfold dG;refine oA.mpr fun k hk=> ?_;have hk':=sy.mp hk;have e:∀k,(hk:k<l.length)->l.getD k []=l[k]:=fun k hk=>by rw[oK,fL hk];rfl
 rw[e k (by omega),e (k+1) (by omega)];exact U8.mp h k (k+1) (by omega) (by omega) (by omega)
theorem Qf{n:Nat}{ts:L0}{ss:List (List Int)}{ov:Nat}{Z:Int}{Y X:Nat->Int}(hp:aO (n:Int) ts)(hn:n<=10)(hS:cR ss ts false n)(h:Sh n ss (gO n) ov Z Y X):xH (n:Int) ts (gO n) ov ((gZ ss ov Y).map jJ) (bJ Z ov).1 (bJ Z ov).2=true:=by
 have L:=CK hp hn hS h;unfold xH;rw[tE,oM,oM];refine⟨?_,?_,?_⟩
 ·unfold layB;rw[yR,oM];refine⟨?_,Ms L.rise⟩;rw[YS,oA];exact fun q hq=>Wn (L.all q hq)
 ·unfold hasB;refine oA.mpr fun p hp'=> ?_;have hp2:=sy.mp hp';rw[show(gO n).length=n from ydh]at hp2;unfold Ju;have a:=h.eno p hp2;have b:=wV (ss:=ss) h.pos h.yn (fun s=>decide (((p:Nat):Int)∈s)) ss.length;refine cX ?_;show(gO n).getD p 0*(ov:Int)<=Bj ov (((gZ ss ov Y).filter fun q=>decide (((p:Nat):Int)∈q.1)).map (·.2));unfold gZ;rw[b];unfold v9 at a;rw[QF];exact a
 ·have b:=wV (ss:=ss) h.pos h.yn (fun _=>true) ss.length;rw[List.filter_eq_self.mpr (fun _ _=>rfl)]at b;have b':Bj ov ((gZ ss ov Y).map (·.2))=Z:=by
   unfold gZ;rw[b,<-h.tot];exact Sx.bA _ fun k _=>aH rfl
  rw[b',(Kp Z h.pos).eq];exact cX (J4 _)
theorem fK.told{n:Nat}{ts:L0}{ss:List (List Int)}{ov:Nat}{Z:Int}{Y X:Nat->Int}{t:Int}{la pa:Addr}(hp:aO (n:Int) ts)(hn:n<=10)(hS:cR ss ts false n)(h:Sh n ss (gO n) ov Z Y X):fK ⟨n,ts,t,gZ ss ov Y,ov,bJ Z ov,vN n ov X,la,pa⟩:=
 ⟨Uq h,fun q hq=>by
  obtain⟨k,hk,rfl⟩:=oJ.mp (show q∈gZ ss ov Y from hq);exact N6 _ h.pos h.big,(CK hp hn hS h).len,⟨ss,ov,Z,Y,X,hS,h,rfl⟩,⟨ss,ov,Z,Y,X,hS,h,rfl,rfl⟩,Qf hp hn hS h⟩
theorem wj:∀{l m:L0},l.Pairwise jL->m.Pairwise jL->(∀p,p∈l↔p∈m)->l=m
 |[],[],_,_,_=>rfl
 |[],b::m,_,_,h=>nomatch (h b).mpr jG
 |a::l,[],_,_,h=>nomatch (h a).mp jG
 |a::l,b::m,hl,hm,h=>by
  obtain⟨l1,l2⟩:=YW.mp hl;obtain⟨m1,m2⟩:=YW.mp hm;have e:a=b:=by
   rcases cZ.mp ((h a).mp jG)with e|e
   ·exact e
   ·rcases cZ.mp ((h b).mpr jG)with e2|e2
    ·exact e2.symm
    ·exact absurd (jL.trans (m1 a e) (l1 b e2)) jL.Tv
  subst e;congr 1;refine wj l2 m2 fun p=>⟨fun hp=> ?_,fun hp=> ?_⟩
  ·rcases cZ.mp ((h p).mp (jW _ hp))with e|e
   ·exact absurd (e▸l1 p hp) jL.Tv
   ·exact e
  ·rcases cZ.mp ((h p).mpr (jW _ hp))with e|e
   ·exact absurd (e▸m1 p hp) jL.Tv
   ·exact e
theorem FQ{K:W.Frag}{H:Hp}{its:List (Addr×(Int×Int))}{its':List (Addr×List Int)}{n:Int}{t1 wb:Addr}(h0:0<=n)(h1:n<=10)(hq:aO n (its.map (·.2)))(hperm:its'.Perm (its.map fun p=>(p.1,pl p.2)))(pI:its'.Pairwise fun p q=>HT.lexLt q.2 p.2=false)(e3:∀p∈its,SqT K H p.1 ((pl p.2).map V.int))(zT:SqT K H wb [.int n,.ref t1])(ht1:SqT K H t1 (its'.map fun p=>V.ref p.1)):∃us,aQ K H wb n us/\us.Perm (its.map (·.2)):=by
 let un:List Int->Int×Int:=fun l=>(l.getD 0 0,l.getD 1 0);have back:∀p∈its',∃q∈its,p=(q.1,pl q.2):=fun p hp=>by
  obtain⟨q,hq,e⟩:=oJ.mp (hperm.mem_iff.mp hp);exact⟨q,hq,e.symm⟩
 have pts:(its'.map fun p=>un p.2).Perm (its.map (·.2)):=by
  have h1:=hperm.map (fun p:Addr×List Int=>un p.2);rw[v8]at h1;have h2:its.map ((fun p:Addr×List Int=>un p.2)∘fun p=>(p.1,pl p.2))=its.map (·.2):=rfl;rw[h2]at h1;exact h1
 have pok:=hq.perm pts;have aas:(its'.map fun p=>un p.2).Pairwise fun p q=>HT.lexLt (pl q) (pl p)=false:=by
  rw[U0];refine pI.imp_of_mem fun{x y} hx hy hxy=> ?_;obtain⟨qx,_,rfl⟩:=back x hx;obtain⟨qy,_,rfl⟩:=back y hy;exact hxy
 refine⟨its'.map fun p=>un p.2,⟨⟨t1,its'.map (fun p=>V.ref p.1),zT,ht1,?_⟩,h0,h1,pok,Bo h0 h1 pok aas⟩,pts⟩;have h1:=iR (K:=K) (H:=H) (its'.map fun p=>(p.1,un p.2)) (fun p hp=>by
  obtain⟨p',hp',rfl⟩:=oJ.mp hp;obtain⟨q',hq',rfl⟩:=back p' hp';exact e3 q' hq')
 have h2:(its'.map fun p=>(p.1,un p.2)).map (fun p=>V.ref p.1)=its'.map fun p=>V.ref p.1:=by rw[v8];rfl
 have h3:(its'.map fun p=>(p.1,un p.2)).map (·.2)=its'.map fun p=>un p.2:=by rw[v8];rfl
 rw[h2,h3]at h1;exact h1
section
variable{P:ξ}{w:τ}{K:W.Frag}{mg:L4}{base:Heap}
theorem tW(f:Str)(v:V):∀fs:List (Str×V),(putF f v fs).length<=fs.length+1
 |[]=>aW _
 |(g,x)::r=>by
  unfold putF;split
  ·exact Kq _
  ·exact wcn (tW f v r)
theorem Ux.same{C o dx wb va:Addr}{lr pr:List V}{H H':Hp}{S:Sd}(h:Ux K C H o dx wb va lr pr S)(e:Same H H'):Ux K C H' o dx wb va lr pr S:=by
 obtain⟨h1,h2,h3,h4,h5,h6,h7⟩:=h;exact⟨e _ _ h1,h2.same e,e.tup h3,e _ _ h4,h5.same e,e _ _ h6,h7.same e⟩
noncomputable def oV(K:W.Frag)(C:Addr):Sp:=fun vs H Q _=>∃(o dx wb tp va la pa:Addr) (fs:List (Str×V)),vs=[.ref o,.ref wb,.ref tp]/\H o=some (.ins C dx fs)/\fs.length<=5/\SqT K H tp [.ref va,.ref la,.ref pa]/\
 Q .non (upd H o (.ins C dx (putF "kept_prices" (.ref pa) (putF "kept_value" (.ref va) (putF "kept_web" (.ref wb) fs)))))
theorem Nb{f C:Addr}{fd:ρ}(F:Fun K "keep" "Sharing.keep" zcw f fd)
  (Na:uV K C):
  FnOk P w K mg base CX0 1 f fd ["self","web","told"] (oV K C):=by
 refine F.cQ ["self","web","told"] fun cdv A outer s H vs Q E hr h=> ?_;obtain⟨o,dx,wb,tp,va,la,pa,fs,rfl,hO,h5,hT,qq⟩:=h;refine bw ?_;intro Y;refine⟨_,(aJ (ps_fld (pv 0) (pv 1) rfl) (aJ (ps_fld (pv 0) (bf cW (pv 2) aq) rfl) (aP (ps_fld (pv 0) (bf cW (pv 2) aq) rfl)))),?_⟩;refine mF ?_;intro c3 c2;have l1:=tW "kept_web" (.ref wb) fs;have l2:=tW "kept_value" (.ref va) (putF "kept_web" (.ref wb) fs);refine⟨_,rfl,_,rfl,o,C,dx,fs,rfl,hO,Na.c,Na.wb,by omega,?_⟩;refine⟨_,rfl,tp,_,_,.ref va,rfl,rfl,SqT.Il hO hT,rfl,_,rfl,o,C,dx,_,rfl,au,Na.c,Na.va,by omega,?_⟩;refine⟨_,rfl,tp,_,_,.ref pa,rfl,rfl,SqT.Il au (SqT.Il hO hT),rfl,_,rfl,o,C,dx,_,rfl,au,Na.c,Na.pr,by omega,?_⟩;rw[upd_upd,upd_upd];exact qq
noncomputable def vm(S S':Sd)(H:Hp):Prop:=(S'.la=S.la\/H S'.la=none)/\H S'.pa=none/\((S'.t=S.t/\S'.l=S.l/\S'.D=S.D/\xH S'.n S'.ts (gO S'.n.toNat) S.D (S.l.map jJ) S'.f.1 S'.f.2=true)\/(S'.t=S.t+1/\xH S'.n S'.ts (gO S'.n.toNat) S.D (S.l.map jJ) S'.f.1 S'.f.2=false))
noncomputable def oU(K:W.Frag)(C:Addr):Sp:=fun vs H Q _=>∃(o wb:Addr) (S:Sd) (n:Int) (ts:L0),vs=[.ref o,.ref wb]/\cL K C H o S/\fK S/\aQ K H wb n ts/\
 ∀S' H',aA o H H'->cL K C H' o S'->fK S'->S'.n=n->S'.ts=ts->vm S S' H->Q .non H'
theorem M9{f f1 f2 f3 f4 C:Addr}{fd d1 d2 d3 d4:ρ}(F:Fun K "move_to" "Sharing.move_to" YQ f fd)
  (Na:uV K C)(D1:bK K mg "shares" o7 ["web","wants"] f1 d1)(G1:FnOk P w K mg base CX0 9 f1 d1 ["web","wants"] (tG K))(D2:bK K mg "ones_for" jk ["web"] f2 d2)(G2:FnOk P w K mg base CX0 1 f2 d2 ["web"] (Bv K))(D3:bK K mg "is_enough" j7 ["web","wants","laying","number"] f3 d3)(G3:FnOk P w K mg base CX0 9 f3 d3 ["web","wants","laying","number"] (Ly K))(D4:jU K C "keep" "Sharing.keep" zcw ["self","web","told"] f4 d4)(G4':FnOk P w K mg base CX0 1 f4 d4 ["self","web","told"] (oV K C)):
  FnOk P w K mg base CX0 11 f fd ["self","web"] (oU K C):=by
 have G4:FnOk P w K mg base CX0 10 f4 d4 ["self","web","told"] (oV K C):=G4'.mono (by decide);refine F.cQ ["self","web","told"] fun cdv A outer s H vs Q E hr h=> ?_;obtain⟨o,wb,S,n,ts,rfl,hS,hok,hW,qq⟩:=h;refine bw ?_;intro Y;refine⟨_,(aJ (pS 2 (pc G1 hr D1 (aj (pv 1) (aj (pc G2 hr D2 (aj (pv 1) ak)) ak)))) (aJ (dN (rH (qd (pc G3 hr D3 (aj (pv 1) (aj (pc G2 hr D2 (aj (pv 1) ak)) (aj (dB (pv 0) rfl) (aj (bf cW (pv 2) aq) ak))))))) (aJ (ps_fld (pv 0) (bf cW (pv 2) aq) rfl) (aP (ps_fldaug (pv 0) aq in_add))) dW) (aP (iG (qj (pv 0) Na.c D4.m G4 hr D4.b .nil pass0 (aj (pv 1) (aj (pv 2) ak))))))),?_⟩;refine mF ?_;intro c3 c2;obtain⟨m,rfl⟩:=wca hW.h0;have h0:=hW.h0;have h1:=hW.h1;have hp:aO ((m:Nat):Int) ts:=hW.pk;obtain⟨t0,QM,w1,_,_⟩:=id hW.web;obtain⟨dx,wb0,va0,lr0,pr0,A⟩:=id hS;refine⟨_,rfl,_,rfl,wb,_,_,rfl,w1,h0,h1,fun wa H1 s1 hwa=> ?_⟩;have A1:=A.same s1;refine⟨wb,wa,_,ts,gO m,rfl,hW.same s1,hwa,ql h0,fun tp va la pa lr pr ss ov Z Y X H2 s2 e1 e2 e3 e4 e5 e6 hSo hSh nl np nlp=> ?_⟩;have nlo:la≠o:=bZ A1.at_ nl;have npo:pa≠o:=bZ A1.at_ np;have nl0:=s1.free nl;have np0:=s1.free np;have Pj:cR ss ts false m:=hSo;have Ds:Sh m ss (gO m) ov Z Y X:=hSh;have s12:=s1.trans s2;refine⟨_,rfl,_,rfl,wb,_,_,rfl,s12.tup w1,h0,h1,fun wa2 H3 s3 abO=> ?_⟩;have A3:=(A.same s12).same s3;have qZ:=s12.trans s3;have lf:=Kp Z Ds.pos;have big:=Ds.big;refine⟨_,rfl,o,C,dx,_,_,rfl,A3.at_,Na.c,Na.la,rfl,_,rfl,tp,_,_,.ref va,rfl,rfl,SqT.of (s3 _ _ e1),rfl,?_⟩;refine⟨wb,wa2,S.la,va,_,ts,gO m,lr0,S.l.map jJ,S.D,(bJ Z ov).1,(bJ Z ov).2,rfl,hW.same qZ,abO,ql h0,SqL.of A3.lay,Oe A3.lv,?_,s3.tup e2,?_,(fun _=>by rw[tE];exact hok.dok),fun H4 s4=>⟨_,rfl,?_⟩⟩
 ·have:=Z1 A3.lv;have:=hok.len;omega
 ·have:=lf.lv;omega
 have A4:=A3.same s4;have Iz:=qZ.trans s4;have W4:=hW.same Iz;have BW:=s3.trans s4;have T4:SqT K H4 tp [.ref va,.ref la,.ref pa]:=SqT.of (BW _ _ e1);have x5:∀u,aA o H4 (upd H4 o u):=fun u=>(aA.refl _ _).upd;have pan:∀u,(upd H4 o u) pa=some (.lst pr):=fun u=>by rw[cG npo];exact BW _ _ e5
 have lao:S.la≠o:=fun z=>by have a:=A4.lay;rw[z,A4.at_]at a;cases a
 cases hb:xH ((m:Nat):Int) ts (gO m) S.D (S.l.map jJ) (bJ Z ov).1 (bJ Z ov).2 with
 |true=>
  refine iteF ?_;refine⟨_,rfl,o,dx,_,rfl,A4.at_,rfl,_,rfl,_,rfl,o,dx,wb,tp,va,la,pa,_,rfl,A4.at_,(by show 5<=5;decide),T4,?_⟩;have k:TK K H4 (upd H4 o (.ins C dx (yQ (.ref S.la) (.int S.t) (.ref wb) (.ref va) (.ref pa)))):=(x5 _).tkI A4.at_;refine qq ⟨m,ts,S.t,S.l,S.D,bJ Z ov,vN m ov X,S.la,pa⟩ _ ((Iz.x o).trans (x5 _)) ⟨dx,wb,va,lr0,pr,au,W4.tk k,k _ _ (BW.tup e2),?_,A4.lv.tk k,pan _,(e6.same BW).tk k⟩ ⟨hok.dok,hok.low,hok.len,⟨ss,ov,Z,Y,X,Pj,Ds,rfl⟩,⟨ss,ov,Z,Y,X,Pj,Ds,rfl,rfl⟩,hb⟩ rfl rfl ⟨.inl rfl,np0,.inl ⟨rfl,rfl,rfl,hb⟩⟩;show(upd H4 o _) S.la=_;rw[cG lao];exact A4.lay
 |false=>
  refine iteT ?_;refine⟨_,rfl,tp,_,_,.ref la,rfl,rfl,T4,rfl,_,rfl,o,C,dx,_,rfl,A4.at_,Na.c,Na.la,(by show 5<1000;decide),?_⟩;refine⟨_,rfl,o,C,dx,_,_,rfl,au,Na.c,Na.ti,rfl,_,_,rfl,rfl,dx,_,au,(by show 5<1000;decide),?_⟩;rw[upd_upd];refine⟨_,rfl,o,dx,_,rfl,au,rfl,_,rfl,_,rfl,o,dx,wb,tp,va,la,pa,_,rfl,au,(by show 5<=5;decide),SqT.Il A4.at_ T4,?_⟩;rw[upd_upd];have k:TK K H4 (upd H4 o (.ins C dx (yQ (.ref la) (.int (S.t+1)) (.ref wb) (.ref va) (.ref pa)))):=(x5 _).tkI A4.at_;refine qq ⟨m,ts,S.t+1,gZ ss ov Y,ov,bJ Z ov,vN m ov X,la,pa⟩ _ ((Iz.x o).trans (x5 _)) ⟨dx,wb,va,lr,pr,au,W4.tk k,k _ _ (BW.tup e2),?_,(e4.same BW).tk k,pan _,(e6.same BW).tk k⟩ (fK.told hp (by omega) Pj Ds) rfl rfl ⟨.inr nl0,np0,.inr ⟨rfl,hb⟩⟩;show(upd H4 o _) la=_;rw[cG nlo];exact BW _ _ e3
noncomputable def Bu(K:W.Frag)(C:Addr):Sp:=fun vs H Q _=>∃(o dx wb:Addr) (n:Int) (ts:L0),vs=[.ref o,.ref wb]/\H o=some (.ins C dx [])/\aQ K H wb n ts/\
 ∀S H',aA o H H'->cL K C H' o S->fK S->S.n=n->S.ts=ts->S.t=0->H S.la=none->H S.pa=none->Q .non H'
theorem SQ{f f1 f2 f3 f4 C:Addr}{fd d1 d2 d3 d4:ρ}(F:Fun K "__init__" "Sharing.__init__" Zu f fd)
  (Na:uV K C)(D1:bK K mg "need_web" Q8 ["thing"] f1 d1)(G1:FnOk P w K mg base CX0 7 f1 d1 ["thing"] (fO K))(D2:bK K mg "shares" o7 ["web","wants"] f2 d2)(G2:FnOk P w K mg base CX0 9 f2 d2 ["web","wants"] (tG K))(D3:bK K mg "ones_for" jk ["web"] f3 d3)(G3:FnOk P w K mg base CX0 1 f3 d3 ["web"] (Bv K))(D4:jU K C "keep" "Sharing.keep" zcw ["self","web","told"] f4 d4)(G4':FnOk P w K mg base CX0 1 f4 d4 ["self","web","told"] (oV K C)):
  FnOk P w K mg base CX0 12 f fd ["self","web"] (Bu K C):=by
 have G4:FnOk P w K mg base CX0 11 f4 d4 ["self","web","told"] (oV K C):=G4'.mono (by decide);refine F.cQ ["self","web","told"] fun cdv A outer s H vs Q E hr h=> ?_;obtain⟨o,dx,wb,n,ts,rfl,hO,hW,qq⟩:=h;refine bw ?_;intro Y;refine⟨_,(aJ (iG (pc G1 hr D1 (aj (pv 1) ak))) (aJ (pS 2 (pc G2 hr D2 (aj (pv 1) (aj (pc G3 hr D3 (aj (pv 1) ak)) ak)))) (aJ (ps_fld (pv 0) (bf cW (pv 2) aq) rfl) (aJ (ps_fld (pv 0) aq rfl) (aP (iG (qj (pv 0) Na.c D4.m G4 hr D4.b .nil pass0 (aj (pv 1) (aj (pv 2) ak))))))))),?_⟩;refine Hl ?_;intro c5 c4 c3 c2;obtain⟨m,rfl⟩:=wca hW.h0;have h0:=hW.h0;have h1:=hW.h1;have hp:aO ((m:Nat):Int) ts:=hW.pk;obtain⟨t0,QM,w1,_,_⟩:=id hW.web;refine⟨_,rfl,.ref wb,_,rfl,hW.web.dv.dx,hW.ok,fun H0 s0=> ?_⟩;refine⟨_,rfl,_,rfl,wb,_,_,rfl,s0.tup w1,h0,h1,fun wa H1 s1' hwa=> ?_⟩;have s1:=s0.trans s1';refine⟨wb,wa,_,ts,gO m,rfl,hW.same s1,hwa,ql h0,fun tp va la pa lr pr ss ov Z Y X H2 s2 e1 e2 e3 e4 e5 e6 hSo hSh nl np nlp=> ?_⟩;have nlo:la≠o:=bZ (s1 _ _ hO) nl;have npo:pa≠o:=bZ (s1 _ _ hO) np;have Pj:cR ss ts false m:=hSo;have Ds:Sh m ss (gO m) ov Z Y X:=hSh;have s12:=s1.trans s2;have hO2:=s12 _ _ hO;have T2:SqT K H2 tp [.ref va,.ref la,.ref pa]:=SqT.of e1;refine⟨_,rfl,tp,_,_,.ref la,rfl,rfl,T2,rfl,_,rfl,o,C,dx,_,rfl,hO2,Na.c,Na.la,(by show 0<1000;decide),?_⟩;refine⟨_,rfl,o,C,dx,_,rfl,au,Na.c,Na.ti,(by show 1<1000;decide),?_⟩;rw[upd_upd];refine⟨_,rfl,o,dx,_,rfl,au,rfl,_,rfl,_,rfl,o,dx,wb,tp,va,la,pa,_,rfl,au,(by show 2<=5;decide),SqT.Il hO2 T2,?_⟩;rw[upd_upd];have x5:aA o H2 (upd H2 o (.ins C dx (yQ (.ref la) (.int 0) (.ref wb) (.ref va) (.ref pa)))):=(aA.refl _ _).upd;have k:TK K H2 (upd H2 o (.ins C dx (yQ (.ref la) (.int 0) (.ref wb) (.ref va) (.ref pa)))):=x5.tkI hO2;refine qq ⟨m,ts,0,gZ ss ov Y,ov,bJ Z ov,vN m ov X,la,pa⟩ _ ((s12.x o).trans x5) ⟨dx,wb,va,lr,pr,au,(hW.same s12).tk k,k _ _ e2,?_,e4.tk k,?_,e6.tk k⟩ (fK.told hp (by omega) Pj Ds) rfl rfl rfl (s1.free nl) (s1.free np)
 ·show(upd H2 o _) la=_;rw[cG nlo];exact e3
 ·show(upd H2 o _) pa=_;rw[cG npo];exact e5
theorem vm.back{S S':Sd}{H H1:Hp}(e:Same H H1)(h:vm S S' H1):vm S S' H:=⟨h.1.imp id e.free,e.free h.2.1,h.2.2⟩
theorem wg{n:Int}{ts:L0}(h0:0<=n)(h1:n<=10)(hs:ts.Pairwise jL)(hl:∀p∈ts,0<=p.1/\p.1<p.2/\p.2<n):aO n ts/\Ao n ts:=by
 have ho:aO n ts:=⟨qw hs,hl⟩;exact⟨ho,Bo h0 h1 ho (hs.imp GR)⟩
theorem yG{n i:Nat}(h:i<n):(upto n).getD i 0=(i:Int):=by
 unfold upto;rw[oK,fu,YZ h];rfl
theorem KD(n:Nat):(upto n).length=n:=by unfold upto;rw[aM,yx]
theorem Ir(n:Nat):dX n=(upto n).map V.int:=by unfold dX upto;rw[v8];rfl
theorem Ql{n:Int}{ts:L0}(hp:aO n ts)(hs:ts.Pairwise jL)(k:Nat):rows (Wm (upto k) ts) (k:Int) k=ts.filter fun p=>decide (p.2<(k:Int)):=by
 refine wj (VL _ _ _) (hs.filter _) fun p=> ?_;rw[QZ,gP,wcb];have key:0<=p.1->p.1<p.2->p.2<(k:Int)->(Wm (upto k) ts p.1 p.2=true↔p∈ts):=fun a b c=>by
  unfold Wm kJ;rw[yG (show p.1.toNat<k by omega),yG (show p.2.toNat<k by omega),wcy a,wcy (by omega),aB (by omega),aH (by omega),wcb]
 refine⟨fun⟨a,b,c,d,e⟩=>⟨(key a c d).mp e,d⟩,fun⟨a,b⟩=> ?_⟩;obtain⟨c,d,e⟩:=hp.lt p a;exact⟨c,by omega,d,b,(key c d b).mpr a⟩
noncomputable def ji(K:W.Frag)(C:Addr):Sp:=fun vs H Q _=>∃(o:Addr) (i j:Int) (S:Sd),vs=[.ref o,.int i,.int j]/\cL K C H o S/\0<=i/\i<S.n/\0<=j/\j<S.n/\i≠j/\Q .non H
theorem Sy{f f1 C:Addr}{fd d1:ρ}(F:Fun K "need_two" "Sharing.need_two" VP f fd)
  (Na:uV K C)(D1:bK K mg "need_place" Zo ["web","thing"] f1 d1)(G1:FnOk P w K mg base CX0 3 f1 d1 ["web","thing"] (j4 K)):
  FnOk P w K mg base CX0 4 f fd ["self","one","other"] (ji K C):=by
 refine F.cQ ["self","one","other"] fun cdv A outer s H vs Q E hr h=> ?_;obtain⟨o,i,j,S,rfl,hS,i0,i1,j0,j1,ne,qq⟩:=h;refine bw ?_;intro Y;refine⟨_,(aJ (iG (pc G1 hr D1 (aj (dB (pv 0) rfl) (aj (pv 1) ak)))) (aJ (iG (pc G1 hr D1 (aj (dB (pv 0) rfl) (aj (pv 2) ak)))) (aP (dN (dg op_eq (pv 1) (pv 2)) vG dW)))),?_⟩;refine mF ?_;intro c3 c2;obtain⟨dx,wb,va,lr,pr,A⟩:=id hS;obtain⟨t0,QM,w1,_,_⟩:=id A.web.web;refine⟨_,rfl,o,C,dx,_,_,rfl,A.at_,Na.c,Na.wb,rfl,_,rfl,wb,S.n,i,_,rfl,w1,i0,i1,?_⟩;refine⟨_,rfl,o,C,dx,_,_,rfl,A.at_,Na.c,Na.wb,rfl,_,rfl,wb,S.n,j,_,rfl,w1,j0,j1,?_⟩;refine⟨_,rfl,_,rfl,rfl,_,rfl,?_⟩;rw[lV (show¬V.int i=V.int j from fun e=>ne (V.int.inj e))];exact iteF qq
noncomputable def putL(n:Int)(xs:List Int):L0:=xs.map fun x=>(x,n)
theorem Mw{n:Int}{ts:L0}{xs:List Int}(h:aO n ts)(hx:cg n xs):aO (n+1) (ts++putL n xs):=by
 have lt:∀p∈putL n xs,0<=p.1/\p.1<n/\p.2=n:=fun p hp=>by
  obtain⟨x,hx',rfl⟩:=oJ.mp hp;have:=hx.lt x hx';exact⟨this.1,this.2,rfl⟩
 refine⟨List.nodup_append.mpr ⟨h.nd,?_,fun x hx y hy e=> ?_⟩,fun p hp=> ?_⟩
 ·refine U0.mpr (hx.FW.imp fun{a b} hab e=> ?_);have:=(Prod.mk.inj e).1;omega
 ·have a1:=h.lt x hx;have a2:=lt y hy;rw[e]at a1;omega
 ·rcases qg.mp hp with z|z
  ·have:=h.lt p z;omega
  ·have:=lt p z;omega
noncomputable def Lj(K:W.Frag)(C:Addr):Sp:=fun vs H Q _=>∃(o sa:Addr) (S:Sd) (xs:List Int),vs=[.ref o,.ref sa]/\cL K C H o S/\fK S/\SqT K H sa (xs.map V.int)/\cg S.n xs/\S.n<10/\
 ∀S' H',aA o H H'->cL K C H' o S'->fK S'->S'.n=S.n+1->S'.ts.Perm (S.ts++putL S.n xs)->vm S S' H->Q (.int S.n) H'
theorem SM{f f1 f2 f3 C:Addr}{fd d1 d2 d3:ρ}(F:Fun K "put" "Sharing.put" Zq f fd)
  (Na:uV K C)(D1:bK K mg "need_set" YL ["web","thing"] f1 d1)(JR:FnOk P w K mg base CX0 5 f1 d1 ["web","thing"] (iI K))(D2:bK K mg "need_few" gk ["n"] f2 d2)(G2':FnOk P w K mg base CX0 1 f2 d2 ["n"] (qm K))(D3:jU K C "move_to" "Sharing.move_to" YQ ["self","web"] f3 d3)(G3:FnOk P w K mg base CX0 11 f3 d3 ["self","web"] (oU K C))(aR:mg "tuple"=none)(dR:mg "sorted"=none)(eX:mg "list"=none):
  FnOk P w K mg base CX0 12 f fd ["self","ties"] (Lj K C):=by
 have G1:FnOk P w K mg base CX0 11 f1 d1 ["web","thing"] (iI K):=JR.mono (by decide);have G2:FnOk P w K mg base CX0 11 f2 d2 ["n"] (qm K):=G2'.mono (by decide);refine F.cQ ["self","ties","n","added"] fun cdv A outer s H vs Q E hr h=> ?_;obtain⟨o,sa,S,xs,rfl,hS,hok,hX,hx,h9,qq⟩:=h;refine bw ?_;intro Y;refine⟨_,(aJ (iG (pc G1 hr D1 (aj (dB (pv 0) rfl) (aj (pv 1) ak)))) (aJ (pS 2 (bf cW (dB (pv 0) rfl) aq)) (aJ (iG (pc G2 hr D2 (aj (bB mQ (pv 2) aq) ak))) (aJ (pX 3 ["place"] ["n"] [2] (JX (pv 1)) (pG 0) sX (fV (aj (pv 0) (aj (pv 1) ak)))) (aJ (iG (qj (pv 0) Na.c D3.m G3 hr D3.b .nil pass0 (aj (fV (aj (bB mQ (pv 2) aq) (aj (pT J3 aR (aj (pB jz dR (aj (bB op_cat (pT call_list_of eX (aj (bf cW (dB (pv 0) rfl) aq) ak)) (pv 3)) ak)) ak)) ak))) ak))) (aP (bO (pv 2)))))))),?_⟩;refine Vw ?_;intro c6 c5 c4 c3 c2;obtain⟨dx,wb,va,lr,pr,A⟩:=id hS;have h0:=A.web.h0;have h10:=A.web.h1;have h45:=A.web.len;have hxl:=hx.len h10;obtain⟨t0,QM,w1,_,_⟩:=id A.web.web;refine⟨_,rfl,o,C,dx,_,_,rfl,A.at_,Na.c,Na.wb,rfl,_,rfl,wb,S.n,_,_,_,rfl,w1,(DV.tup hX (cJ.ints xs)).dx,hx.dZ,fun H1 s1=> ?_⟩;have A1:=A.same s1;refine⟨_,rfl,o,C,dx,_,_,rfl,A1.at_,Na.c,Na.wb,rfl,wb,_,_,.int S.n,rfl,rfl,s1.tup w1,rfl,?_⟩;refine⟨_,rfl,_,_,rfl,rfl,_,rfl,by omega,?_⟩;have hX1:=s1.tup hX;refine⟨_,rfl,sa,_,rfl,hX1,fun hz=> ?_⟩;let jR:Nat->List V->St->Hp->Prop:=fun i acc σ H'=>Same H1 H'/\cJ K H' acc ((putL S.n (xs.take i)).map pairD)/\∃o,σ=[o,some (.int S.n)];refine JZ (xs:=xs.map V.int) jR ⟨Same.refl _,.nil,_,rfl⟩ (fun i acc σ H' _ p=>p.1.tup hX1) (fun i acc σ H' hi p=> ?_) hz (fun i x acc σ H' hx' p=> ?_) (fun acc σ H' p=> ?_)
 ·have:=p.2.1.len;unfold putL at this;rw[aM,aM,yw]at this;omega
 ·obtain⟨sm,hd,o',rfl⟩:=p;rw[fu]at hx';cases ex:xs[i]? with
  |none=>rw[ex]at hx';cases hx'
  |some x0=>
   rw[ex]at hx';cases hx';refine⟨_,rfl,_,rfl,(by show 2<=sizeLine;decide),fun q2 hq2=> ?_⟩;have n2:=aK hq2 (.tup [.int x0,.int S.n]);refine⟨sm.trans n2,?_,_,rfl⟩;have e:putL S.n (xs.take (i+1))=putL S.n (xs.take i)++[(x0,S.n)]:=by unfold putL;rw[Fq,ex,cU];rfl
   rw[e,cU];exact(hd.same n2).append (.cons (.tup (SqT.of au) (.cons (.int _) (.cons (.int _) .nil))) .nil)
 ·intro p1 hp1;obtain⟨sm,hd,_⟩:=p;rw[aM,yt]at hd;have n1:=aK hp1 (.lst acc);have hacc:(upd H' p1 (.lst acc)) p1=some (.lst acc):=au;have hd1:=hd.same n1;have s2:=s1.trans (sm.trans n1);generalize (upd H' p1 (.lst acc))=G1 at *;have A2:=A.same s2;obtain⟨tt,rr,w1,w2,w3⟩:=id A2.web.web;obtain⟨its,rfl,lW,w4⟩:=iY w3;obtain⟨jq,ejq,ejs,jqT⟩:=iY hd1;have lits:its.length=S.ts.length:=by rw[<-lW,aM]
  have ljq:jq.length=xs.length:=by
   have:=jX List.length ejs;unfold putL at this;rw[aM,aM]at this;exact this
  refine⟨_,rfl,o,dx,_,rfl,A2.at_,rfl,_,rfl,_,_,rfl,rfl,?_⟩;refine⟨_,rfl,o,C,dx,_,_,rfl,A2.at_,Na.c,Na.wb,rfl,wb,_,_,.ref tt,rfl,rfl,w1,rfl,tt,_,rfl,.inr w2,fun l2 hl2=> ?_⟩;have n2:=aK hl2 (.lst (its.map fun p=>V.ref p.1));refine⟨_,rfl,l2,p1,_,_,rfl,rfl,au,n2 _ _ hacc,by rw[ejq,aM,aM,fZ];omega,fun l3 hl3=> ?_⟩;have n3:=aK hl3 (.lst ((its.map fun p=>V.ref p.1)++acc));have Pb:(upd (upd G1 l2 (.lst (its.map fun p=>V.ref p.1))) l3 (.lst ((its.map fun p=>V.ref p.1)++acc))) l3=some (.lst ((its++jq).map fun p=>V.ref p.1)):=by rw[au,ejq,cU]
  have n23:=n2.trans n3;generalize (upd (upd G1 l2 (.lst (its.map fun p=>V.ref p.1))) l3 (.lst ((its.map fun p=>V.ref p.1)++acc)))=G2 at *;have jT:∀p∈its++jq,SqT K G2 p.1 ((pl p.2).map V.int):=fun p hp'=>by
   rcases qg.mp hp' with z|z
   ·exact n23.tup (w4 p z)
   ·exact n23.tup (jqT p z)
  have QW:((its++jq).map (·.2))=S.ts++putL S.n xs:=by rw[cU,lW,ejs]
  have hq2:aO (S.n+1) ((its++jq).map (·.2)):=by
   rw[QW];exact Mw A.web.pk hx
  have ejl:(its++jq).length<=55:=by rw[rJ];omega
  generalize its++jq=jts at *;refine⟨l3,jts.map (fun p=>(p.1,pl p.2)),rfl,by rw[v8];exact SqL.of Pb,fun p hp'=> ?_,by rw[aM];omega,fun l4 its' TJ hperm pI=> ?_⟩
  ·obtain⟨p',hp'',rfl⟩:=oJ.mp hp';exact⟨jT p' hp'',by unfold pl;simp⟩
  have n4:=aK TJ (.lst (its'.map fun p=>V.ref p.1));refine⟨l4,_,rfl,.inl ⟨SqL.of au,fun t1 ht1=>⟨(by show 2<=sizeLine;decide),fun wk zT=> ?_⟩⟩⟩;have n5:=aK ht1 (.tup (its'.map fun p=>V.ref p.1));have n6:=aK zT (.tup [.int (S.n+1),.ref t1]);have n46:=n4.trans (n5.trans n6);obtain⟨us,W,Mv⟩:=FQ (K:=K) (n:=S.n+1) (by omega) (by omega) hq2 hperm pI (fun p hp'=>n46.tup (jT p hp')) (SqT.of au) (SqT.of (n6 _ _ au));rw[QW]at Mv;have n26:=s2.trans (n23.trans n46);refine⟨o,wk,S,S.n+1,us,rfl,hS.same n26,hok,W,fun S' H' x' hS' hok' en et hw=>⟨_,rfl,?_⟩⟩;exact qq S' H' ((n26.x o).trans x') hS' hok' en (by rw[et];exact Mv) (hw.back n26)
noncomputable def Li(K:W.Frag)(C:Addr):Sp:=fun vs H Q _=>∃(o:Addr) (i j:Int) (S:Sd),vs=[.ref o,.int i,.int j]/\cL K C H o S/\fK S/\0<=i/\i<S.n/\0<=j/\j<S.n/\i≠j/\(lo2 i j,hi2 i j)∉S.ts/\
 ∀S' H',aA o H H'->cL K C H' o S'->fK S'->S'.n=S.n->S'.ts.Perm (S.ts++[(lo2 i j,hi2 i j)])->vm S S' H->Q .non H'
theorem aaA{i j n:Int}(i0:0<=i)(i1:i<n)(j0:0<=j)(j1:j<n)(ne:i≠j):0<=lo2 i j/\lo2 i j<hi2 i j/\hi2 i j<n:=by
 unfold lo2 hi2;split<;>split<;>omega
theorem SJ{f f1 f2 f3 f4 C:Addr}{fd d1 d2 d3 d4:ρ}(F:Fun K "tie" "Sharing.tie" Zr f fd)
  (Na:uV K C)(D1:jU K C "need_two" "Sharing.need_two" VP ["self","one","other"] f1 d1)(JR:FnOk P w K mg base CX0 4 f1 d1 ["self","one","other"] (ji K C))(D2:bK K mg "has_tie" UJ ["web","one","other"] f2 d2)(G2':FnOk P w K mg base CX0 1 f2 d2 ["web","one","other"] (qX K))(D3:bK K mg "as_tie" o9 ["one","other"] f3 d3)(G3:FnOk P w K mg base CX0 1 f3 d3 ["one","other"] (LK K))(D4:jU K C "move_to" "Sharing.move_to" YQ ["self","web"] f4 d4)(G4:FnOk P w K mg base CX0 11 f4 d4 ["self","web"] (oU K C))(eX:mg "list"=none)(aR:mg "tuple"=none)(dR:mg "sorted"=none):
  FnOk P w K mg base CX0 12 f fd ["self","one","other"] (Li K C):=by
 have G1:FnOk P w K mg base CX0 11 f1 d1 ["self","one","other"] (ji K C):=JR.mono (by decide);have G2:FnOk P w K mg base CX0 11 f2 d2 ["web","one","other"] (qX K):=G2'.mono (by decide);refine F.cQ ["self","one","other","ties"] fun cdv A outer s H vs Q E hr h=> ?_;obtain⟨o,i,j,S,rfl,hS,hok,i0,i1,j0,j1,ne,ht,qq⟩:=h;refine bw ?_;intro Y;refine⟨_,(aJ (iG (qj (pv 0) Na.c D1.m G1 hr D1.b .nil pass0 (aj (pv 1) (aj (pv 2) ak)))) (aJ (dN (qd (pc G2 hr D2 (aj (dB (pv 0) rfl) (aj (pv 1) (aj (pv 2) ak))))) vG dW) (aJ (pS 3 (bB op_cat (pT call_list_of eX (aj (bf cW (dB (pv 0) rfl) aq) ak)) (uQ (aj (pc G3 hr D3 (aj (pv 1) (aj (pv 2) ak))) ak)))) (aP (iG (qj (pv 0) Na.c D4.m G4 hr D4.b .nil pass0 (aj (fV (aj (bf cW (dB (pv 0) rfl) aq) (aj (pT J3 aR (aj (pB jz dR (aj (pv 3) ak)) ak)) ak))) ak))))))),?_⟩;refine uD ?_;intro c4 c3 c2;obtain⟨dx,wb,va,lr,pr,A⟩:=id hS;have h0:=A.web.h0;have h10:=A.web.h1;have h45:=A.web.len;refine⟨_,rfl,o,dx,_,rfl,A.at_,rfl,_,rfl,_,rfl,o,i,j,S,rfl,hS,i0,i1,j0,j1,ne,?_⟩;refine⟨_,rfl,o,C,dx,_,_,rfl,A.at_,Na.c,Na.wb,rfl,_,rfl,_,rfl,wb,S.n,i,j,S.ts,rfl,A.web.web,fun H1 s1=>⟨_,rfl,?_⟩⟩;rw[show kJ S.ts i j=false from lV ht];refine iteF ?_;have A1:=A.same s1;obtain⟨tt,rr,w1,w2,w3⟩:=id A1.web.web;obtain⟨its,rfl,lW,w4⟩:=iY w3;have lits:its.length=S.ts.length:=by rw[<-lW,aM]
 refine⟨_,rfl,o,C,dx,_,_,rfl,A1.at_,Na.c,Na.wb,rfl,wb,_,_,.ref tt,rfl,rfl,w1,rfl,tt,_,rfl,.inr w2,fun l2 hl2=> ?_⟩;have n2:=aK hl2 (.lst (its.map fun p=>V.ref p.1));refine⟨_,rfl,_,rfl,i,j,rfl,fun r H2 s2 hr2=>⟨(by show 1<=sizeLine;decide),fun l5 XJ=> ?_⟩⟩;have n5:=aK XJ (.lst [.ref r]);have hr5:=n5.tup hr2;have n25:=s2.trans n5;refine⟨l2,l5,_,_,rfl,rfl,n25 _ _ au,au,by rw[aM,fZ];show _+1<=_;omega,fun l3 hl3=> ?_⟩;have n3:=aK hl3 (.lst ((its.map fun p=>V.ref p.1)++[.ref r]));have Pb:(upd (upd H2 l5 (.lst [.ref r])) l3 (.lst ((its.map fun p=>V.ref p.1)++[.ref r]))) l3=some (.lst ((its++[(r,(lo2 i j,hi2 i j))]).map fun p=>V.ref p.1)):=by rw[au,cU];rfl
 have n23:=n2.trans (n25.trans n3);have Zb:=n3.tup hr5;generalize (upd (upd H2 l5 (.lst [.ref r])) l3 (.lst ((its.map fun p=>V.ref p.1)++[.ref r])))=G2 at *;have jT:∀p∈its++[(r,(lo2 i j,hi2 i j))],SqT K G2 p.1 ((pl p.2).map V.int):=fun p hp'=>by
  rcases qg.mp hp' with z|z
  ·exact n23.tup (w4 p z)
  ·rw[oE.mp z];exact Zb
 have QW:((its++[(r,(lo2 i j,hi2 i j))]).map (·.2))=S.ts++[(lo2 i j,hi2 i j)]:=by rw[cU,lW];rfl
 have hq2:aO S.n ((its++[(r,(lo2 i j,hi2 i j))]).map (·.2)):=by
  rw[QW];refine⟨List.nodup_append.mpr ⟨A.web.pk.nd,Y0 _ _,fun x hx y hy e=> ?_⟩,fun p hp=> ?_⟩
  ·rw[e,oE.mp hy]at hx;exact ht hx
  ·rcases qg.mp hp with z|z
   ·exact A.web.pk.lt p z
   ·rw[oE.mp z];exact aaA i0 i1 j0 j1 ne
 have ejl:(its++[(r,(lo2 i j,hi2 i j))]).length<=55:=by rw[rJ];show _+1<=_;omega
 generalize its++[(r,(lo2 i j,hi2 i j))]=jts at *;have A3:=A1.same n23;obtain⟨t3,r3,x1,x2,x3⟩:=id A3.web.web;refine⟨_,rfl,o,dx,_,rfl,A3.at_,rfl,_,rfl,o,C,dx,_,_,rfl,A3.at_,Na.c,Na.wb,rfl,wb,_,_,.int S.n,rfl,rfl,x1,rfl,?_⟩;refine⟨_,rfl,l3,jts.map (fun p=>(p.1,pl p.2)),rfl,by rw[v8];exact SqL.of Pb,fun p hp'=> ?_,by rw[aM];omega,fun l4 its' TJ hperm pI=> ?_⟩
 ·obtain⟨p',hp'',rfl⟩:=oJ.mp hp';exact⟨jT p' hp'',by unfold pl;simp⟩
 have n4:=aK TJ (.lst (its'.map fun p=>V.ref p.1));refine⟨l4,_,rfl,.inl ⟨SqL.of au,fun t1 ht1=>⟨(by show 2<=sizeLine;decide),fun wk zT=> ?_⟩⟩⟩;have n5:=aK ht1 (.tup (its'.map fun p=>V.ref p.1));have n6:=aK zT (.tup [.int S.n,.ref t1]);have n46:=n4.trans (n5.trans n6);obtain⟨us,W,Mv⟩:=FQ (K:=K) (n:=S.n) h0 h10 hq2 hperm pI (fun p hp'=>n46.tup (jT p hp')) (SqT.of au) (SqT.of (n6 _ _ au));rw[QW]at Mv;have n26:=s1.trans (n23.trans n46);refine⟨o,wk,S,S.n,us,rfl,hS.same n26,hok,W,fun S' H' x' hS' hok' en et hw=> ?_⟩;exact qq S' H' ((n26.x o).trans x') hS' hok' en (by rw[et];exact Mv) (hw.back n26)
noncomputable def Lh(K:W.Frag)(C:Addr):Sp:=fun vs H Q _=>∃(o:Addr) (i j:Int) (S:Sd),vs=[.ref o,.int i,.int j]/\cL K C H o S/\fK S/\0<=i/\i<S.n/\0<=j/\j<S.n/\i≠j/\(lo2 i j,hi2 i j)∈S.ts/\
 ∀S' H',aA o H H'->cL K C H' o S'->fK S'->S'.n=S.n->S'.ts=(S.ts.filter fun p=> !decide (p=(lo2 i j,hi2 i j)))->vm S S' H->Q .non H'
theorem Sw{f f1 f2 f3 f4 C:Addr}{fd d1 d2 d3 d4:ρ}(F:Fun K "untie" "Sharing.untie" Zw f fd)
  (Na:uV K C)(D1:jU K C "need_two" "Sharing.need_two" VP ["self","one","other"] f1 d1)(JR:FnOk P w K mg base CX0 4 f1 d1 ["self","one","other"] (ji K C))(D2:bK K mg "has_tie" UJ ["web","one","other"] f2 d2)(G2:FnOk P w K mg base CX0 1 f2 d2 ["web","one","other"] (qX K))(D3:bK K mg "as_tie" o9 ["one","other"] f3 d3)(G3:FnOk P w K mg base CX0 1 f3 d3 ["one","other"] (LK K))(D4:jU K C "move_to" "Sharing.move_to" YQ ["self","web"] f4 d4)(G4:FnOk P w K mg base CX0 11 f4 d4 ["self","web"] (oU K C))(aR:mg "tuple"=none):
  FnOk P w K mg base CX0 12 f fd ["self","one","other"] (Lh K C):=by
 have G1:FnOk P w K mg base CX0 11 f1 d1 ["self","one","other"] (ji K C):=JR.mono (by decide);refine F.cQ ["self","one","other","ties"] fun cdv A outer s H vs Q E hr h=> ?_;obtain⟨o,i,j,S,rfl,hS,hok,i0,i1,j0,j1,ne,ht,qq⟩:=h;refine bw ?_;intro Y;refine⟨_,(aJ (iG (qj (pv 0) Na.c D1.m G1 hr D1.b .nil pass0 (aj (pv 1) (aj (pv 2) ak)))) (aJ (dN (rH (qd (pc G2 hr D2 (aj (dB (pv 0) rfl) (aj (pv 1) (aj (pv 2) ak)))))) vG dW) (aJ (pX 3 ["tie"] ["one","other"] [1,2] (JX (bf cW (dB (pv 0) rfl) aq)) (pG 0) (HW (dg (Gv K hr.units) (pv 0) (pc G3 hr D3 (aj (pv 1) (aj (pv 2) ak))))) (pv 0)) (aP (iG (qj (pv 0) Na.c D4.m G4 hr D4.b .nil pass0 (aj (fV (aj (bf cW (dB (pv 0) rfl) aq) (aj (pT J3 aR (aj (pv 3) ak)) ak))) ak))))))),?_⟩;refine uD ?_;intro c4 c3 c2;obtain⟨dx,wb,va,lr,pr,A⟩:=id hS;have h0:=A.web.h0;have h10:=A.web.h1;have h45:=A.web.len;refine⟨_,rfl,o,dx,_,rfl,A.at_,rfl,_,rfl,_,rfl,o,i,j,S,rfl,hS,i0,i1,j0,j1,ne,?_⟩;refine⟨_,rfl,o,C,dx,_,_,rfl,A.at_,Na.c,Na.wb,rfl,_,rfl,_,rfl,wb,S.n,i,j,S.ts,rfl,A.web.web,fun H1 s1=>⟨_,rfl,?_⟩⟩;rw[show kJ S.ts i j=true from cX ht];refine iteF ?_;have A1:=A.same s1;obtain⟨tt,rr,w1,w2,w3⟩:=id A1.web.web;obtain⟨its,rfl,lW,w4⟩:=iY w3;have lits:its.length=S.ts.length:=by rw[<-lW,aM]
 generalize hP:(lo2 i j,hi2 i j)=pp at *;refine⟨_,rfl,o,C,dx,_,_,rfl,A1.at_,Na.c,Na.wb,rfl,wb,_,_,.ref tt,rfl,rfl,w1,rfl,tt,_,rfl,w2,fun hz=> ?_⟩;let vp:Nat->List V->St->Hp->Prop:=fun k acc σ H'=>acc=((its.take k).filter fun p=> !decide (p.2=pp)).map (fun p=>V.ref p.1)/\Same H1 H'/\∃o,σ=[o,some (.int i),some (.int j)];refine JZ (xs:=its.map fun p=>V.ref p.1) vp ⟨rfl,Same.refl _,_,rfl⟩ (fun i acc σ H' _ p=>by exact p.2.1.tup w2) (fun i acc σ H' hi p=> ?_) hz (fun k x acc σ H' hx p=> ?_) (fun acc σ H' p=> ?_)
 ·rw[p.1,aM];exact dD (yp _ _) (by rw[yw];exact Ks _ _)
 ·obtain⟨rfl,sm,o',rfl⟩:=p;rw[fu]at hx;cases ex:its[k]? with
  |none=>rw[ex]at hx;cases hx
  |some it=>
   rw[ex]at hx;cases hx;have hit:=w4 it (uT ex);have go:(its.take (k+1)).filter (fun p=> !decide (p.2=pp))=(its.take k).filter (fun p=> !decide (p.2=pp))++(if(!decide (it.2=pp))=true then[it]else[]):=by
    rw[Fq,ex,Kd];congr 1;show List.filter _ [it]=_;rw[Ib];rfl
   refine⟨_,rfl,_,rfl,_,rfl,i,j,rfl,fun r H5 s5 h5=> ?_⟩;refine⟨pairD it.2,pairD (lo2 i j,hi2 i j),.tup ((sm.trans s5).tup hit) (.cons (.int _) (.cons (.int _) .nil)),.tup h5 (.cons (.int _) (.cons (.int _) .nil)),rfl,rfl,(by show min (max 0 (max 0 0)+1) (max 0 (max 0 0)+1)<=64;decide),_,rfl,?_⟩;rw[kW,hP];refine ite2 (fun c=> ?_) (fun c=> ?_)
   ·exact⟨_,rfl,by rw[go,aH c,cU];rfl,sm.trans s5,_,rfl⟩
   ·exact⟨by rw[go,aB c,Bg],sm.trans s5,_,rfl⟩
 intro p1 hp1;obtain⟨rfl,sm,_⟩:=p;rw[aM,yt];generalize zU:its.filter (fun p=> !decide (p.2=pp))=jts at *;have jm:jts.map (·.2)=S.ts.filter fun p=> !decide (p=pp):=by
  rw[<-zU,<-lW,wes];rfl
 have n1:=aK hp1 (.lst (jts.map fun p=>V.ref p.1));have sA:=sm.trans n1;have A2:=A1.same sA;obtain⟨t3,r3,x1,x2,x3⟩:=id A2.web.web;refine⟨_,rfl,o,dx,_,rfl,A2.at_,rfl,_,rfl,o,C,dx,_,_,rfl,A2.at_,Na.c,Na.wb,rfl,wb,_,_,.int S.n,rfl,rfl,x1,rfl,?_⟩;refine⟨_,rfl,p1,_,rfl,.inl ⟨SqL.of au,fun t1 ht1=>⟨(by show 2<=sizeLine;decide),fun wk zT=> ?_⟩⟩⟩;have n2:=aK ht1 (.tup (jts.map fun p=>V.ref p.1));have n3:=aK zT (.tup [.int S.n,.ref t1]);have n13:=sA.trans (n2.trans n3);have Dv:=iR (K:=K) jts (fun p hp=>n13.tup (w4 p (by rw[<-zU]at hp;exact(gP.mp hp).1)));rw[jm]at Dv;have ok:=wg (n:=S.n) h0 h10 (A.web.FW.filter _) fun p (hp:p∈S.ts.filter fun p=> !decide (p=pp))=>A.web.pk.lt p (gP.mp hp).1;have qZ:=s1.trans n13;refine⟨o,wk,S,S.n,_,rfl,hS.same qZ,hok,⟨⟨t1,_,SqT.of au,SqT.of (n3 _ _ au),Dv⟩,h0,h10,ok.1,ok.2⟩,fun S' H' x' hS' hok' en et hw=> ?_⟩;exact qq S' H' ((qZ.x o).trans x') hS' hok' en et (hw.back qZ)
noncomputable def Ge(K:W.Frag)(C:Addr):Sp:=fun vs H Q _=>∃(o:Addr) (S:Sd),vs=[.ref o]/\cL K C H o S/\fK S/\0<S.n/\
 ∀S' H',aA o H H'->cL K C H' o S'->fK S'->S'.n=S.n-1->S'.ts=(S.ts.filter fun p=>decide (p.2<S.n-1))->vm S S' H->Q .non H'
theorem Ng{f f1 f2 C:Addr}{fd d1 d2:ρ}(F:Fun K "drop" "Sharing.drop" Zt f fd)
  (Na:uV K C)(D1:jU K C "move_to" "Sharing.move_to" YQ ["self","web"] f1 d1)(G1:FnOk P w K mg base CX0 11 f1 d1 ["self","web"] (oU K C))(D2:bK K mg "cut_down" nG ["web","some"] f2 d2)(G2:FnOk P w K mg base CX0 8 f2 d2 ["web","some"] (Vo K))(aR:mg "tuple"=none)(aL:mg "range"=none):
  FnOk P w K mg base CX0 12 f fd ["self"] (Ge K C):=by
 refine F.cQ ["self","n"] fun cdv A outer s H vs Q E hr h=> ?_;obtain⟨o,S,rfl,hS,hok,n0,qq⟩:=h;refine bw ?_;intro Y;refine⟨_,(aJ (pS 1 (bf cW (dB (pv 0) rfl) aq)) (aJ (dN (dg op_eq (pv 1) aq) vG dW) (aP (iG (qj (pv 0) Na.c D1.m G1 hr D1.b .nil pass0 (aj (pc G2 hr D2 (aj (dB (pv 0) rfl) (aj (zj rfl rfl aR rfl aL (aj (bB op_sub (pv 1) aq) ak)) ak))) ak)))))),?_⟩;refine mF ?_;intro c3 c2;obtain⟨dx,wb,va,lr,pr,A⟩:=id hS;have h10:=A.web.h1;obtain⟨t0,QM,w1,_,_⟩:=id A.web.web;refine⟨_,rfl,o,C,dx,_,_,rfl,A.at_,Na.c,Na.wb,rfl,wb,_,_,.int S.n,rfl,rfl,w1,rfl,?_⟩;refine⟨_,rfl,rfl,_,rfl,?_⟩;rw[lV (show¬V.int S.n=V.int 0 from fun e=>by have:=V.int.inj e;omega)];refine iteF ?_;refine⟨_,rfl,o,dx,_,rfl,A.at_,rfl,?_⟩;refine⟨_,rfl,o,C,dx,_,_,rfl,A.at_,Na.c,Na.wb,rfl,_,rfl,_,_,rfl,rfl,_,rfl,by omega,by omega,fun l hl=> ?_⟩;rw[Ir];obtain⟨k,ek⟩:=wca (show 0<=S.n-1 by omega);have ek':(S.n-1).toNat=k:=by omega
 rw[ek'];have s1:=aK hl (.tup ((upto k).map V.int));have so:cg S.n (upto k):=by
  have a:=Rm ((k:Nat):Int);rw[U4]at a;exact⟨a.FW,fun x hx=>by have:=a.lt x hx;omega⟩
 refine⟨wb,l,S.n,S.ts,upto k,rfl,(A.same s1).web,SqT.of au,so,fun r H2 s2 hW=> ?_⟩;rw[KD,U4,Ql A.web.pk A.web.FW]at hW;have ok:=wg (n:=(k:Int)) (by omega) (by omega) (A.web.FW.filter _) fun p (hp:p∈S.ts.filter fun p=>decide (p.2<(k:Int)))=>by
  obtain⟨m1,m2⟩:=gP.mp hp;have:=A.web.pk.lt p m1;have:=fM m2;omega
 have s12:=s1.trans s2;refine⟨o,r,S,k,_,rfl,hS.same s12,hok,⟨hW,by omega,by omega,ok.1,ok.2⟩,fun S' H' x' hS' hok' en et hw=> ?_⟩;exact qq S' H' ((s12.x o).trans x') hS' hok' (by omega) (by rw[et,<-ek]) (hw.back s12)
theorem fK.lw{S:Sd}(h:fK S):Lw S.f:=by
 obtain⟨ss,ov,Z,Y,X,a,b,e⟩:=h.val;rw[e];exact N6 Z b.pos b.big
noncomputable def Bt(K:W.Frag)(C:Addr):Sp:=fun vs H Q _=>∃(o:Addr) (S:Sd),vs=[.ref o]/\cL K C H o S/\∀r H',Same H H'->aQ K H' r S.n S.ts->Q (.ref r) H'
theorem Sq{f f1 C:Addr}{fd d1:ρ}(F:Fun K "web" "Sharing.web" iz f fd)
  (Na:uV K C)(D1:bK K mg "copy_of_web" iw ["web"] f1 d1)(G1:FnOk P w K mg base CX0 2 f1 d1 ["web"] (Vp K)):
  FnOk P w K mg base CX0 3 f fd ["self"] (Bt K C):=by
 refine F.cQ ["self"] fun cdv A outer s H vs Q E hr h=> ?_;obtain⟨o,S,rfl,hS,qq⟩:=h;refine⟨_,(aP (bO (pc G1 hr D1 (aj (dB (pv 0) rfl) ak)))),?_⟩;obtain⟨dx,wb,va,lr,pr,A⟩:=id hS;exact⟨_,rfl,o,C,dx,_,_,rfl,A.at_,Na.c,Na.wb,rfl,wb,S.n,S.ts,rfl,A.web,fun r H' s h=>qq r H' s h⟩
noncomputable def Lg(K:W.Frag)(C:Addr):Sp:=fun vs H Q _=>∃(o:Addr) (S:Sd),vs=[.ref o]/\cL K C H o S/\fK S/\∀r H',Same H H'->yq K H' r S.f->Q (.ref r) H'
theorem Ss{f f1 C:Addr}{fd d1:ρ}(F:Fun K "value" "Sharing.value" eO f fd)
  (Na:uV K C)(D1:bK K mg "copy_of_fraction" zbo ["fraction"] f1 d1)(G1:FnOk P w K mg base CX0 3 f1 d1 ["fraction"] (LC K)):
  FnOk P w K mg base CX0 4 f fd ["self"] (Lg K C):=by
 refine F.cQ ["self"] fun cdv A outer s H vs Q E hr h=> ?_;obtain⟨o,S,rfl,hS,hok,qq⟩:=h;refine⟨_,(aP (bO (pc G1 hr D1 (aj (dB (pv 0) rfl) ak)))),?_⟩;obtain⟨dx,wb,va,lr,pr,A⟩:=id hS;exact⟨_,rfl,o,C,dx,_,_,rfl,A.at_,Na.c,Na.va,rfl,va,S.f,rfl,A.val,hok.lw,fun r H' s h=>qq r H' s h⟩
noncomputable def Lk(K:W.Frag)(C:Addr):Sp:=fun vs H Q _=>∃(o:Addr) (S:Sd),vs=[.ref o]/\cL K C H o S/\fK S/\∀r vs' H',Same H H'->H' r=some (.lst vs')->eZ K H' vs' S.l->H r=none->Q (.ref r) H'
theorem SN{f f1 f2 C:Addr}{fd d1 d2:ρ}(F:Fun K "laying" "Sharing.laying" zdd f fd)
  (Na:uV K C)(D1:bK K mg "copy_of_set" iy ["some"] f1 d1)(G1:FnOk P w K mg base CX0 1 f1 d1 ["some"] (Vq K))(D2:bK K mg "copy_of_fraction" zbo ["fraction"] f2 d2)(G2:FnOk P w K mg base CX0 3 f2 d2 ["fraction"] (LC K)):
  FnOk P w K mg base CX0 4 f fd ["self"] (Lk K C):=by
 refine F.cQ ["self"] fun cdv A outer s H vs Q E hr h=> ?_;obtain⟨o,S,rfl,hS,hok,qq⟩:=h;refine⟨_,(aP (bO (pK ["some","share"] [] [] (yh (dB (pv 0) rfl)) (fH K (n:=2) rfl (qe (pG 0) (qe (pG 1) Fo))) sX (fV (aj (pc G1 hr D1 (aj (pv 0) ak)) (aj (pc G2 hr D2 (aj (pv 1) ak)) ak)))))),?_⟩;obtain⟨dx,wb,va,lr,pr,A⟩:=id hS;have hll:=Z1 A.lv;have h36:=hok.len;refine⟨_,rfl,o,C,dx,_,_,rfl,A.at_,Na.c,Na.la,rfl,S.la,_,rfl,SqL.of A.lay,fun hz=> ?_⟩;let jR:Nat->List V->St->Hp->Prop:=fun i acc σ H'=>eZ K H' acc (S.l.take i)/\Same H H'/\∃o1 o2,σ=[o1,o2];refine J0 (xs:=lr) jR ⟨.nil,Same.refl _,_,_,rfl⟩ (fun i acc σ H' _ p=>p.2.1.seq (SqL.of A.lay)) (fun i acc σ H' hi p=> ?_) hz (fun i x acc σ H' hx p=> ?_) (fun acc σ H' p=> ?_)
 ·have:=Z1 p.1;rw[yw]at this;omega
 ·obtain⟨hd,sm,o1,o2,rfl⟩:=p;have hi:i<S.l.length:=by rw[<-hll];exact(oF.mp hx).1
  obtain⟨q0,hq0,hR⟩:=Paired.at_ A.lv hx;rw[fL hi]at hq0;cases hq0;obtain⟨t,sa,fa,rfl,h1,h2,h3⟩:=hR;refine⟨t,_,rfl,sm.tup h1,rfl,_,_,rfl,_,_,rfl,rfl,?_⟩;refine⟨_,rfl,sa,_,rfl,sm.tup h2,fun r1 H1 s1 k1=> ?_⟩;refine⟨_,rfl,fa,S.l[i].2,rfl,(sm.trans s1).tup h3,hok.low _ (Ka hi),fun r2 H2 s2 k2=>⟨(by show 2<=sizeLine;decide),fun q hq=> ?_⟩⟩;have n1:=aK hq (.tup [.ref r1,.ref r2]);refine⟨?_,sm.trans (s1.trans (s2.trans n1)),_,_,rfl⟩;rw[Fq,fL hi];exact Paired.snoc (hd.same (s1.trans (s2.trans n1))) ⟨q,r1,r2,rfl,SqT.of au,(s2.trans n1).tup k1,n1.tup k2⟩
 ·intro p1 hp1;obtain⟨hd,sm,_⟩:=p;rw[hll,yt]at hd;have n1:=aK hp1 (.lst acc);exact qq p1 acc _ (sm.trans n1) au (hd.same n1) (sm.free hp1)
noncomputable def Ln(K:W.Frag)(C:Addr):Sp:=fun vs H Q _=>∃(o:Addr) (S:Sd),vs=[.ref o]/\cL K C H o S/\Q (.int S.t) H
theorem Xa{f C:Addr}{fd:ρ}(F:Fun K "again" "Sharing.again" eU f fd)
  (Na:uV K C):
  FnOk P w K mg base CX0 1 f fd ["self"] (Ln K C):=by
 refine F.cQ ["self"] fun cdv A outer s H vs Q E hr h=> ?_;obtain⟨o,S,rfl,hS,qq⟩:=h;refine⟨_,(aP (bO (dB (pv 0) rfl))),?_⟩;obtain⟨dx,wb,va,lr,pr,A⟩:=id hS;exact⟨_,rfl,o,C,dx,_,_,rfl,A.at_,Na.c,Na.ti,rfl,qq⟩
end
inductive jf where
 |put (xs:List Int)
 |drop
 |tie (i j:Int)
 |Im (i j:Int)
noncomputable def je(K:W.Frag)(H:Hp)(a:Addr):jf->Prop
 | .put xs=>∃t,SqT K H a [.str "put",.ref t]/\SqT K H t (xs.map V.int)
 | .drop=>SqT K H a [.str "drop"]
 | .tie i j=>SqT K H a [.str "tie",.int i,.int j]
 | .Im i j=>SqT K H a [.str "untie",.int i,.int j]
theorem je.tk{K:W.Frag}{H H':Hp}{a:Addr}(e:TK K H H'):∀{d:jf},je K H a d->je K H' a d
 | .put _,⟨t,h1,h2⟩=>⟨t,e _ _ h1,e _ _ h2⟩
 | .drop,h=>e _ _ h
 | .tie _ _,h=>e _ _ h
 | .Im _ _,h=>e _ _ h
noncomputable def Two(n i j:Int):Prop:=0<=i/\i<n/\0<=j/\j<n/\i≠j
noncomputable def abk(n:Int)(ts:L0):jf->Prop
 | .put xs=>cg n xs/\n<10
 | .drop=>0<n
 | .tie i j=>Two n i j/\(lo2 i j,hi2 i j)∉ts
 | .Im i j=>Two n i j/\(lo2 i j,hi2 i j)∈ts
noncomputable def Stp(n n':Int)(ts ts':L0):jf->Prop
 | .put xs=>n'=n+1/\∀p,p∈ts'↔p∈ts\/p∈putL n xs
 | .drop=>n'=n-1/\∀p,p∈ts'↔p∈ts/\p.2<n-1
 | .tie i j=>n'=n/\∀p,p∈ts'↔p∈ts\/p=(lo2 i j,hi2 i j)
 | .Im i j=>n'=n/\∀p,p∈ts'↔p∈ts/\p≠(lo2 i j,hi2 i j)
theorem Stp.uniq{n n1 n2:Int}{ts ts1 ts2:L0}{d:jf}(h:Stp n n1 ts ts1 d)(h':Stp n n2 ts ts2 d)(s1:ts1.Pairwise jL)(s2:ts2.Pairwise jL):n1=n2/\ts1=ts2:=by
 cases d<;>exact⟨h.1.trans h'.1.symm,wj s1 s2 fun p=>(h.2 p).trans (h'.2 p).symm⟩
theorem uF:∀ts:L0,PyData.eqvAll (ts.map pairD) (ts.map pairD)=true
 |[]=>by simp[PyData.eqvAll]
 |p::ts=>by
  show(PyData.eqv (pairD p) (pairD p)&&PyData.eqvAll (ts.map pairD) (ts.map pairD))=true;rw[uF ts,kW,cX rfl];rfl
theorem Um(n:Int)(ts:L0):PyData.eqv (fY n ts) (fY n ts)=true:=by
 show(PyData.eqv (.int n) (.int n)&&(PyData.eqvAll (ts.map pairD) (ts.map pairD)&&PyData.eqvAll [] []))=true;rw[uF ts];have e:PyData.eqv (.int n) (.int n)=true:=by show(n==n)=true;simp
 rw[e];simp[PyData.eqvAll]
theorem Tt(n:Int)(ts:L0):(fY n ts).canLay0=true:=by
 show(true&&(PyData.canLayAll0 (ts.map pairD)&&true))=true;rw[iV ts];rfl
theorem rB:∀ts:L0,PyData.depthAll (ts.map pairD)<=1
 |[]=>dF _
 |p::ts=>by
  show max (max 0 (max 0 0)+1) (PyData.depthAll (ts.map pairD))<=1;have:=rB ts;omega
section
variable{P:ξ}{w:τ}{K:W.Frag}{mg:L4}{base:Heap}
noncomputable def QV(f:Int×Nat):θ:= .tuple ([f.1,((f.2:Nat):Int)].map PyData.int)
theorem yq.dv{H:Hp}{a:Addr}{f:Int×Nat}(h:yq K H a f):DV K H (.ref a) (QV f):= .tup (xs:=[f.1,((f.2:Nat):Int)].map V.int) h (cJ.ints _)
theorem Qe(i:Int):PyData.eqv (.int i) (.int i)=true:=by show(i==i)=true;simp
theorem frD_eq(f:Int×Nat):PyData.eqv (QV f) (QV f)=true:=by
 show(PyData.eqv (.int f.1) (.int f.1)&&(PyData.eqv (.int ((f.2:Nat):Int)) (.int ((f.2:Nat):Int))&&PyData.eqvAll [] []))=true;rw[Qe,Qe];simp[PyData.eqvAll]
theorem Ui(f:Int×Nat):(QV f).canLay0=true:=rfl
noncomputable def aaj(K:W.Frag)(C:Addr):Sp:=fun vs H Q _=>∃(o da:Addr) (S:Sd) (d:jf),vs=[.ref o,.ref da]/\cL K C H o S/\fK S/\je K H da d/\abk S.n S.ts d/\
 ∀v S' H',aA o H H'->cL K C H' o S'->fK S'->Stp S.n S'.n S.ts S'.ts d->vm S S' H->Q v H'
theorem Xk{f f1 f2 f3 f4 C:Addr}{fd d1 d2 d3 d4:ρ}(F:Fun K "_law_e_do" "_law_e_do" gq f fd)
  (Na:uV K C)(D1:jU K C "put" "Sharing.put" Zq ["self","ties"] f1 d1)(G1:FnOk P w K mg base CX0 12 f1 d1 ["self","ties"] (Lj K C))(D2:jU K C "drop" "Sharing.drop" Zt ["self"] f2 d2)(G2:FnOk P w K mg base CX0 12 f2 d2 ["self"] (Ge K C))(D3:jU K C "tie" "Sharing.tie" Zr ["self","one","other"] f3 d3)(G3:FnOk P w K mg base CX0 12 f3 d3 ["self","one","other"] (Li K C))(D4:jU K C "untie" "Sharing.untie" Zw ["self","one","other"] f4 d4)(G4:FnOk P w K mg base CX0 12 f4 d4 ["self","one","other"] (Lh K C)):
  FnOk P w K mg base CX0 13 f fd ["sharing","deed"] (aaj K C):=by
 refine F.cQ ["sharing","deed"] fun cdv A outer s H vs Q E hr h=> ?_;obtain⟨o,da,S,d,rfl,hS,hok,hD,hF,qq⟩:=h;refine bw ?_;intro Y;refine⟨_,(aJ (dN (dg op_eq (bf cW (pv 1) aq) dJ) (aP (bO (qj (pv 0) Na.c D1.m G1 hr D1.b .nil pass0 (aj (bf cW (pv 1) aq) ak)))) dW) (aJ (dN (dg op_eq (bf cW (pv 1) aq) dJ) (aP (bO (Q0 (pv 0) Na.c D2.m G2 hr D2.b .nil pass0))) dW) (aJ (dN (dg op_eq (bf cW (pv 1) aq) dJ) (aP (bO (qj (pv 0) Na.c D3.m G3 hr D3.b .nil pass0 (aj (bf cW (pv 1) aq) (aj (bf cW (pv 1) aq) ak))))) dW) (aP (bO (qj (pv 0) Na.c D4.m G4 hr D4.b .nil pass0 (aj (bf cW (pv 1) aq) (aj (bf cW (pv 1) aq) ak)))))))),?_⟩;refine uD ?_;intro c4 c3 c2;obtain⟨dx,wb,va,lr,pr,A⟩:=id hS;cases d with
 |put xs=>
  obtain⟨t,h1,h2⟩:=hD;refine⟨_,rfl,da,_,_,.str "put",rfl,rfl,h1,rfl,rfl,_,rfl,?_⟩;refine ite2 (fun _=> ?_) (fun c=>absurd rfl (Kf (Y5 _▸c)));refine⟨_,rfl,o,dx,_,rfl,A.at_,rfl,_,rfl,da,_,_,.ref t,rfl,rfl,h1,rfl,?_⟩;exact⟨o,t,S,xs,rfl,hS,hok,h2,hF.1,hF.2,fun S' H' x hS' hok' en et hw=>qq _ S' H' x hS' hok' ⟨en,fun p=>et.mem_iff.trans qg⟩ hw⟩
 |drop=>
  refine⟨_,rfl,da,_,_,.str "drop",rfl,rfl,hD,rfl,rfl,_,rfl,?_⟩;refine ite2 (fun c=>absurd (fM c) (by decide+kernel)) (fun _=> ?_);refine⟨_,rfl,da,_,_,.str "drop",rfl,rfl,hD,rfl,rfl,_,rfl,?_⟩;refine ite2 (fun _=> ?_) (fun c=>absurd rfl (Kf (Y5 _▸c)));refine⟨_,rfl,o,dx,_,rfl,A.at_,rfl,?_⟩;exact⟨o,S,rfl,hS,hok,hF,fun S' H' x hS' hok' en et hw=>qq _ S' H' x hS' hok' ⟨en,fun p=>by rw[et,gP,wcb]⟩ hw⟩
 |tie i j=>
  obtain⟨⟨a,b,c,e,f⟩,g⟩:=hF;refine⟨_,rfl,da,_,_,.str "tie",rfl,rfl,hD,rfl,rfl,_,rfl,?_⟩;refine ite2 (fun c=>absurd (fM c) (by decide+kernel)) (fun _=> ?_);refine⟨_,rfl,da,_,_,.str "tie",rfl,rfl,hD,rfl,rfl,_,rfl,?_⟩;refine ite2 (fun c=>absurd (fM c) (by decide+kernel)) (fun _=> ?_);refine⟨_,rfl,da,_,_,.str "tie",rfl,rfl,hD,rfl,rfl,_,rfl,?_⟩;refine ite2 (fun _=> ?_) (fun c=>absurd rfl (Kf (Y5 _▸c)));refine⟨_,rfl,o,dx,_,rfl,A.at_,rfl,_,rfl,da,_,_,.int i,rfl,rfl,hD,rfl,_,rfl,da,_,_,.int j,rfl,rfl,hD,rfl,?_⟩;exact⟨o,i,j,S,rfl,hS,hok,a,b,c,e,f,g,fun S' H' x hS' hok' en et hw=>qq _ S' H' x hS' hok' ⟨en,fun p=>et.mem_iff.trans (qg.trans (or_congr_right oE))⟩ hw⟩
 |Im i j=>
  obtain⟨⟨a,b,c,e,f⟩,g⟩:=hF;refine⟨_,rfl,da,_,_,.str "untie",rfl,rfl,hD,rfl,rfl,_,rfl,?_⟩;refine ite2 (fun c=>absurd (fM c) (by decide+kernel)) (fun _=> ?_);refine⟨_,rfl,da,_,_,.str "untie",rfl,rfl,hD,rfl,rfl,_,rfl,?_⟩;refine ite2 (fun c=>absurd (fM c) (by decide+kernel)) (fun _=> ?_);refine⟨_,rfl,da,_,_,.str "untie",rfl,rfl,hD,rfl,rfl,_,rfl,?_⟩;refine ite2 (fun c=>absurd (fM c) (by decide+kernel)) (fun _=> ?_);refine⟨_,rfl,o,dx,_,rfl,A.at_,rfl,_,rfl,da,_,_,.int i,rfl,rfl,hD,rfl,_,rfl,da,_,_,.int j,rfl,rfl,hD,rfl,?_⟩;exact⟨o,i,j,S,rfl,hS,hok,a,b,c,e,f,g,fun S' H' x hS' hok' en et hw=>qq _ S' H' x hS' hok' ⟨en,fun p=>by rw[et,gP,wbp,wbb]⟩ hw⟩
noncomputable def rC:Expr->Bool
 | .Starred _ _=>false
 |_=>true
theorem Rq{e:Expr}(es:List Expr)(env:Env)(hn:rC e=true):starEach (e::es) env=(false,eval e env)::starEach es env:=by
 cases e<;>first |rfl|cases hn
end
end Hs
namespace L2
open PySem PySem.Spec PyProof.Rows PySem.W
section
variable{X:Cx}
theorem vd:CallR X (.builtin "sorted") (fun xs H Q=>∃(a:Addr) (its:List (Addr×List Int)),xs=[.ref a]/\SqT X.K H a (its.map fun p=>V.ref p.1)/\(∀p∈its,SqT X.K H p.1 (p.2.map V.int)/\p.2≠[])/\its.length<64/\
  ∀(l:Addr) (its':List (Addr×List Int)),H l=none->its'.Perm its->its'.Pairwise (fun p q=>HT.lexLt q.2 p.2=false)->Q (.ref l) (upd H l (.lst (its'.map fun p=>V.ref p.1)))):=by
 intro pins s σ H xs us Q I r h;obtain⟨a,its,rfl,hS,hT,h64,q⟩:=h;obtain⟨u,rfl,ru⟩:=r.one;cases ru;obtain⟨vs,rv,pl,hz⟩:=I.tuple hS;have hlen:its.length=vs.length:=by have:=rv.length;simpa using this
 -- the values beside the tuples
 have pr:Paired (fun(p:Addr×List Int) (v:ζ)=>v= .ref p.1) its vs:=by
  have go:∀(l:List (Addr×List Int)) (us:List ζ),Vals (l.map fun p=>V.ref p.1) us->Paired (fun(p:Addr×List Int) (v:ζ)=>v= .ref p.1) l us:=by
   intro l
   induction l with
   |nil=>intro us h;cases h;exact .nil
   |cons p l ih=>
    intro us h;cases h with
    |cons r t=>exact .cons r (ih _ t)
  exact go its vs rv
 have tup:∀p∈its,∃(items:List ζ),IntsAre items p.2/\IsTup s.heap p.1 items.toArray:=fun p hp=>by
  obtain⟨its',r',t',_⟩:=I.tuple (hT p hp).1;exact⟨its',intsAre_of r',t'⟩
 refine uJ.Bx (O:=uJ.lexOrd) (key:=fun i=>(its.getD i (0,[])).2) (κ:=tuples' true) (s:=s) pl (by omega) (fun h2 h' k E' Q' hq=> ?_) (fun h2 h' k=> ?_) (fun D h' out c ho hD k hc=> ?_)
 ·have kt:∀(l:List (Addr×List Int)) (us:List ζ),Paired (fun(p:Addr×List Int) (v:ζ)=>v= .ref p.1) l us->(∀p∈l,p∈its)->∃fs:List ζ,KatTups h' us fs/\fs.length=us.length/\∀v∈fs,∃i t,v=Value.int i t:=by
   intro l us h
   induction h with
   |nil=>intro _;exact⟨[],trivial,rfl,fun _ hv=>nomatch hv⟩
   | @cons p v l us r t ih=>
    intro hs;obtain⟨fs,k1,k2,k3⟩:=ih fun p hp=>hs p (jW _ hp);obtain⟨items,hi,o,e,hc,n,hd⟩:=tup p (hs p jG);have hne:=(hT p (hs p jG)).2;obtain⟨pa,pn⟩:=p;dsimp only at hi hne e r;cases hi with
    |nil=>exact absurd rfl hne
    |cons i t hi'=>
     rw[r];refine⟨Value.int i t::fs,KatTups.cons (k _ _ e) hc hd (by simp) k1,by simp[k2],fun v hv=> ?_⟩;rcases cZ.mp hv with e|e
     ·exact⟨i,t,e⟩
     ·exact k3 v e
  obtain⟨fs,k1,k2,k3⟩:=kt its vs pr fun _ hp=>hp;refine kat_kind (s:={s with heap:=h'}) (T:= .type "int") k1 (by omega) (fun v hv=> ?_) (by rfl) hq;obtain⟨i,t,rfl⟩:=k3 v hv;exact fun A Q E s _ q=>iD q
 ·intro i j C hi hj hC;rw[<-hlen]at hi hj;have get:∀i (hi:i<its.length),vs.getD i Value.none= .ref its[i].1:=by
   have go:∀(l:List (Addr×List Int)) (us:List ζ),Paired (fun(p:Addr×List Int) (v:ζ)=>v= .ref p.1) l us->∀i (hi:i<l.length),us.getD i Value.none= .ref l[i].1:=by
    intro l us h
    induction h with
    |nil=>intro i hi;simp at hi
    |cons r t ih=>
     intro i hi;cases i with
     |zero=>exact r
     |succ i=>simpa using ih i (by simpa using hi)
   exact go its vs pr
  unfold kas_ask;rw[get i hi,get j hj];obtain⟨xi,hxi,oi,ei,ci,ni,di⟩:=tup its[i] (Ka _);obtain⟨xj,Vv,oj,ej,cj,nj,dj⟩:=tup its[j] (Ka _);refine kat_lt (s:={s with heap:=h'}) (k _ _ ei) di (k _ _ ej) dj ?_;refine uJ.uz 0 hxi Vv ?_ ?_
  ·have:=hxi.length;have:=Vv.length;simp only[iH];omega
  ·rw[HT.bN];have e1:its.getD i (0,[])=its[i]:=by simp[hi]
   have e2:its.getD j (0,[])=its[j]:=by simp[hj]
   have hC':C (decide ((its.getD i (0,[])).2<(its.getD j (0,[])).2)) {s with heap:=h'}:=hC;rw[e1,e2]at hC';exact hC'
 ·obtain⟨its',hp,hr,hw⟩:=uJ.wH (d:=((0,[]):Addr×List Int)) (f:=fun p=>p.2) pr (fun i hi=>by show(its.getD i (0,[])).2=_;simp[hi]) ho;have hn:H D=none:=I.hok.fresh hD;have rv':Vals (its'.map fun p=>V.ref p.1) out:=by
   have go:∀(l:List (Addr×List Int)) (us:List ζ),Paired (fun(p:Addr×List Int) (v:ζ)=>v= .ref p.1) l us->Vals (l.map fun p=>V.ref p.1) us:=by
    intro l us h
    induction h with
    |nil=>exact .nil
    |cons r t ih=>exact .cons r ih
   exact go its' out hr
  have zl:(its'.map fun p=>V.ref p.1).length<=sizeLine:=by
   have:=hp.length_eq;rw[aM];exact cY (small1000 (by omega))
  have J:Inv X pins σ (upd H D (.lst (its'.map fun p=>V.ref p.1))) {s with heap:=h',toks:=s.toks}:=I.laid k hD ⟨zl,out,c,rv',hc⟩;refine⟨.ref D,_,J,rfl,q D its' hn hp (hw.imp fun{x y} hxy=> ?_)⟩;rw[HT.bN];exact hxy
end
end L2
namespace Hs
open PySem L2 oG
section
variable{P:ξ}{w:τ}{K:W.Frag}{mg:L4}{base:Heap}
theorem Hi{t:TT}{s u w:TS}{D:Ends}{σ:St}{H:Hp}(I:Bool->Hp->Prop)(h1:∀N:Bool->Hp->Prop,(∀b H',I b H'->N b H')->t σ H N)(h2:∀b H',I b H'->if b=true then s {D with nx:=w D} σ H' else u {D with nx:=w D} σ H'):tSeq (tIfS t s u) w D σ H:=h1 _ h2
noncomputable def Lq(K:W.Frag):Sp:=fun vs H Q _=>∃(cp bh wb:Addr) (ns:List Int) (b n mo:Int) (ts:L0),vs=[.ref cp,.ref wb,.int mo]/\mo<=10/\cT K H cp bh ns b/\b<=900000000/\aQ K H wb n ts/\
 ∀r da wa d n' ts' H',aA cp H H'->cT K H' cp bh ns (b+20)->SqT K H' r [.ref da,.ref wa]->je K H' da d->abk n ts d->aQ K H' wa n' ts'->Stp n n' ts ts' d->Q (.ref r) H'
theorem Xb{f f1:Addr}{fd d1:ρ}(F:Fun K "_law_e_next" "_law_e_next" jt f fd)(D1:bK K mg "_law_e_dip" VN ["cup","many"] f1 d1)(G1:FnOk P w K mg base CX0 2 f1 d1 ["cup","many"] (vL K))(aR:mg "tuple"=none)(aL:mg "range"=none)(dR:mg "sorted"=none)(eX:mg "list"=none)(zG:mg "min"=none)(NT:mg "max"=none):
  FnOk P w K mg base CX0 3 f fd ["cup","web","most"] (Lq K):=by
 refine F.cQ ["cup","web","most","n","ties","sort","some","i","j","pair"] fun cdv A outer s H vs Q E hr h=> ?_;obtain⟨cp,bh,wb,ns,b,n,mo,ts,rfl,hmo,hC,hb,hW,qq⟩:=h;refine bw ?_;intro Y;refine⟨_,(aJ (ps_asg (pv 1) (pg_tup rfl (qe (pG 3) (qe (pG 4) Fo)))) (aJ (pS 5 (pc G1 hr D1 (aj (pv 0) (aj aq ak)))) (aJ (dN (PW.pt (pw_or (dg op_eq (pv 3) aq) (pw_or1 (PW.pt (pw_and (dg op_lt (pv 5) aq) (pw_and1 (dg op_lt (pv 3) (pv 2)))))))) (aJ (pS 6 (pT J3 aR (aj (pK ["place"] ["cup"] [0] (J2 rfl aL (aj (pv 3) ak)) (pG 0) (HW (dg op_eq (pc G1 hr D1 (aj (pv 1) (aj aq ak))) aq)) (pv 0)) ak))) (aP (bO (fV (aj (fV (aj dJ (aj (pv 6) ak))) (aj (fV (aj (bB mQ (pv 3) aq) (aj (pT J3 aR (aj (pB jz dR (aj (bB op_cat (pT call_list_of eX (aj (pv 4) ak)) (pK ["place"] ["n"] [3] (JX (pv 6)) (pG 0) sX (fV (aj (pv 0) (aj (pv 1) ak))))) ak)) ak)) ak))) ak)))))) dW) (aJ (dN (PW.pt (pw_or (dg op_lt (pv 3) aq) (pw_or1 (PW.pt (pw_and (dg op_eq (pv 5) aq) (pw_and1 (dg op_gt (pv 3) aq))))))) (aP (bO (fV (aj (fV (aj dJ ak)) (aj (fV (aj (bB op_sub (pv 3) aq) (aj (pT J3 aR (aj (pK ["tie"] ["n"] [3] (JX (pv 4)) (pG 0) (HW (dg op_lt (bf (HS K) (pv 0) aq) (bB op_sub (pv 1) aq))) (pv 0)) ak)) ak))) ak))))) dW) (aJ (pS 7 (pc G1 hr D1 (aj (pv 0) (aj (pv 3) ak)))) (aJ (pS 8 (bB op_mod (bB mQ (bB mQ (pv 7) aq) (pc G1 hr D1 (aj (pv 0) (aj (bB op_sub (pv 3) aq) ak)))) (pv 3))) (aJ (pS 9 (fV (aj (pB (call_min2 rfl) zG (aj (pv 7) (aj (pv 8) ak))) (aj (pB (call_max2 rfl) NT (aj (pv 7) (aj (pv 8) ak))) ak)))) (aJ (dN (dg (wI hr.units) (pv 9) (pv 4) (by with_unfolding_all rfl)) (aP (bO (fV (aj (fV (aj dJ (aj (pv 7) (aj (pv 8) ak)))) (aj (fV (aj (pv 3) (aj (pT J3 aR (aj (pK ["tie"] ["pair"] [9] (JX (pv 4)) (pG 0) (HW (dg (Gv K hr.units) (pv 0) (pv 1))) (pv 0)) ak)) ak))) ak))))) dW) (aP (bO (fV (aj (fV (aj dJ (aj (pv 7) (aj (pv 8) ak)))) (aj (fV (aj (pv 3) (aj (pT J3 aR (aj (pB vd dR (aj (bB Gx (pv 4) (fV (aj (pv 9) ak))) ak)) ak)) ak))) ak))))))))))))),?_⟩;refine aaH ?_;intro c9 c8 c7 c6 c5 c4 c3 c2;have h0:=hW.h0;have h10:=hW.h1;have h45:=hW.len;obtain⟨z0,hz0⟩:=hC.lst;obtain⟨tt,rr,w1,w2,w3⟩:=id hW.web;refine⟨_,rfl,wb,_,rfl,w1,rfl,_,_,rfl,_,_,rfl,rfl,?_⟩;refine⟨_,rfl,cp,bh,ns,8,b,rfl,hC,by omega,by decide,by decide,fun so H1 so0 so1 x1 c1=> ?_⟩;have k1:TK K H H1:=x1.tk hz0;obtain⟨z1,hz1⟩:=c1.lst;have W1:=hW.mq x1 hz0;have w21:=k1 _ _ w2;obtain⟨its,rfl,lW,w4⟩:=iY w3;have w41:∀p∈its,SqT K H1 p.1 ((pl p.2).map V.int):=fun p hp=>k1 _ _ (w4 p hp);have lits:its.length=ts.length:=by rw[<-lW,aM]
 dsimp only[gName];refine Hi (fun b H'=>H'=H1/\(b=true->n<10)/\(b=false->n≠0)) (fun N hN=> ?_) ?_
 ·refine⟨_,rfl,rfl,_,rfl,?_⟩;refine ite2 (fun c=> ?_) (fun c=> ?_)
  ·have:n=0:=V.int.inj (fM c);exact hN _ _ ⟨rfl,fun _=>by omega,fun z=>nomatch z⟩
  ·have n0:n≠0:=fun z=>c (cX (jX V.int z));refine⟨_,rfl,_,_,rfl,rfl,_,rfl,?_⟩;refine ite2 (fun c2=> ?_) (fun c2=>hN _ _ ⟨rfl,fun z=>absurd z (by decide),fun _=>n0⟩);refine⟨_,rfl,_,rfl,_,_,rfl,rfl,_,rfl,hN _ _ ⟨rfl,fun z=> ?_,fun _=>n0⟩⟩;have:=fM z;omega
 rintro b1 H1' ⟨rfl,hlt,hne⟩;cases b1 with
 |true=>
  refine iteT ?_;have n9:=hlt rfl;refine⟨_,rfl,n,rfl,by omega,by omega,?_⟩;let jR:Nat->List V->St->Hp->Prop:=fun i acc σ H'=>(∃xs:List Int,acc=xs.map V.int/\xs.Pairwise (· < ·)/\(∀x∈xs,0<=x/\x<(i:Int))/\xs.length<=i)/\aA cp H1' H'/\cT K H' cp bh ns (b+1+(i:Int))/\∃o,σ=[o,some (.ref cp)];refine UL (n:=n.toNat) jR ⟨⟨[],rfl,.nil,fun x hx=>(nomatch hx),aW _⟩,aA.refl _ _,c1.mono (by omega),_,rfl⟩ (fun i acc σ H' hi p=> ?_) (by rw[fZ];omega) (fun i acc σ H' hi p=> ?_) (fun acc σ H' p=> ?_)
  ·obtain⟨⟨xs,rfl,_,_,hl⟩,_⟩:=p;rw[aM];exact hl
  ·obtain⟨⟨xs,rfl,hxs,hxo,hl⟩,x2,c2,o,rfl⟩:=p;refine⟨_,rfl,cp,bh,ns,2,_,rfl,c2,by omega,by decide,by decide,fun r H3 r0 r1 x3 c3=>⟨rfl,_,rfl,?_⟩⟩;refine ite2 (fun c=> ?_) (fun c=> ?_)
   ·refine⟨_,rfl,⟨xs++[0+(i:Int)],by rw[cU];rfl,?_,fun x hx=> ?_,by rw[rJ];show _+1<=_;omega⟩,x2.trans x3,c3.mono (by omega),_,rfl⟩
    ·refine ZK.mpr ⟨hxs,Y0 _ _,fun x hx y hy=> ?_⟩;rw[oE.mp hy];have:=hxo x hx;omega
    ·rcases qg.mp hx with z|z
     ·have:=hxo x z;omega
     ·rw[oE.mp z];omega
   ·exact⟨⟨xs,rfl,hxs,fun x hx=>by have:=hxo x hx;omega,by omega⟩,x2.trans x3,c3.mono (by omega),_,rfl⟩
  intro p1 hp1;obtain⟨⟨xs,rfl,hxs,hxo,hl⟩,x2,c2,_⟩:=p;have hx:cg n xs:=⟨hxs,fun x hx=>by have:=hxo x hx;omega⟩;have n1:=aK hp1 (.lst (xs.map V.int));refine⟨p1,_,rfl,.inl ⟨SqL.of au,fun t ht=> ?_⟩⟩;have n2:=aK ht (.tup (xs.map V.int));have hX:SqT K (upd (upd H' p1 (.lst (xs.map V.int))) t (.tup (xs.map V.int))) t (xs.map V.int):=SqT.of au;have n12:=n1.trans n2;have xA:aA cp H1' (upd (upd H' p1 (.lst (xs.map V.int))) t (.tup (xs.map V.int))):=x2.trans (n12.x cp);have cA:=c2.same n12;generalize (upd (upd H' p1 (.lst (xs.map V.int))) t (.tup (xs.map V.int)))=G0 at *;have kA:TK K H1' G0:=xA.tk hz1;refine⟨_,rfl,(by show 2<=sizeLine;decide),fun q1 hq1=> ?_⟩;have m1:=aK hq1 (.tup [.str "put",.ref t]);have hD:je K (upd G0 q1 (.tup [.str "put",.ref t])) q1 (.put xs):=⟨t,SqT.of au,m1.tup hX⟩;have w22:=m1.tup (kA _ _ w21);have w42:∀p∈its,SqT K (upd G0 q1 (.tup [.str "put",.ref t])) p.1 ((pl p.2).map V.int):=fun p hp=>m1.tup (kA _ _ (w41 p hp));have hX2:=m1.tup hX;have cB:=cA.same m1;have xB:aA cp H1' (upd G0 q1 (.tup [.str "put",.ref t])):=xA.trans (m1.x cp);generalize (upd G0 q1 (.tup [.str "put",.ref t]))=G1 at *;refine⟨_,rfl,_,_,rfl,rfl,_,rfl,tt,_,rfl,.inr w22,fun l2 hl2=> ?_⟩;have n2:=aK hl2 (.lst (its.map fun p=>V.ref p.1));have hX3:=n2.tup hX2;refine⟨_,rfl,t,_,rfl,hX3,fun hz=> ?_⟩;let vp:Nat->List V->St->Hp->Prop:=fun i acc σ H'=>Same (upd G1 l2 (.lst (its.map fun p=>V.ref p.1))) H'/\cJ K H' acc ((putL n (xs.take i)).map pairD)/\∃o,σ=[o,some (.int n)];refine JZ (xs:=xs.map V.int) vp ⟨Same.refl _,.nil,_,rfl⟩ (fun i acc σ H' _ p=>by exact p.1.tup hX3) (fun i acc σ H' hi p=> ?_) hz (fun i x acc σ H' hx' p=> ?_) (fun acc σ H' p=> ?_)
  ·have:=p.2.1.len;unfold putL at this;rw[aM,aM,yw]at this;omega
  ·obtain⟨sm,hd,o',rfl⟩:=p;rw[fu]at hx';cases ex:xs[i]? with
   |none=>rw[ex]at hx';cases hx'
   |some x0=>
    rw[ex]at hx';cases hx';refine⟨_,rfl,_,rfl,(by show 2<=sizeLine;decide),fun q2 hq2=> ?_⟩;have n2:=aK hq2 (.tup [.int x0,.int n]);refine⟨sm.trans n2,?_,_,rfl⟩;have e:putL n (xs.take (i+1))=putL n (xs.take i)++[(x0,n)]:=by unfold putL;rw[Fq,ex,cU];rfl
    rw[e,cU];exact(hd.same n2).append (.cons (.tup (SqT.of au) (.cons (.int _) (.cons (.int _) .nil))) .nil)
  intro p1 hp1;obtain⟨sm,hd,_⟩:=p;rw[aM,yt]at hd;have n1:=aK hp1 (.lst acc);have hacc:(upd H' p1 (.lst acc)) p1=some (.lst acc):=au;have hd1:=hd.same n1;have s2:=sm.trans n1;have abV:=s2 _ _ (au (H:=G1) (a:=l2) (o:= .lst (its.map fun p=>V.ref p.1)));have s12:=n2.trans s2;generalize (upd H' p1 (.lst acc))=G2 at *;obtain⟨jq,ejq,ejs,jqT⟩:=iY hd1;have ljq:jq.length=xs.length:=by
   have:=jX List.length ejs;unfold putL at this;rw[aM,aM]at this;exact this
  refine⟨l2,p1,_,_,rfl,rfl,abV,hacc,by rw[ejq,aM,aM,fZ];omega,fun l3 hl3=> ?_⟩;have n3:=aK hl3 (.lst ((its.map fun p=>V.ref p.1)++acc));have Pb:(upd G2 l3 (.lst ((its.map fun p=>V.ref p.1)++acc))) l3=some (.lst ((its++jq).map fun p=>V.ref p.1)):=by rw[au,ejq,cU]
  have n23:=s12.trans n3;have jq3:∀p∈jq,SqT K (upd G2 l3 (.lst ((its.map fun p=>V.ref p.1)++acc))) p.1 ((pl p.2).map V.int):=fun p hp=>n3.tup (jqT p hp);generalize (upd G2 l3 (.lst ((its.map fun p=>V.ref p.1)++acc)))=G3 at *;have jT:∀p∈its++jq,SqT K G3 p.1 ((pl p.2).map V.int):=fun p hp'=>by
   rcases qg.mp hp' with z|z
   ·exact n23.tup (w42 p z)
   ·exact jq3 p z
  have QW:((its++jq).map (·.2))=ts++putL n xs:=by rw[cU,lW,ejs]
  have hq2:aO (n+1) ((its++jq).map (·.2)):=by
   rw[QW];exact Mw hW.pk hx
  have ejl:(its++jq).length<=55:=by rw[rJ];omega
  generalize its++jq=jts at *;refine⟨l3,jts.map (fun p=>(p.1,pl p.2)),rfl,by rw[v8];exact SqL.of Pb,fun p hp'=> ?_,by rw[aM];omega,fun l4 its' TJ hperm pI=> ?_⟩
  ·obtain⟨p',hp'',rfl⟩:=oJ.mp hp';exact⟨jT p' hp'',by unfold pl;simp⟩
  have n4:=aK TJ (.lst (its'.map fun p=>V.ref p.1));refine⟨l4,_,rfl,.inl ⟨SqL.of au,fun t1 ht1=>⟨(by show 2<=sizeLine;decide),fun wk zT=>⟨(by show 2<=sizeLine;decide),fun r hr=> ?_⟩⟩⟩⟩;have n5:=aK ht1 (.tup (its'.map fun p=>V.ref p.1));have n6:=aK zT (.tup [.int (n+1),.ref t1]);have n7:=aK hr (.tup [.ref q1,.ref wk]);have n46:=n4.trans (n5.trans n6);obtain⟨us,W,Mv⟩:=FQ (K:=K) (n:=n+1) (by omega) (by omega) hq2 hperm pI (fun p hp'=>n46.tup (jT p hp')) (SqT.of au) (SqT.of (n6 _ _ au));rw[QW]at Mv;have n27:=n23.trans (n46.trans n7);exact qq r q1 wk (.put xs) (n+1) us _ (x1.trans (xB.trans (n27.x cp))) ((cB.same n27).mono (by omega)) (SqT.of au) (hD.tk n27.tk) ⟨hx,n9⟩ (W.same n7) ⟨rfl,fun p=>Mv.mem_iff.trans qg⟩
 |false=>
  refine iteF ?_;have n0:n≠0:=hne rfl
  try dsimp only[tNext]
  refine Hi (fun b H'=>H'=H1'/\(b=false->2<=n)) (fun N hN=> ?_) ?_
  ·refine⟨_,rfl,_,_,rfl,rfl,_,rfl,?_⟩;refine ite2 (fun c=>hN _ _ ⟨rfl,fun z=>nomatch z⟩) (fun c=> ?_);have n2:2<=n:=by
    have:¬n<2:=fun z=>c (cX z);omega
   refine⟨_,rfl,rfl,_,rfl,?_⟩;refine ite2 (fun c2=> ?_) (fun c2=>hN _ _ ⟨rfl,fun _=>n2⟩);exact⟨_,rfl,_,_,rfl,rfl,_,rfl,hN _ _ ⟨rfl,fun _=>n2⟩⟩
  rintro b2 Uy ⟨rfl,hge⟩;cases b2 with
  |true=>
   refine iteT ?_;refine⟨(by show 1<=sizeLine;decide),fun q1 hq1=> ?_⟩;have m1:=aK hq1 (.tup [.str "drop"]);have hD:je K (upd Uy q1 (.tup [.str "drop"])) q1 .drop:=SqT.of au;have cB:=c1.same m1;have w22:=m1.tup w21;have w42:∀p∈its,SqT K (upd Uy q1 (.tup [.str "drop"])) p.1 ((pl p.2).map V.int):=fun p hp=>m1.tup (w41 p hp);generalize (upd Uy q1 (.tup [.str "drop"]))=G1 at *;refine⟨_,rfl,_,_,rfl,rfl,_,rfl,tt,_,rfl,w22,fun hz=> ?_⟩;let JQ:Nat->List V->St->Hp->Prop:=fun i acc σ H'=>acc=((its.take i).filter fun p=>decide (p.2.2<n-1)).map (fun p=>V.ref p.1)/\H'=G1/\∃o,σ=[o,some (.int n)];refine JZ (xs:=its.map fun p=>V.ref p.1) JQ ⟨rfl,rfl,_,rfl⟩ (fun i acc σ H' _ p=>by rw[p.2.1];exact w22) (fun i acc σ H' hi p=> ?_) hz (fun i x acc σ H' hx p=> ?_) (fun acc σ H' p=> ?_)
   ·rw[p.1,aM];exact dD (yp _ _) (by rw[yw];exact Ks _ _)
   ·obtain⟨rfl,rfl,o,rfl⟩:=p;rw[fu]at hx;cases ex:its[i]? with
    |none=>rw[ex]at hx;cases hx
    |some it=>
     rw[ex]at hx;cases hx;have hit:=w42 it (uT ex);have go:(its.take (i+1)).filter (fun p=>decide (p.2.2<n-1))=(its.take i).filter (fun p=>decide (p.2.2<n-1))++(if decide (it.2.2<n-1)=true then[it]else[]):=by
      rw[Fq,ex,Kd];congr 1;show List.filter _ [it]=_;rw[Ib];rfl
     refine⟨_,rfl,it.1,_,_,.int it.2.2,rfl,rfl,hit,rfl,_,rfl,_,_,rfl,rfl,_,_,rfl,rfl,_,rfl,?_⟩;refine ite2 (fun c=> ?_) (fun c=> ?_)
     ·exact⟨_,rfl,by rw[go,aH c,cU];rfl,rfl,_,rfl⟩
     ·exact⟨by rw[go,aB c,Bg],rfl,_,rfl⟩
   intro p1 hp1;obtain⟨rfl,rfl,_⟩:=p;rw[aM,yt];generalize zU:its.filter (fun p=>decide (p.2.2<n-1))=jts at *;have jm:jts.map (·.2)=ts.filter fun p=>decide (p.2<n-1):=by
    rw[<-zU,<-lW,wes];rfl
   have n1:=aK hp1 (.lst (jts.map fun p=>V.ref p.1));refine⟨p1,_,rfl,.inl ⟨SqL.of au,fun t1 ht1=>⟨(by show 2<=sizeLine;decide),fun wk zT=>⟨(by show 2<=sizeLine;decide),fun r hr=> ?_⟩⟩⟩⟩;have n2:=aK ht1 (.tup (jts.map fun p=>V.ref p.1));have n3:=aK zT (.tup [.int (n-1),.ref t1]);have n4:=aK hr (.tup [.ref q1,.ref wk]);have n13:=n1.trans (n2.trans n3);have Dv:=iR (K:=K) jts (fun p hp=>n13.tup (w42 p (by rw[<-zU]at hp;exact(gP.mp hp).1)));rw[jm]at Dv;have ok:=wg (n:=n-1) (by omega) (by omega) (hW.FW.filter _) fun p (hp:p∈ts.filter fun p=>decide (p.2<n-1))=>by
    obtain⟨m1,m2⟩:=gP.mp hp;have:=hW.pk.lt p m1;have:=fM m2;omega
   have n14:=n13.trans n4;have W:aQ K _ wk (n-1) _:=⟨⟨t1,_,SqT.of au,SqT.of (n3 _ _ au),Dv⟩,by omega,by omega,ok.1,ok.2⟩;exact qq r q1 wk .drop (n-1) _ _ (x1.trans ((m1.x cp).trans (n14.x cp))) ((cB.same n14).mono (by omega)) (SqT.of au) (hD.tk n14.tk) (show 0<n by omega) (W.same n4) ⟨rfl,fun p=>by rw[gP,wcb]⟩
  |false=>
   refine iteF ?_;have n2:=hge rfl;refine⟨_,rfl,_,rfl,cp,bh,ns,n,_,rfl,c1,by omega,by omega,by omega,fun i H2 i0 i1 x2 c2=> ?_⟩;refine⟨_,rfl,_,_,rfl,rfl,_,rfl,_,rfl,_,_,rfl,rfl,cp,bh,ns,n-1,_,rfl,c2,by omega,by omega,by omega,fun j0 H3 j00 j01 x3 c3=>⟨_,_,rfl,rfl,_,rfl,_,_,rfl,rfl,by omega,?_⟩⟩;have hj0:0<=(i+1+j0) %n:=Int.emod_nonneg _ (by omega);have hj1:(i+1+j0) %n<n:=Int.emod_lt_of_pos _ (by omega);have hij:i≠(i+1+j0) %n:=fun e=>by
    by_cases c:i+1+j0<n
    ·rw[Int.emod_eq_of_lt (by omega) c]at e;omega
    ·have:(i+1+j0) %n=i+1+j0-n:=by
      rw[<-Int.sub_emod_right,Int.emod_eq_of_lt (by omega) (by omega)]
     omega
   show gName _ _ _ _ _
   try dsimp only
   generalize (i+1+j0) %n=j at *;have x13:=x2.trans x3;have k3:TK K Uy H3:=x13.tk hz1;have w23:=k3 _ _ w21;have w43:∀p∈its,SqT K H3 p.1 ((pl p.2).map V.int):=fun p hp=>k3 _ _ (w41 p hp);have W3:=W1.mq x13 hz1;have two:Two n i j:=⟨i0,i1,hj0,hj1,hij⟩;have lh:=aaA i0 i1 hj0 hj1 hij;refine⟨_,rfl,_,rfl,i,j,rfl,_,rfl,_,rfl,i,j,rfl,(by show 2<=sizeLine;decide),fun pp hpp=> ?_⟩;have m1:=aK hpp (.tup [.int (lo2 i j),.int (hi2 i j)]);have hP:SqT K (upd H3 pp (.tup [.int (lo2 i j),.int (hi2 i j)])) pp [.int (lo2 i j),.int (hi2 i j)]:=SqT.of au;have cB:=c3.same m1;have w24:=m1.tup w23;have w44:∀p∈its,SqT K (upd H3 pp (.tup [.int (lo2 i j),.int (hi2 i j)])) p.1 ((pl p.2).map V.int):=fun p hp=>m1.tup (w43 p hp);have xB:aA cp H (upd H3 pp (.tup [.int (lo2 i j),.int (hi2 i j)])):=x1.trans (x13.trans (m1.x cp));show gName _ _ _ (upd H3 pp (.tup [.int (lo2 i j),.int (hi2 i j)])) _;generalize (upd H3 pp (.tup [.int (lo2 i j),.int (hi2 i j)]))=G1 at *;have Dv1:=iR (K:=K) its w44;rw[lW]at Dv1;refine⟨_,rfl,_,rfl,tt,_,_,pairD (lo2 i j,hi2 i j),rfl,.inr w24,Dv1,.tup hP (.cons (.int _) (.cons (.int _) .nil)),iV ts,rfl,(by show max 0 (max 0 0)+1<=60;decide),_,rfl,?_⟩;rw[uI];refine ite2 (fun c=> ?_) (fun c=> ?_)
   ·have hin:=fM c;refine⟨_,rfl,_,rfl,(by show 3<=sizeLine;decide),fun q1 hq1=> ?_⟩;have m2:=aK hq1 (.tup [.str "untie",.int i,.int j]);have hD:je K (upd G1 q1 (.tup [.str "untie",.int i,.int j])) q1 (.Im i j):=SqT.of au;have w25:=m2.tup w24;have w45:∀p∈its,SqT K (upd G1 q1 (.tup [.str "untie",.int i,.int j])) p.1 ((pl p.2).map V.int):=fun p hp=>m2.tup (w44 p hp);have hP2:=m2.tup hP;have cC:=cB.same m2;have xC:=xB.trans (m2.x cp);generalize (upd G1 q1 (.tup [.str "untie",.int i,.int j]))=G2 at *;refine⟨_,rfl,_,rfl,tt,_,rfl,w25,fun hz=> ?_⟩;let Yz:Nat->List V->St->Hp->Prop:=fun k acc σ H'=>acc=((its.take k).filter fun p=> !decide (p.2=(lo2 i j,hi2 i j))).map (fun p=>V.ref p.1)/\H'=G2/\∃o,σ=[o,some (.ref pp)];refine JZ (xs:=its.map fun p=>V.ref p.1) Yz ⟨rfl,rfl,_,rfl⟩ (fun i acc σ H' _ p=>by rw[p.2.1];exact w25) (fun i acc σ H' hi p=> ?_) hz (fun k x acc σ H' hx p=> ?_) (fun acc σ H' p=> ?_)
    ·rw[p.1,aM];exact dD (yp _ _) (by rw[yw];exact Ks _ _)
    ·obtain⟨rfl,rfl,o',rfl⟩:=p;rw[fu]at hx;cases ex:its[k]? with
     |none=>rw[ex]at hx;cases hx
     |some it=>
      rw[ex]at hx;cases hx;have hit:=w45 it (uT ex);have go:(its.take (k+1)).filter (fun p=> !decide (p.2=(lo2 i j,hi2 i j)))=(its.take k).filter (fun p=> !decide (p.2=(lo2 i j,hi2 i j)))++(if(!decide (it.2=(lo2 i j,hi2 i j)))=true then[it]else[]):=by
       rw[Fq,ex,Kd];congr 1;show List.filter _ [it]=_;rw[Ib];rfl
      refine⟨_,rfl,_,rfl,pairD it.2,pairD (lo2 i j,hi2 i j),.tup hit (.cons (.int _) (.cons (.int _) .nil)),.tup hP2 (.cons (.int _) (.cons (.int _) .nil)),rfl,rfl,(by show min (max 0 (max 0 0)+1) (max 0 (max 0 0)+1)<=64;decide),_,rfl,?_⟩;rw[kW];refine ite2 (fun c=> ?_) (fun c=> ?_)
      ·exact⟨_,rfl,by rw[go,aH c,cU];rfl,rfl,_,rfl⟩
      ·exact⟨by rw[go,aB c,Bg],rfl,_,rfl⟩
    intro p1 hp1;obtain⟨rfl,rfl,_⟩:=p;rw[aM,yt];generalize zU:its.filter (fun p=> !decide (p.2=(lo2 i j,hi2 i j)))=jts at *;have jm:jts.map (·.2)=ts.filter fun p=> !decide (p=(lo2 i j,hi2 i j)):=by
     rw[<-zU,<-lW,wes];rfl
    have n1:=aK hp1 (.lst (jts.map fun p=>V.ref p.1));refine⟨p1,_,rfl,.inl ⟨SqL.of au,fun t1 ht1=>⟨(by show 2<=sizeLine;decide),fun wk zT=>⟨(by show 2<=sizeLine;decide),fun r hr=> ?_⟩⟩⟩⟩;have n2:=aK ht1 (.tup (jts.map fun p=>V.ref p.1));have n3:=aK zT (.tup [.int n,.ref t1]);have n4:=aK hr (.tup [.ref q1,.ref wk]);have n13:=n1.trans (n2.trans n3);have Dv:=iR (K:=K) jts (fun p hp=>n13.tup (w45 p (by rw[<-zU]at hp;exact(gP.mp hp).1)));rw[jm]at Dv;have ok:=wg (n:=n) h0 h10 (hW.FW.filter _) fun p (hp:p∈ts.filter fun p=> !decide (p=(lo2 i j,hi2 i j)))=>hW.pk.lt p (gP.mp hp).1;have n14:=n13.trans n4;have W:aQ K _ wk n _:=⟨⟨t1,_,SqT.of au,SqT.of (n3 _ _ au),Dv⟩,h0,h10,ok.1,ok.2⟩;exact qq r q1 wk (.Im i j) n _ _ (xC.trans (n14.x cp)) ((cC.same n14).mono (by omega)) (SqT.of au) (hD.tk n14.tk) ⟨two,hin⟩ (W.same n4) ⟨rfl,fun p=>by rw[gP,wbp,wbb]⟩
   ·have hin:(lo2 i j,hi2 i j)∉ts:=fun z=>c (cX z);refine⟨_,rfl,_,rfl,(by show 3<=sizeLine;decide),fun q1 hq1=> ?_⟩;have m2:=aK hq1 (.tup [.str "tie",.int i,.int j]);have hD:je K (upd G1 q1 (.tup [.str "tie",.int i,.int j])) q1 (.tie i j):=SqT.of au;have w25:=m2.tup w24;have w45:∀p∈its,SqT K (upd G1 q1 (.tup [.str "tie",.int i,.int j])) p.1 ((pl p.2).map V.int):=fun p hp=>m2.tup (w44 p hp);have hP2:=m2.tup hP;have cC:=cB.same m2;have xC:=xB.trans (m2.x cp);generalize (upd G1 q1 (.tup [.str "tie",.int i,.int j]))=G2 at *;refine⟨_,rfl,_,rfl,_,rfl,(by show 1<=sizeLine;decide),fun q3 hq3=> ?_⟩;have n2:=aK hq3 (.tup [.ref pp]);refine⟨tt,q3,_,_,rfl,rfl,n2.tup w25,SqT.of au,by rw[aM,fZ];show its.length+1<=_;omega,fun ca G4 n3 ec1=> ?_⟩;have n23:=n2.trans n3;have jT:∀p∈its++[(pp,(lo2 i j,hi2 i j))],SqT K G4 p.1 ((pl p.2).map V.int):=fun p hp'=>by
     rcases qg.mp hp' with z|z
     ·exact n23.tup (w45 p z)
     ·rw[oE.mp z];exact n23.tup hP2
    have hq:aO n ((its++[(pp,(lo2 i j,hi2 i j))]).map (·.2)):=by
     rw[cU,lW];refine⟨List.nodup_append.mpr ⟨hW.pk.nd,(Y0 _ _),fun x hx y hy e=> ?_⟩,fun p hp'=> ?_⟩
     ·have:y=(lo2 i j,hi2 i j):=oE.mp hy;rw[e,this]at hx;exact hin hx
     ·rcases qg.mp hp' with z|z
      ·exact hW.pk.lt p z
      ·have:p=(lo2 i j,hi2 i j):=oE.mp z;rw[this];exact lh
    have ejl:(its++[(pp,(lo2 i j,hi2 i j))]).length<=46:=by rw[rJ];show _+1<=_;omega
    have ej:(its.map (fun p=>V.ref p.1))++[V.ref pp]=(its++[(pp,(lo2 i j,hi2 i j))]).map fun p=>V.ref p.1:=by rw[cU];rfl
    rw[ej]at ec1;have QW:((its++[(pp,(lo2 i j,hi2 i j))]).map (·.2))=ts++[(lo2 i j,hi2 i j)]:=by rw[cU,lW];rfl
    generalize its++[(pp,(lo2 i j,hi2 i j))]=jts at *;refine⟨ca,jts.map (fun p=>(p.1,pl p.2)),rfl,by rw[v8];exact ec1,fun p hp'=> ?_,by rw[aM];omega,fun l1 its' hl1 hperm pI=> ?_⟩
    ·obtain⟨p',hp'',rfl⟩:=oJ.mp hp';exact⟨jT p' hp'',by unfold pl;simp⟩
    have n4:=aK hl1 (.lst (its'.map fun p=>V.ref p.1));refine⟨l1,_,rfl,.inl ⟨SqL.of au,fun t1 ht1=>⟨(by show 2<=sizeLine;decide),fun wk zT=>⟨(by show 2<=sizeLine;decide),fun r hr=> ?_⟩⟩⟩⟩;have n5:=aK ht1 (.tup (its'.map fun p=>V.ref p.1));have n6:=aK zT (.tup [.int n,.ref t1]);have n7:=aK hr (.tup [.ref q1,.ref wk]);have n46:=n4.trans (n5.trans n6);obtain⟨us,W,Mv⟩:=FQ (K:=K) (n:=n) h0 h10 hq hperm pI (fun p hp'=>n46.tup (jT p hp')) (SqT.of au) (SqT.of (n6 _ _ au));rw[QW]at Mv;have n27:=n23.trans (n46.trans n7);exact qq r q1 wk (.tie i j) n us _ (xC.trans (n27.x cp)) ((cC.same n27).mono (by omega)) (SqT.of au) (hD.tk n27.tk) ⟨two,hin⟩ (W.same n7) ⟨rfl,fun p=>Mv.mem_iff.trans (qg.trans (or_congr_right oE))⟩
noncomputable def spLaw(K:W.Frag):Sp:=fun vs H Q _=>∃(a:Addr) (ns:List Int),vs=[.ref a]/\rP K H a ns/\ns.length<=63/\∀H',Q (.bl true) H'
theorem Ls{H:Hp}{a:Addr}{ns:List Int}(hl:ns.length<=63)(hO:Only H)(hS:SqL K H a (ns.map V.int)):spLaw K [.ref a] H (fun v _=>v= .bl true) fun _ _ _=>False:=by
 refine⟨a,ns,rfl,?_,hl,fun _=>rfl⟩;rcases hS with(h|⟨o,h⟩)|h
 ·rcases hO a with q|⟨o,xs,q⟩
  ·rw[q]at h;cases h
  ·rw[q]at h;cases h
 ·exact .inl ⟨o,h⟩
 ·exact .inr h
theorem K5{H:Hp}{a p:Addr}{ns:List Int}(hS:rP K H a ns)(h63:ns.length<=63)(hp:H p=none):pU K (upd H p (.lst [.ref a,.int 0,.int 0])) p a ns:=
 ⟨⟨0,0,au,J4 _,J4 _⟩,hS.same (aK hp _),h63⟩
noncomputable def abx(K:W.Frag):List V->Hp->VK->Prop:=fun xs H Q=>∃p ys,xs=[.ref p]/\(SqL K H p ys\/SqT K H p ys)/\(ys.length<=16777216->Q (.int ys.length) H)
theorem Us{H:Hp}{a p:Addr}{ns:List Int}(hS:rP K H a ns)(h63:ns.length<=63)(hp:H p=none):cT K (upd H p (.lst [.ref a,.int 0,.int 0])) p a ns 0:=
 ⟨K5 hS h63 hp,0,0,au,J4 _⟩
theorem _root_.L2.cT.ins{H H':Hp}{tp bh o C dx:Addr}{ns:List Int}{b:Int}{fs:List (Str×V)}(h:cT K H tp bh ns b)(e:aA o H H')(hO:H o=some (.ins C dx fs)):cT K H' tp bh ns b:=by
 obtain⟨⟨⟨i,r,h1,h2,h3⟩,h4,h5⟩,i',r',h6,h7⟩:=h;have ne:tp≠o:=fun z=>by rw[z,hO]at h1;cases h1
 refine⟨⟨⟨i,r,e _ _ ne h1,h2,h3⟩,?_,h5⟩,i',r',e _ _ ne h6,h7⟩;rcases h4 with⟨ob,h⟩|h
 ·exact .inl ⟨ob,e _ _ (fun z=>by rw[z,hO]at h;cases h) h⟩
 ·exact .inr h
structure vY(K:W.Frag)(C cp bh o:Addr)(ns:List Int)(H:Hp)(b:Int)(S:Sd):Prop where
 cup:cT K H cp bh ns b
 Rr:cL K C H o S
 ok:fK S
 nl:S.la≠cp
 np:S.pa≠cp
theorem vY.same{C cp bh o:Addr}{ns:List Int}{H H':Hp}{b:Int}{S:Sd}(h:vY K C cp bh o ns H b S)(e:Same H H'):vY K C cp bh o ns H' b S:=⟨h.cup.same e,h.Rr.same e,h.ok,h.nl,h.np⟩
theorem vY.mono{C cp bh o:Addr}{ns:List Int}{H:Hp}{b c:Int}{S:Sd}(h:vY K C cp bh o ns H b S)(e:b<=c):vY K C cp bh o ns H c S:=⟨h.cup.mono e,h.Rr,h.ok,h.nl,h.np⟩
theorem vY.dip{C cp bh o:Addr}{ns:List Int}{H H':Hp}{b c:Int}{S:Sd}(h:vY K C cp bh o ns H b S)(x:aA cp H H')(hc:cT K H' cp bh ns c):vY K C cp bh o ns H' c S:=by
 obtain⟨z,hz⟩:=h.cup.lst;exact⟨hc,h.Rr.mq x hz h.nl h.np,h.ok,h.nl,h.np⟩
theorem vY.deed{C cp bh o:Addr}{ns:List Int}{H H':Hp}{b:Int}{S S':Sd}(h:vY K C cp bh o ns H b S)(x:aA o H H')(hS:cL K C H' o S')(ok:fK S')(w:vm S S' H):vY K C cp bh o ns H' b S':=by
 obtain⟨dx,fs,hO⟩:=h.Rr.ins;obtain⟨z,hz⟩:=h.cup.lst;refine⟨h.cup.ins x hO,hS,ok,?_,bZ hz w.2.1⟩;rcases w.1 with e|e
 ·rw[e];exact h.nl
 ·exact bZ hz e
theorem vY.tkD{C cp bh o:Addr}{ns:List Int}{H H':Hp}{b:Int}{S:Sd}(h:vY K C cp bh o ns H b S)(x:aA cp H H'):TK K H H':=by
 obtain⟨z,hz⟩:=h.cup.lst;exact x.tk hz
theorem vY.tkS{C cp bh o:Addr}{ns:List Int}{H H':Hp}{b:Int}{S:Sd}(h:vY K C cp bh o ns H b S)(x:aA o H H'):TK K H H':=by
 obtain⟨dx,fs,hO⟩:=h.Rr.ins;exact x.tkI hO
end
theorem JD(xs ys:List Int):PyData.eqv (.tuple (xs.map PyData.int)) (.tuple (ys.map PyData.int))=decide (xs=ys):=by
 have:∀(xs ys:List Int),PyData.eqvAll (xs.map PyData.int) (ys.map PyData.int)=decide (xs=ys):=by
  intro xs
  induction xs with
  |nil=>intro ys;cases ys<;>simp[PyData.eqvAll]
  |cons x xs ih=>intro ys;cases ys with
   |nil=>simp[PyData.eqvAll]
   |cons y ys=>
    have e:(x==y)=decide (x=y):=by rw[was];simp
    simp[PyData.eqvAll,PyData.eqv,ih,e]
 simp[PyData.eqv,this]
theorem Ea(l:List Int):PyData.depthAll (l.map PyData.int)<=0:=by
 induction l with
 |nil=>exact aW _
 |cons x l ih=>show max 0 (PyData.depthAll (l.map PyData.int))<=0;omega
noncomputable def tI(s:List Int):θ:= .tuple (s.map PyData.int)
theorem Mu{xs:List Int}(h:cM xs=true):xs.Pairwise (· < ·):=by
 unfold cM at h;rw[oA]at h;have st:∀k,(hk:k+1<xs.length)->xs[k]<xs[k+1]:=fun k hk=>by
  have:=fM (h k (sy.mpr (by omega)));rw[oK,oK,fL (by omega),fL hk]at this;exact this
 refine U8.mpr fun i j hi hj hij=> ?_;obtain⟨d,rfl⟩:∃d,j=i+1+d:=⟨j-i-1,by omega⟩
 induction d with
 |zero=>exact st i hj
 |succ d ih=>exact Int.lt_trans (ih (by omega) (by omega)) (st (i+1+d) hj)
section
variable{K:W.Frag}{H:Hp}{t:Bool->L0}
theorem aam{x:V}{q:List Int×(Int×Nat)}(h:EY K H x q):DV K H x (jJ q):=by
 obtain⟨t,sa,fa,rfl,h1,h2,h3⟩:=h;exact .tup h1 (.cons (.tup h2 (cJ.ints _)) (.cons (.tup h3 (.cons (.int _) (.cons (.int _) .nil))) .nil))
theorem Og:∀{vs:List V} {l:List (List Int×(Int×Nat))},eZ K H vs l->cJ K H vs (l.map jJ)
 |_,_,.nil=> .nil
 |_,_,.cons h t=> .cons (aam h) (Og t)
end
theorem Yo(q:List Int×(Int×Nat)):PyData.eqv (jJ q) (jJ q)=true:=by
 show(PyData.eqv (tI q.1) (tI q.1)&&(PyData.eqv (QV q.2) (QV q.2)&&PyData.eqvAll [] []))=true;rw[show PyData.eqv (tI q.1) (tI q.1)=decide (q.1=q.1)from JD q.1 q.1,cX rfl,frD_eq];simp[PyData.eqvAll]
theorem Hx:∀l:List (List Int×(Int×Nat)),PyData.eqvAll (l.map jJ) (l.map jJ)=true
 |[]=>by simp[PyData.eqvAll]
 |q::l=>by
  show(PyData.eqv (jJ q) (jJ q)&&PyData.eqvAll (l.map jJ) (l.map jJ))=true;rw[Yo,Hx l];rfl
theorem Hh:∀l:List (List Int×(Int×Nat)),PyData.canLayAll0 (l.map jJ)=true
 |[]=>rfl
 |q::l=>by
  show((jJ q).canLay0&&PyData.canLayAll0 (l.map jJ))=true;rw[Hh l];show((PyData.canLayAll0 (q.1.map PyData.int)&&true)&&true)=true;rw[QB];rfl
theorem HB:∀l:List (List Int×(Int×Nat)),PyData.depthAll (l.map jJ)<=2
 |[]=>dF _
 |q::l=>by
  have:=HB l;have d:=Ea q.1;show max (max (PyData.depthAll (q.1.map PyData.int)+1) (max (max 0 (max 0 0)+1) 0)+1) (PyData.depthAll (l.map jJ))<=2;omega
theorem BP{H H1:Hp}{r:Addr}{o:HO}(s:Same H H1)(n:H r=none):Same H (upd H1 r o):=fun b u e=>by
 rw[cG (fun z=>by rw[z,n]at e;cases e)];exact s _ _ e
noncomputable abbrev ER(C:Addr)(H:Hp)(E:XK):Prop:=∀e H',Same H H'->H' e=none->E (.ref e) (some C) (upd H' e (rQ e C))
section
variable{P:ξ}{w:τ}{K:W.Frag}{mg:L4}{base:Heap}
noncomputable def tK(K:W.Frag)(C:Addr):Sp:=fun vs H Q E=>∃(x:V) (d:θ),vs=[x]/\DX K H x d/\mW d=false/\ER C H E
theorem zu{f f1 C:Addr}{fd d1:ρ}{bmB:List ζ}{B newId initId:String}(F:Fun K "need_web" "need_web" Q8 f fd)(D1:bK K mg "is_web" o8 ["thing"] f1 d1)(G1:FnOk P w K mg base CX0 6 f1 d1 ["thing"] (K8 K))
  (FB:ExcBaseFacts B newId initId bmB)(mC:mg "NoWeb"=some (.ref C))(qC:PySem.W.excIn K C bmB newId=true):FnOk P w K mg base (fj P w) 7 f fd ["thing"] (tK K C):=by
 refine F.uf ["thing"] fun cdv A outer s H vs Q E hr h=> ?_;obtain⟨x,d,rfl,hx,hw,q⟩:=h;refine⟨_,aP (dN (rH (qd (pc G1 hr D1 (aj (pv 0) ak)))) (aP (dO FB mC qC (aj dJ ak) rfl)) dW),?_⟩;refine⟨_,rfl,x,d,rfl,hx,fun H' sm=>⟨_,rfl,?_⟩⟩;rw[hw];exact iteT ⟨by decide,fun e he=>q e H' sm he⟩
noncomputable def oW(K:W.Frag)(C:Addr):Sp:=fun vs H Q E=>∃(a:Addr) (n:Int) (t x:V) (d:θ),vs=[.ref a,x]/\SqT K H a [.int n,t]/\DX K H x d/\bx n d=false/\ER C H E
theorem uZ{f f1 C:Addr}{fd d1:ρ}{bmB:List ζ}{B newId initId:String}(F:Fun K "need_place" "need_place" Zo f fd)(D1:bK K mg "is_place" gw ["n","thing"] f1 d1)(G1:FnOk P w K mg base CX0 2 f1 d1 ["n","thing"] (sH K))
  (FB:ExcBaseFacts B newId initId bmB)(mC:mg "NoPlace"=some (.ref C))(qC:PySem.W.excIn K C bmB newId=true):FnOk P w K mg base (fj P w) 3 f fd ["web","thing"] (oW K C):=by
 refine F.uf ["web","thing"] fun cdv A outer s H vs Q E hr h=> ?_;obtain⟨a,n,t,x,d,rfl,hS,hx,hw,q⟩:=h;refine⟨_,aP (dN (rH (qd (pc G1 hr D1 (aj (bf cW (pv 0) aq) (aj (pv 1) ak))))) (aP (dO FB mC qC (aj dJ ak) rfl)) dW),?_⟩;refine⟨_,rfl,a,_,_,.int n,rfl,rfl,hS,rfl,_,rfl,n,x,d,rfl,hx,_,rfl,?_⟩;rw[hw];exact iteT ⟨by decide,fun e he=>q e H (Same.refl _) he⟩
noncomputable def mY(K:W.Frag)(C:Addr):Sp:=fun vs H Q E=>∃(a:Addr) (n:Int) (t x:V) (d:θ),vs=[.ref a,x]/\SqT K H a [.int n,t]/\DX K H x d/\dZ n d=false/\ER C H E
theorem zx{f f1 C:Addr}{fd d1:ρ}{bmB:List ζ}{B newId initId:String}(F:Fun K "need_set" "need_set" YL f fd)(D1:bK K mg "is_set" iM ["n","thing"] f1 d1)(G1:FnOk P w K mg base CX0 4 f1 d1 ["n","thing"] (yJ K))
  (FB:ExcBaseFacts B newId initId bmB)(mC:mg "NoPlace"=some (.ref C))(qC:PySem.W.excIn K C bmB newId=true):FnOk P w K mg base (fj P w) 5 f fd ["web","thing"] (mY K C):=by
 refine F.uf ["web","thing"] fun cdv A outer s H vs Q E hr h=> ?_;obtain⟨a,n,t,x,d,rfl,hS,hx,hw,q⟩:=h;refine⟨_,aP (dN (rH (qd (pc G1 hr D1 (aj (bf cW (pv 0) aq) (aj (pv 1) ak))))) (aP (dO FB mC qC (aj dJ ak) rfl)) dW),?_⟩;refine⟨_,rfl,a,_,_,.int n,rfl,rfl,hS,rfl,_,rfl,n,x,d,rfl,hx,fun H' sm=>⟨_,rfl,?_⟩⟩;rw[hw];exact iteT ⟨by decide,fun e he=>q e H' sm he⟩
noncomputable def mZ(K:W.Frag)(C:Addr):Sp:=fun vs H Q E=>∃n:Int,vs=[.int n]/\10<n/\ER C H E
theorem zy{f C:Addr}{fd:ρ}{tk:Tok}{bmB:List ζ}{B newId initId:String}(F:Fun K "need_few" "need_few" gk f fd)(mM:mg "MOST_PLACES"=some (.int 10 tk))
  (FB:ExcBaseFacts B newId initId bmB)(mC:mg "TooMany"=some (.ref C))(qC:PySem.W.excIn K C bmB newId=true):FnOk P w K mg base (fj P w) 1 f fd ["n"] (mZ K C):=by
 refine F.uf ["n"] fun cdv A outer s H vs Q E hr h=> ?_;obtain⟨n,rfl,hn,q⟩:=h;refine⟨_,aP (dN (dg op_gt (pv 0) (Fj rfl mM (v:= .int 10) ⟨_,rfl⟩)) (aP (dO FB mC qC (aj dJ ak) rfl)) dW),?_⟩;refine⟨_,rfl,_,_,rfl,rfl,_,rfl,?_⟩;rw[cX (show(10:Int)<n by omega)];exact iteT ⟨by decide,fun e he=>q e H (Same.refl _) he⟩
structure Kinds(K:W.Frag)(cs:List Addr)(C:Addr)(bs:List Bool):Prop where
 ok:qT K C
 one:PySem.W.kitOne K (.ref C) (.type "ValueError")=some true
 len:cs.length=9
 get:∀(i:Nat) (c:Addr),cs[i]? =some c->∃b,bs[i]? =some b/\PySem.W.kitOne K (.ref C) (.ref c)=some b
 aaC:bs.length=9
noncomputable def words:List Str:=["fold","number","place","row","text","tie","wants","web","many"]
noncomputable def Lx(K:W.Frag)(cs:List Addr):Sp:=fun vs H Q _=>∃(a C:Addr) (bs:List Bool) (j:Nat) (x:Str),vs=[.ref a]/\H a=some (rQ a C)/\Kinds K cs C bs/\bs.countP id=1/\bs[j]? =some true/\(∀m,m<j->bs[m]? =some false)/\words[j]? =some x/\∀H',Same H H'->Q (.str x) H'
theorem S8{f c0 c1 c2 c3 c4 c5 c6 c7 c8:Addr}{fd:ρ}(F:Fun K "_law_e_kind" "_law_e_kind" ju f fd)(mi:mg "isinstance"=none)(mV:mg "ValueError"=none)(m0:mg "NoFold"=some (.ref c0))(m1:mg "NoNumber"=some (.ref c1))(m2:mg "NoPlace"=some (.ref c2))(m3:mg "NoRow"=some (.ref c3))(m4:mg "NoText"=some (.ref c4))(m5:mg "NoTie"=some (.ref c5))(m6:mg "NoWants"=some (.ref c6))(m7:mg "NoWeb"=some (.ref c7))(m8:mg "TooMany"=some (.ref c8)):
  FnOk P w K mg base CX0 1 f fd ["caught"] (Lx K [c0,c1,c2,c3,c4,c5,c6,c7,c8]):=by
 refine F.cQ ["caught","names","kinds"] fun cdv A outer s H vs Q E hr h=> ?_;obtain⟨a,C,bs,j,x,rfl,hA,hK,h1,h2,h3,h4,q⟩:=h;refine⟨_,aJ (pS 1 (uQ (aj dJ (aj dJ (aj dJ (aj dJ (aj dJ (aj dJ (aj dJ (aj dJ (aj dJ ak))))))))))) (aJ (pS 2 (uQ (aj (pB Q5 mi (aj (pv 0) (aj (Fj rfl m0 (v:= .ref c0) rfl) ak))) (aj (pB Q5 mi (aj (pv 0) (aj (Fj rfl m1 (v:= .ref c1) rfl) ak))) (aj (pB Q5 mi (aj (pv 0) (aj (Fj rfl m2 (v:= .ref c2) rfl) ak))) ak))))) (aJ (pS 2 (bB op_cat (pv 2) (uQ (aj (pB Q5 mi (aj (pv 0) (aj (Fj rfl m3 (v:= .ref c3) rfl) ak))) (aj (pB Q5 mi (aj (pv 0) (aj (Fj rfl m4 (v:= .ref c4) rfl) ak))) (aj (pB Q5 mi (aj (pv 0) (aj (Fj rfl m5 (v:= .ref c5) rfl) ak))) ak)))))) (aJ (pS 2 (bB op_cat (pv 2) (uQ (aj (pB Q5 mi (aj (pv 0) (aj (Fj rfl m6 (v:= .ref c6) rfl) ak))) (aj (pB Q5 mi (aj (pv 0) (aj (Fj rfl m7 (v:= .ref c7) rfl) ak))) (aj (pB Q5 mi (aj (pv 0) (aj (Fj rfl m8 (v:= .ref c8) rfl) ak))) ak)))))) (aJ (dN (PW.pt (pw_or (dg op_ne (pe_bm QJ PySem.F.slot_list_count PySem.F.type_list_count Nx (pv 2) (aj pe_bl ak)) aq) (pw_or1 (rH (qd (pB JM mi (aj (pv 0) (aj (pN "ValueError" mV) ak)))))))) (aP (bO dJ)) dW) (aP (bO (bf jF (pv 1) (pe_bm QJ wbk wbl Nv (pv 2) (aj pe_bl ak))))))))),?_⟩;obtain⟨b0,e0,k0⟩:=hK.get 0 _ rfl;obtain⟨b1,e1,k1⟩:=hK.get 1 _ rfl;obtain⟨b2,e2,k2⟩:=hK.get 2 _ rfl;obtain⟨b3,e3,k3⟩:=hK.get 3 _ rfl;obtain⟨b4,e4,k4⟩:=hK.get 4 _ rfl;obtain⟨b5,e5,k5⟩:=hK.get 5 _ rfl;obtain⟨b6,e6,k6⟩:=hK.get 6 _ rfl;obtain⟨b7,e7,k7⟩:=hK.get 7 _ rfl;obtain⟨b8,e8,k8⟩:=hK.get 8 _ rfl;have hbs:bs=[b0,b1,b2,b3,b4,b5,b6,b7,b8]:=by
  refine ZF fun i=> ?_;by_cases hi:i<9
  ·match i,hi with
   |0,_=>exact e0
   |1,_=>exact e1
   |2,_=>exact e2
   |3,_=>exact e3
   |4,_=>exact e4
   |5,_=>exact e5
   |6,_=>exact e6
   |7,_=>exact e7
   |8,_=>exact e8
  ·rw[U7 (by have:=hK.aaC;omega),U7 (by show 9<=i;omega)]
 have ok:=hK.ok;refine⟨(by show 9<=sizeLine;decide),fun l0 hl0=> ?_⟩;have s0:=aK hl0 (.lst [.str "fold",.str "number",.str "place",.str "row",.str "text",.str "tie",.str "wants",.str "web",.str "many"]);have w0:(upd H l0 (.lst [.str "fold",.str "number",.str "place",.str "row",.str "text",.str "tie",.str "wants",.str "web",.str "many"])) l0=some (.lst (words.map V.str)):=au;have hA:=s0 _ _ hA;dsimp only at s0 w0 hA⊢;generalize upd H l0 (.lst [.str "fold",.str "number",.str "place",.str "row",.str "text",.str "tie",.str "wants",.str "web",.str "many"])=H0 at *;refine⟨_,rfl,a,C,c0,b0,rfl,hA,ok,k0,_,rfl,a,C,c1,b1,rfl,hA,ok,k1,_,rfl,a,C,c2,b2,rfl,hA,ok,k2,(by show 3<=sizeLine;decide),fun l hl=> ?_⟩;have s1:=aK hl (.lst [.bl b0,.bl b1,.bl b2]);have e1':(upd H0 l (.lst [.bl b0,.bl b1,.bl b2])) l=some (.lst [.bl b0,.bl b1,.bl b2]):=au;have QT:=s1 _ _ hA;dsimp only at s1 e1' QT⊢;generalize upd H0 l (.lst [.bl b0,.bl b1,.bl b2])=Ha at *;refine⟨_,rfl,_,rfl,a,C,c3,b3,rfl,QT,ok,k3,_,rfl,a,C,c4,b4,rfl,QT,ok,k4,_,rfl,a,C,c5,b5,rfl,QT,ok,k5,(by show 3<=sizeLine;decide),fun l2 hl2=> ?_⟩;have s2:=aK hl2 (.lst [.bl b3,.bl b4,.bl b5]);refine⟨l,l2,_,_,rfl,rfl,s2 _ _ e1',au,(by show 6<=sizeLine;decide),fun l3 hl3=> ?_⟩;have s3:=s2.trans (aK hl3 (.lst ([.bl b0,.bl b1,.bl b2]++[.bl b3,.bl b4,.bl b5])));have e3':(upd (upd Ha l2 (.lst [.bl b3,.bl b4,.bl b5])) l3 (.lst ([.bl b0,.bl b1,.bl b2]++[.bl b3,.bl b4,.bl b5]))) l3=some (.lst ([.bl b0,.bl b1,.bl b2]++[.bl b3,.bl b4,.bl b5])):=au;have hA3:=s3 _ _ QT;dsimp only at s3 e3' hA3⊢;generalize upd (upd Ha l2 (.lst [.bl b3,.bl b4,.bl b5])) l3 (.lst ([.bl b0,.bl b1,.bl b2]++[.bl b3,.bl b4,.bl b5]))=Hb at *;refine⟨_,rfl,_,rfl,a,C,c6,b6,rfl,hA3,ok,k6,_,rfl,a,C,c7,b7,rfl,hA3,ok,k7,_,rfl,a,C,c8,b8,rfl,hA3,ok,k8,(by show 3<=sizeLine;decide),fun l4 TJ=> ?_⟩;have s4:=aK TJ (.lst [.bl b6,.bl b7,.bl b8]);refine⟨l3,l4,_,_,rfl,rfl,s4 _ _ e3',au,(by show 9<=sizeLine;decide),fun l5 XJ=> ?_⟩;have s5:=s4.trans (aK XJ (.lst (([.bl b0,.bl b1,.bl b2]++[.bl b3,.bl b4,.bl b5])++[.bl b6,.bl b7,.bl b8])));have e5:(upd (upd Hb l4 (.lst [.bl b6,.bl b7,.bl b8])) l5 (.lst (([.bl b0,.bl b1,.bl b2]++[.bl b3,.bl b4,.bl b5])++[.bl b6,.bl b7,.bl b8]))) l5=some (.lst (bs.map V.bl)):=by rw[hbs];exact au
 have s15:=s1.trans (s3.trans s5);have hA5:=s15 _ _ hA;have w5:=s15 _ _ w0;dsimp only at s15 e5 hA5 w5⊢;generalize upd (upd Hb l4 (.lst [.bl b6,.bl b7,.bl b8])) l5 (.lst (([.bl b0,.bl b1,.bl b2]++[.bl b3,.bl b4,.bl b5])++[.bl b6,.bl b7,.bl b8]))=H5 at *;refine⟨_,rfl,.inl ⟨rfl,_,SqL.of e5⟩,l5,bs,rfl,rfl,e5,rfl,_,rfl,?_⟩;rw[h1];refine iteF ?_;refine⟨_,rfl,a,C,"ValueError",true,rfl,hA5,ok,hK.one,_,rfl,?_⟩;refine iteF ?_;refine⟨_,rfl,_,rfl,.inl ⟨rfl,_,SqL.of e5⟩,l5,bs,j,rfl,rfl,e5,h2,h3,by rw[hK.aaC];decide,?_⟩;refine⟨l0,_,_,.str x,rfl,rfl,SqL.of w5,?_,q _ (s0.trans s15)⟩;refine atI_nat ?_;rw[fu,h4];rfl
end
theorem Ul{C:Addr}{H H1:Hp}{E:XK}(h:ER C H E)(s:Same H H1):ER C H1 E:=fun e H' s' he=>h e H' (s.trans s') he
noncomputable def JN(n:Int)(ts:L0)(cp ct cm:Addr):jf->Addr->Prop
 | .put xs,c=>(¬cg n xs/\c=cp)\/(cg n xs/\n=10/\c=cm)
 | .drop,c=>n=0/\c=cp
 | .tie i j,c=>(¬Two n i j/\c=cp)\/(Two n i j/\(lo2 i j,hi2 i j)∈ts/\c=ct)
 | .Im i j,c=>(¬Two n i j/\c=cp)\/(Two n i j/\(lo2 i j,hi2 i j)∉ts/\c=ct)
theorem zf{n i:Int}(h:¬(0<=i/\i<n)):bx n (.int i)=false:=by
 show(decide (0<=i)&&decide (i<n))=false;rw[weq,wbb,wbb];omega
theorem zQ(xs:List Int):(xs.map PyData.int).map intD=xs:=by
 rw[v8];exact wer xs
theorem Ws{n:Int}{xs:List Int}(h:¬cg n xs):dZ n (.tuple (xs.map PyData.int))=false:=by
 refine Bool.eq_false_iff.mpr fun z=>h ?_;show cg n xs;have z':((xs.map PyData.int).all (bx n)&&cM ((xs.map PyData.int).map intD))=true:=z;rw[oM,zQ,YS,oA]at z';refine⟨Mu z'.2,fun x hx=> ?_⟩;have:=z'.1 x hx;have e:(decide (0<=x)&&decide (x<n))=true:=this;rw[oM]at e;exact⟨fM e.1,fM e.2⟩
theorem Rx{n:Int}{xs:List Int}(h:cg n xs):dZ n (.tuple (xs.map PyData.int))=true:=by
 show((xs.map PyData.int).all (bx n)&&cM ((xs.map PyData.int).map intD))=true;rw[oM,zQ,YS,oA];refine⟨fun x hx=> ?_,?_⟩
 ·show(decide (0<=x)&&decide (x<n))=true;have:=h.lt x hx;rw[cX this.1,cX this.2];rfl
 ·unfold cM;refine oA.mpr fun k hk=>cX ?_;have hk':=sy.mp hk;rw[oK,oK,fL (by omega),fL (by omega)];exact U8.mp h.FW k (k+1) (by omega) (by omega) (by omega)
section
variable{P:ξ}{w:τ}{K:W.Frag}{mg:L4}{base:Heap}
noncomputable def Gd(K:W.Frag)(C cw:Addr):Sp:=fun vs H Q E=>∃(o:Addr) (x:V) (d:θ),vs=[.ref o,x]/\DX K H x d/\mW d=false/\ER cw H E
theorem Nf{f f1 C cw:Addr}{fd d1:ρ}(F:Fun K "__init__" "Sharing.__init__" Zu f fd)(D1:bK K mg "need_web" Q8 ["thing"] f1 d1)(X1:FnOk P w K mg base (fj P w) 7 f1 d1 ["thing"] (tK K cw)):FnOk P w K mg base (fj P w) 12 f fd ["self","web"] (Gd K C cw):=by
 refine F.uf ["self","web","told"] fun cdv A outer s H vs Q E hr h=> ?_;obtain⟨o,x,d,rfl,hx,hw,q⟩:=h;refine⟨_,aJ (iG (pe_call (E:=E) (X1.mono (by decide)) hr rfl D1.m D1.F.kp D1.b .nil kh (aj (pv 1) ak))) vG,?_⟩;exact⟨_,rfl,x,d,rfl,hx,hw,q⟩
noncomputable def oR(K:W.Frag)(C cp:Addr):Sp:=fun vs H Q E=>∃(o:Addr) (i j:Int) (S:Sd),vs=[.ref o,.int i,.int j]/\cL K C H o S/\¬Two S.n i j/\ER cp H E
theorem M6{f f1 C cp:Addr}{fd d1:ρ}{bmB:List ζ}{B newId initId:String}(F:Fun K "need_two" "Sharing.need_two" VP f fd)
  (Na:uV K C)(D1:bK K mg "need_place" Zo ["web","thing"] f1 d1)(G1:FnOk P w K mg base CX0 3 f1 d1 ["web","thing"] (j4 K))(X1:FnOk P w K mg base (fj P w) 3 f1 d1 ["web","thing"] (oW K cp))
  (FB:ExcBaseFacts B newId initId bmB)(mC:mg "NoPlace"=some (.ref cp))(qC:PySem.W.excIn K cp bmB newId=true):
  FnOk P w K mg base (fj P w) 4 f fd ["self","one","other"] (oR K C cp):=by
 refine F.uf ["self","one","other"] fun cdv A outer s H vs Q E hr h=> ?_;obtain⟨o,i,j,S,rfl,hS,nt,q⟩:=h;obtain⟨dx,wb,va,lr,pr,A1⟩:=id hS;obtain⟨t0,QM,w1,_,_⟩:=id A1.web.web;by_cases ci:0<=i/\i<S.n
 ·by_cases cj:0<=j/\j<S.n
  ·refine⟨_,(aJ (iG (pc G1 hr D1 (aj (dB (pv 0) rfl) (aj (pv 1) ak)))) (aJ (iG (pc G1 hr D1 (aj (dB (pv 0) rfl) (aj (pv 2) ak)))) (aP (dN (dg op_eq (pv 1) (pv 2)) (aP (dO FB mC qC (aj dJ ak) rfl)) dW)))),?_⟩;refine⟨_,rfl,o,C,dx,_,_,rfl,A1.at_,Na.c,Na.wb,rfl,_,rfl,wb,S.n,i,_,rfl,w1,ci.1,ci.2,?_⟩;refine⟨_,rfl,o,C,dx,_,_,rfl,A1.at_,Na.c,Na.wb,rfl,_,rfl,wb,S.n,j,_,rfl,w1,cj.1,cj.2,?_⟩;refine⟨_,rfl,_,rfl,rfl,_,rfl,?_⟩;rw[cX (show V.int i=V.int j from jX V.int (Decidable.not_not.mp fun e=>nt ⟨ci.1,ci.2,cj.1,cj.2,e⟩))];exact iteT ⟨by decide,fun e he=>q e H (Same.refl _) he⟩
  ·refine⟨_,(aJ (iG (pc G1 hr D1 (aj (dB (pv 0) rfl) (aj (pv 1) ak)))) (aJ (iG (pe_call (E:=E) X1 hr rfl D1.m D1.F.kp D1.b .nil kh (aj (dB (pv 0) rfl) (aj (pv 2) ak)))) vG)),?_⟩;refine⟨_,rfl,o,C,dx,_,_,rfl,A1.at_,Na.c,Na.wb,rfl,_,rfl,wb,S.n,i,_,rfl,w1,ci.1,ci.2,?_⟩;exact⟨_,rfl,o,C,dx,_,_,rfl,A1.at_,Na.c,Na.wb,rfl,_,rfl,wb,S.n,_,_,_,rfl,w1,.int j,zf cj,q⟩
 ·refine⟨_,(aJ (iG (pe_call (E:=E) X1 hr rfl D1.m D1.F.kp D1.b .nil kh (aj (dB (pv 0) rfl) (aj (pv 1) ak)))) vG),?_⟩;exact⟨_,rfl,o,C,dx,_,_,rfl,A1.at_,Na.c,Na.wb,rfl,_,rfl,wb,S.n,_,_,_,rfl,w1,.int i,zf ci,q⟩
noncomputable def Gb(K:W.Frag)(C cp ct cm:Addr):Sp:=fun vs H Q E=>∃(o t c:Addr) (S:Sd) (xs:List Int),vs=[.ref o,.ref t]/\cL K C H o S/\SqT K H t (xs.map V.int)/\JN S.n S.ts cp ct cm (.put xs) c/\ER c H E
theorem M8{f f1 f2 C cp ct cm:Addr}{fd d1 d2:ρ}(F:Fun K "put" "Sharing.put" Zq f fd)
  (Na:uV K C)(D1:bK K mg "need_set" YL ["web","thing"] f1 d1)(G1:FnOk P w K mg base CX0 5 f1 d1 ["web","thing"] (iI K))(X1':FnOk P w K mg base (fj P w) 5 f1 d1 ["web","thing"] (mY K cp))(D2:bK K mg "need_few" gk ["n"] f2 d2)(X2':FnOk P w K mg base (fj P w) 1 f2 d2 ["n"] (mZ K cm)):
  FnOk P w K mg base (fj P w) 12 f fd ["self","ties"] (Gb K C cp ct cm):=by
 have X1:FnOk P w K mg base (fj P w) 11 f1 d1 ["web","thing"] (mY K cp):=X1'.mono (by decide);have X2:FnOk P w K mg base (fj P w) 11 f2 d2 ["n"] (mZ K cm):=X2'.mono (by decide);refine F.uf ["self","ties","n","added"] fun cdv A outer s H vs Q E hr h=> ?_;obtain⟨o,t,c,S,xs,rfl,hS,hT,hR,q⟩:=h;obtain⟨dx,wb,va,lr,pr,A1⟩:=id hS;obtain⟨t0,QM,w1,_,_⟩:=id A1.web.web;rcases hR with⟨ns,rfl⟩|⟨ns,e10,rfl⟩
 ·refine⟨_,(aJ (iG (pe_call (E:=E) X1 hr rfl D1.m D1.F.kp D1.b .nil kh (aj (dB (pv 0) rfl) (aj (pv 1) ak)))) vG),?_⟩;exact⟨_,rfl,o,C,dx,_,_,rfl,A1.at_,Na.c,Na.wb,rfl,_,rfl,wb,S.n,_,_,_,rfl,w1,.tup hT (cJ.ints _).dx,Ws ns,q⟩
 ·refine⟨_,(aJ (iG (pc G1 hr D1 (aj (dB (pv 0) rfl) (aj (pv 1) ak)))) (aJ (pS 2 (bf cW (dB (pv 0) rfl) aq)) (aJ (iG (pe_call (E:=E) X2 hr rfl D2.m D2.F.kp D2.b .nil kh (aj (bB mQ (pv 2) aq) ak))) vG))),?_⟩;refine⟨_,rfl,o,C,dx,_,_,rfl,A1.at_,Na.c,Na.wb,rfl,_,rfl,wb,S.n,_,_,_,rfl,w1,.tup hT (cJ.ints _).dx,Rx ns,fun H1 s1=> ?_⟩;refine⟨_,rfl,o,C,dx,_,_,rfl,s1 _ _ A1.at_,Na.c,Na.wb,rfl,wb,_,_,.int S.n,rfl,rfl,s1.tup w1,rfl,?_⟩;exact⟨_,rfl,_,_,rfl,rfl,_,rfl,by omega,Ul q s1⟩
noncomputable def Ga(K:W.Frag)(C cp ct cm:Addr):Sp:=fun vs H Q E=>∃(o c:Addr) (i j:Int) (S:Sd),vs=[.ref o,.int i,.int j]/\cL K C H o S/\JN S.n S.ts cp ct cm (.tie i j) c/\ER c H E
theorem K4{n i j:Int}{ts:L0}(h:Two n i j):kJ ts i j=decide ((lo2 i j,hi2 i j)∈ts):=by
 rfl
theorem M7{f f1 f2 C cp ct cm:Addr}{fd d1 d2:ρ}{bmB:List ζ}{B newId initId:String}(F:Fun K "tie" "Sharing.tie" Zr f fd)
  (Na:uV K C)(D1:jU K C "need_two" "Sharing.need_two" VP ["self","one","other"] f1 d1)(JR:FnOk P w K mg base CX0 4 f1 d1 ["self","one","other"] (ji K C))(X1':FnOk P w K mg base (fj P w) 4 f1 d1 ["self","one","other"] (oR K C cp))(D2:bK K mg "has_tie" UJ ["web","one","other"] f2 d2)(G2:FnOk P w K mg base CX0 1 f2 d2 ["web","one","other"] (qX K))
  (FB:ExcBaseFacts B newId initId bmB)(mC:mg "NoTie"=some (.ref ct))(qC:PySem.W.excIn K ct bmB newId=true):
  FnOk P w K mg base (fj P w) 12 f fd ["self","one","other"] (Ga K C cp ct cm):=by
 have G1:FnOk P w K mg base CX0 11 f1 d1 ["self","one","other"] (ji K C):=JR.mono (by decide);have X1:FnOk P w K mg base (fj P w) 11 f1 d1 ["self","one","other"] (oR K C cp):=X1'.mono (by decide);refine F.uf ["self","one","other","ties"] fun cdv A outer s H vs Q E hr h=> ?_;obtain⟨o,c,i,j,S,rfl,hS,hR,q⟩:=h;obtain⟨dx,wb,va,lr,pr,A1⟩:=id hS;rcases hR with⟨nt,rfl⟩|⟨two,hin,rfl⟩
 ·refine⟨_,(aJ (iG (qj (E:=E) (pv 0) Na.c D1.m X1 hr D1.b .nil kh (aj (pv 1) (aj (pv 2) ak)))) vG),?_⟩;exact⟨_,rfl,o,dx,_,rfl,A1.at_,rfl,_,rfl,_,rfl,o,i,j,S,rfl,hS,nt,q⟩
 ·refine⟨_,(aJ (iG (qj (pv 0) Na.c D1.m G1 hr D1.b .nil pass0 (aj (pv 1) (aj (pv 2) ak)))) (aJ (dN (qd (pc G2 hr D2 (aj (dB (pv 0) rfl) (aj (pv 1) (aj (pv 2) ak))))) (aP (dO FB mC qC (aj dJ ak) rfl)) dW) vG)),?_⟩;obtain⟨a0,a1,a2,a3,a4⟩:=id two;refine⟨_,rfl,o,dx,_,rfl,A1.at_,rfl,_,rfl,_,rfl,o,i,j,S,rfl,hS,a0,a1,a2,a3,a4,?_⟩;refine⟨_,rfl,o,C,dx,_,_,rfl,A1.at_,Na.c,Na.wb,rfl,_,rfl,_,rfl,wb,S.n,i,j,S.ts,rfl,A1.web.web,fun H1 s1=>⟨_,rfl,?_⟩⟩;rw[K4 two,cX hin];exact iteT ⟨by decide,fun e he=>q e H1 s1 he⟩
noncomputable def FZ(K:W.Frag)(C cp ct cm:Addr):Sp:=fun vs H Q E=>∃(o c:Addr) (i j:Int) (S:Sd),vs=[.ref o,.int i,.int j]/\cL K C H o S/\JN S.n S.ts cp ct cm (.Im i j) c/\ER c H E
theorem M5{f f1 f2 C cp ct cm:Addr}{fd d1 d2:ρ}{bmB:List ζ}{B newId initId:String}(F:Fun K "untie" "Sharing.untie" Zw f fd)
  (Na:uV K C)(D1:jU K C "need_two" "Sharing.need_two" VP ["self","one","other"] f1 d1)(JR:FnOk P w K mg base CX0 4 f1 d1 ["self","one","other"] (ji K C))(X1':FnOk P w K mg base (fj P w) 4 f1 d1 ["self","one","other"] (oR K C cp))(D2:bK K mg "has_tie" UJ ["web","one","other"] f2 d2)(G2:FnOk P w K mg base CX0 1 f2 d2 ["web","one","other"] (qX K))
  (FB:ExcBaseFacts B newId initId bmB)(mC:mg "NoTie"=some (.ref ct))(qC:PySem.W.excIn K ct bmB newId=true):
  FnOk P w K mg base (fj P w) 12 f fd ["self","one","other"] (FZ K C cp ct cm):=by
 have G1:FnOk P w K mg base CX0 11 f1 d1 ["self","one","other"] (ji K C):=JR.mono (by decide);have X1:FnOk P w K mg base (fj P w) 11 f1 d1 ["self","one","other"] (oR K C cp):=X1'.mono (by decide);refine F.uf ["self","one","other","ties"] fun cdv A outer s H vs Q E hr h=> ?_;obtain⟨o,c,i,j,S,rfl,hS,hR,q⟩:=h;obtain⟨dx,wb,va,lr,pr,A1⟩:=id hS;rcases hR with⟨nt,rfl⟩|⟨two,hin,rfl⟩
 ·refine⟨_,(aJ (iG (qj (E:=E) (pv 0) Na.c D1.m X1 hr D1.b .nil kh (aj (pv 1) (aj (pv 2) ak)))) vG),?_⟩;exact⟨_,rfl,o,dx,_,rfl,A1.at_,rfl,_,rfl,_,rfl,o,i,j,S,rfl,hS,nt,q⟩
 ·refine⟨_,(aJ (iG (qj (pv 0) Na.c D1.m G1 hr D1.b .nil pass0 (aj (pv 1) (aj (pv 2) ak)))) (aJ (dN (rH (qd (pc G2 hr D2 (aj (dB (pv 0) rfl) (aj (pv 1) (aj (pv 2) ak)))))) (aP (dO FB mC qC (aj dJ ak) rfl)) dW) vG)),?_⟩;obtain⟨a0,a1,a2,a3,a4⟩:=id two;refine⟨_,rfl,o,dx,_,rfl,A1.at_,rfl,_,rfl,_,rfl,o,i,j,S,rfl,hS,a0,a1,a2,a3,a4,?_⟩;refine⟨_,rfl,o,C,dx,_,_,rfl,A1.at_,Na.c,Na.wb,rfl,_,rfl,_,rfl,wb,S.n,i,j,S.ts,rfl,A1.web.web,fun H1 s1=>⟨_,rfl,?_⟩⟩;rw[K4 two,lV hin];exact iteT ⟨by decide,fun e he=>q e H1 s1 he⟩
noncomputable def yK(K:W.Frag)(C cp:Addr):Sp:=fun vs H Q E=>∃(o:Addr) (S:Sd),vs=[.ref o]/\cL K C H o S/\S.n=0/\ER cp H E
theorem Jg{f C cp:Addr}{fd:ρ}{bmB:List ζ}{B newId initId:String}(F:Fun K "drop" "Sharing.drop" Zt f fd)
  (Na:uV K C)
  (FB:ExcBaseFacts B newId initId bmB)(mC:mg "NoPlace"=some (.ref cp))(qC:PySem.W.excIn K cp bmB newId=true):
  FnOk P w K mg base (fj P w) 12 f fd ["self"] (yK K C cp):=by
 refine F.uf ["self","n"] fun cdv A outer s H vs Q E hr h=> ?_;obtain⟨o,S,rfl,hS,n0,q⟩:=h;obtain⟨dx,wb,va,lr,pr,A1⟩:=id hS;obtain⟨t0,QM,w1,_,_⟩:=id A1.web.web;refine⟨_,(aJ (pS 1 (bf cW (dB (pv 0) rfl) aq)) (aJ (dN (dg op_eq (pv 1) aq) (aP (dO FB mC qC (aj dJ ak) rfl)) dW) vG)),?_⟩;refine⟨_,rfl,o,C,dx,_,_,rfl,A1.at_,Na.c,Na.wb,rfl,wb,_,_,.int S.n,rfl,rfl,w1,rfl,?_⟩;refine⟨_,rfl,rfl,_,rfl,?_⟩;rw[n0,cX (show V.int 0=V.int 0 from rfl)];exact iteT ⟨by decide,fun e he=>q e H (Same.refl _) he⟩
noncomputable def Vn(K:W.Frag)(C cp ct cm:Addr):Sp:=fun vs H Q E=>∃(o da c:Addr) (S:Sd) (d:jf),vs=[.ref o,.ref da]/\cL K C H o S/\je K H da d/\JN S.n S.ts cp ct cm d c/\ER c H E
theorem Tf{f f1 f2 f3 f4 C cp ct cm:Addr}{fd d1 d2 d3 d4:ρ}(F:Fun K "_law_e_do" "_law_e_do" gq f fd)
  (Na:uV K C)(D1:jU K C "put" "Sharing.put" Zq ["self","ties"] f1 d1)(G1:FnOk P w K mg base (fj P w) 12 f1 d1 ["self","ties"] (Gb K C cp ct cm))(D2:jU K C "drop" "Sharing.drop" Zt ["self"] f2 d2)(G2:FnOk P w K mg base (fj P w) 12 f2 d2 ["self"] (yK K C cp))(D3:jU K C "tie" "Sharing.tie" Zr ["self","one","other"] f3 d3)(G3:FnOk P w K mg base (fj P w) 12 f3 d3 ["self","one","other"] (Ga K C cp ct cm))(D4:jU K C "untie" "Sharing.untie" Zw ["self","one","other"] f4 d4)(G4:FnOk P w K mg base (fj P w) 12 f4 d4 ["self","one","other"] (FZ K C cp ct cm)):
  FnOk P w K mg base (fj P w) 13 f fd ["sharing","deed"] (Vn K C cp ct cm):=by
 refine F.uf ["sharing","deed"] fun cdv A outer s H vs Q E hr h=> ?_;obtain⟨o,da,c,S,d,rfl,hS,hD,hR,q⟩:=h;refine bw ?_;intro Y;refine⟨_,(aJ (dN (dg op_eq (bf cW (pv 1) aq) dJ) (aP (bO (qj (E:=E) (pv 0) Na.c D1.m G1 hr D1.b .nil kh (aj (bf cW (pv 1) aq) ak)))) dW) (aJ (dN (dg op_eq (bf cW (pv 1) aq) dJ) (aP (bO (Q0 (E:=E) (pv 0) Na.c D2.m G2 hr D2.b .nil kh))) dW) (aJ (dN (dg op_eq (bf cW (pv 1) aq) dJ) (aP (bO (qj (E:=E) (pv 0) Na.c D3.m G3 hr D3.b .nil kh (aj (bf cW (pv 1) aq) (aj (bf cW (pv 1) aq) ak))))) dW) (aP (bO (qj (E:=E) (pv 0) Na.c D4.m G4 hr D4.b .nil kh (aj (bf cW (pv 1) aq) (aj (bf cW (pv 1) aq) ak)))))))),?_⟩;refine uD ?_;intro c4 c3 c2;obtain⟨dx,wb,va,lr,pr,A1⟩:=id hS;cases d with
 |put xs=>
  obtain⟨t,h1,h2⟩:=hD;refine⟨_,rfl,da,_,_,.str "put",rfl,rfl,h1,rfl,rfl,_,rfl,?_⟩;refine ite2 (fun _=> ?_) (fun c=>absurd rfl (Kf (Y5 _▸c)));refine⟨_,rfl,o,dx,_,rfl,A1.at_,rfl,_,rfl,da,_,_,.ref t,rfl,rfl,h1,rfl,?_⟩;exact⟨o,t,c,S,xs,rfl,hS,h2,hR,q⟩
 |drop=>
  obtain⟨n0,rfl⟩:=hR;refine⟨_,rfl,da,_,_,.str "drop",rfl,rfl,hD,rfl,rfl,_,rfl,?_⟩;refine ite2 (fun c=>absurd (fM c) (by decide+kernel)) (fun _=> ?_);refine⟨_,rfl,da,_,_,.str "drop",rfl,rfl,hD,rfl,rfl,_,rfl,?_⟩;refine ite2 (fun _=> ?_) (fun c=>absurd rfl (Kf (Y5 _▸c)));refine⟨_,rfl,o,dx,_,rfl,A1.at_,rfl,?_⟩;exact⟨o,S,rfl,hS,n0,q⟩
 |tie i j=>
  refine⟨_,rfl,da,_,_,.str "tie",rfl,rfl,hD,rfl,rfl,_,rfl,?_⟩;refine ite2 (fun c=>absurd (fM c) (by decide+kernel)) (fun _=> ?_);refine⟨_,rfl,da,_,_,.str "tie",rfl,rfl,hD,rfl,rfl,_,rfl,?_⟩;refine ite2 (fun c=>absurd (fM c) (by decide+kernel)) (fun _=> ?_);refine⟨_,rfl,da,_,_,.str "tie",rfl,rfl,hD,rfl,rfl,_,rfl,?_⟩;refine ite2 (fun _=> ?_) (fun c=>absurd rfl (Kf (Y5 _▸c)));refine⟨_,rfl,o,dx,_,rfl,A1.at_,rfl,_,rfl,da,_,_,.int i,rfl,rfl,hD,rfl,_,rfl,da,_,_,.int j,rfl,rfl,hD,rfl,?_⟩;exact⟨o,c,i,j,S,rfl,hS,hR,q⟩
 |Im i j=>
  refine⟨_,rfl,da,_,_,.str "untie",rfl,rfl,hD,rfl,rfl,_,rfl,?_⟩;refine ite2 (fun c=>absurd (fM c) (by decide+kernel)) (fun _=> ?_);refine⟨_,rfl,da,_,_,.str "untie",rfl,rfl,hD,rfl,rfl,_,rfl,?_⟩;refine ite2 (fun c=>absurd (fM c) (by decide+kernel)) (fun _=> ?_);refine⟨_,rfl,da,_,_,.str "untie",rfl,rfl,hD,rfl,rfl,_,rfl,?_⟩;refine ite2 (fun c=>absurd (fM c) (by decide+kernel)) (fun _=> ?_);refine⟨_,rfl,o,dx,_,rfl,A1.at_,rfl,_,rfl,da,_,_,.int i,rfl,rfl,hD,rfl,_,rfl,da,_,_,.int j,rfl,rfl,hD,rfl,?_⟩;exact⟨o,c,i,j,S,rfl,hS,hR,q⟩
noncomputable def Yx(K:W.Frag)(cs:List Addr)(C:Addr)(x:Str):Prop:=∃(bs:List Bool) (j:Nat),Kinds K cs C bs/\bs.countP id=1/\bs[j]? =some true/\(∀m,m<j->bs[m]? =some false)/\words[j]? =some x
structure Kn(K:W.Frag)(cs:List Addr)(D C:Addr)(x:Str):Prop where
 ex:PySem.W.exmOne K (.ref C) (.ref D)=some true
 wo:Yx K cs C x
noncomputable def K7(K:W.Frag)(cs:List Addr)(D C cp ct cm:Addr):Sp:=fun vs H Q E=>∃(s x:V) (t:Str),vs=[s,x]/\
 ((s= .non/\(∃d,DX K H x d/\mW d=false)/\t="web")\/∃(o da c:Addr) (S:Sd) (d:jf),s= .ref o/\x= .ref da/\cL K C H o S/\je K H da d/\JN S.n S.ts cp ct cm d c/\Kn K cs D c t)/\∀H',Same H H'->Q (.str t) H'
theorem RB:FnScope ["sharing","deed","caught","e"] ["sharing","deed"] (defScope fG):=fsc
theorem R6{f C cw cp ct cm D f1 f2 f3:Addr}{fd d1 d2 d3:ρ}{cs:List Addr}(F:Fun K "_law_e_word" "_law_e_word" fG f fd)(fQ:mg "Sharing"=some (.ref C))(D1:jU K C "__init__" "Sharing.__init__" Zu ["self","web"] f1 d1)(Mk1:Mk K C f1)(X1:FnOk P w K mg base (fj P w) 12 f1 d1 ["self","web"] (Gd K C cw))(D2:bK K mg "_law_e_do" gq ["sharing","deed"] f2 d2)(X2:FnOk P w K mg base (fj P w) 13 f2 d2 ["sharing","deed"] (Vn K C cp ct cm))(D3:bK K mg "_law_e_kind" ju ["caught"] f3 d3)(G3:FnOk P w K mg base CX0 1 f3 d3 ["caught"] (Lx K cs))(nP:mg "HueError"=some (.ref D))(kw:Kn K cs D cw "web"):
  FnOk P w K mg base CX0 14 f fd ["sharing","deed"] (K7 K cs D C cp ct cm):=by
 refine F.cQ ["sharing","deed","caught","e"] fun cdv A outer s H vs Q E hr h=> ?_;obtain⟨s1,x,t,rfl,hc,q⟩:=h;refine bw ?_;intro Y;refine⟨_,(aJ (pS 2 pe_non) (aJ (RQ (i:=3) rfl rfl (dg op_isN (pv 0) pe_non) Mk1 X1 hr rfl fQ D1.b (aj (pv 1) ak) X2 hr rfl D2.m D2.F.kp D2.b (aj (pv 0) (aj (pv 1) ak)) rfl nP RB.nd rfl rfl (fun e=>(aP (pS 2 (pv 3))))) (aJ (dN (dg op_isN (pv 2) pe_non) (aP (bO dJ)) dW) (aP (bO (pc G3 hr D3 (aj (pv 2) ak))))))),?_⟩;refine uD ?_;intro c4 c3 c2;rcases hc with⟨rfl,⟨d,hd,hw⟩,rfl⟩|⟨o,da,c,S,d,rfl,rfl,hS,hD,hR,hK⟩
 ·refine⟨_,rfl,rfl,_,rfl,iteT ⟨_,rfl,fun y dx hy hdx hne=> ?_⟩⟩;have sM:Same H (upd (upd H dx (.own y)) y (.ins C dx [])):=(aK hdx _).trans (aK (by rw[cG (mj hne)];exact hy) _);refine⟨y,x,d,rfl,hd.same sM,hw,fun e H1 s1 he=> ?_⟩;obtain⟨bs,j,k1,k2,k3,k4,k5⟩:=kw.wo;refine⟨e,_,rfl,rfl,kw.ex,_,rfl,_,rfl,rfl,_,rfl,iteF ?_⟩;exact⟨_,rfl,e,cw,bs,j,"web",rfl,au,k1,k2,k3,k4,k5,fun H' s3=>q H' (sM.trans (s1.trans ((aK he (rQ e cw)).trans s3)))⟩
 ·refine⟨_,rfl,rfl,_,rfl,iteF ⟨_,rfl,_,rfl,?_⟩⟩;refine⟨o,da,c,S,d,rfl,hS,hD,hR,fun e H1 s1 he=> ?_⟩;obtain⟨bs,j,k1,k2,k3,k4,k5⟩:=hK.wo;refine⟨e,_,rfl,rfl,hK.ex,_,rfl,_,rfl,rfl,_,rfl,iteF ?_⟩;exact⟨_,rfl,e,c,bs,j,t,rfl,au,k1,k2,k3,k4,k5,fun H' s3=>q H' (s1.trans ((aK he (rQ e c)).trans s3))⟩
noncomputable def yH(S:Sd):θ:= .tuple [fY S.n S.ts,QV S.f,.list (S.l.map jJ),.int S.t]
structure vo(K:W.Frag)(H:Hp)(r la:Addr)(S:Sd):Prop where
 tp:∃wa va rs,SqT K H r [.ref wa,.ref va,.ref la,.int S.t]/\aQ K H wa S.n S.ts/\yq K H va S.f/\H la=some (.lst rs)/\eZ K H rs S.l
theorem vo.same{H H':Hp}{r la:Addr}{S:Sd}(h:vo K H r la S)(s:Same H H'):vo K H' r la S:=by
 obtain⟨wa,va,rs,h1,h2,h3,h4,h5⟩:=h.tp;exact⟨wa,va,rs,s.tup h1,h2.same s,s.tup h3,s _ _ h4,h5.same s⟩
theorem vo.x{H H':Hp}{r la c:Addr}{S:Sd}{zs:List V}(h:vo K H r la S)(x:aA c H H')(hc:H c=some (.lst zs))(ne:la≠c):vo K H' r la S:=by
 obtain⟨wa,va,rs,h1,h2,h3,h4,h5⟩:=h.tp;have k:TK K H H':=x.tk hc;exact⟨wa,va,rs,k _ _ h1,h2.tk k,k _ _ h3,x _ _ ne h4,h5.tk k⟩
theorem vo.dv{H:Hp}{r la:Addr}{S:Sd}(h:vo K H r la S):DV K H (.ref r) (yH S):=by
 obtain⟨wa,va,rs,h1,h2,h3,h4,h5⟩:=h.tp;exact .tup h1 (.cons h2.web.dv (.cons (yq.dv h3) (.cons (.lst (SqL.of h4) (Og h5)) (.cons (.int _) .nil))))
theorem Fy(S:Sd):(yH S).canLay0=true:=by
 show((fY S.n S.ts).canLay0&&((QV S.f).canLay0&&(PyData.canLayAll0 (S.l.map jJ)&&true)))=true;rw[Tt,Ui,Hh];rfl
theorem Ro(S:Sd):PyData.eqv (yH S) (yH S)=true:=by
 show(PyData.eqv (fY S.n S.ts) (fY S.n S.ts)&&(PyData.eqv (QV S.f) (QV S.f)&&(PyData.eqvAll (S.l.map jJ) (S.l.map jJ)&&(PyData.eqv (.int S.t) (.int S.t)&&PyData.eqvAll [] []))))=true;rw[Um,frD_eq,Hx,Qe];simp[PyData.eqvAll]
theorem Rp(S:Sd):min (yH S).depth (yH S).depth<=64:=by
 have h1:=HB S.l;have h2:=rB S.ts;show min (max (max 0 (max (PyData.depthAll (S.ts.map pairD)+1) 0)+1) (max (max 0 (max 0 0)+1) (max (PyData.depthAll (S.l.map jJ)+1) (max 0 0)))+1) _<=64;omega
noncomputable def K9(K:W.Frag)(C:Addr):Sp:=fun vs H Q _=>∃(o:Addr) (S:Sd),vs=[.ref o]/\cL K C H o S/\fK S/\∀r la H',Same H H'->vo K H' r la S->H la=none->Q (.ref r) H'
theorem R8{f f1 f2 f3 f4 C:Addr}{fd d1 d2 d3 d4:ρ}(F:Fun K "_law_e_told" "_law_e_told" jo f fd)
  (Na:uV K C)(D1:jU K C "web" "Sharing.web" iz ["self"] f1 d1)(JR:FnOk P w K mg base CX0 3 f1 d1 ["self"] (Bt K C))(D2:jU K C "value" "Sharing.value" eO ["self"] f2 d2)(G2:FnOk P w K mg base CX0 4 f2 d2 ["self"] (Lg K C))(D3:jU K C "laying" "Sharing.laying" zdd ["self"] f3 d3)(G3:FnOk P w K mg base CX0 4 f3 d3 ["self"] (Lk K C))(D4:jU K C "again" "Sharing.again" eU ["self"] f4 d4)(G4':FnOk P w K mg base CX0 1 f4 d4 ["self"] (Ln K C)):
  FnOk P w K mg base CX0 5 f fd ["sharing"] (K9 K C):=by
 have G1:FnOk P w K mg base CX0 4 f1 d1 ["self"] (Bt K C):=JR.mono (by decide);have G4:FnOk P w K mg base CX0 4 f4 d4 ["self"] (Ln K C):=G4'.mono (by decide);refine F.cQ ["sharing"] fun cdv A outer s H vs Q E hr h=> ?_;obtain⟨o,S,rfl,hS,hok,qq⟩:=h;refine⟨_,(aP (bO (fV (aj (Q0 (pv 0) Na.c D1.m G1 hr D1.b .nil pass0) (aj (Q0 (pv 0) Na.c D2.m G2 hr D2.b .nil pass0) (aj (Q0 (pv 0) Na.c D3.m G3 hr D3.b .nil pass0) (aj (Q0 (pv 0) Na.c D4.m G4 hr D4.b .nil pass0) ak))))))),?_⟩;obtain⟨dx,wb,va,lr,pr,A⟩:=id hS;refine⟨_,rfl,o,dx,_,rfl,A.at_,rfl,o,S,rfl,hS,fun r1 H1 s1 W1=> ?_⟩;have S1:=hS.same s1;have A1:=A.same s1;refine⟨_,rfl,o,dx,_,rfl,A1.at_,rfl,o,S,rfl,S1,hok,fun r2 H2 s2 F2=> ?_⟩;have S2:=S1.same s2;have A2:=A1.same s2;refine⟨_,rfl,o,dx,_,rfl,A2.at_,rfl,o,S,rfl,S2,hok,fun r3 v3 H3 s3 e3 l3 n3=> ?_⟩;have S3:=S2.same s3;have A3:=A2.same s3;refine⟨_,rfl,o,dx,_,rfl,A3.at_,rfl,o,S,rfl,S3,(by show 4<=sizeLine;decide),fun p hp=> ?_⟩;have m:=aK hp (.tup [.ref r1,.ref r2,.ref r3,.int S.t]);have s3m:=s3.trans m;have qZ:=s2.trans s3m;refine qq p r3 _ (s1.trans qZ) ⟨r1,r2,v3,SqT.of au,W1.same qZ,s3m.tup F2,m _ _ e3,l3.same m⟩ ?_;cases e:H r3 with
 |none=>rfl
 |some u=>have:=(s1.trans s2) _ _ e;rw[n3]at this;cases this
theorem fJ{X:Cx}{e:Expr}{es:List Expr}{te:TE}{t:TA}(ha:PE X e te)(hr:PA X es t)(hn:rC e=true:=by rfl):PA X (e::es) (tCons te t):=aj ha hr (Rq _ _ hn)
theorem lw2{X:Cx}{e1 e2:Expr}{t1 t2:TE}{pos}(h1:PE X e1 t1)(h2:PE X e2 t2)(n1:rC e1=true:=by rfl)(n2:rC e2=true:=by rfl):PE X (.List [e1,e2] pos) (tLst (tCons t1 (tCons t2 tNil))):=uQ (fJ h1 (fJ h2 ak n2) n1)
theorem lw3{X:Cx}{e1 e2 e3:Expr}{t1 t2 t3:TE}{pos}(h1:PE X e1 t1)(h2:PE X e2 t2)(h3:PE X e3 t3)(n1:rC e1=true:=by rfl)(n2:rC e2=true:=by rfl)(n3:rC e3=true:=by rfl):PE X (.List [e1,e2,e3] pos) (tLst (tCons t1 (tCons t2 (tCons t3 tNil)))):=uQ (fJ h1 (fJ h2 (fJ h3 ak n3) n2) n1)
theorem lw4{X:Cx}{e1 e2 e3 e4:Expr}{t1 t2 t3 t4:TE}{pos}(h1:PE X e1 t1)(h2:PE X e2 t2)(h3:PE X e3 t3)(h4:PE X e4 t4)(n1:rC e1=true:=by rfl)(n2:rC e2=true:=by rfl)(n3:rC e3=true:=by rfl)(n4:rC e4=true:=by rfl):PE X (.List [e1,e2,e3,e4] pos) (tLst (tCons t1 (tCons t2 (tCons t3 (tCons t4 tNil))))):=uQ (fJ h1 (fJ h2 (fJ h3 (fJ h4 ak n4) n3) n2) n1)
theorem lw9{X:Cx}{e1 e2 e3 e4 e5 e6 e7 e8 e9:Expr}{t1 t2 t3 t4 t5 t6 t7 t8 t9:TE}{pos}(h1:PE X e1 t1)(h2:PE X e2 t2)(h3:PE X e3 t3)(h4:PE X e4 t4)(h5:PE X e5 t5)(h6:PE X e6 t6)(h7:PE X e7 t7)(h8:PE X e8 t8)(h9:PE X e9 t9)(n1:rC e1=true:=by rfl)(n2:rC e2=true:=by rfl)(n3:rC e3=true:=by rfl)(n4:rC e4=true:=by rfl)(n5:rC e5=true:=by rfl)(n6:rC e6=true:=by rfl)(n7:rC e7=true:=by rfl)(n8:rC e8=true:=by rfl)(n9:rC e9=true:=by rfl):PE X (.List [e1,e2,e3,e4,e5,e6,e7,e8,e9] pos) (tLst (tCons t1 (tCons t2 (tCons t3 (tCons t4 (tCons t5 (tCons t6 (tCons t7 (tCons t8 (tCons t9 tNil)))))))))):=uQ (fJ h1 (fJ h2 (fJ h3 (fJ h4 (fJ h5 (fJ h6 (fJ h7 (fJ h8 (fJ h9 ak n9) n8) n7) n6) n5) n4) n3) n2) n1)
theorem tw1{X:Cx}{e1:Expr}{t1:TE}{x1 pos}(h1:PE X e1 t1)(n1:rC e1=true:=by rfl):PE X (.Tuple [e1] x1 pos) (tTup (tCons t1 tNil)):=fV (fJ h1 ak n1)
theorem sE{X:Cx}{e1 e2:Expr}{t1 t2:TE}{x1 pos}(h1:PE X e1 t1)(h2:PE X e2 t2)(n1:rC e1=true:=by rfl)(n2:rC e2=true:=by rfl):PE X (.Tuple [e1,e2] x1 pos) (tTup (tCons t1 (tCons t2 tNil))):=fV (fJ h1 (fJ h2 ak n2) n1)
theorem Wd{X:Cx}{e1 e2 e3:Expr}{t1 t2 t3:TE}{x1 pos}(h1:PE X e1 t1)(h2:PE X e2 t2)(h3:PE X e3 t3)(n1:rC e1=true:=by rfl)(n2:rC e2=true:=by rfl)(n3:rC e3=true:=by rfl):PE X (.Tuple [e1,e2,e3] x1 pos) (tTup (tCons t1 (tCons t2 (tCons t3 tNil)))):=fV (fJ h1 (fJ h2 (fJ h3 ak n3) n2) n1)
noncomputable def Bc(n:Int)(ts:L0):jf->Str->Prop
 | .put xs,t=>(¬cg n xs/\t="place")\/(cg n xs/\n=10/\t="many")
 | .drop,t=>n=0/\t="place"
 | .tie i j,t=>(¬Two n i j/\t="place")\/(Two n i j/\(lo2 i j,hi2 i j)∈ts/\t="tie")
 | .Im i j,t=>(¬Two n i j/\t="place")\/(Two n i j/\(lo2 i j,hi2 i j)∉ts/\t="tie")
theorem Uv{n:Int}{ts:L0}{cs:List Addr}{D cp ct cm:Addr}{d:jf}{t:Str}(h:Bc n ts d t)(kp:Kn K cs D cp "place")(kt:Kn K cs D ct "tie")(km:Kn K cs D cm "many"):∃c,JN n ts cp ct cm d c/\Kn K cs D c t:=by
 cases d with
 |put xs=>
  rcases h with⟨a,rfl⟩|⟨a,b,rfl⟩
  ·exact⟨cp,.inl ⟨a,rfl⟩,kp⟩
  ·exact⟨cm,.inr ⟨a,b,rfl⟩,km⟩
 |drop=>
  obtain⟨a,rfl⟩:=h;exact⟨cp,⟨a,rfl⟩,kp⟩
 |tie i j=>
  rcases h with⟨a,rfl⟩|⟨a,b,rfl⟩
  ·exact⟨cp,.inl ⟨a,rfl⟩,kp⟩
  ·exact⟨ct,.inr ⟨a,b,rfl⟩,kt⟩
 |Im i j=>
  rcases h with⟨a,rfl⟩|⟨a,b,rfl⟩
  ·exact⟨cp,.inl ⟨a,rfl⟩,kp⟩
  ·exact⟨ct,.inr ⟨a,b,rfl⟩,kt⟩
noncomputable def pW(K:W.Frag)(H:Hp)(v:V)(p:jf×Str):Prop:=∃r da,v= .ref r/\SqT K H r [.ref da,.str p.2]/\je K H da p.1
noncomputable def rF(K:W.Frag)(H:Hp):List V->List (jf×Str)->Prop:=Paired (pW K H)
theorem pW.tk{H H':Hp}{v:V}{p:jf×Str}(h:pW K H v p)(k:TK K H H'):pW K H' v p:=by
 obtain⟨r,da,e,h1,h2⟩:=h;exact⟨r,da,e,k _ _ h1,h2.tk k⟩
theorem rF.tk{H H':Hp}{vs:List V}{ps:List (jf×Str)}(h:rF K H vs ps)(k:TK K H H'):rF K H' vs ps:=Paired.mapP h fun _ _ z=>pW.tk z k
theorem ud{α β:Type}{R:α->β->Prop}:∀{l l':List α} {m m':List β},Paired R l m->Paired R l' m'->Paired R (l++l') (m++m')
 |_,_,_,_,.nil,h=>h
 |_,_,_,_,.cons r t,h=> .cons r (ud t h)
structure RI(K:W.Frag)(n:Int)(ts:L0)(H0 H:Hp)(l:Addr)(m:Nat):Prop where
 ls:∃rs ps,H l=some (.lst rs)/\rF K H rs ps/\(∀p∈ps,Bc n ts p.1 p.2)/\rs.length<=m
 sm:Same H0 H
 fr:H0 l=none
theorem RI.same{n:Int}{ts:L0}{H0 H H1:Hp}{l:Addr}{m:Nat}(h:RI K n ts H0 H l m)(s:Same H H1):RI K n ts H0 H1 l m:=by
 obtain⟨rs,ps,h1,h2,h3,h4⟩:=h.ls;exact⟨⟨rs,ps,s _ _ h1,h2.tk s.tk,h3,h4⟩,h.sm.trans s,h.fr⟩
theorem RI.mono{n:Int}{ts:L0}{H0 H:Hp}{l:Addr}{m m':Nat}(h:RI K n ts H0 H l m)(e:m<=m'):RI K n ts H0 H l m':=by
 obtain⟨rs,ps,h1,h2,h3,h4⟩:=h.ls;exact⟨⟨rs,ps,h1,h2,h3,dD h4 e⟩,h.sm,h.fr⟩
theorem RI.app{n:Int}{ts:L0}{H0 H:Hp}{l:Addr}{m:Nat}(h:RI K n ts H0 H l m){v:V}{p:jf×Str}(hr:pW K H v p)(hb:Bc n ts p.1 p.2):∃rs,H l=some (.lst rs)/\rs.length<=m/\RI K n ts H0 (upd H l (.lst (rs++[v]))) l (m+1):=by
 obtain⟨rs,ps,h1,h2,h3,h4⟩:=h.ls;have x:aA l H (upd H l (.lst (rs++[v]))):=(aA.refl _ _).upd;have k:TK K H (upd H l (.lst (rs++[v]))):=x.tk h1;refine⟨rs,h1,h4,⟨rs++[v],ps++[p],au,Paired.snoc (h2.tk k) (hr.tk k),fun q hq=> ?_,by rw[rJ];exact wcn h4⟩,BP h.sm h.fr,h.fr⟩;rcases qg.mp hq with z|z
 ·exact h3 q z
 ·rw[oE.mp z];exact hb
theorem RI.cat{n:Int}{ts:L0}{H0 H:Hp}{l:Addr}{m:Nat}(h:RI K n ts H0 H l m){vs:List V}{qs:List (jf×Str)}(hr:rF K H vs qs)(hb:∀p∈qs,Bc n ts p.1 p.2):∃rs,H l=some (.lst rs)/\rs.length<=m/\∀a,H a=none->RI K n ts H0 (upd H a (.lst (rs++vs))) a (m+vs.length):=by
 obtain⟨rs,ps,h1,h2,h3,h4⟩:=h.ls;refine⟨rs,h1,h4,fun a ha=> ?_⟩;have s:=aK ha (.lst (rs++vs));refine⟨⟨rs++vs,ps++qs,au,ud (h2.tk s.tk) (hr.tk s.tk),fun q hq=> ?_,by rw[rJ];exact Nat.add_le_add_right h4 _⟩,h.sm.trans s,?_⟩
 ·rcases qg.mp hq with z|z
  ·exact h3 q z
  ·exact hb q z
 ·cases e:H0 a with
  |none=>rfl
  |some u=>have:=h.sm _ _ e;rw[ha]at this;cases this
noncomputable def wD(k:Bool)(i j:Int):jf:=if k=true then .tie i j else .Im i j
noncomputable def wN(k:Bool):Str:=if k=true then"tie" else"untie"
theorem abt{H:Hp}{a:Addr}{k:Bool}{i j:Int}(h:SqT K H a [.str (wN k),.int i,.int j]):je K H a (wD k i j):=by
 cases k
 ·exact h
 ·exact h
theorem yE{n i j:Int}{ts:L0}{k:Bool}(h:¬Two n i j):Bc n ts (wD k i j) "place":=by
 cases k
 ·exact .inl ⟨h,rfl⟩
 ·exact .inl ⟨h,rfl⟩
theorem KC{n i j:Int}{ts:L0}{k:Bool}(h:Two n i j)(e:decide ((lo2 i j,hi2 i j)∈ts)=k):Bc n ts (wD k i j) "tie":=by
 cases k
 ·exact .inr ⟨h,Kf e,rfl⟩
 ·exact .inr ⟨h,fM e,rfl⟩
theorem wO{n x:Int}(h:¬(0<=x/\x<n)):¬cg n [x]:=fun z=>h (z.lt x jG)
theorem qz{n x y:Int}(h:¬(0<=x/\x<y/\y<n)):¬cg n [x,y]:=fun z=>h ⟨(z.lt x jG).1,(YW.mp z.FW).1 y jG,(z.lt y (jW _ jG)).2⟩
noncomputable def dH(K:W.Frag)(H:Hp):List V->List (List Int)->Prop:=Paired fun v ys=>∃t,v= .ref t/\SqT K H t (ys.map V.int)
theorem dH.same{H H':Hp}{vs:List V}{l:List (List Int)}(h:dH K H vs l)(s:Same H H'):dH K H' vs l:=Paired.mapP h fun _ _ ⟨t,e,z⟩=>⟨t,e,s.tup z⟩
theorem dH.snoc{H:Hp}{vs:List V}{l:List (List Int)}{q:Addr}{ys:List Int}(h:dH K H vs l)(t:SqT K H q (ys.map V.int)):dH K H (vs++[.ref q]) (l++[ys]):=Paired.snoc h ⟨q,rfl,t⟩
theorem tX{X:Cx}{st:Stmt}{t:TS}(t':TS)(w:∀D σ H,t' D σ H->t D σ H)(h:PS X st t):PS X st t':=fun pins s σ H D I q=>h pins s σ H D I (w D σ H q)
theorem aad{t:TA}{σ:St}{H:Hp}{Q:VK}(xs:List V)(ht:∀H (R:List V->Hp->Prop),R xs H->t σ H R)(hz:xs.length<=sizeLine)(q:∀p H',Same H H'->SqT K H' p xs->Q (.ref p) H'):tTup t σ H Q:=
 ht _ _ ⟨hz,fun p hp=>q p _ (aK hp _) (SqT.of au)⟩
theorem GX{t:TA}{σ:St}{H:Hp}{Q:VK}(h:t σ H fun xs H1=>xs.length<=sizeLine/\∀p,H1 p=none->Q (.ref p) (upd H1 p (.lst xs))):tLst t σ H Q:=h
theorem aae{t:TA}{σ:St}{H:Hp}{Q:VK}(h:t σ H fun xs H1=>xs.length<=sizeLine/\∀p,H1 p=none->Q (.ref p) (upd H1 p (.tup xs))):tTup t σ H Q:=h
theorem eY{te:TE}{tr:TA}{σ:St}{H:Hp}{Q:List V->Hp->Prop}(h:te σ H fun x H1=>tr σ H1 fun xs H2=>Q (x::xs) H2):tCons te tr σ H Q:=h
theorem BZ{x y z u:TE}{σ:St}{k:Bool}{i j:Int}{t:Str}{H:Hp}{Q:VK}(hx:∀H (Q:VK),Q (.str (wN k)) H->x σ H Q)(hy:∀H (Q:VK),Q (.int i) H->y σ H Q)(hz:∀H (Q:VK),Q (.int j) H->z σ H Q)(hu:∀H (Q:VK),Q (.str t) H->u σ H Q)(q:∀r H',Same H H'->pW K H' (.ref r) (wD k i j,t)->Q (.ref r) H'):tTup (tCons (tTup (tCons x (tCons y (tCons z tNil)))) (tCons u tNil)) σ H Q:=by
 refine hx _ _ (hy _ _ (hz _ _ ⟨(by show 3<=sizeLine;decide),fun p hp=>hu _ _ ⟨(by show 2<=sizeLine;decide),fun r hr=> ?_⟩⟩));have s1:=aK hp (.tup [.str (wN k),.int i,.int j]);have s2:=aK hr (.tup [.ref p,.str t]);exact q r _ (s1.trans s2) ⟨r,p,rfl,SqT.of au,abt (s2.tup (SqT.of au))⟩
theorem RM{x z u:TE}{σ:St}{ys:List Int}{t:Str}{H:Hp}{Q:VK}(hx:∀H (Q:VK),Q (.str "put") H->x σ H Q)(hz:∀(Q:VK),(∀p H',Same H H'->SqT K H' p (ys.map V.int)->Q (.ref p) H')->z σ H Q)(hu:∀H (Q:VK),Q (.str t) H->u σ H Q)(q:∀r H',Same H H'->pW K H' (.ref r) (.put ys,t)->Q (.ref r) H'):tTup (tCons (tTup (tCons x (tCons z tNil))) (tCons u tNil)) σ H Q:=by
 refine hx _ _ (hz _ fun p0 H0 s0 h0=>⟨(by show 2<=sizeLine;decide),fun p hp=>hu _ _ ⟨(by show 2<=sizeLine;decide),fun r hr=> ?_⟩⟩);have s1:=aK hp (.tup [.str "put",.ref p0]);have s2:=aK hr (.tup [.ref p,.str t]);exact q r _ (s0.trans (s1.trans s2)) ⟨r,p,rfl,SqT.of au,p0,s2.tup (SqT.of au),(s1.trans s2).tup h0⟩
theorem RN{n:Int}{ts:L0}{H0 H:Hp}{l:Addr}{m k:Nat}{Q:VK}{vs:List V}{ps:List (jf×Str)}(R:RI K n ts H0 H l m)(hr:rF K H vs ps)(hb:∀p∈ps,Bc n ts p.1 p.2)(hk:vs.length=k)(hm:m+k<=1000)(q:∀l' H',RI K n ts H0 H' l' (m+k)->Same H H'->Q (.ref l') H'):
  vs.length<=sizeLine/\∀b,H b=none->rCat (.ref l) (.ref b) (upd H b (.lst vs)) Q:=by
 subst hk;refine⟨by rw[fZ];omega,fun b hb'=> ?_⟩;have s1:=aK hb' (.lst vs);obtain⟨rs,e1,e2,q2⟩:=(R.same s1).cat (rF.tk hr s1.tk) hb;exact⟨l,b,rs,vs,rfl,rfl,e1,au,by rw[fZ];omega,fun p hp=>q p _ (q2 p hp) (s1.trans (aK hp _))⟩
noncomputable def Wi(cp wb tt l:Addr)(n far:Int)(b6 b7 b8 b9:Option V):St:=[some (.ref cp),some (.ref wb),some (.int n),some (.ref tt),some (.int far),some (.ref l),b6,b7,b8,b9]
noncomputable def tR(K:W.Frag)(m m':Nat):TS:=fun D σ H=>∃(cp wb tt l:Addr) (n far:Int) (ts:L0) (rr:List V) (H0:Hp) (b6 b7 b8 b9:Option V),σ=Wi cp wb tt l n far b6 b7 b8 b9/\0<=n/\n<=10/\0<=far/\aO n ts/\SqT K H0 tt rr/\cJ K H0 rr (ts.map pairD)/\RI K n ts H0 H l m/\
 ∀l' c6 c7 c8 c9 H',RI K n ts H0 H' l' m'->D.nx (Wi cp wb tt l' n far c6 c7 c8 c9) H'
theorem jH{t:TA}{σ:St}{H:Hp}{Q:VK}(ys:List Int)(ht:∀H (R:List V->Hp->Prop),R (ys.map V.int) H->t σ H R)(q:∀p H',Same H H'->SqT K H' p (ys.map V.int)->Q (.ref p) H')(hl:ys.length<=2:=by exact Nat.le_of_ble_eq_true rfl):tTup t σ H Q:=
 ht _ _ ⟨by rw[aM,fZ];omega,fun p hp=>q p _ (aK hp _) (SqT.of au)⟩
theorem all2{α:Type}{P:α->Prop}{a b:α}(ha:P a)(hb:P b):∀p∈[a,b],P p:=List.forall_mem_cons.mpr ⟨ha,List.forall_mem_cons.mpr ⟨hb,fun _ z=>nomatch z⟩⟩
theorem abd{α:Type}{P:α->Prop}{a b c:α}(ha:P a)(hb:P b)(hc:P c):∀p∈[a,b,c],P p:=List.forall_mem_cons.mpr ⟨ha,all2 hb hc⟩
theorem aaB{i j:Int}(h:i<j):lo2 i j=i/\hi2 i j=j/\lo2 j i=i/\hi2 j i=j:=by
 unfold lo2 hi2;refine⟨aB (by omega),aH (by omega),aH h,aB (by omega)⟩
theorem int_at{l:List Int}{i:Nat}{x:V}(h:(l.map V.int)[i]? =some x):∃y,y∈l/\x= .int y:=by
 rw[fu]at h;cases e:l[i]? with
 |none=>rw[e]at h;cases h
 |some y=>rw[e]at h;cases h;exact⟨y,uT e,rfl⟩
theorem vr{i:Nat}{v:V}{σ:St}(e:σ[i]? =some (some v):=by rfl):∀H (Q:VK),Q v H->tVar i σ H Q:=fun _ _ q=>⟨v,e,q⟩
theorem cst{v:V}{σ:St}:∀H (Q:VK),Q v H->tC v σ H Q:=fun _ _ q=>q
theorem Ad{t:TA}{g:L2.TG}{tb:TS}{D:Ends}{σ:St}{H:Hp}(xs:List V)(ht:∀H (R:List V->Hp->Prop),R xs H->t σ H R)(hz:xs.length<=sizeLine)(Pv:Addr->Nat->St->Hp->Prop)(h0:∀p H',Same H H'->H' p=some (.lst xs)->H p=none->Pv p 0 σ H')(hl:∀p i σ H,Pv p i σ H->H p=some (.lst xs))(hs:∀p i x σ H,xs[i]? =some x->Pv p i σ H->g x σ H fun σ2 H2=>tb {D with nx:=Pv p (i+1),ct:=Pv p (i+1),bk:=D.nx} σ2 H2)(hd:∀p σ H,Pv p xs.length σ H->D.nx σ H):tFor (qL K (tLst t)) g tb D σ H:=
 ht _ _ ⟨hz,fun p hp=>⟨p,xs,rfl,SqL.of au,fun _=>for_list (Pv p) (h0 p _ (aK hp _) au hp) (fun i σ H _ q=>SqL.of (hl p i σ H q)) (hs p) (hd p)⟩⟩
theorem st0:∀D σ H,tR K 0 9 D σ H->tFor (qL K (tLst (tCons (tTup (tCons (tVar 2) tNil)) (tCons (tTup (tCons (tUn (rU fun i=> .int (-i)) (tC (.int 1))) tNil)) (tCons (tTup (tCons (tOp (rI0 fun i j=> .int (i+j)) (tVar 2) (tVar 4)) tNil)) (tCons (tTup (tCons (tOp (rI0 fun i j=> .int (i-j)) (tUn (rU fun i=> .int (-i)) (tC (.int 1))) (tVar 4)) tNil)) (tCons (tTup (tCons (tC (.int 0)) (tCons (tVar 2) tNil))) (tCons (tTup (tCons (tC (.int 0)) (tCons (tC (.int 0)) tNil))) (tCons (tTup (tCons (tC (.int 1)) (tCons (tC (.int 0)) tNil))) (tCons (tTup (tCons (tOp (rI0 fun i j=> .int (i-j)) (tVar 2) (tC (.int 1))) (tCons (tOp (rI0 fun i j=> .int (i-j)) (tVar 2) (tC (.int 1))) tNil))) (tCons (tTup (tCons (tVar 2) (tCons (tC (.int 0)) tNil))) tNil))))))))))) (gName 6) (tDrop (tBM K "list" rAppend (tVar 5) (tCons (tTup (tCons (tTup (tCons (tC (.str "put")) (tCons (tVar 6) tNil))) (tCons (tC (.str "place")) tNil))) tNil))) D σ H:=by
 rintro D σ H ⟨cp,wb,tt,l,n,far,ts,rr,H0,b6,b7,b8,b9,rfl,h0,h10,f0,hP,w2,w3,R,hN⟩;dsimp only[tFor,qL,tLst,tCons];refine jH (K:=K) [n] (fun H R q=>⟨_,rfl,q⟩) fun q1 G1 m1 T1=> ?_;have P1:dH K G1 [.ref q1] [[n]]:= .cons ⟨q1,rfl,T1⟩ .nil;refine jH (K:=K) [-1] (fun H R q=>⟨_,rfl,q⟩) fun q2 G2 m2 T2=> ?_;have P2:=dH.snoc (dH.same P1 m2) T2;refine jH (K:=K) [n+far] (fun H R q=>⟨_,rfl,_,rfl,_,_,rfl,rfl,q⟩) fun q3 G3 m3 T3=> ?_;have P3:=dH.snoc (dH.same P2 m3) T3;refine jH (K:=K) [-1-far] (fun H R q=>⟨_,rfl,_,rfl,_,_,rfl,rfl,q⟩) fun q4 G4 m4 T4=> ?_;have P4:=dH.snoc (dH.same P3 m4) T4;refine jH (K:=K) [0,n] (fun H R q=>⟨_,rfl,q⟩) fun q5 G5 m5 T5=> ?_;have P5:=dH.snoc (dH.same P4 m5) T5;refine jH (K:=K) [0,0] (fun H R q=>q) fun q6 G6 m6 T6=> ?_;have P6:=dH.snoc (dH.same P5 m6) T6;refine jH (K:=K) [1,0] (fun H R q=>q) fun q7 G7 m7 T7=> ?_;have P7:=dH.snoc (dH.same P6 m7) T7;refine jH (K:=K) [n-1,n-1] (fun H R q=>⟨_,rfl,_,_,rfl,rfl,_,rfl,_,_,rfl,rfl,q⟩) fun q8 G8 m8 T8=> ?_;have P8:=dH.snoc (dH.same P7 m8) T8;refine jH (K:=K) [n,0] (fun H R q=>⟨_,rfl,q⟩) fun q9 G9 m9 T9=> ?_;have P9:=dH.snoc (dH.same P8 m9) T9;refine⟨(by show 9<=sizeLine;decide),fun lb nb=> ?_⟩;have sG:=aK nb (.lst [.ref q1,.ref q2,.ref q3,.ref q4,.ref q5,.ref q6,.ref q7,.ref q8,.ref q9]);have eb0:(upd G9 lb (.lst [.ref q1,.ref q2,.ref q3,.ref q4,.ref q5,.ref q6,.ref q7,.ref q8,.ref q9])) lb=some (.lst [.ref q1,.ref q2,.ref q3,.ref q4,.ref q5,.ref q6,.ref q7,.ref q8,.ref q9]):=au;generalize (upd G9 lb (.lst [.ref q1,.ref q2,.ref q3,.ref q4,.ref q5,.ref q6,.ref q7,.ref q8,.ref q9]))=G at *;have hno:∀ys∈[[n],[-1],[n+far],[-1-far],[0,n],[0,0],[1,0],[n-1,n-1],[n,0]],¬cg n ys:=fun ys hys=>by
  simp only[cZ,wei,or_false]at hys;rcases hys with rfl|rfl|rfl|rfl|rfl|rfl|rfl|rfl|rfl
  ·exact wO (by omega)
  ·exact wO (by omega)
  ·exact wO (by omega)
  ·exact wO (by omega)
  ·exact qz (by omega)
  ·exact qz (by omega)
  ·exact qz (by omega)
  ·exact qz (by omega)
  ·exact qz (by omega)
 obtain⟨vs,eb,P10⟩:∃vs,G lb=some (.lst vs)/\dH K G vs [[n],[-1],[n+far],[-1-far],[0,n],[0,0],[1,0],[n-1,n-1],[n,0]]:=⟨_,eb0,dH.same P9 sG⟩;have aan:Same H G:=m1.trans (m2.trans (m3.trans (m4.trans (m5.trans (m6.trans (m7.trans (m8.trans (m9.trans sG))))))));have RG:=R.same aan;have nlb:lb≠l:=fun z=>by
  obtain⟨rs,ps,h1,_⟩:=(R.same (m1.trans (m2.trans (m3.trans (m4.trans (m5.trans (m6.trans (m7.trans (m8.trans m9))))))))).ls;rw[z,h1]at nb;cases nb
 clear P1 P2 P3 P4 P5 P6 P7 P8 P9 T1 T2 T3 T4 T5 T6 T7 T8 T9 m1 m2 m3 m4 m5 m6 m7 m8 m9 sG eb0 nb aan;refine⟨lb,_,rfl,SqL.of eb,fun hz=> ?_⟩;have hlen:=Paired.kj P10;refine for_list (K:=K) (a:=lb) (xs:=vs) (fun i σ H'=>(∃(c6:Option V),σ=Wi cp wb tt l n far c6 b7 b8 b9)/\RI K n ts H0 H' l i/\H' lb=some (.lst vs)/\dH K H' vs [[n],[-1],[n+far],[-1-far],[0,n],[0,0],[1,0],[n-1,n-1],[n,0]])
  ⟨⟨_,rfl⟩,RG,eb,P10⟩ (fun i σ H' _ p=>SqL.of p.2.2.1) (fun i x σ H' hx p=> ?_) (fun σ H' p=> ?_)
 ·obtain⟨⟨c6,rfl⟩,R',eb',P⟩:=p;have hi:i<9:=Nat.lt_of_lt_of_eq (oF.mp hx).1 hlen;obtain⟨ys,hys,t,rfl,hT⟩:=Paired.at_ P hx;obtain⟨QM,XF⟩:∃rs,H' l=some (.lst rs):=let⟨rs,_,h1,_⟩:=R'.ls;⟨rs,h1⟩;refine⟨_,rfl,.inl ⟨rfl,_,SqL.of XF⟩,RM (K:=K) (ys:=ys) (t:="place") cst (fun Q q=>⟨_,rfl,q t H' (Same.refl _) hT⟩) cst fun r H1 s1 w1=> ?_⟩;obtain⟨rs,e1,e2,R2⟩:=(R'.same s1).app w1 (.inl ⟨hno ys (uT hys),rfl⟩);refine⟨l,rs,_,rfl,rfl,e1,by rw[fZ];omega,?_⟩;have xl:aA l H1 (upd H1 l (.lst (rs++[.ref r]))):=(aA.refl _ _).upd;exact⟨⟨_,rfl⟩,R2,xl _ _ nlb (s1 _ _ eb'),Paired.mapP (dH.same P s1) fun _ _ ⟨t,e,z⟩=>⟨t,e,(xl.tk e1) _ _ z⟩⟩
 ·obtain⟨⟨c6,rfl⟩,R',_,_⟩:=p;exact hN _ _ _ _ _ _ (R'.mono (Bk hlen))
theorem st1:∀D σ H,tR K 9 33 D σ H->tFor (qL K (tLst (tCons (tUn (rU fun i=> .int (-i)) (tC (.int 1))) (tCons (tVar 2) (tCons (tOp (rI0 fun i j=> .int (i+j)) (tVar 2) (tVar 4)) (tCons (tOp (rI0 fun i j=> .int (i-j)) (tUn (rU fun i=> .int (-i)) (tC (.int 1))) (tVar 4)) tNil)))))) (gName 7) (tFor (qL K (tLst (tCons (tC (.str "tie")) (tCons (tC (.str "untie")) tNil)))) (gName 8) (tAsg (tOp rCat (tVar 5) (tLst (tCons (tTup (tCons (tTup (tCons (tVar 8) (tCons (tVar 7) (tCons (tC (.int 0)) tNil)))) (tCons (tC (.str "place")) tNil))) (tCons (tTup (tCons (tTup (tCons (tVar 8) (tCons (tC (.int 0)) (tCons (tVar 7) tNil)))) (tCons (tC (.str "place")) tNil))) (tCons (tTup (tCons (tTup (tCons (tVar 8) (tCons (tVar 7) (tCons (tVar 7) tNil)))) (tCons (tC (.str "place")) tNil))) tNil))))) (gName 5))) D σ H:=by
 rintro D σ H ⟨cp,wb,tt,l,n,far,ts,rr,H0,b6,b7,b8,b9,rfl,h0,h10,f0,hP,w2,w3,R,hN⟩;refine Ad (K:=K) (([-1,n,n+far, -1-far]:List Int).map V.int) (fun H R q=>⟨_,rfl,_,rfl,_,rfl,_,rfl,_,_,rfl,rfl,_,rfl,_,rfl,_,_,rfl,rfl,q⟩) (by show 4<=sizeLine;decide)
  (fun lb i σ H'=>(∃(l':Addr) (c7 c8:Option V),σ=Wi cp wb tt l' n far b6 c7 c8 b9/\RI K n ts H0 H' l' (9+6*i))/\H' lb=some (.lst (([-1,n,n+far, -1-far]:List Int).map V.int)))
  (fun lb G sG eb _=>⟨⟨l,_,_,rfl,R.same sG⟩,eb⟩) (fun _ _ _ _ p=>p.2) (fun lb i x σ H' hx p=> ?_) (fun lb σ H' p=> ?_)
 ·obtain⟨⟨l',c7,c8,rfl,R'⟩,eb'⟩:=p;have hi:i<4:=(oF.mp hx).1;obtain⟨y,hy,rfl⟩:=int_at hx;have ym:¬(0<=y/\y<n):=by
   simp only[cZ,wei,or_false]at hy;omega
  dsimp only[gName];refine Ad (K:=K) [V.str (wN true),V.str (wN false)] (fun H R q=>q) (by show 2<=sizeLine;decide)
   (fun lw j σ H'=>(∃(l':Addr) (c8:Option V),σ=Wi cp wb tt l' n far b6 (some (.int y)) c8 b9/\RI K n ts H0 H' l' (9+6*i+3*j))/\H' lb=some (.lst (([-1,n,n+far, -1-far]:List Int).map V.int))/\H' lw=some (.lst [V.str (wN true),V.str (wN false)]))
   (fun lw G2 sG2 ew _=>⟨⟨l',_,rfl,R'.same sG2⟩,sG2 _ _ eb',ew⟩) (fun _ _ _ _ p=>p.2.2) (fun lw j x σ H' hx p=> ?_) (fun lw σ H' p=> ?_)
  ·obtain⟨⟨l2,c8,rfl,R2⟩,Zh,ew2⟩:=p;have hj:j<2:=(oF.mp hx).1;obtain⟨k,rfl⟩:∃k,x= .str (wN k):=by
    rcases cZ.mp (uT hx)with z|z
    ·exact⟨true,z⟩
    ·exact⟨false,oE.mp z⟩
   refine⟨_,rfl,GX (eY (BZ (K:=K) (k:=k) (i:=y) (j:=0) (t:="place") vr vr cst cst fun r1 H1 s1 v1=>eY (BZ (K:=K) (k:=k) (i:=0) (j:=y) (t:="place") vr cst vr cst fun r2 H2 s2 v2=>eY (BZ (K:=K) (k:=k) (i:=y) (j:=y) (t:="place") vr vr vr cst fun r3 H3 s3 v3=> ?_))))⟩;have Za:=s2.trans s3;refine RN (k:=3) (ps:=[(wD k y 0,"place"),(wD k 0 y,"place"),(wD k y y,"place")]) (R2.same (s1.trans Za)) (Paired.cons (pW.tk v1 Za.tk) (Paired.cons (pW.tk v2 s3.tk) (Paired.cons v3 Paired.nil)))
    (abd (yE fun z=>ym ⟨z.1,z.2.1⟩) (yE fun z=>ym ⟨z.2.2.1,z.2.2.2.1⟩) (yE fun z=>ym ⟨z.1,z.2.1⟩)) rfl (by omega) fun l3 H4 R4 s4=> ?_
   have Iz:=s1.trans (Za.trans s4);exact⟨⟨l3,_,rfl,R4.mono (by omega)⟩,Iz _ _ Zh,Iz _ _ ew2⟩
  ·obtain⟨⟨l2,c8,rfl,R2⟩,Zh,_⟩:=p;exact⟨⟨l2,_,_,rfl,R2.mono (by show 9+6*i+3*2<=_;omega)⟩,Zh⟩
 ·obtain⟨⟨l',c7,c8,rfl,R'⟩,eb'⟩:=p;exact hN _ _ _ _ _ _ (R'.mono (by show 9+6*4<=33;decide))
noncomputable def vK(K:W.Frag):Sp:=fun vs H Q _=>∃(cp bh wb:Addr) (ns:List Int) (b n:Int) (ts:L0),vs=[.ref cp,.ref wb]/\cT K H cp bh ns b/\b<=900000000/\aQ K H wb n ts/\
 ∀l H0 H',aA cp H H0->cT K H0 cp bh ns (b+1)->RI K n ts H0 H' l 1000->Q (.ref l) H'
theorem Cg{f f1:Addr}{fd d1:ρ}(F:Fun K "_law_e_refused" "_law_e_refused" eF f fd)(D1:bK K mg "_law_e_dip" VN ["cup","many"] f1 d1)(G1:FnOk P w K mg base CX0 2 f1 d1 ["cup","many"] (vL K))(aL:mg "range"=none)(aaz:mg "int"=none):
  FnOk P w K mg base CX0 3 f fd ["cup","web"] (vK K):=by
 refine F.cQ ["cup","web","n","ties","far","rows","some","i","word","j"] fun cdv A outer s H vs Q E hr h=> ?_;obtain⟨cp,bh,wb,ns,b,n,ts,rfl,hC,hb,hW,qq⟩:=h;refine⟨_,(aJ (ps_asg (pv 1) (pg_tup rfl (qe (pG 2) (qe (pG 3) Fo)))) (aJ (pS 4 (pc G1 hr D1 (aj (pv 0) (aj (bB op_pow aq aq) ak)))) (aJ (pS 5 (uQ ak)) (aJ (tX (tR K 0 9) st0 (ps_for yD rfl (yh (lw9 (tw1 (pv 2)) (tw1 (pe_un un_neg aq)) (tw1 (bB mQ (pv 2) (pv 4))) (tw1 (bB op_sub (pe_un un_neg aq) (pv 4))) (sE aq (pv 2)) (sE aq aq) (sE aq aq) (sE (bB op_sub (pv 2) aq) (bB op_sub (pv 2) aq)) (sE (pv 2) aq))) (pG 6) (aP (iG (pe_bm QJ wbg wbh mt_append (pv 5) (aj (sE (sE dJ (pv 6)) dJ) ak)))))) (aJ (tX (tR K 9 33) st1 (ps_for yD rfl (yh (lw4 (pe_un un_neg aq) (pv 2) (bB mQ (pv 2) (pv 4)) (bB op_sub (pe_un un_neg aq) (pv 4)))) (pG 7) (aP (ps_for yD rfl (yh (lw2 dJ dJ)) (pG 8) (aP (pS 5 (bB op_cat (pv 5) (lw3 (sE (Wd (pv 8) (pv 7) aq) dJ) (sE (Wd (pv 8) aq (pv 7)) dJ) (sE (Wd (pv 8) (pv 7) (pv 7)) dJ))))))))) (aJ (tX (tR K 33 233) ?w2 (ps_for yD rfl (J2 rfl aL (aj (pv 2) ak)) (pG 7) (aJ (pS 5 (bB op_cat (pv 5) (lw2 (sE (Wd dJ (pv 7) (pv 7)) dJ) (sE (Wd dJ (pv 7) (pv 7)) dJ)))) (aP (ps_for yD rfl (pi_range2 rfl aL (aj (bB mQ (pv 7) aq) (aj (pv 2) ak))) (pG 9) (aJ (pS 8 (bf jF (lw2 dJ dJ) (pT call_int1 aaz (aj (JW (wI hr.units) (sE (pv 7) (pv 9)) (pv 3) (by with_unfolding_all rfl)) ak)))) (aP (pS 5 (bB op_cat (pv 5) (lw2 (sE (Wd (pv 8) (pv 7) (pv 9)) dJ) (sE (Wd (pv 8) (pv 9) (pv 7)) dJ))))))))))) (aJ (tX (tR K 233 236) ?w3 (dN (dg op_eq (pv 2) aq) (aP (pS 5 (bB op_cat (pv 5) (lw3 (sE (sE dJ (fV ak)) dJ) (sE (sE dJ (sE aq aq)) dJ) (sE (sE dJ (sE aq aq)) dJ))))) dW)) (aJ (tX (tR K 236 237) ?w4 (dN (dg op_eq (pv 2) aq) (aP (iG (pe_bm QJ wbg wbh mt_append (pv 5) (aj (sE (tw1 dJ) dJ) ak)))) dW)) (aP (bO (pv 5))))))))))),?_⟩
 case w2=>
  rintro D σ H ⟨cp,wb,tt,l,n,far,ts,rr,H0,b6,b7,b8,b9,rfl,h0,h10,f0,hP,w2,w3,R,hN⟩;refine⟨_,rfl,n,rfl,by omega,by omega,?_⟩;refine Q6 (n:=n.toNat) (fun i σ H'=>∃(l':Addr) (c7 c8 c9:Option V),σ=Wi cp wb tt l' n far b6 c7 c8 c9/\RI K n ts H0 H' l' (33+20*i)) ⟨l,_,_,_,rfl,R⟩ (fun i σ H' hi p=> ?_) (fun σ H' p=> ?_)
  ·obtain⟨l',c7,c8,c9,rfl,R'⟩:=p;have hin:0+(i:Int)<n:=by omega
   refine⟨_,rfl,GX (eY (BZ (K:=K) (k:=true) (i:=0+(i:Int)) (j:=0+(i:Int)) (t:="place") cst vr vr cst fun r1 H1 s1 v1=>eY (BZ (K:=K) (k:=false) (i:=0+(i:Int)) (j:=0+(i:Int)) (t:="place") cst vr vr cst fun r2 H2 s2 v2=> ?_)))⟩;refine RN (k:=2) (ps:=[(wD true (0+(i:Int)) (0+(i:Int)),"place"),(wD false (0+(i:Int)) (0+(i:Int)),"place")]) (R'.same (s1.trans s2)) (Paired.cons (pW.tk v1 s2.tk) (Paired.cons v2 Paired.nil))
    (all2 (yE (k:=true) fun z=>z.2.2.2.2 rfl) (yE (k:=false) fun z=>z.2.2.2.2 rfl)) rfl (by omega) fun l3 H4 R4 _=> ?_
   refine⟨_,rfl,_,_,rfl,rfl,_,rfl,_,_,rfl,⟨by omega,by omega,by omega,by omega⟩,?_⟩;refine Q6 (n:=(n-(0+(i:Int)+1)).toNat) (fun k σ H'=>∃(l':Addr) (c8 c9:Option V),σ=Wi cp wb tt l' n far b6 (some (.int (0+(i:Int)))) c8 c9/\RI K n ts H0 H' l' (33+20*i+2+2*k)) ⟨l3,_,_,rfl,R4⟩ (fun k σ H' hk p=> ?_) (fun σ H' p=> ?_)
   ·obtain⟨l5,c8,c9,rfl,R5⟩:=p;obtain⟨e1,e2,e3,e4⟩:=aaB (show 0+(i:Int)<0+(i:Int)+1+(k:Int) by omega);have two:Two n (0+(i:Int)) (0+(i:Int)+1+(k:Int)):=⟨by omega,by omega,by omega,by omega,by omega⟩;have abu:Two n (0+(i:Int)+1+(k:Int)) (0+(i:Int)):=⟨by omega,by omega,by omega,by omega,by omega⟩;have acs:i<10:=by omega
    have acr:k<10:=by omega
    generalize 0+(i:Int)+1+(k:Int)=y at *;generalize 0+(i:Int)=x at *;obtain⟨b,hb⟩:∃b,decide ((x,y)∈ts)=b:=⟨_,rfl⟩;refine⟨(by show 2<=sizeLine;decide),fun lw nw=> ?_⟩;have sG:=aK nw (.lst [V.str "untie",V.str "tie"]);have ew:(upd H' lw (.lst [V.str "untie",V.str "tie"])) lw=some (.lst [V.str "untie",V.str "tie"]):=au;generalize (upd H' lw (.lst [V.str "untie",V.str "tie"]))=G at *;refine⟨_,rfl,_,rfl,(by show 2<=sizeLine;decide),fun p np=> ?_⟩;have sG1:=aK np (.tup [.int x,.int y]);have hp:SqT K (upd G p (.tup [.int x,.int y])) p [.int x,.int y]:=SqT.of au;generalize (upd G p (.tup [.int x,.int y]))=G1 at *;have s01:=(R5.sm.trans sG).trans sG1;refine⟨_,rfl,tt,rr,_,pairD (x,y),rfl,.inr (s01.tup w2),cJ.same s01 w3,.tup hp (.cons (.int _) (.cons (.int _) .nil)),iV ts,rfl,(by show max 0 (max 0 0)+1<=60;decide),?_⟩;rw[uI,hb];refine .inr ⟨_,rfl,lw,_,_,.str (wN b),rfl,rfl,SqL.of (sG1 _ _ ew),by cases b<;>rfl,?_⟩;have s5:=sG.trans sG1;refine⟨_,rfl,GX (eY (BZ (K:=K) (k:=b) (i:=x) (j:=y) (t:="tie") vr vr vr cst fun r1 H1 s1 v1=>eY (BZ (K:=K) (k:=b) (i:=y) (j:=x) (t:="tie") vr vr vr cst fun r2 H2 s2 v2=> ?_)))⟩;refine RN (k:=2) (ps:=[(wD b x y,"tie"),(wD b y x,"tie")]) (R5.same (s5.trans (s1.trans s2))) (Paired.cons (pW.tk v1 s2.tk) (Paired.cons v2 Paired.nil))
     (all2 (KC two (by rw[e1,e2];exact hb)) (KC abu (by rw[e3,e4];exact hb))) rfl (by omega) fun l3 H4 R4 _=> ?_
    exact⟨l3,_,_,rfl,R4.mono (by omega)⟩
   ·obtain⟨l5,c8,c9,rfl,R5⟩:=p;exact⟨l5,_,_,_,rfl,R5.mono (by omega)⟩
  ·obtain⟨l',c7,c8,c9,rfl,R'⟩:=p;exact hN _ _ _ _ _ _ (R'.mono (by omega))
 case w3=>
  rintro D σ H ⟨cp,wb,tt,l,n,far,ts,rr,H0,b6,b7,b8,b9,rfl,h0,h10,f0,hP,w2,w3,R,hN⟩;refine⟨_,rfl,rfl,_,rfl,?_⟩;refine ite2 (fun c=> ?_) (fun c=>hN _ _ _ _ _ _ (R.mono (by decide)));have e10:n=10:=V.int.inj (fM c);refine⟨_,rfl,GX (eY (RM (K:=K) (ys:=[]) (t:="many") cst (fun Q q=>jH [] (fun H R q=>q) q) cst fun r1 H1 s1 v1=>eY (RM (K:=K) (ys:=[0,9]) (t:="many") cst (fun Q q=>jH [0,9] (fun H R q=>q) q) cst fun r2 H2 s2 v2=>eY (RM (K:=K) (ys:=[0,10]) (t:="place") cst (fun Q q=>jH [0,10] (fun H R q=>q) q) cst fun r3 H3 s3 v3=> ?_))))⟩;have Za:=s2.trans s3;refine RN (k:=3) (ps:=[(.put [],"many"),(.put [0,9],"many"),(.put [0,10],"place")]) (R.same (s1.trans Za)) (Paired.cons (pW.tk v1 Za.tk) (Paired.cons (pW.tk v2 s3.tk) (Paired.cons v3 Paired.nil)))
   (abd (.inr ⟨cg.nil n,e10,rfl⟩) (.inr ⟨⟨by decide,fun x hx=> ?_⟩,e10,rfl⟩) (.inl ⟨qz (by omega),rfl⟩)) rfl (by decide) fun l3 H4 R4 _=>hN _ _ _ _ _ _ R4
  simp only[cZ,wei,or_false]at hx;omega
 case w4=>
  rintro D σ H ⟨cp,wb,tt,l,n,far,ts,rr,H0,b6,b7,b8,b9,rfl,h0,h10,f0,hP,w2,w3,R,hN⟩;refine⟨_,rfl,rfl,_,rfl,?_⟩;refine ite2 (fun c=> ?_) (fun c=>hN _ _ _ _ _ _ (R.mono (by decide)));have e0:n=0:=V.int.inj (fM c);obtain⟨QM,XF⟩:∃rs,H l=some (.lst rs):=let⟨rs,_,h1,_⟩:=R.ls;⟨rs,h1⟩;refine⟨_,rfl,.inl ⟨rfl,_,SqL.of XF⟩,eY (aae (eY (aad (K:=K) [.str "drop"] (fun H R q=>q) (by show 1<=sizeLine;decide) fun p H1 s1 h1=>⟨(by show 2<=sizeLine;decide),fun r hr2=> ?_⟩)))⟩;have s2:=aK hr2 (.tup [.ref p,.str "place"]);have h2:SqT K (upd H1 r (.tup [.ref p,.str "place"])) r [.ref p,.str "place"]:=SqT.of au;generalize (upd H1 r (.tup [.ref p,.str "place"]))=H2 at *;obtain⟨rs,e1,e2,R2⟩:=(R.same (s1.trans s2)).app (p:=(.drop,"place")) ⟨r,p,rfl,h2,s2.tup h1⟩ ⟨e0,rfl⟩;exact⟨l,rs,_,rfl,rfl,e1,by rw[fZ];omega,hN _ _ _ _ _ _ R2⟩
 have h0:=hW.h0;have h10:=hW.h1;obtain⟨tt,rr,w1,w2,w3⟩:=id hW.web;refine⟨_,rfl,wb,_,rfl,w1,rfl,_,_,rfl,_,_,rfl,rfl,?_⟩;refine⟨_,rfl,_,_,rfl,rfl,⟨by decide,by decide,by decide⟩,cp,bh,ns,_,b,rfl,hC,by omega,by decide,by decide,fun far H0 f0 f1 x0 c0=> ?_⟩;obtain⟨z0,hz0⟩:=hC.lst;have k0:TK K H H0:=x0.tk hz0;have w20:=k0 _ _ w2;have w30:=zm k0 w3;have W0:=hW.tk k0;refine⟨(by show 0<=sizeLine;decide),fun l0 hl0=> ?_⟩;have s1:=aK hl0 (.lst []);have e1:(upd H0 l0 (.lst [])) l0=some (.lst []):=au;generalize (upd H0 l0 (.lst []))=H1 at *;have R0:RI K n ts H0 H1 l0 0:=⟨⟨[],[],e1,.nil,(fun p hp=>(nomatch hp)),aW _⟩,s1,hl0⟩;refine⟨cp,wb,tt,l0,n,far,ts,rr,H0,_,_,_,_,rfl,h0,h10,f0,hW.pk,w20,w30,R0,fun l1 a6 a7 a8 a9 H2 R1=> ?_⟩;refine⟨cp,wb,tt,l1,n,far,ts,rr,H0,_,_,_,_,rfl,h0,h10,f0,hW.pk,w20,w30,R1,fun l2 b6 b7 b8 b9 H3 R2=> ?_⟩;refine⟨cp,wb,tt,l2,n,far,ts,rr,H0,_,_,_,_,rfl,h0,h10,f0,hW.pk,w20,w30,R2,fun l3 c6 c7 c8 c9 H4 R3=> ?_⟩;refine⟨cp,wb,tt,l3,n,far,ts,rr,H0,_,_,_,_,rfl,h0,h10,f0,hW.pk,w20,w30,R3,fun l4 d6 d7 d8 d9 H5 R4=> ?_⟩;refine⟨cp,wb,tt,l4,n,far,ts,rr,H0,_,_,_,_,rfl,h0,h10,f0,hW.pk,w20,w30,R4,fun l5 e6 e7 e8 e9 H6 R5=> ?_⟩;exact⟨_,rfl,qq l5 H0 H6 x0 c0 (R5.mono (by decide))⟩
end
end Hs
namespace L2
open PySem PySem.Spec PyProof.Rows
mutual
def eqD:Nat->θ->θ->Bool
 |0,_,_=>false
 |n+1,a,b=>match a,b with
  | .none,.none=>true
  | .bool x,.bool y=>x==y
  | .int x,.int y=>x==y
  | .str x,.str y=>x==y
  | .list xs,.list ys=>DY n xs ys
  | .tuple xs,.tuple ys=>DY n xs ys
  | .dict [],.dict []=>true
  |_,_=>false
def DY:Nat->List θ->List θ->Bool
 |0,_,_=>false
 |n+1,xs,ys=>match xs,ys with
  |[],[]=>true
  |x::xs,y::ys=>eqD n x y&&DY n xs ys
  |_,_=>false
end
theorem Hy:∀n:Nat,(∀a b,eqD n a b=true->a=b)/\(∀xs ys,DY n xs ys=true->xs=ys)
 |0=>⟨fun a b h=>by simp[eqD]at h,fun a b h=>by simp[DY]at h⟩
 |n+1=>by
  obtain⟨i1,i2⟩:=Hy n;refine⟨fun a b h=> ?_,fun xs ys h=> ?_⟩
  ·unfold eqD at h;split at h
   ·rfl
   ·rw[beq_iff_eq.mp h]
   ·rw[beq_iff_eq.mp h]
   ·rw[beq_iff_eq.mp h]
   ·rw[i2 _ _ h]
   ·rw[i2 _ _ h]
   ·rfl
   ·cases h
  ·unfold DY at h;split at h
   ·rfl
   ·rw[oM]at h;rw[i1 _ _ h.1,i2 _ _ h.2]
   ·cases h
noncomputable def zN(es:List Expr)(ds:List θ):Bool:=match gC 60 es with
 |some ds'=>DY 60 ds' ds
 |none=>false
theorem Ob{es:List Expr}{ds:List θ}(h:zN es ds=true):gC 60 es=some ds:=by
 unfold zN at h;split at h
 ·rename_i ds' e;rw[e,(Hy 60).2 _ _ h]
 ·cases h
theorem zp{X:Cx}(K:W.Frag){es:List Expr}{ds:List θ}(h:zN es ds=true)(hk:X.K=K:=by rfl):PA X es (FJ K ds):=MF K (Ob h) hk
end L2
namespace Hs
open PySem L2 oG
section
variable{P:ξ}{w:τ}{K:W.Frag}{mg:L4}{base:Heap}
theorem pH{c0 c1 c2 c3 c4 c5 c6 c7 c8 C:Addr}{b0 b1 b2 b3 b4 b5 b6 b7 b8:Bool}(ok:qT K C)(one:PySem.W.kitOne K (.ref C) (.type "ValueError")=some true)(k0:PySem.W.kitOne K (.ref C) (.ref c0)=some b0)(k1:PySem.W.kitOne K (.ref C) (.ref c1)=some b1)(k2:PySem.W.kitOne K (.ref C) (.ref c2)=some b2)(k3:PySem.W.kitOne K (.ref C) (.ref c3)=some b3)(k4:PySem.W.kitOne K (.ref C) (.ref c4)=some b4)(k5:PySem.W.kitOne K (.ref C) (.ref c5)=some b5)(k6:PySem.W.kitOne K (.ref C) (.ref c6)=some b6)(k7:PySem.W.kitOne K (.ref C) (.ref c7)=some b7)(k8:PySem.W.kitOne K (.ref C) (.ref c8)=some b8):
  Kinds K [c0,c1,c2,c3,c4,c5,c6,c7,c8] C [b0,b1,b2,b3,b4,b5,b6,b7,b8]:=
 ⟨ok,one,rfl,(fun i c e=>by
  match i,e with
  |0,e=>cases e;exact⟨_,rfl,k0⟩
  |1,e=>cases e;exact⟨_,rfl,k1⟩
  |2,e=>cases e;exact⟨_,rfl,k2⟩
  |3,e=>cases e;exact⟨_,rfl,k3⟩
  |4,e=>cases e;exact⟨_,rfl,k4⟩
  |5,e=>cases e;exact⟨_,rfl,k5⟩
  |6,e=>cases e;exact⟨_,rfl,k6⟩
  |7,e=>cases e;exact⟨_,rfl,k7⟩
  |8,e=>cases e;exact⟨_,rfl,k8⟩
  |_+9,e=>cases e),rfl⟩
theorem Nr(x:Str):(!decide (V.str x=V.str x))=false:=by rw[cX rfl];rfl
theorem jg.append{H:Hp}{xs ys:List V}{ds es:List θ}(h:jg K H xs ds)(h2:jg K H ys es):jg K H (xs++ys) (ds++es):=
 jg.rec (motive_1:=fun _ _ _=>True) (motive_2:=fun xs ds _=>jg K H (xs++ys) (ds++es)) trivial (fun _=>trivial) (fun _=>trivial) (fun _=>trivial) (fun _ _ _=>trivial) (fun _ _ _=>trivial) (fun _ _=>trivial) h2 (fun a _ _ t=> .cons a t) h
theorem RI.abr{n:Int}{ts:L0}{H0 H:Hp}{l:Addr}{m:Nat}(h:RI K n ts H0 H l m):∃rs ps,H l=some (.lst rs)/\rF K H rs ps/\(∀p∈ps,Bc n ts p.1 p.2)/\Same H0 H:=by
 obtain⟨rs,ps,a,b,c,_⟩:=h.ls;exact⟨rs,ps,a,b,c,h.sm⟩
theorem Iu{H:Hp}{tp bh:Addr}{ns:List Int}{k:Int}{j:Nat}{σ:St}{Q:Bool->Hp->Prop}(tv:pU K H tp bh ns)(h0:σ[0]? =some (some (.ref bh)))(h1:σ[1]? =some (some (.ref tp)))(hj:σ[j]? =some (some (.int k)))(hQ:∀b,Q b H):
  tAnd (tTest (tOp (rI0 fun i j=> .bl (decide (j<i))) (tVar j) (tC (.int 1)))) (tTest (tOp (rI0 fun i j=> .bl (decide (j<=i))) (tOp (rIxL K) (tVar 1) (tC (.int 1))) (tCB (abx K) (tCons (tVar 0) tNil)))) σ H Q:=by
 obtain⟨⟨i,rr,hH,_,_⟩,hS,_⟩:=tv;refine⟨_,hj,_,_,rfl,rfl,_,rfl,?_⟩;refine ite2 (fun c=> ?_) (fun c=>hQ _);exact⟨_,h1,tp,_,_,.int i,rfl,rfl,SqL.of hH,rfl,_,h0,bh,_,rfl,.inl hS.sq,fun _=>⟨_,_,rfl,rfl,_,rfl,hQ _⟩⟩
noncomputable def stL(a cp:Addr)(b2 b3:Option V)(k:Int)(b5 b6 b7 b8 b9 b10:Option V):St:=[some (.ref a),some (.ref cp),b2,b3,some (.int k),b5,b6,b7,b8,b9,b10]
noncomputable def dmS:Stmt:= .Pass ⟨0,0,0,0⟩
noncomputable def fB:Stmt->List Stmt
 | .For _ _ b _ _=>b
 |_=>[]
noncomputable def bdA:List θ:=[.none,.tuple [],.tuple [.int 11,.tuple []],.tuple [.int 2,.tuple [.tuple [.int 1,.int 0]]],.tuple [.int 2,.tuple [.tuple [.int 0,.int 2]]],.list [.int 2,.tuple []],.tuple [.int 2,.list [.tuple [.int 0,.int 1]]],.tuple [.bool true,.tuple []]]
noncomputable def bdB:List θ:=[.tuple [.int 2,.tuple [.tuple [.int 0,.int 0]]]]
theorem Wo:∃(es1 es2:List Expr) (a1 a2 a3 b2 b3 b4 c1 c2:Pos),defBody jK=(defBody jK).getD 0 dmS:: .Assign [.Name "bads" a1] (.List es1 a2) a3:: .For (.Name "bad" c1) (.BinOp (.Name "bads" b2) .Add (.List es2 b3) b4) (fB ((defBody jK).getD 2 dmS)) [] c2::(defBody jK).drop 3
  /\zN es1 bdA=true/\zN es2 bdB=true:=⟨_,_,_,_,_,_,_,_,_,_,rfl,by decide+kernel,by decide+kernel⟩
theorem aa9:(bdA++bdB).all (fun d=> !mW d)=true:=by decide+kernel
theorem ok_law{f f1 f2 f3 f4 f5 f6 f7 f8 f9 C:Addr}{cp ct cm D:Addr}{cs:List Addr}{fd d1 d2 d3 d4 d5 d6 d7 d8 d9:ρ}(F:Fun K "law" "law" jK f fd)
  (Na:uV K C)(fQ:mg "Sharing"=some (.ref C))(D1:bK K mg "_law_e_word" fG ["sharing","deed"] f1 d1)(G1:FnOk P w K mg base CX0 14 f1 d1 ["sharing","deed"] (K7 K cs D C cp ct cm))(D2:bK K mg "_law_e_web" j5 ["cup","most"] f2 d2)(G2:FnOk P w K mg base CX0 4 f2 d2 ["cup","most"] (Lz K))(D3:bK K mg "_law_e_web_of" zcv ["cup","n"] f3 d3)(G3:FnOk P w K mg base CX0 3 f3 d3 ["cup","n"] (wA K))(D4:bK K mg "_law_e_dip" VN ["cup","many"] f4 d4)(G4:FnOk P w K mg base CX0 2 f4 d4 ["cup","many"] (vL K))(D5:jU K C "__init__" "Sharing.__init__" Zu ["self","web"] f5 d5)(Mk5:Mk K C f5)(ab1:FnOk P w K mg base CX0 12 f5 d5 ["self","web"] (Bu K C))(D6:bK K mg "_law_e_next" jt ["cup","web","most"] f6 d6)(G6:FnOk P w K mg base CX0 3 f6 d6 ["cup","web","most"] (Lq K))(D7:bK K mg "_law_e_do" gq ["sharing","deed"] f7 d7)(G7:FnOk P w K mg base CX0 13 f7 d7 ["sharing","deed"] (aaj K C))(D8:bK K mg "_law_e_told" jo ["sharing"] f8 d8)(G8:FnOk P w K mg base CX0 5 f8 d8 ["sharing"] (K9 K C))(D9:bK K mg "_law_e_refused" eF ["cup","web"] f9 d9)(G9:FnOk P w K mg base CX0 3 f9 d9 ["cup","web"] (vK K))(kp:Kn K cs D cp "place")(kt:Kn K cs D ct "tie")(km:Kn K cs D cm "many")(aL:mg "range"=none)(cO:mg "len"=none):
  FnOk P w K mg base CX0 15 f fd ["script"] (spLaw K):=by
 have G5m:FnOk P w K mg base CX0 13 f5 d5 ["self","web"] (Bu K C):=ab1.mono (by decide);refine F.cQ ["script","cup","bads","bad","k","web","sharing","turn","deed","ahead","due"] fun cdv A outer s H vs Q E hr h=> ?_;obtain⟨a,ns,rfl,hS,h63,q⟩:=h;obtain⟨es1,es2,a1,a2,a3,b2,b3,b4,c1,c2,eb,k1,k2⟩:=Wo;rw[eb];refine bw ?_;intro Y;refine⟨_,(aJ (pS 1 (uQ (aj (pv 0) (aj aq (aj aq ak))))) (aJ (pS 2 (uQ (zp K k1))) (aJ (ps_for yD rfl (yh (bB op_cat (pv 2) (uQ (zp K k2)))) (pG 3) (aP (dN (dg op_ne (pc G1 hr D1 (aj pe_non (aj (pv 3) ak))) dJ) (aP (bO pe_bl)) dW))) (aJ (ps_for yD rfl (J2 rfl aL (aj aq ak)) (pG 4) (aJ (dN (PW.pt (pw_and (dg op_gt (pv 4) aq) (pw_and1 (dg op_ge (bf jF (pv 1) aq) (pB v7 cO (aj (pv 0) ak)))))) (aP ps_break) dW) (aJ (pS 5 (pc G2 hr D2 (aj (pv 1) (aj aq ak)))) (aJ (dN (dg op_eq (pv 4) aq) (aP (pS 5 (bf jF (uQ (aj (fV (aj aq (aj (fV ak) ak))) (aj (pc G3 hr D3 (aj (pv 1) (aj (bf jF (uQ (aj aq (aj aq (aj aq (aj aq (aj aq (aj aq ak))))))) (pc G4 hr D4 (aj (pv 1) (aj aq ak)))) ak))) ak))) (pc G4 hr D4 (aj (pv 1) (aj aq ak)))))) dW) (aJ (pS 6 (pe_make Mk5 G5m hr rfl fQ D5.b .nil pass0 (aj (pv 5) ak))) (aJ (dN (dg op_gt (pv 4) aq) (aP (ps_for yD rfl (J2 rfl aL (aj (pc G4 hr D4 (aj (pv 1) (aj aq ak))) ak)) (pG 7) (aJ (ps_asg (pc G6 hr D6 (aj (pv 1) (aj (pv 5) (aj aq ak)))) (pg_tup rfl (qe (pG 8) (qe (pG 5) Fo)))) (aP (iG (pc G7 hr D7 (aj (pv 6) (aj (pv 8) ak)))))))) dW) (aJ (pS 9 (pc G8 hr D8 (aj (pv 6) ak))) (aP (ps_for yD rfl (yh (pc G9 hr D9 (aj (pv 1) (aj (pv 5) ak)))) (pg_tup rfl (qe (pG 8) (qe (pG 10) Fo))) (aP (dN (PW.pt (pw_or (dg op_ne (pc G1 hr D1 (aj (pv 6) (aj (pv 8) ak))) (pv 10)) (pw_or1 (dg (MJ hr.units) (pc G8 hr D8 (aj (pv 6) ak)) (pv 9))))) (aP (bO pe_bl)) dW))))))))))) (aP (bO pe_bl)))))),?_⟩;refine Hl ?_;intro c5 c4 c3 c2;refine⟨_,rfl,(by show 3<=sizeLine;decide),fun qO hcp=> ?_⟩;have c0:=Us hS h63 hcp;dsimp only;generalize (upd H qO (.lst [.ref a,.int 0,.int 0]))=H1 at *;intro xs H2 s2 hx;refine⟨by rw[hx.len];show 8<=sizeLine;decide,fun lb n3=> ?_⟩;have s3:=aK n3 (.lst xs);have e3:(upd H2 lb (.lst xs)) lb=some (.lst xs):=au;generalize (upd H2 lb (.lst xs))=H3 at *;refine⟨_,rfl,?_⟩;intro ys H4 s4 hy;refine⟨by rw[hy.len];show 1<=sizeLine;decide,fun l2 n5=> ?_⟩;have s5:=aK n5 (.lst ys);have e5:(upd H4 l2 (.lst ys)) l2=some (.lst ys):=au;generalize (upd H4 l2 (.lst ys))=H5 at *;refine⟨lb,l2,_,_,rfl,rfl,(s4.trans s5) _ _ e3,e5,by rw[hx.len,hy.len];show 9<=sizeLine;decide,fun l3 h3=> ?_⟩;have s6:=aK h3 (.lst (xs++ys));have e6:(upd H5 l3 (.lst (xs++ys))) l3=some (.lst (xs++ys)):=au;have s46:=(s4.trans s5).trans s6;have hxy:=jg.append (jg.same (s3.trans s46) hx) (jg.same (s5.trans s6) hy);have c6:=c0.same ((s2.trans s3).trans s46);generalize (upd H5 l3 (.lst (xs++ys)))=H6 at *;clear hx hy s2 s3 s4 s5 s6 s46 e3 n3 e5 n5 h3 c0;refine⟨l3,_,rfl,SqL.of e6,fun hz=> ?_⟩;let jR:Nat->St->Hp->Prop:=fun i σ H'=>Same H6 H'/\∃b3,σ=[some (.ref a),some (.ref qO),some (.ref lb),b3,none,none,none,none,none,none,none];refine for_list (K:=K) (a:=l3) (xs:=xs++ys) jR ⟨Same.refl _,_,rfl⟩ (fun i σ H' _ p=>SqL.of (p.1 _ _ e6)) (fun i x σ H' hx p=> ?_) (fun σ H' p=> ?_)
 ·obtain⟨sm,b3,rfl⟩:=p;obtain⟨d,hd,hD⟩:=jg.get hxy hx;have hw:mW d=false:=by
   have:=uT hd;have:=oA.mp aa9 d this;simpa using this
  refine⟨_,rfl,.non,x,"web",rfl,.inl ⟨rfl,⟨d,DX.same sm hD,hw⟩,rfl⟩,fun H7 s7=>⟨rfl,_,rfl,?_⟩⟩;rw[Nr];exact iteF ⟨sm.trans s7,_,rfl⟩
 obtain⟨sm,b3,rfl⟩:=p;have c0:=c6.same sm;clear c6 sm hxy e6 hz
 try dsimp only
 refine⟨3,rfl,by decide,by decide,?_⟩;let vp:Nat->St->Hp->Prop:=fun k σ H'=>cT K H' qO a ns (1000*(k:Int))/\∃b2 b3 b4 b5 b6 b7 b8 b9 b10,σ=[some (.ref a),some (.ref qO),b2,b3,b4,b5,b6,b7,b8,b9,b10];refine Q6 (n:=3) vp ⟨c0.mono (by omega),_,_,_,_,_,_,_,_,_,rfl⟩ (fun k σ H' hk p=> ?_) (fun σ H' p=>q H');clear c0;obtain⟨c,b2,b3,b4,b5,b6,b7,b8,b9,b10,rfl⟩:=p;refine Iu (K:=K) (j:=4) c.tv rfl rfl rfl (fun b=> ?_);cases b with
 |true=>exact q H'
 |false=>
  refine iteF ?_;dsimp only[tNext];refine oY (fun σ' H2=>∃(wb:Addr) (n:Int) (ts:L0),σ'=stL a qO b2 b3 (0+(k:Int)) (some (.ref wb)) b6 b7 b8 b9 b10/\cT K H2 qO a ns (1000*(k:Int)+121)/\aQ K H2 wb n ts) (fun N hN=> ?_) ?_
  ·exact⟨_,rfl,qO,a,ns,5,_,rfl,c,by omega,by decide,by decide,fun wb n ts H3 x3 c3 W=>hN _ _ ⟨wb,n,ts,rfl,c3,W⟩⟩
  clear c;rintro σ' H2 ⟨wb,n,ts,rfl,c,W⟩;refine oY (fun σ' H2=>∃(wb:Addr) (n:Int) (ts:L0),σ'=stL a qO b2 b3 (0+(k:Int)) (some (.ref wb)) b6 b7 b8 b9 b10/\cT K H2 qO a ns (1000*(k:Int)+243)/\aQ K H2 wb n ts) (fun N hN=> ?_) ?_
  ·refine⟨_,rfl,rfl,_,rfl,?_⟩;refine ite2 (fun z=> ?_) (fun z=>hN _ _ ⟨wb,n,ts,rfl,c.mono (by omega),W⟩);refine⟨(by show 0<=sizeLine;decide),fun p1 n4=>⟨(by show 2<=sizeLine;decide),fun p2 n5=> ?_⟩⟩;have s4:=aK n4 (.tup []);have h4:SqT K (upd H2 p1 (.tup [])) p1 []:=SqT.of au;generalize (upd H2 p1 (.tup []))=H4 at *;have s5:=aK n5 (.tup [.int 10,.ref p1]);have h5:SqT K (upd H4 p2 (.tup [.int 10,.ref p1])) p2 [.int 10,.ref p1]:=SqT.of au;generalize (upd H4 p2 (.tup [.int 10,.ref p1]))=H5 at *;obtain⟨ok1,ok2⟩:=sZ (n:=10) (ts:=[]) (i:=0) (by decide) (by decide) (List.nil_sublist _);have Wt:aQ K H5 p2 10 []:=⟨⟨p1,[],h5,s5.tup h4,.nil⟩,by decide,by decide,ok1,ok2⟩;have c5:=c.same (s4.trans s5);refine⟨_,rfl,(by show 6<=sizeLine;decide),fun l6 n6=> ?_⟩;have s6:=aK n6 (.lst [.int 10,.int 0,.int 0,.int 0,.int 0,.int 0]);have e6:(upd H5 l6 (.lst [.int 10,.int 0,.int 0,.int 0,.int 0,.int 0])) l6=some (.lst [.int 10,.int 0,.int 0,.int 0,.int 0,.int 0]):=au;generalize (upd H5 l6 (.lst [.int 10,.int 0,.int 0,.int 0,.int 0,.int 0]))=H6 at *;have c6:=c5.same s6;obtain⟨z5,hz5⟩:=c5.lst;have ne6:l6≠qO:=bZ hz5 n6;refine⟨_,rfl,qO,a,ns,6,_,rfl,c6,by omega,by decide,by decide,fun d H7 d0 d1 x7 c7=> ?_⟩;obtain⟨m,hm,m0,m1⟩:∃m:Int,atI [V.int 10,.int 0,.int 0,.int 0,.int 0,.int 0] d=some (.int m)/\0<=m/\m<=10:=by
    have h:=Qs (xs:=[10,0,0,0,0,0]) d0 (by show d<6;exact d1);refine⟨_,h,?_⟩;have:d.toNat<6:=by omega
    have all:∀i,i<6->0<=[10,0,0,0,0,0].getD i (0:Int)/\[10,0,0,0,0,0].getD i (0:Int)<=10:=by decide
    exact all _ this
   refine⟨l6,_,d,.int m,rfl,rfl,SqL.of (x7 _ _ ne6 e6),hm,qO,a,ns,m,_,rfl,c7,by omega,m0,m1,fun r ts8 H8 x8 c8 W8=>⟨(by show 2<=sizeLine;decide),fun l9 n9=> ?_⟩⟩;have s9:=aK n9 (.lst [.ref p2,.ref r]);have e9:(upd H8 l9 (.lst [.ref p2,.ref r])) l9=some (.lst [.ref p2,.ref r]):=au;generalize (upd H8 l9 (.lst [.ref p2,.ref r]))=H9 at *;obtain⟨z8,hz8⟩:=c8.lst;have ne9:l9≠qO:=bZ hz8 n9;obtain⟨z6,hz6⟩:=c6.lst;obtain⟨z7,hz7⟩:=c7.lst;have c9:=c8.same s9;obtain⟨z9,hz9⟩:=c9.lst;have Wt9:=(((Wt.same s6).tk (x7.tk hz6)).tk (x8.tk hz7)).same s9;have W9:=W8.same s9;refine⟨_,rfl,qO,a,ns,2,_,rfl,c9,by omega,by decide,by decide,fun d2 H10 g0 g1 x10 Yv=> ?_⟩;have hl:=SqL.of (K:=K) (x10 _ _ ne9 e9);rcases(show d2=0\/d2=1 by omega)with rfl|rfl
   ·exact⟨l9,_,0,.ref p2,rfl,rfl,hl,rfl,hN _ _ ⟨p2,10,[],rfl,Yv.mono (by omega),Wt9.tk (x10.tk hz9)⟩⟩
   ·exact⟨l9,_,1,.ref r,rfl,rfl,hl,rfl,hN _ _ ⟨r,m,ts8,rfl,Yv.mono (by omega),W9.tk (x10.tk hz9)⟩⟩
  clear c W;rintro σ' H3 ⟨wb,n,ts,rfl,c,W⟩;refine oY (fun σ' H'=>∃(o:Addr) (S:Sd),σ'=stL a qO b2 b3 (0+(k:Int)) (some (.ref wb)) (some (.ref o)) b7 b8 b9 b10/\vY K C qO a o ns H' (1000*(k:Int)+243) S/\aQ K H' wb S.n S.ts) (fun N hN=> ?_) ?_
  ·refine⟨_,rfl,fun o dx ho hdx hne=> ?_⟩;have sM:Same H3 (upd (upd H3 dx (.own o)) o (.ins C dx [])):=(aK hdx _).trans (aK (by rw[cG (mj hne)];exact ho) _);have c4:=c.same sM;have W4:=W.same sM;obtain⟨z4,hz4⟩:=c4.lst;refine⟨o,dx,wb,n,ts,rfl,au,W4,fun S H6 x6 hS6 ok6 en et e0 nl np=>⟨rfl,?_⟩⟩;exact hN _ _ ⟨o,S,rfl,⟨c4.ins x6 au,hS6,ok6,bZ hz4 nl,bZ hz4 np⟩,by rw[en,et];exact W4.tk (x6.tkI au)⟩
  clear c W;rintro σ' H4 ⟨o,S0,rfl,I0,W0⟩;refine oY (fun σ' H'=>∃(wb:Addr) (S:Sd) (b7 b8:Option V),σ'=stL a qO b2 b3 (0+(k:Int)) (some (.ref wb)) (some (.ref o)) b7 b8 b9 b10/\vY K C qO a o ns H' (1000*(k:Int)+400) S/\aQ K H' wb S.n S.ts) (fun N hN=> ?_) ?_
  ·refine⟨_,rfl,_,_,rfl,rfl,_,rfl,?_⟩;refine ite2 (fun z=> ?_) (fun z=>hN _ _ ⟨wb,S0,_,_,rfl,I0.mono (by omega),W0⟩);refine⟨_,rfl,qO,a,ns,4,_,rfl,I0.cup,by omega,by decide,by decide,fun m H7 m0 m1 x7 c7=>⟨_,rfl,by omega,by omega,?_⟩⟩;have k7:=I0.tkD x7;let JQ:Nat->St->Hp->Prop:=fun i σ H'=>∃(wb:Addr) (S:Sd) (b7 b8:Option V),σ=stL a qO b2 b3 (0+(k:Int)) (some (.ref wb)) (some (.ref o)) b7 b8 b9 b10/\vY K C qO a o ns H' (1000*(k:Int)+244+20*(i:Int)) S/\aQ K H' wb S.n S.ts;refine Q6 (n:=m.toNat) JQ ⟨wb,S0,b7,b8,rfl,(I0.dip x7 c7).mono (by omega),W0.tk k7⟩ (fun i σ H' hi p=> ?_) (fun σ H' p=> ?_)
   ·clear I0 W0 c7 x7 k7 b7 b8;obtain⟨wb,S,b7,b8,rfl,I,W⟩:=p;refine⟨_,rfl,_,rfl,qO,a,wb,ns,_,S.n,5,S.ts,rfl,by decide,I.cup,by omega,W,fun r2 da wa d n' ts' H2 x2 c2 hr hDd hF W2 hst=> ?_⟩;have k2:=I.tkD x2;refine⟨r2,_,rfl,hr,rfl,_,_,rfl,_,_,rfl,rfl,?_⟩;have I2:=I.dip x2 c2;refine⟨_,rfl,_,rfl,o,da,S,d,rfl,I2.Rr,I2.ok,hDd,hF,fun v S' H4 x4 hS4 ok4 st4 w4=> ?_⟩;obtain⟨dx4,wb4,va4,lr4,pr4,A4⟩:=id hS4;obtain⟨q1,q2⟩:=st4.uniq hst A4.web.FW W2.FW;exact⟨wa,S',_,_,rfl,(I2.deed x4 hS4 ok4 w4).mono (by omega),by rw[q1,q2];exact W2.tk (I2.tkS x4)⟩
   ·obtain⟨wb,S,b7,b8,rfl,I,W⟩:=p;exact hN _ _ ⟨wb,S,_,_,rfl,I.mono (by omega),W⟩
  clear I0 W0 S0 b7 b8 wb;rintro σ' H5 ⟨wb,S,b7,b8,rfl,I,W⟩;refine oY (fun σ' H'=>∃(r la:Addr),σ'=stL a qO b2 b3 (0+(k:Int)) (some (.ref wb)) (some (.ref o)) b7 b8 (some (.ref r)) b10/\vY K C qO a o ns H' (1000*(k:Int)+400) S/\aQ K H' wb S.n S.ts/\vo K H' r la S/\la≠qO) (fun N hN=> ?_) ?_
  ·obtain⟨z5,hz5⟩:=I.cup.lst;exact⟨_,rfl,o,S,rfl,I.Rr,I.ok,fun r la H' s t nl=>hN _ _ ⟨r,la,rfl,I.same s,W.same s,t,bZ hz5 nl⟩⟩
  clear I W;rintro σ' H6 ⟨r,la,rfl,I,W,T0,nla⟩;refine⟨_,rfl,_,rfl,qO,a,wb,ns,_,S.n,S.ts,rfl,I.cup,by omega,W,fun l H7 H8 x7 c7 R=> ?_⟩;obtain⟨z6,hz6⟩:=I.cup.lst;obtain⟨rs,ps,e8,hrs,hbs,s8⟩:=R.abr;have I8:=(I.dip x7 c7).same s8;have T8:=(T0.x x7 hz6 nla).same s8;clear I W T0 R x7 c7 s8;refine⟨l,_,rfl,SqL.of e8,fun hz=> ?_⟩;let Yz:Nat->St->Hp->Prop:=fun i σ H'=>Same H8 H'/\∃b8 b10,σ=stL a qO b2 b3 (0+(k:Int)) (some (.ref wb)) (some (.ref o)) b7 b8 (some (.ref r)) b10;refine for_list (K:=K) (a:=l) (xs:=rs) Yz ⟨Same.refl _,_,_,rfl⟩ (fun i σ H' _ p=>SqL.of (p.1 _ _ e8)) (fun i x σ H' hx p=> ?_) (fun σ H' p=> ?_)
  ·obtain⟨sm,c8,Yv,rfl⟩:=p;obtain⟨⟨d,t⟩,hp,r1,da,rfl,hr1,hDd⟩:=Paired.at_ hrs hx;have hb:=hbs _ (uT hp);obtain⟨cc,hR,hK⟩:=Uv hb kp kt km;have I':=I8.same sm;refine⟨r1,_,rfl,sm.tup hr1,rfl,_,_,rfl,_,_,rfl,rfl,?_⟩;refine⟨_,rfl,_,rfl,.ref o,.ref da,t,rfl,.inr ⟨o,da,cc,S,d,rfl,rfl,I'.Rr,hDd.tk sm.tk,hR,hK⟩,fun H9 s9=>⟨_,rfl,rfl,_,rfl,?_⟩⟩;rw[Nr];refine iteF ?_;have I9:=I'.same s9;refine⟨_,rfl,o,S,rfl,I9.Rr,I9.ok,fun r2 la2 H10 s10 T2 _=> ?_⟩;have s81:=sm.trans (s9.trans s10);refine⟨_,rfl,yH S,yH S,T2.dv,(T8.same s81).dv,Fy S,Fy S,dD (Rp S) (by decide),?_⟩;rw[Ro];exact⟨_,rfl,iteF ⟨s81,_,_,rfl⟩⟩
  ·obtain⟨sm,c8,Yv,rfl⟩:=p;exact⟨(I8.cup.same sm).mono (by omega),_,_,_,_,_,_,_,_,_,rfl⟩
end
end Hs
namespace L2
open PySem
section
variable{K:W.Frag}{x y:Str}{st:Stmt}{f C:Addr}{fd:ρ}{oc:ζ}{od an:Option Addr}{osl:Array (Option ζ)}{kV doc pm cdv ct:ζ}{mg:L4}{h:Heap}
noncomputable def DA(K:W.Frag)(x:Str)(st:Stmt)(f:Addr):Prop:=∃fd,Fun K x x st f fd/\PySem.W.nsIn K mainGlobals x=some (some (.ref f))
theorem DA.of(a:PySem.W.nsIn K mainGlobals x=some (some (.ref f)):=by k_is)(l:K.lookup f=some ⟨oc,od,.func (PySem.W.fnOf x x (defArgs st) (defBody st) (defScope st) .none kV doc pm an cdv ct),osl⟩:=by k_is)(c:PySem.W.codeIn K cdv x=true:=by k_is)(k:PySem.W.keepIn K (.ref f)=true:=by k_is):DA K x st f:=⟨_,fun_mk l c k,a⟩
noncomputable def MA(K:W.Frag)(C:Addr)(x y:Str)(st:Stmt)(f:Addr):Prop:=∃fd,Fun K x y st f fd/\PySem.W.findIn K (.ref C) x=some (some (.ref f))/\PySem.W.isFn K (.ref f)=true/\PySem.W.keepIn K (.ref f)=true
theorem MA.of(a:PySem.W.findIn K (.ref C) x=some (some (.ref f)):=by k_is)(l:K.lookup f=some ⟨oc,od,.func (PySem.W.fnOf x y (defArgs st) (defBody st) (defScope st) .none kV doc pm an cdv ct),osl⟩:=by k_is)(c:PySem.W.codeIn K cdv y=true:=by k_is)(k:PySem.W.keepIn K (.ref f)=true:=by k_is)(i:PySem.W.isFn K (.ref f)=true:=by k_is):MA K C x y st f:=⟨_,fun_mk l c k,a,i,k⟩
theorem DA.d{ps:List Str}(X:K.In h)(G:h.Ns mainGlobals mg)(F:Fun K x x st f fd)(a:PySem.W.nsIn K mainGlobals x=some (some (.ref f)))(b:∀(kV doc pm:ζ) (an:Option Addr) (cdv ct:ζ) (us:List ζ),us.length=ps.length->bindArgs (PySem.W.fnOf x x (defArgs st) (defBody st) (defScope st) .none kV doc pm an cdv ct) ⟨us,[]⟩=pure (ps.zip us)):bK K mg x st ps f fd:=⟨F,F.binds b,PySem.W.mg_of X G a⟩
theorem MA.d{ps:List Str}(F:Fun K x y st f fd)(a:PySem.W.findIn K (.ref C) x=some (some (.ref f))/\PySem.W.isFn K (.ref f)=true/\PySem.W.keepIn K (.ref f)=true)(b:∀(kV doc pm:ζ) (an:Option Addr) (cdv ct:ζ) (us:List ζ),us.length=ps.length->bindArgs (PySem.W.fnOf x y (defArgs st) (defBody st) (defScope st) .none kV doc pm an cdv ct) ⟨us,[]⟩=pure (ps.zip us)):jU K C x y st ps f fd:=⟨F,F.binds b,⟨a.1,a.2.1,a.2.2⟩⟩
theorem sW{p1:Str}{P:List ζ->Prop}(h:∀a,P [a])(us:List ζ)(hl:us.length=[p1].length):P us:=by
 match us,hl with
 |[a],_=>exact h a
theorem nT{p1 p2:Str}{P:List ζ->Prop}(h:∀a b,P [a,b])(us:List ζ)(hl:us.length=[p1,p2].length):P us:=by
 match us,hl with
 |[a,b],_=>exact h a b
theorem Qq{p1 p2 p3:Str}{P:List ζ->Prop}(h:∀a b c,P [a,b,c])(us:List ζ)(hl:us.length=[p1,p2,p3].length):P us:=by
 match us,hl with
 |[a,b,c],_=>exact h a b c
theorem bn4{p1 p2 p3 p4:Str}{P:List ζ->Prop}(h:∀a b c d,P [a,b,c,d])(us:List ζ)(hl:us.length=[p1,p2,p3,p4].length):P us:=by
 match us,hl with
 |[a,b,c,d],_=>exact h a b c d
end
end L2
namespace Hs
open PySem L2 oG
theorem all_mk{l:W.OpenLaw}{w:τ}{K:W.Frag}{h:Heap}{mg:L4}{fa:Addr}(X:K.In h)(G:h.Ns mainGlobals mg)(hfa:mg "law"=some (.ref fa))
  {f0 f1 f2 f3 f4 f5 f6 f7 f8 f9 f10 f11 f12 f13 f14 f15 f16 f17 f18 f19 f20 f21 f22 f23 f24 f25 f26 f27 f28 f29 f30 f31 f32 f33 f34 f35 f36 f37 f38 f39 f40 f41 f42 f43 f44 f45 mf0 mf1 mf2 mf3 mf4 mf5 mf6 mf7 mf8 mf9 aax abN abM abL abK abJ abI abH abG abF abE abD abC:Addr}{f46:Addr}{abz aa':Option Addr}{abw:Array (Option ζ)}{abA aaD aa2 aat Yt aa3:ζ}{tk0:Tok}{tk1:Tok}{tk2:Tok}{aF:Addr}{ao:Addr}{kZ:Addr}{gG:Addr}{aG:Addr}{pR:Addr}{kY:Addr}{aN:Addr}{jc:Addr}{aZ:Addr}{aD:Addr}{gH:Addr}{Qo:ClassData}{Ej:ClassData}{Qp:ClassData}{Ei:ClassData}(a0:DA K "is_whole" YK f0)(a1:DA K "is_place" gw f1)(a2:DA K "are_places" jx f2)(a3:DA K "is_rising" YM f3)(a4:DA K "is_set" iM f4)(a5:DA K "are_ties" nH f5)(a6:DA K "is_web" o8 f6)(a7:DA K "need_web" Q8 f7)(a8:DA K "need_place" Zo f8)(a9:DA K "need_set" YL f9)(a10:DA K "need_few" gk f10)(a11:DA K "pairs" wC f11)(a12:DA K "has_tie" UJ f12)(a13:DA K "greatest_divisor" zbn f13)(a14:DA K "lowest" iK f14)(a15:DA K "is_less" lK f15)(a16:DA K "is_fraction" iu f16)(a17:DA K "sum_of" oZ f17)(a18:DA K "moved_ties" jl f18)(a19:DA K "cut_down" nG f19)(a20:DA K "count_ties_in" eG f20)(a21:DA K "places_by_tie" eE f21)(a22:DA K "in_both" qp f22)(a23:DA K "full_sets" j8 f23)(a24:DA K "full_apart" jw f24)(a25:DA K "need_wants" fD f25)(a26:DA K "shares" o7 f26)(a27:DA K "is_share" nF f27)(a28:DA K "is_laying" j6 f28)(a29:DA K "gets" BR f29)(a30:DA K "is_enough" j7 f30)(a31:DA K "ones_for" jk f31)(a32:DA K "copy_of_web" iw f32)(a33:DA K "copy_of_fraction" zbo f33)(a34:DA K "copy_of_set" iy f34)(a35:DA K "as_tie" o9 f35)(a36:DA K "_law_e_stir" jr f36)(a37:DA K "_law_e_dip" VN f37)(a38:DA K "_law_e_web_of" zcv f38)(a39:DA K "_law_e_web" j5 f39)(a40:DA K "_law_e_kind" ju f40)(a41:DA K "_law_e_next" jt f41)(a42:DA K "_law_e_do" gq f42)(a43:DA K "_law_e_word" fG f43)(a44:DA K "_law_e_refused" eF f44)(a45:DA K "_law_e_told" jo f45)(a46:W.nsIn K mainGlobals "law"=some (some (.ref f46)))(l46:K.lookup f46=some ⟨abA,abz,.func (W.fnOf "law" "law" (defArgs jK) (defBody jK) (defScope jK) .none aaD aa2 aat aa' Yt aa3),abw⟩)(c46:W.codeIn K Yt "law"=true)(k46:W.keepIn K (.ref f46)=true)(x0:W.nsIn K mainGlobals "MOST_PLACES"=some (some (.int 10 tk0)))(x1:W.nsIn K mainGlobals "MOST_BOTTOM"=some (some (.int 1000000000 tk1)))(x2:W.nsIn K mainGlobals "MOST_WANT"=some (some (.int 99 tk2)))(z0:W.nsIn K mainGlobals "ValueError"=some none)(z1:W.nsIn K mainGlobals "abs"=some none)(z2:W.nsIn K mainGlobals "all"=some none)(z3:W.nsIn K mainGlobals "bool"=some none)(z4:W.nsIn K mainGlobals "enumerate"=some none)(z5:W.nsIn K mainGlobals "int"=some none)(z6:W.nsIn K mainGlobals "isinstance"=some none)(z7:W.nsIn K mainGlobals "len"=some none)(z8:W.nsIn K mainGlobals "list"=some none)(z9:W.nsIn K mainGlobals "max"=some none)(z10:W.nsIn K mainGlobals "min"=some none)(z11:W.nsIn K mainGlobals "range"=some none)(z12:W.nsIn K mainGlobals "sorted"=some none)(z13:W.nsIn K mainGlobals "tuple"=some none)(y0:W.nsIn K mainGlobals "Tableau"=some (some (.ref aF)))(y1:W.nsIn K mainGlobals "Sharing"=some (some (.ref ao)))(y2:W.nsIn K mainGlobals "NoFold"=some (some (.ref kZ)))(y3:W.nsIn K mainGlobals "NoNumber"=some (some (.ref gG)))(y4:W.nsIn K mainGlobals "NoPlace"=some (some (.ref aG)))(y5:W.nsIn K mainGlobals "NoRow"=some (some (.ref pR)))(y6:W.nsIn K mainGlobals "NoText"=some (some (.ref kY)))(y7:W.nsIn K mainGlobals "NoTie"=some (some (.ref aN)))(y8:W.nsIn K mainGlobals "NoWants"=some (some (.ref jc)))(y9:W.nsIn K mainGlobals "NoWeb"=some (some (.ref aZ)))(y10:W.nsIn K mainGlobals "TooMany"=some (some (.ref aD)))(y11:W.nsIn K mainGlobals "HueError"=some (some (.ref gH)))(ma0:MA K aF "__init__" "Tableau.__init__" gB mf0)(ma1:MA K aF "next_column" "Tableau.next_column" zbr mf1)(ma2:MA K aF "is_tighter" "Tableau.is_tighter" zby mf2)(ma3:MA K aF "next_row" "Tableau.next_row" zcj mf3)(ma4:MA K aF "turned" "Tableau.turned" zdc mf4)(ma5:MA K aF "turn" "Tableau.turn" gA mf5)(ma6:MA K aF "solve" "Tableau.solve" eN mf6)(ma7:MA K aF "fraction_at" "Tableau.fraction_at" Zx mf7)(ma8:MA K aF "price_of" "Tableau.price_of" zci mf8)(ma9:MA K aF "share_of" "Tableau.share_of" zch mf9)(NQ:MA K ao "__init__" "Sharing.__init__" Zu aax)(XC:MA K ao "keep" "Sharing.keep" zcw abN)(Xz:MA K ao "move_to" "Sharing.move_to" YQ abM)(Xy:MA K ao "need_two" "Sharing.need_two" VP abL)(Xx:MA K ao "put" "Sharing.put" Zq abK)(Xw:MA K ao "tie" "Sharing.tie" Zr abJ)(Xv:MA K ao "untie" "Sharing.untie" Zw abI)(Xu:MA K ao "drop" "Sharing.drop" Zt abH)(Xr:MA K ao "web" "Sharing.web" iz abG)(Xq:MA K ao "value" "Sharing.value" eO abF)(Xp:MA K ao "laying" "Sharing.laying" zdd abE)(Xo:MA K ao "prices" "Sharing.prices" qt abD)(Xn:MA K ao "again" "Sharing.again" eU abC)(Ew:W.plainGet K aF Str.empty=true)(Et:W.hasDictIn K aF=true)(Er:W.plainOver K aF=true)(Eo:W.findIn K (.ref aF) "__setattr__"=some (some (.builtin "object.__setattr__")))(Em:W.makesIn K aF=true)(Ek:W.keepIn K (.ref aF)=true)(qQ:W.findIn K (.ref aF) "cells"=some none)(rN:W.findIn K (.ref aF) "over"=some none)(nR:W.findIn K (.ref aF) "columns"=some none)(rM:W.findIn K (.ref aF) "rows"=some none)(Ey:W.plainGet K ao Str.empty=true)(Eu:W.hasDictIn K ao=true)(Es:W.plainOver K ao=true)(Ep:W.findIn K (.ref ao) "__setattr__"=some (some (.builtin "object.__setattr__")))(En:W.makesIn K ao=true)(El:W.keepIn K (.ref ao)=true)(jB:W.findIn K (.ref ao) "kept_laying"=some none)(jP:W.findIn K (.ref ao) "times_anew"=some none)(lY:W.findIn K (.ref ao) "kept_web"=some none)(jQ:W.findIn K (.ref ao) "kept_value"=some none)(jA:W.findIn K (.ref ao) "kept_prices"=some none)(Gs:W.specialIn K (.builtin "object.__class__") "__get__"=some (some (.builtin "getset_descriptor.__get__")))(RP:W.takesIn K (.builtin "object.__class__")=some true)(TF:W.excIn K aZ [.type "ValueError",.type "Exception",.type "BaseException",.type "object"] "ValueError.__new__"=true)(RD:W.clsIn K aZ=some Qo)(Px:W.findIn K (.ref aZ) "__getattribute__"=some (some (.builtin "BaseException.__getattribute__")))(Pk:W.findIn K (.ref aZ) "__getattr__"=some none)(Pr:W.findIn K (.ref aZ) "__class__"=some (some (.builtin "object.__class__")))(Ny:W.mroIn K aZ (.type "object")=some true)(NK:W.mroIn K aZ (.type "BaseException")=some true)(Rj:W.kitOne K (.ref aZ) (.type "ValueError")=some true)(O9:W.kitOne K (.ref aZ) (.ref kZ)=some false)(OJ:W.kitOne K (.ref aZ) (.ref gG)=some false)(Oz:W.kitOne K (.ref aZ) (.ref aG)=some false)(Ow:W.kitOne K (.ref aZ) (.ref pR)=some false)(Ou:W.kitOne K (.ref aZ) (.ref kY)=some false)(Oq:W.kitOne K (.ref aZ) (.ref aN)=some false)(Om:W.kitOne K (.ref aZ) (.ref jc)=some false)(Oj:W.kitOne K (.ref aZ) (.ref aZ)=some true)(Oh:W.kitOne K (.ref aZ) (.ref aD)=some false)(TV:W.exmOne K (.ref aZ) (.ref gH)=some true)(lQ:W.excIn K aG [.type "ValueError",.type "Exception",.type "BaseException",.type "object"] "ValueError.__new__"=true)(Iw:W.clsIn K aG=some Ej)(DG:W.findIn K (.ref aG) "__getattribute__"=some (some (.builtin "BaseException.__getattribute__")))(Du:W.findIn K (.ref aG) "__getattr__"=some none)(Dy:W.findIn K (.ref aG) "__class__"=some (some (.builtin "object.__class__")))(Cu:W.mroIn K aG (.type "object")=some true)(Cy:W.mroIn K aG (.type "BaseException")=some true)(Ik:W.kitOne K (.ref aG) (.type "ValueError")=some true)(Dq:W.kitOne K (.ref aG) (.ref kZ)=some false)(Dl:W.kitOne K (.ref aG) (.ref gG)=some false)(Dj:W.kitOne K (.ref aG) (.ref aG)=some true)(Dh:W.kitOne K (.ref aG) (.ref pR)=some false)(Df:W.kitOne K (.ref aG) (.ref kY)=some false)(Dc:W.kitOne K (.ref aG) (.ref aN)=some false)(CW:W.kitOne K (.ref aG) (.ref jc)=some false)(CT:W.kitOne K (.ref aG) (.ref aZ)=some false)(CP:W.kitOne K (.ref aG) (.ref aD)=some false)(Jt:W.exmOne K (.ref aG) (.ref gH)=some true)(Hj:W.excIn K aN [.type "ValueError",.type "Exception",.type "BaseException",.type "object"] "ValueError.__new__"=true)(RJ:W.clsIn K aN=some Qp)(Py:W.findIn K (.ref aN) "__getattribute__"=some (some (.builtin "BaseException.__getattribute__")))(Pn:W.findIn K (.ref aN) "__getattr__"=some none)(Pu:W.findIn K (.ref aN) "__class__"=some (some (.builtin "object.__class__")))(Nz:W.mroIn K aN (.type "object")=some true)(NP:W.mroIn K aN (.type "BaseException")=some true)(Rk:W.kitOne K (.ref aN) (.type "ValueError")=some true)(Pa:W.kitOne K (.ref aN) (.ref kZ)=some false)(O1:W.kitOne K (.ref aN) (.ref gG)=some false)(OD:W.kitOne K (.ref aN) (.ref aG)=some false)(Ox:W.kitOne K (.ref aN) (.ref pR)=some false)(Ov:W.kitOne K (.ref aN) (.ref kY)=some false)(Ot:W.kitOne K (.ref aN) (.ref aN)=some true)(Oo:W.kitOne K (.ref aN) (.ref jc)=some false)(Ol:W.kitOne K (.ref aN) (.ref aZ)=some false)(Oi:W.kitOne K (.ref aN) (.ref aD)=some false)(TX:W.exmOne K (.ref aN) (.ref gH)=some true)(Jr:W.excIn K aD [.type "ValueError",.type "Exception",.type "BaseException",.type "object"] "ValueError.__new__"=true)(Iv:W.clsIn K aD=some Ei)(Dz:W.findIn K (.ref aD) "__getattribute__"=some (some (.builtin "BaseException.__getattribute__")))(Dt:W.findIn K (.ref aD) "__getattr__"=some none)(Dw:W.findIn K (.ref aD) "__class__"=some (some (.builtin "object.__class__")))(Cr:W.mroIn K aD (.type "object")=some true)(Cw:W.mroIn K aD (.type "BaseException")=some true)(Ij:W.kitOne K (.ref aD) (.type "ValueError")=some true)(Dm:W.kitOne K (.ref aD) (.ref kZ)=some false)(Dk:W.kitOne K (.ref aD) (.ref gG)=some false)(Di:W.kitOne K (.ref aD) (.ref aG)=some false)(Dg:W.kitOne K (.ref aD) (.ref pR)=some false)(Dd:W.kitOne K (.ref aD) (.ref kY)=some false)(CZ:W.kitOne K (.ref aD) (.ref aN)=some false)(CV:W.kitOne K (.ref aD) (.ref jc)=some false)(CQ:W.kitOne K (.ref aD) (.ref aZ)=some false)(CN:W.kitOne K (.ref aD) (.ref aD)=some true)(Js:W.exmOne K (.ref aD) (.ref gH)=some true):
  ∃fd:ρ,(∀(s:η) (v:ζ),BindsTo s fd ⟨[v],[]⟩ [("script",v)])/\∀base:Heap,K.In base->base.Ns mainGlobals mg->FnOk l.prog w K mg base CX0 15 fa fd ["script"] (spLaw K):=by
 have e:=hfa.symm.trans (Bh X G a46);cases e;obtain⟨d0,F0,a0⟩:=a0;have jD:=DA.d (ps:=["thing"]) X G F0 a0 (fun _ _ _ _ _ _=>sW fun _=>rfl);obtain⟨d1,F1,a1⟩:=a1;have nW:=DA.d (ps:=["n","thing"]) X G F1 a1 (fun _ _ _ _ _ _=>nT fun _ _=>rfl);obtain⟨d2,F2,a2⟩:=a2;have yg:=DA.d (ps:=["n","things"]) X G F2 a2 (fun _ _ _ _ _ _=>nT fun _ _=>rfl);obtain⟨d3,F3,a3⟩:=a3;have lC:=DA.d (ps:=["things"]) X G F3 a3 (fun _ _ _ _ _ _=>sW fun _=>rfl);obtain⟨d4,F4,a4⟩:=a4;have qb:=DA.d (ps:=["n","thing"]) X G F4 a4 (fun _ _ _ _ _ _=>nT fun _ _=>rfl);obtain⟨d5,F5,a5⟩:=a5;have Fi:=DA.d (ps:=["n","thing"]) X G F5 a5 (fun _ _ _ _ _ _=>nT fun _ _=>rfl);obtain⟨d6,F6,a6⟩:=a6;have Aw:=DA.d (ps:=["thing"]) X G F6 a6 (fun _ _ _ _ _ _=>sW fun _=>rfl);obtain⟨d7,F7,a7⟩:=a7;have dI:=DA.d (ps:=["thing"]) X G F7 a7 (fun _ _ _ _ _ _=>sW fun _=>rfl);obtain⟨d8,F8,a8⟩:=a8;have p7:=DA.d (ps:=["web","thing"]) X G F8 a8 (fun _ _ _ _ _ _=>nT fun _ _=>rfl);obtain⟨d9,F9,a9⟩:=a9;have nU:=DA.d (ps:=["web","thing"]) X G F9 a9 (fun _ _ _ _ _ _=>nT fun _ _=>rfl);obtain⟨d10,F10,a10⟩:=a10;have uM:=DA.d (ps:=["n"]) X G F10 a10 (fun _ _ _ _ _ _=>sW fun _=>rfl);obtain⟨d11,F11,a11⟩:=a11;have Uz:=DA.d (ps:=["n"]) X G F11 a11 (fun _ _ _ _ _ _=>sW fun _=>rfl);obtain⟨d12,F12,a12⟩:=a12;have fU:=DA.d (ps:=["web","one","other"]) X G F12 a12 (fun _ _ _ _ _ _=>Qq fun _ _ _=>rfl);obtain⟨d13,F13,a13⟩:=a13;have gJ:=DA.d (ps:=["one","other"]) X G F13 a13 (fun _ _ _ _ _ _=>nT fun _ _=>rfl);obtain⟨d14,F14,a14⟩:=a14;have p8:=DA.d (ps:=["a","b"]) X G F14 a14 (fun _ _ _ _ _ _=>nT fun _ _=>rfl);obtain⟨d15,F15,a15⟩:=a15;have vZ:=DA.d (ps:=["one","other"]) X G F15 a15 (fun _ _ _ _ _ _=>nT fun _ _=>rfl);obtain⟨d16,F16,a16⟩:=a16;have vA:=DA.d (ps:=["thing"]) X G F16 a16 (fun _ _ _ _ _ _=>sW fun _=>rfl);obtain⟨d17,F17,a17⟩:=a17;have Aq:=DA.d (ps:=["fractions"]) X G F17 a17 (fun _ _ _ _ _ _=>sW fun _=>rfl);obtain⟨d18,F18,a18⟩:=a18;have xV:=DA.d (ps:=["web","by"]) X G F18 a18 (fun _ _ _ _ _ _=>nT fun _ _=>rfl);obtain⟨d19,F19,a19⟩:=a19;have Fg:=DA.d (ps:=["web","some"]) X G F19 a19 (fun _ _ _ _ _ _=>nT fun _ _=>rfl);obtain⟨d20,F20,a20⟩:=a20;have rW:=DA.d (ps:=["web","some"]) X G F20 a20 (fun _ _ _ _ _ _=>nT fun _ _=>rfl);obtain⟨d21,F21,a21⟩:=a21;have rR:=DA.d (ps:=["web","place","tied"]) X G F21 a21 (fun _ _ _ _ _ _=>Qq fun _ _ _=>rfl);obtain⟨d22,F22,a22⟩:=a22;have JT:=DA.d (ps:=["ones","others"]) X G F22 a22 (fun _ _ _ _ _ _=>nT fun _ _=>rfl);obtain⟨d23,F23,a23⟩:=a23;have Az:=DA.d (ps:=["friends"]) X G F23 a23 (fun _ _ _ _ _ _=>sW fun _=>rfl);obtain⟨d24,F24,a24⟩:=a24;have yd:=DA.d (ps:=["web"]) X G F24 a24 (fun _ _ _ _ _ _=>sW fun _=>rfl);obtain⟨d25,F25,a25⟩:=a25;have pZ:=DA.d (ps:=["web","thing"]) X G F25 a25 (fun _ _ _ _ _ _=>nT fun _ _=>rfl);obtain⟨d26,F26,a26⟩:=a26;have Ar:=DA.d (ps:=["web","wants"]) X G F26 a26 (fun _ _ _ _ _ _=>nT fun _ _=>rfl);obtain⟨d27,F27,a27⟩:=a27;have Fe:=DA.d (ps:=["web","thing"]) X G F27 a27 (fun _ _ _ _ _ _=>nT fun _ _=>rfl);obtain⟨d28,F28,a28⟩:=a28;have Ax:=DA.d (ps:=["web","thing"]) X G F28 a28 (fun _ _ _ _ _ _=>nT fun _ _=>rfl);obtain⟨d29,F29,a29⟩:=a29;have YJ:=DA.d (ps:=["laying","place","want"]) X G F29 a29 (fun _ _ _ _ _ _=>Qq fun _ _ _=>rfl);obtain⟨d30,F30,a30⟩:=a30;have Ay:=DA.d (ps:=["web","wants","laying","number"]) X G F30 a30 (fun _ _ _ _ _ _=>bn4 fun _ _ _ _=>rfl);obtain⟨d31,F31,a31⟩:=a31;have uL:=DA.d (ps:=["web"]) X G F31 a31 (fun _ _ _ _ _ _=>sW fun _=>rfl);obtain⟨d32,F32,a32⟩:=a32;have vB:=DA.d (ps:=["web"]) X G F32 a32 (fun _ _ _ _ _ _=>sW fun _=>rfl);obtain⟨d33,F33,a33⟩:=a33;have gK:=DA.d (ps:=["fraction"]) X G F33 a33 (fun _ _ _ _ _ _=>sW fun _=>rfl);obtain⟨d34,F34,a34⟩:=a34;have vC:=DA.d (ps:=["some"]) X G F34 a34 (fun _ _ _ _ _ _=>sW fun _=>rfl);obtain⟨d35,F35,a35⟩:=a35;have Ba:=DA.d (ps:=["one","other"]) X G F35 a35 (fun _ _ _ _ _ _=>nT fun _ _=>rfl);obtain⟨d36,F36,a36⟩:=a36;have xY:=DA.d (ps:=["cell","at"]) X G F36 a36 (fun _ _ _ _ _ _=>nT fun _ _=>rfl);obtain⟨d37,F37,a37⟩:=a37;have dU:=DA.d (ps:=["cup","many"]) X G F37 a37 (fun _ _ _ _ _ _=>nT fun _ _=>rfl);obtain⟨d38,F38,a38⟩:=a38;have lB:=DA.d (ps:=["cup","n"]) X G F38 a38 (fun _ _ _ _ _ _=>nT fun _ _=>rfl);obtain⟨d39,F39,a39⟩:=a39;have Av:=DA.d (ps:=["cup","most"]) X G F39 a39 (fun _ _ _ _ _ _=>nT fun _ _=>rfl);obtain⟨d40,F40,a40⟩:=a40;have yc:=DA.d (ps:=["caught"]) X G F40 a40 (fun _ _ _ _ _ _=>sW fun _=>rfl);obtain⟨d41,F41,a41⟩:=a41;have xZ:=DA.d (ps:=["cup","web","most"]) X G F41 a41 (fun _ _ _ _ _ _=>Qq fun _ _ _=>rfl);obtain⟨d42,F42,a42⟩:=a42;have uN:=DA.d (ps:=["sharing","deed"]) X G F42 a42 (fun _ _ _ _ _ _=>nT fun _ _=>rfl);obtain⟨d43,F43,a43⟩:=a43;have xW:=DA.d (ps:=["sharing","deed"]) X G F43 a43 (fun _ _ _ _ _ _=>nT fun _ _=>rfl);obtain⟨d44,F44,a44⟩:=a44;have rT:=DA.d (ps:=["cup","web"]) X G F44 a44 (fun _ _ _ _ _ _=>nT fun _ _=>rfl);obtain⟨d45,F45,a45⟩:=a45;have xX:=DA.d (ps:=["sharing"]) X G F45 a45 (fun _ _ _ _ _ _=>sW fun _=>rfl);have F46:=fun_mk (st:=jK) l46 c46 k46;have ig:=Bh X G x0;have uX:=Bh X G x1;have yF:=Bh X G x2;have wQ:=Fv X G z0;have aaw:=Fv X G z1;have ur:=Fv X G z2;have Xl:=Fv X G z3;have gW:=Fv X G z4;have Vu:=Fv X G z5;have bC:=Fv X G z6;have gU:=Fv X G z7;have qG:=Fv X G z8;have Nu:=Fv X G z9;have Gz:=Fv X G z10;have cH:=Fv X G z11;have pF:=Fv X G z12;have bV:=Fv X G z13;have qK:=Bh X G y0;have fQ:=Bh X G y1;have N5:=Bh X G y2;have Cz:=Bh X G y3;have iU:=Bh X G y4;have Tj:=Bh X G y5;have NZ:=Bh X G y6;have wU:=Bh X G y7;have Jl:=Bh X G y8;have GK:=Bh X G y9;have vQ:=Bh X G y10;have nP:=Bh X G y11;obtain⟨md0,FM0,ma0⟩:=ma0;have ou:=MA.d (ps:=["self","sets","wants"]) FM0 ma0 (fun _ _ _ _ _ _=>Qq fun _ _ _=>rfl);obtain⟨md1,FM1,ma1⟩:=ma1;have jV:=MA.d (ps:=["self"]) FM1 ma1 (fun _ _ _ _ _ _=>sW fun _=>rfl);obtain⟨md2,FM2,ma2⟩:=ma2;have lD:=MA.d (ps:=["self","column","row","other"]) FM2 ma2 (fun _ _ _ _ _ _=>bn4 fun _ _ _ _=>rfl);obtain⟨md3,FM3,ma3⟩:=ma3;have oh:=MA.d (ps:=["self","column"]) FM3 ma3 (fun _ _ _ _ _ _=>nT fun _ _=>rfl);obtain⟨md4,FM4,ma4⟩:=ma4;have qU:=MA.d (ps:=["self","cells","pivots","column"]) FM4 ma4 (fun _ _ _ _ _ _=>bn4 fun _ _ _ _=>rfl);obtain⟨md5,FM5,ma5⟩:=ma5;have uO:=MA.d (ps:=["self","row","column"]) FM5 ma5 (fun _ _ _ _ _ _=>Qq fun _ _ _=>rfl);obtain⟨md6,FM6,ma6⟩:=ma6;have rY:=MA.d (ps:=["self"]) FM6 ma6 (fun _ _ _ _ _ _=>sW fun _=>rfl);obtain⟨md7,FM7,ma7⟩:=ma7;have cF:=MA.d (ps:=["self","row","column"]) FM7 ma7 (fun _ _ _ _ _ _=>Qq fun _ _ _=>rfl);obtain⟨md8,FM8,ma8⟩:=ma8;have nZ:=MA.d (ps:=["self","name"]) FM8 ma8 (fun _ _ _ _ _ _=>nT fun _ _=>rfl);obtain⟨md9,FM9,ma9⟩:=ma9;have nY:=MA.d (ps:=["self","name"]) FM9 ma9 (fun _ _ _ _ _ _=>nT fun _ _=>rfl);obtain⟨aco,YH,NQ⟩:=NQ;have gM:=MA.d (ps:=["self","web"]) YH NQ (fun _ _ _ _ _ _=>nT fun _ _=>rfl);obtain⟨acn,abq,XC⟩:=XC;have lE:=MA.d (ps:=["self","web","told"]) abq XC (fun _ _ _ _ _ _=>Qq fun _ _ _=>rfl);obtain⟨acj,abp,Xz⟩:=Xz;have cI:=MA.d (ps:=["self","web"]) abp Xz (fun _ _ _ _ _ _=>nT fun _ _=>rfl);obtain⟨aci,YG,Xy⟩:=Xy;have bY:=MA.d (ps:=["self","one","other"]) YG Xy (fun _ _ _ _ _ _=>Qq fun _ _ _=>rfl);obtain⟨ach,YF,Xx⟩:=Xx;have mO:=MA.d (ps:=["self","ties"]) YF Xx (fun _ _ _ _ _ _=>nT fun _ _=>rfl);obtain⟨acg,YD,Xw⟩:=Xw;have mK:=MA.d (ps:=["self","one","other"]) YD Xw (fun _ _ _ _ _ _=>Qq fun _ _ _=>rfl);obtain⟨acf,YC,Xv⟩:=Xv;have jN:=MA.d (ps:=["self","one","other"]) YC Xv (fun _ _ _ _ _ _=>Qq fun _ _ _=>rfl);obtain⟨ace,YB,Xu⟩:=Xu;have lF:=MA.d (ps:=["self"]) YB Xu (fun _ _ _ _ _ _=>sW fun _=>rfl);obtain⟨acd,abo,Xr⟩:=Xr;have vD:=MA.d (ps:=["self"]) abo Xr (fun _ _ _ _ _ _=>sW fun _=>rfl);obtain⟨ab',abn,Xq⟩:=Xq;have rZ:=MA.d (ps:=["self"]) abn Xq (fun _ _ _ _ _ _=>sW fun _=>rfl);obtain⟨ab9,abm,Xp⟩:=Xp;have qW:=MA.d (ps:=["self"]) abm Xp (fun _ _ _ _ _ _=>sW fun _=>rfl);obtain⟨ab8,ab3,Xo⟩:=Xo;have JV:=MA.d (ps:=["self"]) ab3 Xo (fun _ _ _ _ _ _=>sW fun _=>rfl);obtain⟨ab7,abl,Xn⟩:=Xn;have su:=MA.d (ps:=["self"]) abl Xn (fun _ _ _ _ _ _=>sW fun _=>rfl);have bF:Cls K aF:=⟨Ew,Et,Er,Eo⟩;have cN:NoAttr K aF "cells":=qQ;have dw:NoAttr K aF "over":=rN;have bD:NoAttr K aF "columns":=nR;have dh:NoAttr K aF "rows":=rM;have mk_Tableau:Mk K aF mf0:=⟨Em,ma0.1,ma0.2.1,Ek⟩;have Eb:Cls K ao:=⟨Ey,Eu,Es,Ep⟩;have uq:NoAttr K ao "kept_laying":=jB;have u5:NoAttr K ao "times_anew":=jP;have zF:NoAttr K ao "kept_web":=lY;have u6:NoAttr K ao "kept_value":=jQ;have uo:NoAttr K ao "kept_prices":=jA;have mk_Sharing:Mk K ao aax:=⟨En,NQ.1,NQ.2.1,El⟩;refine⟨W.fnOf "law" "law" (defArgs jK) (defBody jK) (defScope jK) .none aaD aa2 aat aa' Yt aa3,fun s v=> .of_eq rfl,fun base _ _=> ?_⟩;have iC:=uV.mk Eb uq u5 zF u6 uo;have sS:=MN (P:=l.prog) (w:=w) (base:=base) F0 bC Vu Xl;have wZ:=Nh (P:=l.prog) (w:=w) (base:=base) F1 jD sS;have PB:=Ji (P:=l.prog) (w:=w) (base:=base) F2 nW wZ ur;have zY:=Jh (P:=l.prog) (w:=w) (mg:=mg) (base:=base) F3 ur cH gU;have Hr:=W7 (P:=l.prog) (w:=w) (base:=base) F4 yg PB lC zY bC bV;have X5:=R9 (P:=l.prog) (w:=w) (base:=base) F5 qb Hr lC zY bC bV ur gU;have Vx:=WL (P:=l.prog) (w:=w) (base:=base) F6 jD sS Fi X5 bC bV gU ig;have Ig:=zu F7 Aw Vx Vf GK TF;have V9:=Nf (C:=ao) YH dI Ig;have qM:=Cj (P:=l.prog) (w:=w) (base:=base) F9 qb Hr;have Ih:=zx (P:=l.prog) (w:=w) (base:=base) F9 qb Hr Vf iU lQ;have Yk:=zy (P:=l.prog) (w:=w) (base:=base) F10 ig Vf vQ Jr;have V8:=M8 (cp:=aG) (ct:=aN) (cm:=aD) YF iC nU qM Ih uM Yk;have Rg:=Jg (P:=l.prog) (w:=w) (mg:=mg) (base:=base) YB iC Vf iU lQ;have rE:=wK (P:=l.prog) (w:=w) (base:=base) F8 nW wZ;have wY:=Sy YG iC p7 rE;have yC:=uZ (P:=l.prog) (w:=w) (base:=base) F8 nW wZ Vf iU lQ;have Kv:=M6 YG iC p7 rE yC Vf iU lQ;have vR:=Xd (P:=l.prog) (w:=w) (mg:=mg) (base:=base) F12 Gz Nu;have V7:=M7 (cp:=aG) (ct:=aN) (cm:=aD) YD iC bY wY Kv fU vR Vf wU Hj;have V6:=M5 (cp:=aG) (ct:=aN) (cm:=aD) YC iC bY wY Kv fU vR Vf wU Hj;have ZP:=Tf (cp:=aG) (ct:=aN) (cm:=aD) F42 iC mO V8 lF Rg mK V7 jN V6;have Yh:=S8 (P:=l.prog) (w:=w) (mg:=mg) (base:=base) F40 bC wQ N5 Cz iU Tj NZ wU Jl GK vQ;have k_web:=Kn.mk TV ⟨_,7,(pH ⟨⟨_,RD⟩,Px,Pk,Pr,Gs,RP,Ny,NK⟩ Rj O9 OJ Oz Ow Ou Oq Om Oj Oh),rfl,rfl,(by decide),rfl⟩;have X3:=R6 F43 fQ gM mk_Sharing V9 uN ZP yc Yh nP k_web;have Uc:=Nk (P:=l.prog) (w:=w) (mg:=mg) (base:=base) F36;have Aa:=Xe F37 xY Uc gU;have Ho:=MP F38 dU Aa cH bV;have Yl:=Td F39 dU Aa lB Ho;have iZ:=Ci (P:=l.prog) (w:=w) (base:=base) F7 Aw Vx;have rD:=wJ F25 jD sS gU bC bV ur yF;have PN:=Jj (P:=l.prog) (w:=w) (mg:=mg) (base:=base) F22;have DP:=zE F23 JT PN qG cH gU pF;have Ue:=Np F21 fU vR cH;have zZ:=wL F24 dI iZ Az DP rR Ue cH;have X6:=Sg (P:=l.prog) (w:=w) (mg:=mg) (base:=base) FM0 bF cN dw bD dh gU cH qG;have aaT:=W5 (P:=l.prog) (w:=w) (mg:=mg) (base:=base) FM1 bF cN dw bD dh gW Gz;have aaO:=WR (P:=l.prog) (w:=w) (mg:=mg) (base:=base) FM4 bF cN dw bD dh gW;have aaM:=WM FM5 bF cN dw bD dh qU aaO;have aaN:=WQ (P:=l.prog) (w:=w) (mg:=mg) (base:=base) FM2 bF cN dw bD dh;have aaS:=WY FM3 bF cN dw bD dh lD aaN cH gU;have aaP:=WT FM6 bF cN dw bD dh jV aaT uO aaM oh aaS;have aaW:=aau (P:=l.prog) (w:=w) (mg:=mg) (base:=base) F13;have Hu:=Xc (P:=l.prog) (w:=w) (base:=base) F14 gJ aaW aaw;have Pz:=W6 FM7 bF cN dw bD dh p8 Hu;have aaQ:=WW FM9 bF cN dw bD dh p8 Hu cF Pz;have aaR:=WX FM8 bF cN dw bD dh p8 Hu cF Pz;have zX:=Jf F26 bF cN dw bD dh qK dI iZ pZ rD yd zZ ou mk_Tableau X6 rY aaP nY aaQ nZ aaR cF Pz gW cH;have PJ:=SX (P:=l.prog) (w:=w) (mg:=mg) (base:=base) F31;have Ht:=Nb (P:=l.prog) (w:=w) (mg:=mg) (base:=base) abq iC;have Yg:=SQ YH iC dI iZ Ar zX uL PJ lE Ht;have aaV:=Xb F41 dU Aa bV cH pF qG Gz Nu;have Jx:=Ck (P:=l.prog) (w:=w) (base:=base) F10 ig;have Yi:=S9 F16 jD sS gU bC bV uX;have Ud:=Nm (P:=l.prog) (w:=w) (mg:=mg) (base:=base) F20 gU;have Jy:=Cm F27 vA Yi qb Hr rW Ud gU bC bV;have Jv:=Ce (P:=l.prog) (w:=w) (mg:=mg) (base:=base) F3 ur cH gU;have DK:=zA F28 Fe Jy lC Jv ur bC qG;have PL:=S6 (P:=l.prog) (w:=w) (mg:=mg) (base:=base) F15;have Hq:=M4 F17 gJ aaW;have Yj:=Tc F29 vZ PL Aq Hq;have DN:=zB F30 dI iZ pZ rD Ax DK YJ Yj vZ PL Aq Hq ur gW;have sU:=M9 abp iC Ar zX uL PJ Ay (DN.mono (by decide)) lE Ht;have Yd:=SM YF iC nU qM uM Jx cI sU bV pF qG;have Ym:=Te (P:=l.prog) (w:=w) (base:=base) F11 cH;have aaX:=Xf (P:=l.prog) (w:=w) (base:=base) F19 dI iZ nU qM Uz Ym fU vR bV gU;have Ua:=Ng YB iC cI sU Fg aaX bV cH;have Vz:=Xj (P:=l.prog) (w:=w) (mg:=mg) (base:=base) F35 Gz Nu;have Yc:=SJ YD iC bY wY fU vR Ba Vz cI sU qG bV pF;have Yb:=Sw YC iC bY wY fU vR Ba Vz cI sU bV;have aa0:=Xk F42 iC mO Yd lF Ua mK Yc jN Yb;have Ub:=Nj (P:=l.prog) (w:=w) (mg:=mg) (base:=base) F18;have aaY:=Xg F32 xV Ub bV;have X7:=Sq abo iC vB aaY;have Vy:=Xi F33 p8 Hu;have X8:=Ss abn iC gK Vy;have aaZ:=Xh (P:=l.prog) (w:=w) (mg:=mg) (base:=base) F34 bV;have Ye:=SN abm iC vC aaZ gK Vy;have aaU:=Xa (P:=l.prog) (w:=w) (mg:=mg) (base:=base) abl iC;have X4:=R8 F45 iC vD X7 rZ X8 qW Ye su aaU;have Jw:=Cg F44 dU Aa cH Vu;have k_place:=Kn.mk Jt ⟨_,2,(pH ⟨⟨_,Iw⟩,DG,Du,Dy,Gs,RP,Cu,Cy⟩ Ik Dq Dl Dj Dh Df Dc CW CT CP),rfl,rfl,(by decide),rfl⟩;have k_tie:=Kn.mk TX ⟨_,5,(pH ⟨⟨_,RJ⟩,Py,Pn,Pu,Gs,RP,Nz,NP⟩ Rk Pa O1 OD Ox Ov Ot Oo Ol Oi),rfl,rfl,(by decide),rfl⟩;have k_many:=Kn.mk Js ⟨_,8,(pH ⟨⟨_,Iv⟩,Dz,Dt,Dw,Gs,RP,Cr,Cw⟩ Ij Dm Dk Di Dg Dd CZ CV CQ CN),rfl,rfl,(by decide),rfl⟩;exact ok_law F46 iC fQ xW X3 Av Yl lB Ho dU Aa gM mk_Sharing Yg xZ aaV uN aa0 xX X4 rT Jw k_place k_tie k_many cH gU
theorem walk{l:PySem.W.OpenLaw}{q:ξ}{loose:List Str}{XP:(L4)->Heap->Prop}{YP:τ->Heap->Prop}{d:DefRec}{K:Params->PySem.W.Frag}(hn:l.most=some 63)(hdf:d.params.defaults=[])(hY:∀(w:τ) (h:Heap),YP w h->(K w.params).In h)
  (F:∀(w:τ) (mg:L4) (fa:Addr) (h:Heap),(K w.params).In h->h.Ns mainGlobals mg->mg d.name=some (.ref fa)->
   ∃fd:ρ,(∀(s:η) (u:ζ),BindsTo s fd ⟨[u],[]⟩ [("script",u)])/\∀base:Heap,(K w.params).In base->base.Ns mainGlobals mg->FnOk l.prog w (K w.params) mg base CX0 15 fa fd ["script"] (spLaw (K w.params))):
  PySem.W.WalkO q loose XP YP l.row.toRowW d [] (fun f vs=>PySem.call f vs):=
 L2.walk_of (n:=63) (k:=15) (x:="script") (CX:=fun _=>CX0) (sp:=fun w=>spLaw (K w.params)) hn (by decide) hdf ⟨rfl,by decide,by decide,rfl⟩ hY F (fun _ _ a ns hl hO hS=>Ls hl hO hS) fun _ _ _ _ _ z=>z
end Hs
open PySem PySem.W PyProof.Rows
set_option maxRecDepth 100000 in
set_option maxHeartbeats 0 in
theorem PySem.Challenge.cw_hueshare_k51_deeds_of_a_sharing_refused_holds : PySem.Challenge.rw_hueshare_k51_deeds_of_a_sharing_refused.Holds := by
 refine Hd.early.2 ?_;unfold Hd.early;dsimp only
 k_fill
 refine Hs.walk (l:=PySem.Challenge.rw_hueshare_k51_deeds_of_a_sharing_refused) rfl rfl (fun w h Y=>PySem.W.kIn_of Y) ?F
 case F=>
  intro w mg fa h KX G hmg
  refine' Hs.all_mk KX G hmg .of .of .of .of .of .of .of .of .of .of .of .of .of .of .of .of .of .of .of .of .of .of .of .of .of .of .of .of .of .of .of .of .of .of .of .of .of .of .of .of .of .of .of .of .of .of (by k_is) (by k_is) (by k_is) (by k_is) (by k_is) (by k_is) (by k_is) (by k_is) (by k_is) (by k_is) (by k_is) (by k_is) (by k_is) (by k_is) (by k_is) (by k_is) (by k_is) (by k_is) (by k_is) (by k_is) (by k_is) (by k_is) (by k_is) (by k_is) (by k_is) (by k_is) (by k_is) (by k_is) (by k_is) (by k_is) (by k_is) (by k_is) (by k_is) .of .of .of .of .of .of .of .of .of .of .of .of .of .of .of .of .of .of .of .of .of .of .of (by k_is) (by k_is) (by k_is) (by k_is) (by k_is) (by k_is) (by k_is) (by k_is) (by k_is) (by k_is) (by k_is) (by k_is) (by k_is) (by k_is) (by k_is) (by k_is) (by k_is) (by k_is) (by k_is) (by k_is) (by k_is) (by k_is) (by k_is) (by k_exc) (by k_is) (by k_is) (by k_is) (by k_is) (by k_is) (by k_is) (by kit_is) (by kit_is) (by kit_is) (by kit_is) (by kit_is) (by kit_is) (by kit_is) (by kit_is) (by kit_is) (by kit_is) (by kts_exm) (by k_exc) (by k_is) (by k_is) (by k_is) (by k_is) (by k_is) (by k_is) (by kit_is) (by kit_is) (by kit_is) (by kit_is) (by kit_is) (by kit_is) (by kit_is) (by kit_is) (by kit_is) (by kit_is) (by kts_exm) (by k_exc) (by k_is) (by k_is) (by k_is) (by k_is) (by k_is) (by k_is) (by kit_is) (by kit_is) (by kit_is) (by kit_is) (by kit_is) (by kit_is) (by kit_is) (by kit_is) (by kit_is) (by kit_is) (by kts_exm) (by k_exc) (by k_is) (by k_is) (by k_is) (by k_is) (by k_is) (by k_is) (by kit_is) (by kit_is) (by kit_is) (by kit_is) (by kit_is) (by kit_is) (by kit_is) (by kit_is) (by kit_is) (by kit_is) (by kts_exm)
