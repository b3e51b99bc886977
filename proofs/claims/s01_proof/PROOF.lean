import PyProof.Rows.All
import Wide.All
import OpenK.AllK
import Wide.FinOn
import PyProof.EqAt
import PyProof.EqKinds
import PyProof.TupleCall
import KE.BitLaws
import Open.SpecLaws
import KE.OsHead
import KE.OsGo
import KE.KEqDict
import KE.KDictSum
import KE.KDictList
import PyProof.Rows.SortShellAny
import PySem.Challenge.RW_heappieces_s01_answers
set_option Elab.async false
set_option compiler.extract_closed false
set_option linter.all false
set_option maxRecDepth 100000
set_option maxHeartbeats 4000000
set_option tactic.hygienic false
local macro_rules|`(def $i:declId $s:optDeclSig $v:declVal)=>`(noncomputable def $i $s $v:declVal)
noncomputable section
open Array renaming length_toList->V8,getElem?_eq_some_iff->WB,getElem?_toList->Xo,toList->Z1,getElem?_eq_none->abb,toArray_toList->abM,find?_toList->acq,size_append->acU
open Bool renaming false_ne_true->Ur,false_eq_true->UA,true->UB,false->UF,and_eq_true->Vb,eq_iff_iff->Vv,beq_eq_decide_eq->V_,or_eq_false_iff->Wc,false_or->Wm,or_eq_true->Wn,false_and->Xk,and_false->Xl,or_false->XH,and_self->Zz,eq_false_iff->aau,true_and->aaF,or_self->aba,not_eq_false'->acp,or_true->acS,not_eq_true'->acT
open Except renaming map->Wp,bind->WG,ok->Xv,error->Z0
open False renaming elim->VI
open ForInStep renaming yield->X5
open Int renaming toNat->VY,toNat_of_nonneg->WF,toNat_natCast->Zf
open List renaming length_map->Uq,length_append->Us,length_cons->Ut,getElem?_eq_getElem->UC,map_cons->UJ,append_assoc->UK,getElem?_map->UM,getElem?_eq_some_iff->UO,mem_cons->UP,mem_cons_of_mem->UR,cons_append->US,mem_cons_self->UU,contains_iff_mem->UV,size_toArray->UX,getElem?_append_left->UY,getElem?_append_right->UZ,mem_of_getElem?->U3,mem_map->U6,eq_nil_of_length_eq_zero->Vc,nil_append->Ve,pairwise_cons->Vg,mem_singleton->Vh,map_append->Vj,length_nil->Vr,length_drop->Vx,getD_eq_getElem?_getD->Vy,map_map->VA,append_nil->VB,contains_cons->VE,length_singleton->VF,length_take->VL,mem_append->VM,mem_append_right->VP,nodup_cons->VR,replicate->VX,mem_filter->V5,drop_drop->V6,filter_cons->V7,zip_cons_cons->Wb,mem_append_left->Ws,length_dropLast->Wt,take_add_one->Wz,flatten_cons->WA,takeWhile_cons->WC,map_congr_left->WD,dropWhile_cons->WE,length_filter_le->WK,take_length->WO,getElem?_drop->WP,range->W0,length->Xc,lookup_cons->Xf,mem_iff_getElem?->Xn,find?_cons->Xu,lookup->Xz,flatMap_cons->XA,contains_nil->XB,any_cons->XG,length_reverse->XI,all_eq_true->XN,take_of_length_le->X4,getElem?_eq_none->Yc,map_nil->Yu,drop_eq_getElem_cons->Yx,replicate_succ->Yy,getElem?_replicate->YV,getElem?_cons_zero->YW,pairwise_map->Za,map->Zb,getElem?_set_self->Zc,getElem?_dropLast->Zd,filter_congr->Ze,length_replicate->Zk,dropWhile_suffix->Zl,dropLast_sublist->Zm,not_mem_nil->Zt,any_eq_true->Zu,all_cons->Zy,getElem?_set_ne->ZG,forall_mem_cons->ZH,of_mem_zip->ZO,length_zip->ZP,filter_eq_self->ZS,filterMap_cons->ZT,mem_range->aaf,getElem?_take->aag,findIdx?_eq_none_iff->aai,reverse_cons->aaq,nodup_append->aar,length_range->aas,any_eq_false->aat,map_take->aaD,map_drop->aaE,suffix_refl->aaT,perm_middle->aaU,not_all_eq_any_not->aaV,getElem?_cons_succ->aaW,range_succ_eq_map->aa8,findIdx_eq_length->aa9,drop_eq_nil_of_le->aa_,length_set->abi,forIn_cons->abj,foldl_cons->abk,takeWhile_prefix->abt,perm_append_comm->abu,nodup_nil->abJ,drop_zero->abK,dropLast_concat->abL,toList_toArray->abZ,take_succ_cons->ab0,flatMap_append->ab1,append_toArray->ab2,mem_filterMap->acm,filter_filter->acn,filter_append->aco,take_sublist->acN,foldl_append->acO,ext_getElem?->acP,all_map->acQ,suffix_cons->ac8,getElem_inj->ac9,flatMap_def->ac_,drop_suffix->ada,map_id->adh,filter_map->adn,forIn_nil->adW,drop->afc
open List.Pairwise renaming map->acR
open List.Perm renaming refl->adZ
open List.cons renaming inj->X_
open Nat renaming le_refl->UD,lt_of_lt_of_le->U9,ne_of_lt->Vl,le_trans->Vm,zero_le->VN,lt_succ_self->VW,mul_le_mul_right->Wr,lt_irrefl->Wv,add_zero->Wy,min_eq_left->WZ,le_of_lt->Xb,le_succ->XS,add_sub_cancel->X3,sub_self->Yt,add_sub_cancel_left->YU,lt_succ_of_lt->Y9,le_of_succ_le->Y_,le_of_eq->ZZ,lt_of_le_of_lt->aae,le_of_ble_eq_true->abr,not_lt->acl,lt_trans->acM,le_add_right->ac7,le_zero->adg,not_lt_zero->adm
open Ne renaming symm->WX
open Option renaming some->Up,none->UH,any_some->V4,isSome_iff_exists->WS,map_eq_some_iff->X2,isSome_some->YL,map_some->ZN,isSome_map->aap,getD_none->ac6
open Option.some renaming inj->UI,injEq->acL
open Or renaming inl->UT,inr->adV
open Prod renaming fst->adU
open PyFlat renaming call->XR,calls->X1,played->aaC,told->abI,row->adT
open PyInside renaming calls->aad,call->aca
open PyProof renaming noPylong_small->aa6
open PyProof.Rows renaming boot_dict->Xa,boot_list->X0,callWith_type1->Yf,boot_sorted->YF,envOfC->YK,boot_tuple->YT,subscriptTail_builtinR->aa7,boot_ord->abp,boot_all->abq,subscriptTail->ab_,AllBare->acK,iadd_int->adw
open PySem renaming Value->Uv,Addr->Uw,sizeLine_eq->Ux,Shared->UE,wpAny_bind->UL,sizeLine->U1,boot_len->U2,model->U_,wpAny->Vi,Str->Vp,wpAny_pure->Vq,Stmt->Vs,starEach->Vt,mem_of_lookup->Vw,Around->VU,compareOp->V0,wpAny_mono->V9,World->We,mainGlobals->Wg,wpAny_truthy_bool->Wx,sysModules->WY,Obj->W2,NameKind->Xj,eval->Xq,Scope->XQ,tupleKind_room_in1->XV,attributeBase->X9,backTo->Yk,wpAny_call_entry->Yr,compEnvC->YA,FuncData->YD,sliceBounds->YO,excClassObj->YQ,DictEntry->YS,foldedSetIterable->Y2,codeAny_mono->Y3,cLine->Zh,pushCells->Zq,codeAny->Zw,wpAny_execs_nil->ZJ,wpAny_newFunctionEnv_cells->Z6,wpAny_call->Z7,typeLookup->Z8,call->Z9,binaryOp->Z_,wpAny_newObj_type->aal,wpAny_dictEntries->aam,keywordEach->aan,wpAny_standAt->aav,wpAny_holding->aaw,behindInMarks->aax,wpAny_lookBehind->aaH,wpAny_callSpecial?_slot->aaI,tupleKind->aaJ,swapsWith->aaK,pastItsLine_dict->aaL,getMethod->aaM,wpAny_pyNext_range_end->aaZ,wpAny_pyIter_rangeiter->aa0,valueAt->aa1,bootBuiltins->aa2,Within->aa3,wpAny_dictEpoch->abe,pushCells_keeps->abf,letOwnedTupleGo->abg,wpAny_setField->abz,wpAny_loadPart->abA,wpAny_field->abB,subscripted->abC,codeAny_call_builtin->abD,IsRangeIter->abG,wpAny_attempt->ab4,typeIs_str->acf,call_meets->acg,wpAny_nsSet1->acv,seqIndex_neg->acx,notedBy->acy,getItem->acz,getAttr->acA,callerA->acB,backToKw->acC,Operator->acE,noteFrame->acZ,inplaceOp->ac0,seqIndex_of->adc,atKey->ade,fromIndex->adj,BindsTo->ads
open PySem.Around renaming under->acJ
open PySem.Builtin.Dict renaming showsAll->abo
open PySem.Builtin.Dict_items renaming ownsTuple->ZM
open PySem.Builtin.List renaming listTooLong->WR,listExtendWith->ZY
open PySem.Builtin.ObjectAttr renaming storeInOwnDict->Wu,storeInDict->WN,newKeyGuard->Zs,find->aaS,storeTaker?->ac4
open PySem.Builtin.Range renaming rangeSize->WW,small->abY
open PySem.Builtin.Str renaming strSliceIndices->VG
open PySem.Calls renaming callWith_builtin->W_,spliced_cons->XZ,evalArgs_plain->Yo,spliced_nil->Y8,Name_function_global->aac
open PySem.Code renaming quiet_builtin->ack,isFrame->acH
open PySem.Data renaming seq->adP
open PySem.EntryCells renaming newEntry->abX
open PySem.F renaming plainAttrs_list->UQ,slot_list_append->U8,type_list_append->Va,slot_list_extend->VZ,slot_dict_keyiterator_next->V3,type_list_extend->Wl,slot_list_pop->XD,plainAttrs_dict->XM,type_list_pop->Yb,slot_tuple_index->YE,slot_dict_get->Zj,args_dict_keyiterator_next_1->Zr,entry_dict_keyiterator_next->ZF,slot_dict_keyiterator_iter->ZL,type_tuple_index->aay,slot_dict_values->aaz,slot_dict_update->aaA,plainAttrs_tuple->aaB,args_dict_get_3->aaR,entry_dict_get->aa5,slot_dict_pop->abn,args_list_extend_2->abH,plainAttrs_str->abV,entry_list_extend->abW
open PySem.Heap renaming get?_push_of_some->UG,lt_size->U4,get?_push_size->U5,size_push->VT,get?_update_other->W9,get?_update_self->Xm,size_after_update->XY,SameBut->Ys,get?_update_ne->abT
open PySem.Heap.Ns1 renaming of_empty->acG
open PySem.Heap.SameBut renaming update->abU
open PySem.IsRange renaming new->agq
open PySem.NameKind renaming free->YC,cell->ab9
open PySem.Obj renaming data_mapFields->XX,mapFields->YB,isFreed_of_fields->Zi,mapSeq->aab,cls_mapFields->acF
open PySem.PassesOwn renaming never->Vz
open PySem.PyData renaming int->WM,eqv->aaa,eqvAll->aev
open PySem.SeqAt renaming EqAt->adJ
open PySem.SeqAt.EqAt renaming str_int->aci,int_str->acj
open PySem.Str renaming ofString->Uy,join->abF
open PySem.StrLaws renaming sliceText->Wq,glued_eq_join->ZX
open PySem.Txt renaming join->aaQ,find3->ac1
open PySem.Value renaming ref->Vd,none->WL,type->Yn,bool->YJ,int->YR,builtin->Zx,str->abQ,isStrOf->aet
open PySem.Value.type renaming inj->adI
open PySem.W renaming Frag->UN,findIn->VS,Looks->Wd,emptyDict->Wh,fnOf->W8,instObj->Xt,looks_findIn->Xy,callWith_K->XW,keepIn->Yl,InstAt->Ym,lookIn->Y4,hasDictIn->Y5,codeIn->Y6,cellsFrom_some->Y7,binds_K->ZK,plainGet_of->ZQ,looks_clsIn->ZR,nsIn->ZW,methodObj->aao,plainGet->aaN,handedIn->aaO,isFn->aa4,takerIn->abh,methodCall_KW->abm,notCls->abE,findObj_own->abR,callWith_K0->abS,mg_of->ab6,clsIn->ab7,codeRec_of->ach,set_plain->acD,bind_fn->adk,WalkOS->adH
open PySem.W.Looks renaming ld->aaP
open PySem.Within renaming cons->ab5
open PyVasepa renaming shape->VJ,whole->Xi,bound->Yj,answers->Zp,answers_asked->aaY
open Std.Legacy.Range renaming forIn_eq_forIn_range'->aby,size->afM
open Sum renaming inl->UW,inr->WV
open Sum.inl renaming inj->ZE
open Sum.inr renaming inj->aak
open True renaming intro->Ww
open VasepBase renaming Heap->Uu,ascii->Uz,exprText->U0,cellAt->U7,valueOf->Vf,wantSign->Vk,nameAt->Vn,Toks->Vo,small->Vu,tokens->VC,isSign->VD,reserved->VH,inner->VO,digit->VQ,Fault->V1,Code->V2,putCell->Wf,isWord->Wj,TEXT->Wk,condHolds->WH,readExpr->WJ,Text->WQ,Expr->WT,withField->WU,cellsFrom->W3,faultAt->W5,doubled->W6,argText->W7,condText->Xe,writeAssertion->Xg,isOver->Xh,joined->Xp,readBlock->Xr,wantWord->Xs,without->Xx,readAssertion->XE,isNumber->XJ,writeProgram->XU,readNames->X7,Arg->X8,readVar->Yd,ADDRESSES->Ye,stepOnce->Yg,readPlains->Yh,freeAddress->Yi,readField->Yp,Config->Yq,pieceText->Yv,Piece->Yw,tokensIn->Yz,signs->YG,readPieces->YI,readProgram->YM,Store->YN,takeTree->YX,takeList->YY,indexOf->YZ,beginsPieces->Y0,Outcome->Y1,takePiece->Zn,Assertion->Zo,codeText->ZB,Cell->ZC,BLOCKS->ZD,holds->ZI,Cond->ZV,fieldText->Z3,readName->Z4,readCond->Z5,leave->aaj,readPiece->aaG,Wrong->abc,NAMES->abd,here->abl,runFor->abv,goOn->abw,readStmts->abP,storeFrom->acX,storeData->acY,argFits->ado,comma->aep
open VasepBase.Store.mk renaming injEq->aeq
open VasepBase.Tok renaming word->abx
open Vasepa renaming touchesFrom->Wa,touchOf->Wi,leftFrom->WI,addAll->W4,reachedOf->Xd,renameNumber->Xw,step->XO,renameCell->XT,onStore->X6,State->Ya,outcomeRow->YH,onAssertion->Zg,noBytes->Zv,toInts->ZA,renamed->ZU,alikeRuns->Z2,lostOf->aah,reachFrom->abN,apart->abO,Answer->ab3,wrongNumber->acb,besideOf->acd,runOf->acr,besideRow->acW,ranRow->adb,isRow->adi,Touch->afd
open VasepaNeutral renaming step->Wo
section
local macro_rules|`(tactic|show $t)=>`(tactic|refine $t)
local macro_rules|`(↑$x)=>`(($x).length)
local macro_rules|`(⋯)=>`(by lia)
local macro_rules|`(())=>`(by decide +kernel)
local macro_rules|`(($a,$b,*))=>`(⟨$a,$b,*⟩)
namespace L2
theorem Y {a : Sort u} {x : a} : x = x := rfl
end L2
namespace L2
open PySem PySem.Spec PyProof.Rows
section
variable {K:PySem.W.Frag}
abbrev bT:=Sum Int Vp
inductive V where
 |non|bl (b:Bool)|int (i:Int)|str (x:Str)|byt (b:Array UInt8)|flt (b:UInt64)|ref (a:Addr)|ty (n:String)
 deriving DecidableEq
def bQ:V->Uv->Prop
 |.non,u=>u=WL
 |.bl b,u=>u=YJ b
 |.int i,u=>∃t,u=YR i t
 |.str x,u=>∃t,u=abQ x t
 |.byt b,u=>∃t,u=Value.bytes b t
 |.flt b,u=>∃t,u=Value.float b t
 |.ref a,u=>u=Vd a
 |.ty n,u=>u=Yn n
abbrev bq:List V->List Uv->Prop:=Paired bQ
inductive HO where
 |lst (xs:List V)
 |tup (xs:List V)
 |dK (kvs:List (bT×V))|dT (kvs:List (List bT×V))
 |set (S:Int->Bool) (n:Nat)
 |ins (C dx:Addr) (fs:List (Str×V))
 |own (x:Addr)
 |xd (fs:List (Str×V))
 |met (f x:Addr)
 |rng (lo hi:Int)
 |frz (o:Obj) (u:HO)
 |tbl (ps:Array Value)
 |ext (φ:Heap->Prop)
abbrev Hp:=Uw->Option HO
def Rd(H:Hp)(a:Uw)(u:HO):Prop:=H a=Up u\/∃o,H a=Up (.frz o u)
def gK(K:UN)(H:Hp)(a:Uw)(xs:List V):Prop:=
 Rd H a (.tup xs)\/
  ∃(o:W2)(D:Array Uv)(n:Nat),K.lookup a=Up o/\o.cls=.type "tuple"/\o.data=.seq D n/\D.size<=U1/\bq xs D.toList
structure vY (K:PySem.W.Frag) (C:Addr):Prop where
 pg:PySem.W.plainGet K C Str.empty=true
 hd:PySem.W.hasDictIn K C=true
 po:PySem.W.plainOver K C=true
 sa:PySem.W.findIn K (.ref C) "__setattr__"=some (some (.builtin "object.__setattr__"))
def bA(K:UN)(C:Uw)(f:Vp):Prop:=VS K (.ref C) f=Up UH
structure dN (K:PySem.W.Frag) (C:Addr) (m:Str) (f:Addr):Prop where
 at_:PySem.W.findIn K (.ref C) m=some (some (.ref f))
 fn:PySem.W.isFn K (.ref f)=true
 kp:PySem.W.keepIn K (.ref f)=true
def gM(K:UN)(G:YD)(E:List Vp)(D:List Uv):Prop:=
 ∀(s:UE)(us:List Uv),K.In s.heap->↑(us++D)=↑E->ads s G (us,[]) (E.zip (us++D))
def gM.all{K:UN}{D:List Vp}(h:∀us:List Uv,↑us=↑D->bindArgs E (us,[])=pure (D.zip us)):gM K E D []:=λs us _ G=>by
 rw[VB]at G⊢;show .of_eq (h us G)
structure Mk (K:PySem.W.Frag) (C f:Addr):Prop where
 makes:PySem.W.makesIn K C=true
 init:PySem.W.findIn K (.ref C) "__init__"=some (some (.ref f))
 fn:PySem.W.isFn K (.ref f)=true
 kp:PySem.W.keepIn K (.ref C)=true
def aU(s:Vs)(j:Nat):Vs:=match s with
 |.ClassDef _ _ _ D _ _ _ _ _ _ _=>D.getD j (.Pass (0,0,0,0))
 |_=>.Pass (0,0,0,0)
def iS(s:Vs):Arguments:=match s with
 |.FunctionDef _ a _ _ _ _ _ _ _ _=>a
 |_=>{posonlyargs:=[],args:=[],vararg:=UH,kwonlyargs:=[],kw_defaults:=[],kwarg:=UH,defaults:=[]}
def dY(s:Vs):List Vs:=match s with
 |.FunctionDef _ _ b _ _ _ _ _ _ _=>b
 |_=>[]
def aP(s:Vs):XQ:=match s with
 |.FunctionDef _ _ _ _ _ _ D _ _ _=>D
 |_=>{kind:=.function,names:=[],isGenerator:=UF,isCoroutine:=UF}
structure ON (K:PySem.W.Frag) (x qual:Str) (st:Stmt) (f:Addr) (fd:FuncData):Prop where
 ex: ∃(oc:Value) (od:Option Addr) (kV doc pm:Value) (an:Option Addr) (cdv ct:Value) (osl:Array (Option Value)),
  fd=PySem.W.fnOf x qual (iS st) (dY st) (aP st) .none kV doc pm an cdv ct/\K.lookup f=some ⟨oc,od,.func fd,osl⟩/\PySem.W.codeIn K cdv qual=true
 kp:PySem.W.keepIn K (.ref f)=true
def ON.binds{x W:Vp}{st:Vs}{V:YD}{U:List Vp}(F:ON K x W st f V)(h:∀(kV I O:Uv)(D:Option Uw)(E G:Uv)(us:List Uv),↑us=↑U->bindArgs (W8 x W (iS st) (dY st) (aP st) .none kV I O D E G) (us,[])=pure (U.zip us)):gM K V U []:=by
 obtain⟨oc,od,kV,I,O,D,E,G,ab,rfl,lk,Z⟩:=F.ex;show .all (h kV I O D E G)
def MG{st:Vs}{V:Uv}{W G:Option Uw}{Z:Array (Option Uv)}{kV O U D I:Uv}(l:K.lookup f=Up (V,W,.func (W8 x E (iS st) (dY st) (aP st) .none kV O U G D I),Z))(c:Y6 K D E=UB)(k:Yl K (.ref f)=UB):ON K x E st f (W8 x E (iS st) (dY st) (aP st) .none kV O U G D I):=((V,W,kV,O,U,G,D,I,Z,Y,l,c),k)
abbrev TD:List Uv:=[.type "Exception",.type "BaseException",.type "object"]
structure XC (K:PySem.W.Frag) (C:Addr):Prop where
 cls: ∃nm q N bs sn sub ab col dd k0 k1 k2 k3 k5,K.lookup C=some (excClassObj nm q C N bs TD true sn sub ab col dd k0 k1 k2 k3 k5 "Exception.__new__")
 sa:PySem.W.findIn K (.ref C) "__setattr__"=some (some (.builtin "object.__setattr__"))
 ga:PySem.W.findIn K (.ref C) "__getattribute__"=some (some (.builtin "BaseException.__getattribute__"))
 gt:PySem.W.findIn K (.ref C) "__getattr__"=some none
 kp:PySem.W.keepIn K (.ref C)=true
structure bb (K:PySem.W.Frag) (x qual:Str) (st:Stmt) (f:Addr) (ps:List Str):Prop where
 ex: ∃fd,ON K x qual st f fd/\gM K fd ps []
def T9{st:Vs}{V:List Vp}{W:Uv}{Z G:Option Uw}{kV O U D I:Uv}(l:K.lookup f=Up (W,Z,.func (W8 x E (iS st) (dY st) (aP st) .none kV O U G D I),ab))(c:Y6 K D E=UB)(k:Yl K (.ref f)=UB)(h:∀(kV O U:Uv)(G:Option Uw)(D I:Uv)(us:List Uv),↑us=↑V->bindArgs (W8 x E (iS st) (dY st) (aP st) .none kV O U G D I) (us,[])=pure (V.zip us)):bb K x E st f V:=
 ⟨(_,MG l c k,(MG l c k).binds h)⟩
structure OM (K:PySem.W.Frag) (x qual:Str) (st:Stmt) (f:Addr) (ps:List Str) (dvs:List V):Prop where
 ex: ∃(oc:Value) (od:Option Addr) (dV kV doc pm:Value) (an:Option Addr) (cdv ct:Value) (osl:Array (Option Value)) (ds:List Value),
  K.lookup f=some ⟨oc,od,.func (PySem.W.fnOf x qual (iS st) (dY st) (aP st) dV kV doc pm an cdv ct),osl⟩/\PySem.W.codeIn K cdv qual=true/\bq dvs ds/\
   ∀j,j<=ds.length->gM K (PySem.W.fnOf x qual (iS st) (dY st) (aP st) dV kV doc pm an cdv ct) ps (ds.drop j)
 kp:PySem.W.keepIn K (.ref f)=true
set_option tactic.hygienic true in
def SE{K:UN}{h:Heap}{U:Vp->Option Uv}(X:K.In h)(E:h.Ns Wg U)(e:ZW K Wg n=Up UH):U n=UH:=by
 obtain⟨o,V,ep,O,G,_,I⟩:=E;unfold ZW at e;split at e
 .rename_i c d W Z sl q;have:=X _ _ q;rw[O]at this;cases this;cases G;have D:=I n;unfold nsFind findBy at D;rw[<-acq]at D;split at e
  .cases e
  .rename_i z;rw[z]at D;show D.symm
 .cases e
def fE(U:Vp->Option Uv)(x:Vp)(v:V):Prop:=∃u,U x=Up u/\bQ v u
end
end L2
namespace HX
open PySem PySem.Spec PyProof.Rows L2
@[elab_as_elim]theorem ulS {α:Type} {M:List α->Prop} {u:List α} {n:Nat} (h:u.length=n+1) (f: ∀a l,l.length=n->M (a::l)):M u:=match u,h with|a::l,h=>f a l (Nat.succ.inj h)
@[elab_as_elim]theorem ul0 {α:Type} {M:List α->Prop} {u:List α} (h:u.length=0) (f:M []):M u:=match u,h with|[],_=>f
@[elab_as_elim]theorem ul1 {α:Type} {M:List α->Prop} {u:List α} (h:u.length=1) (f: ∀a0,M [a0]):M u:=ulS (M:=M) h fun a l h=>ul0 (M:=fun l=>M (a::l)) h (f a)
@[elab_as_elim]theorem ul2 {α:Type} {M:List α->Prop} {u:List α} (h:u.length=2) (f: ∀a0 a1,M [a0,a1]):M u:=ulS (M:=M) h fun a l h=>ul1 (M:=fun l=>M (a::l)) h (f a)
@[elab_as_elim]theorem ul3 {α:Type} {M:List α->Prop} {u:List α} (h:u.length=3) (f: ∀a0 a1 a2,M [a0,a1,a2]):M u:=ulS (M:=M) h fun a l h=>ul2 (M:=fun l=>M (a::l)) h (f a)
@[elab_as_elim]theorem ul4 {α:Type} {M:List α->Prop} {u:List α} (h:u.length=4) (f: ∀a0 a1 a2 a3,M [a0,a1,a2,a3]):M u:=ulS (M:=M) h fun a l h=>ul3 (M:=fun l=>M (a::l)) h (f a)
@[elab_as_elim]theorem ul5 {α:Type} {M:List α->Prop} {u:List α} (h:u.length=5) (f: ∀a0 a1 a2 a3 a4,M [a0,a1,a2,a3,a4]):M u:=ulS (M:=M) h fun a l h=>ul4 (M:=fun l=>M (a::l)) h (f a)
@[elab_as_elim]theorem ul6 {α:Type} {M:List α->Prop} {u:List α} (h:u.length=6) (f: ∀a0 a1 a2 a3 a4 a5,M [a0,a1,a2,a3,a4,a5]):M u:=ulS (M:=M) h fun a l h=>ul5 (M:=fun l=>M (a::l)) h (f a)
@[elab_as_elim]theorem ul7 {α:Type} {M:List α->Prop} {u:List α} (h:u.length=7) (f: ∀a0 a1 a2 a3 a4 a5 a6,M [a0,a1,a2,a3,a4,a5,a6]):M u:=ulS (M:=M) h fun a l h=>ul6 (M:=fun l=>M (a::l)) h (f a)
def top(i:Nat):Vs:=PySem.Challenge.pw_heappieces_s01_answers.main.body.getD i (.Pass (0,0,0,0))
abbrev Ei:Vs:=top 21
abbrev lp:Vs:=top 22
abbrev NJ:Vs:=top 23
abbrev uM:Vs:=top 24
abbrev mF:Vs:=top 25
abbrev nF:Vs:=top 26
abbrev nE:Vs:=top 27
abbrev nD:Vs:=top 28
abbrev yL:Vs:=top 48
abbrev wC:Vs:=top 49
abbrev wF:Vs:=top 50
abbrev yO:Vs:=top 51
abbrev BG:Vs:=top 52
abbrev GY:Vs:=top 53
abbrev wE:Vs:=top 54
abbrev uL:Vs:=top 55
abbrev JN:Vs:=top 59
abbrev sD:Vs:=top 64
abbrev qZ:Vs:=top 65
abbrev yM:Vs:=top 66
abbrev BH:Vs:=top 67
abbrev Em:Vs:=top 68
abbrev BD:Vs:=top 69
abbrev gO:Vs:=top 70
abbrev BJ:Vs:=top 71
abbrev uK:Vs:=top 76
abbrev uI:Vs:=top 77
abbrev BC:Vs:=top 78
abbrev pK:Vs:=top 79
abbrev BE:Vs:=top 80
abbrev BM:Vs:=top 81
abbrev nG:Vs:=top 82
abbrev nA:Vs:=top 83
abbrev yQ:Vs:=top 84
abbrev kE:Vs:=top 85
abbrev LA:Vs:=top 96
abbrev Ej:Vs:=top 98
abbrev LC:Vs:=top 99
abbrev BL:Vs:=top 100
abbrev yP:Vs:=top 101
abbrev sC:Vs:=top 102
abbrev mE:Vs:=top 103
abbrev yK:Vs:=top 104
abbrev wD:Vs:=top 108
abbrev BI:Vs:=top 109
abbrev Ek:Vs:=top 110
abbrev El:Vs:=top 111
abbrev yN:Vs:=top 112
abbrev uH:Vs:=top 113
abbrev BK:Vs:=top 114
abbrev yR:Vs:=top 115
abbrev pi:Vs:=top 116
abbrev uJ:Vs:=top 117
abbrev nB:Vs:=top 118
abbrev En:Vs:=top 119
abbrev nz:Vs:=top 146
abbrev sB:Vs:=top 147
abbrev BF:Vs:=top 148
abbrev Eo:Vs:=top 149
abbrev sE:Vs:=top 150
abbrev gg:Vs:=aU (top 11) 0
abbrev wH:Vs:=aU (top 12) 0
abbrev BQ:Vs:=aU (top 18) 0
abbrev sH:Vs:=aU (top 19) 0
abbrev yS:Vs:=aU (top 20) 0
abbrev Ep:Vs:=aU (top 20) 1
abbrev sF:Vs:=aU (top 37) 0
abbrev BN:Vs:=aU (top 47) 0
abbrev yX:Vs:=aU (top 58) 0
abbrev yY:Vs:=aU (top 58) 1
abbrev yW:Vs:=aU (top 58) 2
abbrev yV:Vs:=aU (top 58) 3
abbrev qg:Vs:=aU (top 58) 4
abbrev lr:Vs:=aU (top 58) 5
abbrev jO:Vs:=aU (top 58) 6
abbrev pj:Vs:=aU (top 58) 7
abbrev kG:Vs:=aU (top 58) 8
abbrev qf:Vs:=aU (top 58) 9
abbrev qh:Vs:=aU (top 58) 10
abbrev re:Vs:=aU (top 58) 11
abbrev BO:Vs:=aU (top 75) 0
abbrev yT:Vs:=aU (top 75) 1
abbrev yU:Vs:=aU (top 75) 2
abbrev G_:Vs:=aU (top 95) 0
abbrev LD:Vs:=aU (top 95) 1
abbrev JO:Vs:=aU (top 95) 2
abbrev GZ:Vs:=aU (top 95) 3
abbrev mY:Vs:=aU (top 95) 4
abbrev JP:Vs:=aU (top 95) 5
abbrev BP:Vs:=aU (top 95) 6
abbrev sG:Vs:=aU (top 95) 7
abbrev q_:Vs:=aU (top 95) 8
abbrev uN:Vs:=aU (top 95) 9
abbrev wG:Vs:=aU (top 95) 10
abbrev Er:Vs:=aU (top 95) 11
abbrev ii:Vs:=aU (top 143) 0
abbrev BV:Vs:=aU (top 144) 0
abbrev BS:Vs:=aU (top 144) 1
abbrev uO:Vs:=aU (top 144) 2
abbrev wI:Vs:=aU (top 144) 3
abbrev Es:Vs:=aU (top 144) 4
abbrev y6:Vs:=aU (top 144) 5
abbrev uP:Vs:=aU (top 144) 6
abbrev BR:Vs:=aU (top 144) 7
abbrev Ha:Vs:=aU (top 144) 8
abbrev wJ:Vs:=aU (top 144) 9
abbrev uQ:Vs:=aU (top 144) 10
abbrev yZ:Vs:=aU (top 144) 11
abbrev BW:Vs:=aU (top 144) 12
abbrev BU:Vs:=aU (top 144) 13
abbrev wL:Vs:=aU (top 145) 0
abbrev rg:Vs:=aU (top 145) 1
abbrev wK:Vs:=aU (top 145) 2
abbrev pk:Vs:=aU (top 145) 3
set_option genInjectivity false in
structure Ad where
 ou:Addr
 eW:Addr
 C3:Addr
 iC:Addr
 iy:Addr
 fB:Addr
 fA:Addr
 fz:Addr
 jX:Addr
 qB:Addr
 qC:Addr
 j0:Addr
 lW:Addr
 qA:Addr
 jh:Addr
 iB:Addr
 tI:Addr
 gY:Addr
 gE:Addr
 jY:Addr
 lX:Addr
 oA:Addr
 lT:Addr
 g_:Addr
 lZ:Addr
 iA:Addr
 iw:Addr
 lS:Addr
 j5:Addr
 lU:Addr
 l_:Addr
 ji:Addr
 je:Addr
 j4:Addr
 gZ:Addr
 xO:Addr
 ow:Addr
 xP:Addr
 l9:Addr
 j3:Addr
 gX:Addr
 ir:Addr
 jW:Addr
 jf:Addr
 lY:Addr
 oy:Addr
 oz:Addr
 jZ:Addr
 iu:Addr
 l8:Addr
 j6:Addr
 fN:Addr
 iz:Addr
 jg:Addr
 oB:Addr
 jd:Addr
 gW:Addr
 lV:Addr
 oC:Addr
 o_:Addr
 dB:Addr
 jk:Addr
 mf:Addr
 hU:Addr
 j7:Addr
 oE:Addr
 hG:Addr
 ma:Addr
 kf:Addr
 ic:Addr
 ib:Addr
 j_:Addr
 gb:Addr
 dw:Addr
 cT:Addr
 eD:Addr
 eN:Addr
 f_:Addr
 gd:Addr
 gG:Addr
 md:Addr
 j8:Addr
 j9:Addr
 qE:Addr
 xQ:Addr
 tJ:Addr
 qD:Addr
 fg:Addr
 tK:Addr
 me:Addr
 hJ:Addr
 gF:Addr
 iD:Addr
 jj:Addr
 oF:Addr
 df:Addr
 mn:Addr
 mj:Addr
 iE:Addr
 jm:Addr
 oG:Addr
 kh:Addr
 iF:Addr
 mi:Addr
 qF:Addr
 jn:Addr
 iG:Addr
 kg:Addr
 mo:Addr
 mm:Addr
 jp:Addr
 gH:Addr
 jo:Addr
 fO:Addr
 aI:Addr
 bN:Addr
 eY:Addr
 dD:Addr
 di:Addr
 dC:Addr
 cF:Addr
 aQ:Addr
 cV:Addr
 cy:Addr
 aR:Addr
 bo:Addr
 bW:Addr
 nt:Addr
 qU:Addr
 pH:Addr
 wo:Addr
 deriving Inhabited
def KZ{K:UN}{oc kV ap pm E O:Uv}{V Z ab:Tok}{dn:Nat}(l:K.lookup f=Up (oc,od,.func (W8 "__init__" "Line.__init__" (iS gg) (dY gg) (aP gg) (.ref G) kV ap pm I E O),ar))(c:Y6 K E "Line.__init__"=UB)(p:Yl K (.ref f)=UB)(dl:K.lookup G=Up {cls:=.type "tuple",data:=.seq #[.str "" V,.str "" Z,.str "" ab] dn}):OM K "__init__" "Line.__init__" gg f ["self","kind","first","detail","second"] [(.str ""),(.str ""),(.str "")]:=
 ((oc,od,.ref G,kV,ap,pm,I,E,O,ar,[.str "" V,.str "" Z,.str "" ab],l,c,(.cons (_,Y) (.cons (_,Y) (.cons (_,Y) .nil))),λj hj s us X D=>by
  let av:j<=3:=hj
  match j,av with
  |0,_=>show ul2 (u:=us) (by simp at D;lia) λ_ _=>ZK X rfl dl rfl rfl rfl
  |1,_=>show ul3 (u:=us) (by simp at D;lia) λ_ _ _=>ZK X rfl dl rfl rfl rfl
  |2,_=>show ul4 (u:=us) (by simp at D;lia) λ_ _ _ _=>ZK X rfl dl rfl rfl rfl
  |3,_=>show ul5 (u:=us) (by simp at D;lia) λ_ _ _ _ _=>ZK X rfl dl rfl rfl rfl
  ),p)
structure TX (K:PySem.W.Frag) (mg:Str->Option Value) (a:Ad):Prop where
 uA:mg "taking_of"=some (.ref a.ou)
 gD:mg "conditions_that_hold"=some (.ref a.eW)
 OA:mg "is_of"=some (.ref a.C3)
 vh:mg "cells_without"=some (.ref a.iC)
 vf:mg "field_numbers"=some (.ref a.iy)
 oq:mg "cells_without_cell"=some (.ref a.fB)
 oo:mg "cells_without_list"=some (.ref a.fA)
 om:mg "cells_without_tree"=some (.ref a.fz)
 pQ:mg "read_tokens"=some (.ref a.jX)
 HK:mg "signs_of"=some (.ref a.qB)
 xM:mg "bytes_of"=some (.ref a.qC)
 pR:mg "past_blanks"=some (.ref a.j0)
 CV:mg "remark_end"=some (.ref a.lW)
 HJ:mg "token_at"=some (.ref a.qA)
 ol:mg "past_members"=some (.ref a.jh)
 mP:mg "checked_token"=some (.ref a.iB)
 Kt:mg "is_name"=some (.ref a.tI)
 tF:mg "read_assertion"=some (.ref a.gY)
 rT:mg "read_conditions"=some (.ref a.gE)
 zF:mg "read_pieces"=some (.ref a.jY)
 rS:mg "read_piece"=some (.ref a.lX)
 Fz:mg "read_cell"=some (.ref a.oA)
 rQ:mg "want_field"=some (.ref a.lT)
 tH:mg "assertion_form"=some (.ref a.g_)
 CY:mg "piece_form"=some (.ref a.lZ)
 mO:mg "copy_of_store"=some (.ref a.iA)
 ve:mg "is_same_store"=some (.ref a.iw)
 rP:mg "with_cells"=some (.ref a.lS)
 pU:mg "has_some_of"=some (.ref a.j5)
 CU:mg "store_told"=some (.ref a.lU)
 rV:mg "cells_told"=some (.ref a.l_)
 ot:mg "all_in_range"=some (.ref a.ji)
 xJ:mg "store_answer"=some (.ref a.je)
 pT:mg "heap_answer"=some (.ref a.j4)
 tG:mg "lost_addresses"=some (.ref a.gZ)
 jc:mg "run_of"=some (.ref a.xO)
 Fw:mg "run_keeps"=some (.ref a.ow)
 MF:mg "is_row"=some (.ref a.xP)
 C0:mg "goes_alike"=some (.ref a.l9)
 pS:mg "is_such_run"=some (.ref a.j3)
 fF:mg "renamed_number"=some (.ref a.gX)
 mM:mg "renamed_store"=some (.ref a.ir)
 zE:mg "renamed_end"=some (.ref a.jW)
 xK:mg "read_program"=some (.ref a.jf)
 CW:mg "read_names"=some (.ref a.lY)
 Fx:mg "read_line"=some (.ref a.oy)
 Fy:mg "read_free"=some (.ref a.oz)
 zG:mg "read_change"=some (.ref a.jZ)
 vd:mg "read_assigned"=some (.ref a.iu)
 CZ:mg "open_block"=some (.ref a.l8)
 zH:mg "close_block"=some (.ref a.j6)
 pz:mg "open_second_block"=some (.ref a.fN)
 vg:mg "end_statement"=some (.ref a.iz)
 xL:mg "program_form"=some (.ref a.jg)
 FA:mg "line_form"=some (.ref a.oB)
 oj:mg "text_refusal"=some (.ref a.jd)
 gV:mg "told_assertion"=some (.ref a.gW)
 rR:mg "run_answer"=some (.ref a.lV)
 FC:mg "answer_of"=some (.ref a.oC)
 Q6:mg "answers"=some (.ref a.o_)
 jG:mg "Line"=some (.ref a.aI)
 xI:mg "Program"=some (.ref a.bN)
 Fv:mg "Piece"=some (.ref a.eY)
 CT:mg "Assertion"=some (.ref a.dD)
 Ks:mg "Taking"=some (.ref a.di)
 dX:mg "TextFault"=some (.ref a.dC)
 kW:mg "Token"=some (.ref a.cF)
 AF:mg "Reader"=some (.ref a.aQ)
 xH:mg "Store"=some (.ref a.cV)
 QM:mg "Run"=some (.ref a.cy)
 gU:mg "ToldAssertion"=some (.ref a.aR)
 ME:mg "Heaps"=some (.ref a.bo)
 HI:mg "CallRow"=some (.ref a.bW)
 EZ:dN K a.di "go" a.oE
 bE:dN K a.dC "__init__" a.hG
 d_:dN K a.aQ "here" a.ic
 cw:dN K a.aQ "sees" a.ib
 aG:dN K a.aQ "want" a.j_
 i8:dN K a.aQ "want_name" a.gb
 lK:dN K a.aQ "want_new_name" a.dw
 d9:dN K a.aQ "want_known_name" a.cT
 bX:dN K a.aQ "want_value" a.eD
 gk:dN K a.aQ "want_condition" a.eN
 eU:dN K a.aQ "want_room" a.f_
 i9:dN K a.aQ "is_at_end" a.gd
 rH:dN K a.aQ "want_end" a.gG
 cC:dN K a.cV "value" a.j8
 pO:dN K a.cV "is_so" a.j9
 Me:dN K a.cy "go" a.xQ
 o6:dN K a.cy "end" a.tJ
 Hs:dN K a.cy "step" a.qD
 m_:dN K a.cy "pass_block_ends" a.fg
 Kd:dN K a.cy "ask" a.tK
 Cp:dN K a.cy "change" a.me
 s_:dN K a.cy "read_field" a.hJ
 rG:dN K a.cy "write_field" a.gF
 u5:dN K a.cy "free_cell" a.iD
 xl:dN K a.cy "put_cell" a.jj
 n6:dN K a.cy "touch" a.oF
 Cr:dN K a.bo "load" a.mj
 u6:dN K a.bo "written" a.iE
 xm:dN K a.bo "put_in" a.jm
 E2:dN K a.bo "run" a.oG
 pP:dN K a.bo "after" a.kh
 u7:dN K a.bo "touches" a.iF
 Cq:dN K a.bo "lost" a.mi
 Ht:dN K a.bo "on" a.qF
 xn:dN K a.bo "beside" a.jn
 u9:dN K a.bo "renamed" a.iG
 zu:dN K a.bo "holds" a.kg
 Ct:dN K a.bo "form" a.mo
 Cs:dN K a.bo "left" a.mm
 rJ:dN K a.bW "is_done" a.gH
 i_:dN K a.bW "take" a.jo
 ci:dN K a.bW "take_list" a.fO
 jA:Mk K a.aI a.dB
 xh:Mk K a.bN a.jk
 EU:Mk K a.eY a.mf
 Co:Mk K a.dD a.hU
 Kb:Mk K a.di a.j7
 kR:Mk K a.cF a.ma
 Av:Mk K a.aQ a.kf
 xg:Mk K a.cV a.md
 Qx:Mk K a.cy a.qE
 gS:Mk K a.aR a.df
 Md:Mk K a.bo a.mn
 Hq:Mk K a.bW a.jp
 ax:vY K a.aI
 al:bA K a.aI "kind"
 bO:bA K a.aI "first"
 c_:bA K a.aI "detail"
 cv:bA K a.aI "second"
 dJ:bA K a.aI "target"
 cM:vY K a.bN
 bV:bA K a.bN "names"
 gR:bA K a.bN "lines"
 dh:vY K a.eY
 cR:bA K a.eY "kind"
 dA:bA K a.eY "told"
 dZ:vY K a.dD
 dm:bA K a.dD "conditions"
 eB:bA K a.dD "pieces"
 cz:vY K a.di
 mK:bA K a.di "store"
 gQ:bA K a.di "pieces"
 dP:bA K a.di "taken"
 e_:bA K a.di "cells"
 bY:XC K a.dC
 gB:bA K a.dC "kind"
 f8:bA K a.dC "place"
 bZ:vY K a.cF
 cu:bA K a.cF "text"
 dI:bA K a.cF "place"
 eI:bA K a.cF "fault"
 ao:vY K a.aQ
 kQ:bA K a.aQ "tokens"
 dQ:bA K a.aQ "names"
 iP:bA K a.aQ "at"
 aY:vY K a.cV
 bD:bA K a.cV "numbers"
 a_:bA K a.cV "cells"
 aH:vY K a.cy
 dU:bA K a.cy "lines"
 bc:bA K a.cy "store"
 eJ:bA K a.cy "at"
 eS:bA K a.cy "steps"
 fq:bA K a.cy "touched"
 eR:bA K a.cy "wrong"
 ba:vY K a.aR
 bL:bA K a.aR "assertion"
 a7:bA K a.aR "refusal"
 aK:vY K a.bo
 bi:bA K a.bo "program"
 aT:bA K a.bo "store"
 bC:vY K a.bW
 eT:bA K a.bW "numbers"
 d8:bA K a.bW "at"
 wb:fE mg "ASSIGN" (.str "assign")
 Ge:fE mg "READ" (.str "read")
 Bf:fE mg "WRITE" (.str "write")
 K_:fE mg "NEW" (.str "new")
 La:fE mg "FREE" (.str "free")
 Nf:fE mg "IF" (.str "if")
 vA:fE mg "WHILE" (.str "while")
 sy:fE mg "ELSE" (.str "else")
 Ip:fE mg "END" (.str "end")
 qb:fE mg "CELL" (.str "cell")
 Bl:fE mg "LIST" (.str "list")
 K8:fE mg "TREE" (.str "tree")
 Lc:fE mg "ANY" (.str "any")
 Gf:fE mg "NO_TOKEN" (.int 1)
 yC:fE mg "NOT_AS_TOLD" (.int 2)
 gu:fE mg "CANNOT_STAND" (.int 3)
 qT:fE mg "ENDS_EARLY" (.int 4)
 Gc:fE mg "TOO_MANY" (.int 5)
 yD:fE mg "NAMED_TWICE" (.int 6)
 DQ:fE mg "NOT_NAMED" (.int 7)
 mB:fE mg "SMALL_LETTERS" (.str "abcdefghijklmnopqrstuvwxyz")
 DS:fE mg "DIGITS" (.str "0123456789")
 Bg:fE mg "WORD_SIGNS" (.str "abcdefghijklmnopqrstuvwxyz0123456789_")
 v9:fE mg "LONGEST_WORD" (.int 12)
 Nc:fE mg "KNOWN" (.str " \nabcdefghijklmnopqrstuvwxyz0123456789_()*,.:;=!->{}#")
 Jk:fE mg "UNKNOWN" (.str "?")
 Iq:fE mg "EMP" (.str "emp")
 qR:fE mg "MOST_CONDITIONS" (.int 6)
 yE:fE mg "MOST_PIECES" (.int 6)
 fh:fE mg "HIGHEST_ADDRESS" (.int 12)
 sw:fE mg "HIGHEST_NUMBER" (.int 99)
 dR:fE mg "MOST_STEPS" (.int 300)
 Pp:fE mg "OVER" (.int 0)
 qS:fE mg "GONE_WRONG" (.int 1)
 Jn:fE mg "CUT_OFF" (.int 2)
 Bh:fE mg "TOUCH_READ" (.int 0)
 yA:fE mg "TOUCH_WRITE" (.int 1)
 Bi:fE mg "TOUCH_FREE" (.int 2)
 t8:fE mg "TOUCH_NEW" (.int 3)
 Bj:fE mg "MOST_NAMES" (.int 6)
 uF:fE mg "DEEPEST_LEVEL" (.int 6)
 Pr:fE mg "LOAD" (.int 0)
 Jj:fE mg "WRITTEN" (.int 1)
 Nd:fE mg "INPUT" (.int 2)
 Rc:fE mg "RUN" (.int 3)
 Nh:fE mg "AFTER" (.int 4)
 Jl:fE mg "TOUCHES" (.int 5)
 Pq:fE mg "LOST" (.int 6)
 SS:fE mg "ON" (.int 7)
 Lb:fE mg "BESIDE" (.int 8)
 Jm:fE mg "RENAMED" (.int 9)
 Ng:fE mg "HOLDS" (.int 10)
 Pt:fE mg "FORM" (.int 11)
 Ps:fE mg "LEFT" (.int 12)
 DR:fE mg "NOT_BYTES" (.int (-1))
 Gd:fE mg "TOO_LONG" (.int (-2))
 jw:fE mg "NOT_OF_ITS_FORM" (.int (-4))
 uE:fE mg "THERE_ALREADY" (.int (-5))
 fj:fE mg "NO_STORE" (.int (-6))
 ph:fE mg "NOT_SO_MANY_STEPS" (.int (-7))
 K9:fE mg "NO_ROW" (.int (-12))
 v_:fE mg "LONGEST_TEXT" (.int 4096)
 ni:fE mg "FIELDS" (.ref a.nt)
 Ai: ∃o,K.lookup a.nt=some o/\o.cls=.type "tuple"/\o.dict=none
 oV: ∀H:Hp,gK K H a.nt [V.str "next",V.str "data"]
 Bk:fE mg "LONG_SIGNS" (.ref a.qU)
 yG: ∀H:Hp,gK K H a.qU [V.str "==",V.str "!=",V.str "->"]
 yB:fE mg "SHORT_SIGNS" (.ref a.pH)
 wj: ∀H:Hp,gK K H a.pH [V.str "(",V.str ")",V.str "*",V.str ",",V.str ".",V.str ":",V.str ";",V.str "=",V.str "{",V.str "}"]
 Gg:fE mg "NO_NAMES" (.ref a.wo)
 DV: ∀H:Hp,gK K H a.wo [V.str "vars",V.str "new",V.str "free",V.str "if",V.str "else",V.str "while",V.str "next",V.str "data",V.str "emp",V.str "cell",V.str "list",V.str "tree",V.str "any",V.str "and"]
 O0:mg "all"=none
 RJ:mg "any"=none
 xf:mg "dict"=none
 cO:mg "len"=none
 Ck:mg "list"=none
 OZ:mg "ord"=none
 vM:mg "range"=none
 xc:mg "sorted"=none
 Cj:mg "tuple"=none
 FR:bb K "taking_of" "taking_of" Ei a.ou ["assertion","store"]
 mw:bb K "conditions_that_hold" "conditions_that_hold" lp a.eW ["assertion","store"]
 OF:bb K "is_of" "is_of" NJ a.C3 ["store","assertion"]
 vq:bb K "cells_without" "cells_without" uM a.iC ["piece","store","cells"]
 vm:bb K "field_numbers" "field_numbers" mF a.iy ["piece","store"]
 oQ:bb K "cells_without_cell" "cells_without_cell" nF a.fB ["cells","number","wanted"]
 oP:bb K "cells_without_list" "cells_without_list" nE a.fA ["cells","number","last"]
 oO:bb K "cells_without_tree" "cells_without_tree" nD a.fz ["cells","number"]
 zL:bb K "read_tokens" "read_tokens" yL a.jX ["text"]
 Ic:bb K "signs_of" "signs_of" wC a.qB ["text"]
 Ie:bb K "bytes_of" "bytes_of" wF a.qC ["signs"]
 zO:bb K "past_blanks" "past_blanks" yO a.j0 ["signs","at"]
 Dj:bb K "remark_end" "remark_end" BG a.lW ["signs","at"]
 Ib:bb K "token_at" "token_at" GY a.qA ["signs","at"]
 yg:bb K "past_members" "past_members" wE a.jh ["signs","at","members"]
 vp:bb K "checked_token" "checked_token" uL a.iB ["text","place","as_told"]
 KN:bb K "is_name" "is_name" JN a.tI ["text"]
 tS:bb K "read_assertion" "read_assertion" sD a.gY ["text","names"]
 r_:bb K "read_conditions" "read_conditions" qZ a.gE ["reader"]
 zM:bb K "read_pieces" "read_pieces" yM a.jY ["reader"]
 Dk:bb K "read_piece" "read_piece" BH a.lX ["reader"]
 FV:bb K "read_cell" "read_cell" Em a.oA ["reader"]
 Dg:bb K "want_field" "want_field" BD a.lT ["reader"]
 tU:bb K "assertion_form" "assertion_form" gO a.g_ ["assertion"]
 Dm:bb K "piece_form" "piece_form" BJ a.lZ ["piece"]
 vo:bb K "copy_of_store" "copy_of_store" uK a.iA ["store"]
 vk:bb K "is_same_store" "is_same_store" uI a.iw ["store","other"]
 Df:bb K "with_cells" "with_cells" BC a.lS ["store","cells"]
 zR:bb K "has_some_of" "has_some_of" pK a.j5 ["store","addresses"]
 Dh:bb K "store_told" "store_told" BE a.lU ["told","names"]
 Dq:bb K "cells_told" "cells_told" BM a.l_ ["told"]
 yh:bb K "all_in_range" "all_in_range" nG a.ji ["numbers"]
 yd:bb K "store_answer" "store_answer" nA a.je ["store","names"]
 zQ:bb K "heap_answer" "heap_answer" yQ a.j4 ["cells"]
 tT:bb K "lost_addresses" "lost_addresses" kE a.gZ ["store"]
 MT:bb K "run_of" "run_of" LA a.xO ["program","store","most"]
 FS:bb K "run_keeps" "run_keeps" Ej a.ow ["program","store","cells"]
 MU:bb K "is_row" "is_row" LC a.xP ["row"]
 Do:bb K "goes_alike" "goes_alike" BL a.l9 ["program","store","row"]
 zP:bb K "is_such_run" "is_such_run" yP a.j3 ["run","end","steps","store"]
 tR:bb K "renamed_number" "renamed_number" sC a.gX ["number","row"]
 vi:bb K "renamed_store" "renamed_store" mE a.ir ["store","row"]
 zK:bb K "renamed_end" "renamed_end" yK a.jW ["end","row"]
 ye:bb K "read_program" "read_program" wD a.jf ["text"]
 Dl:bb K "read_names" "read_names" BI a.lY ["reader"]
 FT:bb K "read_line" "read_line" Ek a.oy ["reader","lines","opened"]
 FU:bb K "read_free" "read_free" El a.oz ["reader"]
 zN:bb K "read_change" "read_change" yN a.jZ ["reader"]
 vj:bb K "read_assigned" "read_assigned" uH a.iu ["reader","name"]
 Dn:bb K "open_block" "open_block" BK a.l8 ["reader","lines","opened"]
 zS:bb K "close_block" "close_block" yR a.j6 ["reader","lines","opened"]
 pA:bb K "open_second_block" "open_second_block" pi a.fN ["reader","lines","opened","start"]
 vn:bb K "end_statement" "end_statement" uJ a.iz ["lines","start"]
 yf:bb K "program_form" "program_form" nB a.jg ["program"]
 FW:bb K "line_form" "line_form" En a.oB ["line"]
 yc:bb K "text_refusal" "text_refusal" nz a.jd ["text"]
 tQ:bb K "told_assertion" "told_assertion" sB a.gW ["text","names"]
 Di:bb K "run_answer" "run_answer" BF a.lV ["run","names"]
 FX:bb K "answer_of" "answer_of" Eo a.oC ["heaps","row"]
 Q7:bb K "answers" "answers" sE a.o_ ["calls"]
 F0:OM K "__init__" "Line.__init__" gg a.dB ["self","kind","first","detail","second"] [(.str ""),(.str ""),(.str "")]
 yj:bb K "__init__" "Program.__init__" wH a.jk ["self","names","lines"]
 Du:bb K "__init__" "Piece.__init__" BQ a.mf ["self","kind","told"]
 tX:bb K "__init__" "Assertion.__init__" sH a.hU ["self","conditions","pieces"]
 zT:bb K "__init__" "Taking.__init__" yS a.j7 ["self","store","pieces"]
 FY:bb K "go" "Taking.go" Ep a.oE ["self"]
 tV:bb K "__init__" "TextFault.__init__" sF a.hG ["self","kind","place"]
 Dr:bb K "__init__" "Token.__init__" BN a.ma ["self","text","place","fault"]
 zY:bb K "__init__" "Reader.__init__" yX a.kf ["self","tokens","names"]
 zZ:bb K "here" "Reader.here" yY a.ic ["self"]
 zX:bb K "sees" "Reader.sees" yW a.ib ["self","text"]
 zW:bb K "want" "Reader.want" yV a.j_ ["self","choices"]
 qJ:bb K "want_name" "Reader.want_name" qg a.gb ["self"]
 mx:bb K "want_new_name" "Reader.want_new_name" lr a.dw ["self"]
 km:bb K "want_known_name" "Reader.want_known_name" jO a.cT ["self"]
 pB:bb K "want_value" "Reader.want_value" pj a.eD ["self"]
 k8:bb K "want_condition" "Reader.want_condition" kG a.eN ["self"]
 qI:bb K "want_room" "Reader.want_room" qf a.f_ ["self","taken","most"]
 qK:bb K "is_at_end" "Reader.is_at_end" qh a.gd ["self"]
 sg:bb K "want_end" "Reader.want_end" re a.gG ["self"]
 Ds:bb K "__init__" "Store.__init__" BO a.md ["self","numbers","cells"]
 zU:bb K "value" "Store.value" yT a.j8 ["self","told"]
 zV:bb K "is_so" "Store.is_so" yU a.j9 ["self","first","sign","second"]
 Ih:bb K "__init__" "Run.__init__" G_ a.qE ["self","program","store"]
 MV:bb K "go" "Run.go" LD a.xQ ["self","most"]
 KO:bb K "end" "Run.end" JO a.tJ ["self"]
 Ig:bb K "step" "Run.step" GZ a.qD ["self"]
 nc:bb K "pass_block_ends" "Run.pass_block_ends" mY a.fg ["self"]
 KP:bb K "ask" "Run.ask" JP a.tK ["self","line"]
 Dt:bb K "change" "Run.change" BP a.me ["self","line"]
 tW:bb K "read_field" "Run.read_field" sG a.hJ ["self","line"]
 sf:bb K "write_field" "Run.write_field" q_ a.gF ["self","line"]
 vr:bb K "free_cell" "Run.free_cell" uN a.iD ["self","line"]
 yi:bb K "put_cell" "Run.put_cell" wG a.jj ["self","line"]
 FZ:bb K "touch" "Run.touch" Er a.oF ["self","how","address"]
 ik:bb K "__init__" "ToldAssertion.__init__" ii a.df ["self","assertion","refusal"]
 Dz:bb K "__init__" "Heaps.__init__" BV a.mn ["self"]
 Dx:bb K "load" "Heaps.load" BS a.mj ["self","text"]
 vt:bb K "written" "Heaps.written" uO a.iE ["self"]
 yk:bb K "put_in" "Heaps.put_in" wI a.jm ["self","numbers"]
 F1:bb K "run" "Heaps.run" Es a.oG ["self"]
 z5:bb K "after" "Heaps.after" y6 a.kh ["self","most"]
 vx:bb K "touches" "Heaps.touches" uP a.iF ["self"]
 Dv:bb K "lost" "Heaps.lost" BR a.mi ["self"]
 Ii:bb K "on" "Heaps.on" Ha a.qF ["self"]
 yl:bb K "beside" "Heaps.beside" wJ a.jn ["self","told"]
 vy:bb K "renamed" "Heaps.renamed" uQ a.iG ["self","row"]
 z4:bb K "holds" "Heaps.holds" yZ a.kg ["self","text"]
 DA:bb K "form" "Heaps.form" BW a.mo ["self","text"]
 Dy:bb K "left" "Heaps.left" BU a.mm ["self","text"]
 yo:bb K "__init__" "CallRow.__init__" wL a.jp ["self","numbers"]
 sh:bb K "is_done" "CallRow.is_done" rg a.gH ["self"]
 ym:bb K "take" "CallRow.take" wK a.jo ["self"]
 pC:bb K "take_list" "CallRow.take_list" pk a.fO ["self"]
def Ui{K:UN}{h:Heap}{U:Vp->Option Uv}(X:K.In h)(D:h.Ns Wg U)(e:ZW K Wg n=Up (Up (.int i t))):fE U n (.int i):=(_,ab6 X D e,_,Y)
def Ug{K:UN}{h:Heap}{U:Vp->Option Uv}(X:K.In h)(D:h.Ns Wg U)(e:ZW K Wg n=Up (Up (.str x t))):fE U n (.str x):=(_,ab6 X D e,_,Y)
def Uh{K:UN}{h:Heap}{U:Vp->Option Uv}(X:K.In h)(D:h.Ns Wg U)(e:ZW K Wg n=Up (Up (.ref f))):fE U n (.ref f):=(_,ab6 X D e,Y)
def Uf{K:UN}(l:K.lookup t=Up (.type "tuple",UH,d,ts)):∃o,K.lookup t=Up o/\o.cls=.type "tuple"/\o.dict=UH:=(_,l,Y,Y)
def Ue{K:UN}{D:Array Uv}(l:K.lookup t=Up (.type "tuple",UH,.seq D n,ts))(E:D.size<=U1)(r:bq vs D.toList):∀H:Hp,gK K H t vs:=λ_=>.inr (_,_,_,l,Y,Y,E,r)
def Ud{K:UN}{bs sub:List Uv}(l:K.lookup C=Up (YQ nm q C N bs TD UB sn sub ab col dd k0 k1 k2 k3 k5 "Exception.__new__"))(I:VS K (.ref C) "__setattr__"=Up (Up (.builtin "object.__setattr__")))(D:VS K (.ref C) "__getattribute__"=Up (Up (.builtin "BaseException.__getattribute__")))(E:VS K (.ref C) "__getattr__"=Up UH)(G:Yl K (.ref C)=UB):XC K C:=
 ((_,_,_,_,_,_,_,_,_,_,_,_,_,_,l),I,D,E,G)
end HX
end
section
set_option tactic.hygienic true
open Lean in
local macro_rules|`(#where)=>withRef .missing do
 let f (n:Name):=`(theorem $(mkIdent (`PySem.W.Fast++.mkSimple s!"tw{n.hash}")):ident :True:=trivial)
 let mut a:=#[<-f `PySem.Challenge.rw_heappieces_s01_answers,<-f `PySem.Challenge.pw_heappieces_s01_answers,<-f `PySem.Challenge.nm_heappieces_s01_answers]
 let g s i:=f (.mkStr `HZ.hd0 s!"{s}_{i}")
 for i in [:1117] do a:=a.push (<-g "o" i)
 for i in [1,3,8,1117] do for s in ["heap","env","view"] do a:=a.push (<-g s i)
 for i in [9,10,35,58,81,104,162,190,215,269,293,393,456,514,557,657,734,797,812,835,949,1034,1037,1093,1116] do a:=a++#[<-g "tree" i,<-g "sts" (i+1)]
 return mkNullNode a
#where
open PySem PySem.W PyProof.Rows
theorem HX.na_m {K : PySem.W.Frag} {C : Addr} {f : Str} (h : PySem.W.findIn K (.ref C) f = some none) : L2.bA K C f := h
theorem HX.gz_h {K : PySem.W.Frag} {mg : Str → Option Value} {z0 z1 z2 z3 z4 z5 z6 z7 z8 z9 z10 z11 z12 z13 z14 z15 z16 z17 z18 z19 z20 z21 z22 z23 z24 z25 z26 z27 z28 z29 z30 z31 z32 z33 z34 z35 z36 z37 z38 z39 z40 z41 z42 z43 z44 z45 z46 z47 z48 z49 z50 z51 z52 z53 z54 z55 z56 z57 z58 z59 z60 z61 z62 z63 z64 z65 z66 z67 z68 z69 z70 z71 z72 z73 z74 z75 z76 z77 z78 z79 z80 z81 z82 z83 z84 z85 z86 z87 z88 z89 z90 z91 z92 z93 z94 z95 z96 z97 z98 z99 z100 z101 z102 z103 z104 z105 z106 z107 z108 z109 z110 z111 z112 z113 z114 z115 z116 z117 z118 z119 z120 z121 z122 z123 z124 z125 z126 z127 z128 z129 z130 : Addr} (T : HX.TX K mg ⟨z0, z1, z2, z3, z4, z5, z6, z7, z8, z9, z10, z11, z12, z13, z14, z15, z16, z17, z18, z19, z20, z21, z22, z23, z24, z25, z26, z27, z28, z29, z30, z31, z32, z33, z34, z35, z36, z37, z38, z39, z40, z41, z42, z43, z44, z45, z46, z47, z48, z49, z50, z51, z52, z53, z54, z55, z56, z57, z58, z59, z60, z61, z62, z63, z64, z65, z66, z67, z68, z69, z70, z71, z72, z73, z74, z75, z76, z77, z78, z79, z80, z81, z82, z83, z84, z85, z86, z87, z88, z89, z90, z91, z92, z93, z94, z95, z96, z97, z98, z99, z100, z101, z102, z103, z104, z105, z106, z107, z108, z109, z110, z111, z112, z113, z114, z115, z116, z117, z118, z119, z120, z121, z122, z123, z124, z125, z126, z127, z128, z129, z130⟩) : ∃ a, HX.TX K mg a := ⟨_, T⟩
namespace HZ
abbrev Side (r : OpenSpec) (YP : World → Heap → Prop) (d : DefRec) (kwd : List (Str × Expr)) : Prop := kwd = [] ∧ d.params.defaults = [] ∧ d.name = ("answers" : Str) ∧ ∃ K : Params → PySem.W.Frag, (∀ (w : World) (h : Heap), YP w h → (K w.params).In h) ∧ ∀ (w : World) (mg : Str → Option Value) (h : Heap), (K w.params).In h → h.Ns mainGlobals mg → ∃ a, HX.TX (K w.params) mg a
abbrev XT (r : OpenSpec) : Prop := ∀ (q : Program) (loose : List Str) (XP : (Str → Option Value) → Heap → Prop) (YP : World → Heap → Prop) (d : DefRec), r.wellSaid = true → Side r YP d [] → PySem.W.WalkOS q loose XP YP r d [] fun f vs => PySem.call f vs
theorem PySem.W.holds_os {r : OpenSpec} {q : Program} {loose : List Str} {Xt : Shared → Bool} {XP : (Str → Option Value) → Heap → Prop} {α : Type} {Yf : Shared → α} {Ya : World → α} {YP : World → Heap → Prop} {d : DefRec} {kwd : List (Str × Expr)} {N : Nat} (left : LeftO r.prog q loose Xt Yf Ya N) (hY : ∀ w s, Yf s = Ya w → YP w s.heap) (hYk : ∀ w h h', YP w h → (∀ b o, h.get? b = some o → h'.get? b = some o) → YP w h') (hX : ∀ s, Xt s = true → XP (s.heap.nsMap mainGlobals) s.heap) (hXk : ∀ mg h h', XP mg h → (∀ b o, h.get? b = some o → h'.get? b = some o) → XP mg h') (hdef : defOf q r.name = some (d, kwd)) (hp : r.prog.theDef r.name = some (d.params, d.body, d.scope)) (hk : kwWritten? d.params.kwonlyargs d.params.kw_defaults = some kwd) (hRf : ∀ s, Xt s = true → RecFacts [] s.heap) (hsh : ∀ as, r.pre as = true → WShape.hasAll [] as (r.args.map Codec.shape) = true) (k1 : r.wellSaid = true) (ok : (chainsOk q && opensWell r.prog) = true) (hb : r.prog.bare) (hw : ∃ args, r.pre args = true ∧ WData.layableAll args = true) (call : Side r YP d kwd) (X : XT r := by assumption) : r.Holds := by
  obtain ⟨rfl, h⟩ := call
  exact _root_.PySem.W.holds_os left hY hYk hX hXk hdef hp hk hRf hsh k1 ok hb hw (X _ _ _ _ _ k1 ⟨rfl, h⟩)
set_option maxRecDepth 100000 in
set_option maxHeartbeats 0 in
theorem hd0 (X : XT PySem.Challenge.rw_heappieces_s01_answers) : PySem.Challenge.rw_heappieces_s01_answers.Holds := by
  w_on; k_headS; (case hw => exact ⟨[.list [.int 1]], by decide +kernel, by decide +kernel⟩)
  k_fillS
  refine ⟨rfl, rfl, rfl, _, fun w h Y => PySem.W.kIn_of Y, fun w mg h KX G => ?_⟩
  refine' HX.gz_h (HX.TX.mk (W.mg_of KX G ?_) (W.mg_of KX G ?_) (W.mg_of KX G ?_) (W.mg_of KX G ?_) (W.mg_of KX G ?_) (W.mg_of KX G ?_) (W.mg_of KX G ?_) (W.mg_of KX G ?_) (W.mg_of KX G ?_) (W.mg_of KX G ?_) (W.mg_of KX G ?_) (W.mg_of KX G ?_) (W.mg_of KX G ?_) (W.mg_of KX G ?_) (W.mg_of KX G ?_) (W.mg_of KX G ?_) (W.mg_of KX G ?_) (W.mg_of KX G ?_) (W.mg_of KX G ?_) (W.mg_of KX G ?_) (W.mg_of KX G ?_) (W.mg_of KX G ?_) (W.mg_of KX G ?_) (W.mg_of KX G ?_) (W.mg_of KX G ?_) (W.mg_of KX G ?_) (W.mg_of KX G ?_) (W.mg_of KX G ?_) (W.mg_of KX G ?_) (W.mg_of KX G ?_) (W.mg_of KX G ?_) (W.mg_of KX G ?_) (W.mg_of KX G ?_) (W.mg_of KX G ?_) (W.mg_of KX G ?_) (W.mg_of KX G ?_) (W.mg_of KX G ?_) (W.mg_of KX G ?_) (W.mg_of KX G ?_) (W.mg_of KX G ?_) (W.mg_of KX G ?_) (W.mg_of KX G ?_) (W.mg_of KX G ?_) (W.mg_of KX G ?_) (W.mg_of KX G ?_) (W.mg_of KX G ?_) (W.mg_of KX G ?_) (W.mg_of KX G ?_) (W.mg_of KX G ?_) (W.mg_of KX G ?_) (W.mg_of KX G ?_) (W.mg_of KX G ?_) (W.mg_of KX G ?_) (W.mg_of KX G ?_) (W.mg_of KX G ?_) (W.mg_of KX G ?_) (W.mg_of KX G ?_) (W.mg_of KX G ?_) (W.mg_of KX G ?_) (W.mg_of KX G ?_) (W.mg_of KX G ?_) (W.mg_of KX G ?_) (W.mg_of KX G ?_) (W.mg_of KX G ?_) (W.mg_of KX G ?_) (W.mg_of KX G ?_) (W.mg_of KX G ?_) (W.mg_of KX G ?_) (W.mg_of KX G ?_) (W.mg_of KX G ?_) (W.mg_of KX G ?_) (W.mg_of KX G ?_) (W.mg_of KX G ?_) ⟨?_,?_,?_⟩ ⟨?_,?_,?_⟩ ⟨?_,?_,?_⟩ ⟨?_,?_,?_⟩ ⟨?_,?_,?_⟩ ⟨?_,?_,?_⟩ ⟨?_,?_,?_⟩ ⟨?_,?_,?_⟩ ⟨?_,?_,?_⟩ ⟨?_,?_,?_⟩ ⟨?_,?_,?_⟩ ⟨?_,?_,?_⟩ ⟨?_,?_,?_⟩ ⟨?_,?_,?_⟩ ⟨?_,?_,?_⟩ ⟨?_,?_,?_⟩ ⟨?_,?_,?_⟩ ⟨?_,?_,?_⟩ ⟨?_,?_,?_⟩ ⟨?_,?_,?_⟩ ⟨?_,?_,?_⟩ ⟨?_,?_,?_⟩ ⟨?_,?_,?_⟩ ⟨?_,?_,?_⟩ ⟨?_,?_,?_⟩ ⟨?_,?_,?_⟩ ⟨?_,?_,?_⟩ ⟨?_,?_,?_⟩ ⟨?_,?_,?_⟩ ⟨?_,?_,?_⟩ ⟨?_,?_,?_⟩ ⟨?_,?_,?_⟩ ⟨?_,?_,?_⟩ ⟨?_,?_,?_⟩ ⟨?_,?_,?_⟩ ⟨?_,?_,?_⟩ ⟨?_,?_,?_⟩ ⟨?_,?_,?_⟩ ⟨?_,?_,?_⟩ ⟨?_,?_,?_⟩ ⟨?_,?_,?_⟩ ⟨?_,?_,?_⟩ ⟨?_,?_,?_,?_⟩ ⟨?_,?_,?_,?_⟩ ⟨?_,?_,?_,?_⟩ ⟨?_,?_,?_,?_⟩ ⟨?_,?_,?_,?_⟩ ⟨?_,?_,?_,?_⟩ ⟨?_,?_,?_,?_⟩ ⟨?_,?_,?_,?_⟩ ⟨?_,?_,?_,?_⟩ ⟨?_,?_,?_,?_⟩ ⟨?_,?_,?_,?_⟩ ⟨?_,?_,?_,?_⟩ ⟨?_,?_,?_,?_⟩ (HX.na_m ?_) (HX.na_m ?_) (HX.na_m ?_) (HX.na_m ?_) (HX.na_m ?_) ⟨?_,?_,?_,?_⟩ (HX.na_m ?_) (HX.na_m ?_) ⟨?_,?_,?_,?_⟩ (HX.na_m ?_) (HX.na_m ?_) ⟨?_,?_,?_,?_⟩ (HX.na_m ?_) (HX.na_m ?_) ⟨?_,?_,?_,?_⟩ (HX.na_m ?_) (HX.na_m ?_) (HX.na_m ?_) (HX.na_m ?_) (HX.Ud ?_ ?_ ?_ ?_ ?_) (HX.na_m ?_) (HX.na_m ?_) ⟨?_,?_,?_,?_⟩ (HX.na_m ?_) (HX.na_m ?_) (HX.na_m ?_) ⟨?_,?_,?_,?_⟩ (HX.na_m ?_) (HX.na_m ?_) (HX.na_m ?_) ⟨?_,?_,?_,?_⟩ (HX.na_m ?_) (HX.na_m ?_) ⟨?_,?_,?_,?_⟩ (HX.na_m ?_) (HX.na_m ?_) (HX.na_m ?_) (HX.na_m ?_) (HX.na_m ?_) (HX.na_m ?_) ⟨?_,?_,?_,?_⟩ (HX.na_m ?_) (HX.na_m ?_) ⟨?_,?_,?_,?_⟩ (HX.na_m ?_) (HX.na_m ?_) ⟨?_,?_,?_,?_⟩ (HX.na_m ?_) (HX.na_m ?_) (HX.Ug KX G ?_) (HX.Ug KX G ?_) (HX.Ug KX G ?_) (HX.Ug KX G ?_) (HX.Ug KX G ?_) (HX.Ug KX G ?_) (HX.Ug KX G ?_) (HX.Ug KX G ?_) (HX.Ug KX G ?_) (HX.Ug KX G ?_) (HX.Ug KX G ?_) (HX.Ug KX G ?_) (HX.Ug KX G ?_) (HX.Ui KX G ?_) (HX.Ui KX G ?_) (HX.Ui KX G ?_) (HX.Ui KX G ?_) (HX.Ui KX G ?_) (HX.Ui KX G ?_) (HX.Ui KX G ?_) (HX.Ug KX G ?_) (HX.Ug KX G ?_) (HX.Ug KX G ?_) (HX.Ui KX G ?_) (HX.Ug KX G ?_) (HX.Ug KX G ?_) (HX.Ug KX G ?_) (HX.Ui KX G ?_) (HX.Ui KX G ?_) (HX.Ui KX G ?_) (HX.Ui KX G ?_) (HX.Ui KX G ?_) (HX.Ui KX G ?_) (HX.Ui KX G ?_) (HX.Ui KX G ?_) (HX.Ui KX G ?_) (HX.Ui KX G ?_) (HX.Ui KX G ?_) (HX.Ui KX G ?_) (HX.Ui KX G ?_) (HX.Ui KX G ?_) (HX.Ui KX G ?_) (HX.Ui KX G ?_) (HX.Ui KX G ?_) (HX.Ui KX G ?_) (HX.Ui KX G ?_) (HX.Ui KX G ?_) (HX.Ui KX G ?_) (HX.Ui KX G ?_) (HX.Ui KX G ?_) (HX.Ui KX G ?_) (HX.Ui KX G ?_) (HX.Ui KX G ?_) (HX.Ui KX G ?_) (HX.Ui KX G ?_) (HX.Ui KX G ?_) (HX.Ui KX G ?_) (HX.Ui KX G ?_) (HX.Ui KX G ?_) (HX.Ui KX G ?_) (HX.Ui KX G ?_) (HX.Ui KX G ?_) (HX.Uh KX G ?_) (HX.Uf ?_) (HX.Ue ?_ ?_ ?_) (HX.Uh KX G ?_) (HX.Ue ?_ ?_ ?_) (HX.Uh KX G ?_) (HX.Ue ?_ ?_ ?_) (HX.Uh KX G ?_) (HX.Ue ?_ ?_ ?_) (L2.SE KX G ?_) (L2.SE KX G ?_) (L2.SE KX G ?_) (L2.SE KX G ?_) (L2.SE KX G ?_) (L2.SE KX G ?_) (L2.SE KX G ?_) (L2.SE KX G ?_) (L2.SE KX G ?_) (L2.T9 ?_ ?_ ?_ fun _ _ _ _ _ _ u h=>HX.ul2 h fun _ _=>rfl) (L2.T9 ?_ ?_ ?_ fun _ _ _ _ _ _ u h=>HX.ul2 h fun _ _=>rfl) (L2.T9 ?_ ?_ ?_ fun _ _ _ _ _ _ u h=>HX.ul2 h fun _ _=>rfl) (L2.T9 ?_ ?_ ?_ fun _ _ _ _ _ _ u h=>HX.ul3 h fun _ _ _=>rfl) (L2.T9 ?_ ?_ ?_ fun _ _ _ _ _ _ u h=>HX.ul2 h fun _ _=>rfl) (L2.T9 ?_ ?_ ?_ fun _ _ _ _ _ _ u h=>HX.ul3 h fun _ _ _=>rfl) (L2.T9 ?_ ?_ ?_ fun _ _ _ _ _ _ u h=>HX.ul3 h fun _ _ _=>rfl) (L2.T9 ?_ ?_ ?_ fun _ _ _ _ _ _ u h=>HX.ul2 h fun _ _=>rfl) (L2.T9 ?_ ?_ ?_ fun _ _ _ _ _ _ u h=>HX.ul1 h fun _=>rfl) (L2.T9 ?_ ?_ ?_ fun _ _ _ _ _ _ u h=>HX.ul1 h fun _=>rfl) (L2.T9 ?_ ?_ ?_ fun _ _ _ _ _ _ u h=>HX.ul1 h fun _=>rfl) (L2.T9 ?_ ?_ ?_ fun _ _ _ _ _ _ u h=>HX.ul2 h fun _ _=>rfl) (L2.T9 ?_ ?_ ?_ fun _ _ _ _ _ _ u h=>HX.ul2 h fun _ _=>rfl) (L2.T9 ?_ ?_ ?_ fun _ _ _ _ _ _ u h=>HX.ul2 h fun _ _=>rfl) (L2.T9 ?_ ?_ ?_ fun _ _ _ _ _ _ u h=>HX.ul3 h fun _ _ _=>rfl) (L2.T9 ?_ ?_ ?_ fun _ _ _ _ _ _ u h=>HX.ul3 h fun _ _ _=>rfl) (L2.T9 ?_ ?_ ?_ fun _ _ _ _ _ _ u h=>HX.ul1 h fun _=>rfl) (L2.T9 ?_ ?_ ?_ fun _ _ _ _ _ _ u h=>HX.ul2 h fun _ _=>rfl) (L2.T9 ?_ ?_ ?_ fun _ _ _ _ _ _ u h=>HX.ul1 h fun _=>rfl) (L2.T9 ?_ ?_ ?_ fun _ _ _ _ _ _ u h=>HX.ul1 h fun _=>rfl) (L2.T9 ?_ ?_ ?_ fun _ _ _ _ _ _ u h=>HX.ul1 h fun _=>rfl) (L2.T9 ?_ ?_ ?_ fun _ _ _ _ _ _ u h=>HX.ul1 h fun _=>rfl) (L2.T9 ?_ ?_ ?_ fun _ _ _ _ _ _ u h=>HX.ul1 h fun _=>rfl) (L2.T9 ?_ ?_ ?_ fun _ _ _ _ _ _ u h=>HX.ul1 h fun _=>rfl) (L2.T9 ?_ ?_ ?_ fun _ _ _ _ _ _ u h=>HX.ul1 h fun _=>rfl) (L2.T9 ?_ ?_ ?_ fun _ _ _ _ _ _ u h=>HX.ul1 h fun _=>rfl) (L2.T9 ?_ ?_ ?_ fun _ _ _ _ _ _ u h=>HX.ul2 h fun _ _=>rfl) (L2.T9 ?_ ?_ ?_ fun _ _ _ _ _ _ u h=>HX.ul2 h fun _ _=>rfl) (L2.T9 ?_ ?_ ?_ fun _ _ _ _ _ _ u h=>HX.ul2 h fun _ _=>rfl) (L2.T9 ?_ ?_ ?_ fun _ _ _ _ _ _ u h=>HX.ul2 h fun _ _=>rfl) (L2.T9 ?_ ?_ ?_ fun _ _ _ _ _ _ u h=>HX.ul1 h fun _=>rfl) (L2.T9 ?_ ?_ ?_ fun _ _ _ _ _ _ u h=>HX.ul1 h fun _=>rfl) (L2.T9 ?_ ?_ ?_ fun _ _ _ _ _ _ u h=>HX.ul2 h fun _ _=>rfl) (L2.T9 ?_ ?_ ?_ fun _ _ _ _ _ _ u h=>HX.ul1 h fun _=>rfl) (L2.T9 ?_ ?_ ?_ fun _ _ _ _ _ _ u h=>HX.ul1 h fun _=>rfl) (L2.T9 ?_ ?_ ?_ fun _ _ _ _ _ _ u h=>HX.ul3 h fun _ _ _=>rfl) (L2.T9 ?_ ?_ ?_ fun _ _ _ _ _ _ u h=>HX.ul3 h fun _ _ _=>rfl) (L2.T9 ?_ ?_ ?_ fun _ _ _ _ _ _ u h=>HX.ul1 h fun _=>rfl) (L2.T9 ?_ ?_ ?_ fun _ _ _ _ _ _ u h=>HX.ul3 h fun _ _ _=>rfl) (L2.T9 ?_ ?_ ?_ fun _ _ _ _ _ _ u h=>HX.ul4 h fun _ _ _ _=>rfl) (L2.T9 ?_ ?_ ?_ fun _ _ _ _ _ _ u h=>HX.ul2 h fun _ _=>rfl) (L2.T9 ?_ ?_ ?_ fun _ _ _ _ _ _ u h=>HX.ul2 h fun _ _=>rfl) (L2.T9 ?_ ?_ ?_ fun _ _ _ _ _ _ u h=>HX.ul2 h fun _ _=>rfl) (L2.T9 ?_ ?_ ?_ fun _ _ _ _ _ _ u h=>HX.ul1 h fun _=>rfl) (L2.T9 ?_ ?_ ?_ fun _ _ _ _ _ _ u h=>HX.ul1 h fun _=>rfl) (L2.T9 ?_ ?_ ?_ fun _ _ _ _ _ _ u h=>HX.ul3 h fun _ _ _=>rfl) (L2.T9 ?_ ?_ ?_ fun _ _ _ _ _ _ u h=>HX.ul1 h fun _=>rfl) (L2.T9 ?_ ?_ ?_ fun _ _ _ _ _ _ u h=>HX.ul1 h fun _=>rfl) (L2.T9 ?_ ?_ ?_ fun _ _ _ _ _ _ u h=>HX.ul2 h fun _ _=>rfl) (L2.T9 ?_ ?_ ?_ fun _ _ _ _ _ _ u h=>HX.ul3 h fun _ _ _=>rfl) (L2.T9 ?_ ?_ ?_ fun _ _ _ _ _ _ u h=>HX.ul3 h fun _ _ _=>rfl) (L2.T9 ?_ ?_ ?_ fun _ _ _ _ _ _ u h=>HX.ul4 h fun _ _ _ _=>rfl) (L2.T9 ?_ ?_ ?_ fun _ _ _ _ _ _ u h=>HX.ul2 h fun _ _=>rfl) (L2.T9 ?_ ?_ ?_ fun _ _ _ _ _ _ u h=>HX.ul1 h fun _=>rfl) (L2.T9 ?_ ?_ ?_ fun _ _ _ _ _ _ u h=>HX.ul1 h fun _=>rfl) (L2.T9 ?_ ?_ ?_ fun _ _ _ _ _ _ u h=>HX.ul1 h fun _=>rfl) (L2.T9 ?_ ?_ ?_ fun _ _ _ _ _ _ u h=>HX.ul2 h fun _ _=>rfl) (L2.T9 ?_ ?_ ?_ fun _ _ _ _ _ _ u h=>HX.ul2 h fun _ _=>rfl) (L2.T9 ?_ ?_ ?_ fun _ _ _ _ _ _ u h=>HX.ul2 h fun _ _=>rfl) (L2.T9 ?_ ?_ ?_ fun _ _ _ _ _ _ u h=>HX.ul1 h fun _=>rfl) (HX.KZ ?_ ?_ ?_ ?_) (L2.T9 ?_ ?_ ?_ fun _ _ _ _ _ _ u h=>HX.ul3 h fun _ _ _=>rfl) (L2.T9 ?_ ?_ ?_ fun _ _ _ _ _ _ u h=>HX.ul3 h fun _ _ _=>rfl) (L2.T9 ?_ ?_ ?_ fun _ _ _ _ _ _ u h=>HX.ul3 h fun _ _ _=>rfl) (L2.T9 ?_ ?_ ?_ fun _ _ _ _ _ _ u h=>HX.ul3 h fun _ _ _=>rfl) (L2.T9 ?_ ?_ ?_ fun _ _ _ _ _ _ u h=>HX.ul1 h fun _=>rfl) (L2.T9 ?_ ?_ ?_ fun _ _ _ _ _ _ u h=>HX.ul3 h fun _ _ _=>rfl) (L2.T9 ?_ ?_ ?_ fun _ _ _ _ _ _ u h=>HX.ul4 h fun _ _ _ _=>rfl) (L2.T9 ?_ ?_ ?_ fun _ _ _ _ _ _ u h=>HX.ul3 h fun _ _ _=>rfl) (L2.T9 ?_ ?_ ?_ fun _ _ _ _ _ _ u h=>HX.ul1 h fun _=>rfl) (L2.T9 ?_ ?_ ?_ fun _ _ _ _ _ _ u h=>HX.ul2 h fun _ _=>rfl) (L2.T9 ?_ ?_ ?_ fun _ _ _ _ _ _ u h=>HX.ul2 h fun _ _=>rfl) (L2.T9 ?_ ?_ ?_ fun _ _ _ _ _ _ u h=>HX.ul1 h fun _=>rfl) (L2.T9 ?_ ?_ ?_ fun _ _ _ _ _ _ u h=>HX.ul1 h fun _=>rfl) (L2.T9 ?_ ?_ ?_ fun _ _ _ _ _ _ u h=>HX.ul1 h fun _=>rfl) (L2.T9 ?_ ?_ ?_ fun _ _ _ _ _ _ u h=>HX.ul1 h fun _=>rfl) (L2.T9 ?_ ?_ ?_ fun _ _ _ _ _ _ u h=>HX.ul1 h fun _=>rfl) (L2.T9 ?_ ?_ ?_ fun _ _ _ _ _ _ u h=>HX.ul3 h fun _ _ _=>rfl) (L2.T9 ?_ ?_ ?_ fun _ _ _ _ _ _ u h=>HX.ul1 h fun _=>rfl) (L2.T9 ?_ ?_ ?_ fun _ _ _ _ _ _ u h=>HX.ul1 h fun _=>rfl) (L2.T9 ?_ ?_ ?_ fun _ _ _ _ _ _ u h=>HX.ul3 h fun _ _ _=>rfl) (L2.T9 ?_ ?_ ?_ fun _ _ _ _ _ _ u h=>HX.ul2 h fun _ _=>rfl) (L2.T9 ?_ ?_ ?_ fun _ _ _ _ _ _ u h=>HX.ul4 h fun _ _ _ _=>rfl) (L2.T9 ?_ ?_ ?_ fun _ _ _ _ _ _ u h=>HX.ul3 h fun _ _ _=>rfl) (L2.T9 ?_ ?_ ?_ fun _ _ _ _ _ _ u h=>HX.ul2 h fun _ _=>rfl) (L2.T9 ?_ ?_ ?_ fun _ _ _ _ _ _ u h=>HX.ul1 h fun _=>rfl) (L2.T9 ?_ ?_ ?_ fun _ _ _ _ _ _ u h=>HX.ul1 h fun _=>rfl) (L2.T9 ?_ ?_ ?_ fun _ _ _ _ _ _ u h=>HX.ul1 h fun _=>rfl) (L2.T9 ?_ ?_ ?_ fun _ _ _ _ _ _ u h=>HX.ul2 h fun _ _=>rfl) (L2.T9 ?_ ?_ ?_ fun _ _ _ _ _ _ u h=>HX.ul2 h fun _ _=>rfl) (L2.T9 ?_ ?_ ?_ fun _ _ _ _ _ _ u h=>HX.ul2 h fun _ _=>rfl) (L2.T9 ?_ ?_ ?_ fun _ _ _ _ _ _ u h=>HX.ul2 h fun _ _=>rfl) (L2.T9 ?_ ?_ ?_ fun _ _ _ _ _ _ u h=>HX.ul2 h fun _ _=>rfl) (L2.T9 ?_ ?_ ?_ fun _ _ _ _ _ _ u h=>HX.ul2 h fun _ _=>rfl) (L2.T9 ?_ ?_ ?_ fun _ _ _ _ _ _ u h=>HX.ul3 h fun _ _ _=>rfl) (L2.T9 ?_ ?_ ?_ fun _ _ _ _ _ _ u h=>HX.ul3 h fun _ _ _=>rfl) (L2.T9 ?_ ?_ ?_ fun _ _ _ _ _ _ u h=>HX.ul1 h fun _=>rfl) (L2.T9 ?_ ?_ ?_ fun _ _ _ _ _ _ u h=>HX.ul2 h fun _ _=>rfl) (L2.T9 ?_ ?_ ?_ fun _ _ _ _ _ _ u h=>HX.ul1 h fun _=>rfl) (L2.T9 ?_ ?_ ?_ fun _ _ _ _ _ _ u h=>HX.ul2 h fun _ _=>rfl) (L2.T9 ?_ ?_ ?_ fun _ _ _ _ _ _ u h=>HX.ul1 h fun _=>rfl) (L2.T9 ?_ ?_ ?_ fun _ _ _ _ _ _ u h=>HX.ul2 h fun _ _=>rfl) (L2.T9 ?_ ?_ ?_ fun _ _ _ _ _ _ u h=>HX.ul1 h fun _=>rfl) (L2.T9 ?_ ?_ ?_ fun _ _ _ _ _ _ u h=>HX.ul1 h fun _=>rfl) (L2.T9 ?_ ?_ ?_ fun _ _ _ _ _ _ u h=>HX.ul1 h fun _=>rfl) (L2.T9 ?_ ?_ ?_ fun _ _ _ _ _ _ u h=>HX.ul2 h fun _ _=>rfl) (L2.T9 ?_ ?_ ?_ fun _ _ _ _ _ _ u h=>HX.ul2 h fun _ _=>rfl) (L2.T9 ?_ ?_ ?_ fun _ _ _ _ _ _ u h=>HX.ul2 h fun _ _=>rfl) (L2.T9 ?_ ?_ ?_ fun _ _ _ _ _ _ u h=>HX.ul2 h fun _ _=>rfl) (L2.T9 ?_ ?_ ?_ fun _ _ _ _ _ _ u h=>HX.ul2 h fun _ _=>rfl) (L2.T9 ?_ ?_ ?_ fun _ _ _ _ _ _ u h=>HX.ul2 h fun _ _=>rfl) (L2.T9 ?_ ?_ ?_ fun _ _ _ _ _ _ u h=>HX.ul1 h fun _=>rfl) (L2.T9 ?_ ?_ ?_ fun _ _ _ _ _ _ u h=>HX.ul1 h fun _=>rfl) (L2.T9 ?_ ?_ ?_ fun _ _ _ _ _ _ u h=>HX.ul1 h fun _=>rfl))
  all_goals try dsimp only
  all_goals try k_is
  all_goals first | (show _ ≤ sizeLine; decide) | (dsimp only; repeat (first | exact .nil | refine .cons ⟨_, rfl⟩ ?_))
end HZ
end
section
open Lean in
local macro_rules|`(tactic|iterate $n:num skip)=>do
 let u (i:Nat):Ident:=mkIdent (.mkSimple s!"zz{i}")
 let k:=n.getNat-1
 let mut t<-`(L2.uG _ $(u 1) _ _ _)
 for i in [1:k] do t<-`(let $(u i):ident:=L2.uG _ $(u (i+1));$t)
 `(tactic|(dsimp only [L2.jt,L2.Cx.nox,L2.Cx.wish];change let $(u k):ident:=_;$t;intro $[$((Array.range k).map fun i=>u (k-i))]*))
open Lean in
local macro_rules
|`(tactic|let $p:term:=$v)=>do
 let q<-p.raw.rewriteBottomUpM fun s=>do
  let w (a:Array Syntax):MacroM Syntax:=do
   let b:Array (TSyntax `Lean.Parser.Tactic.rcasesPatLo):=a.map fun e=>⟨mkNode `Lean.Parser.Tactic.rcasesPatLo #[mkNode `Lean.Parser.Tactic.rcasesPatMed #[mkNullNode #[e]],mkNullNode]⟩
   return(<-`(rcasesPat|⟨$[$b],*⟩)).raw
  if s.isIdent then return(<-`(rcasesPat|$(⟨s⟩):ident)).raw
  else if s.isOfKind `Lean.Parser.Term.hole then return(<-`(rcasesPat|_)).raw
  else if s.isOfKind `Lean.Parser.Term.tuple then w (#[s[1][0]]++s[1][2].getSepArgs)
  else if s.isOfKind `Lean.Parser.Term.anonymousCtor then w s[1].getSepArgs
  else return s
 `(tactic|obtain $(⟨q⟩):rcasesPat:=$v)
|`(tactic|let $d:letDecl)=>return mkNode `Lean.Parser.Tactic.tacticHave__ #[mkAtom "have",mkNode `Lean.Parser.Term.letConfig #[mkNullNode],d]
local macro_rules|`(tactic|show $t)=>`(tactic|refine $t)
local macro_rules|`(↑$x)=>`(($x).length)
local macro_rules|`(⋯)=>`(by lia)
local macro_rules|`(())=>`(by decide +kernel)
local macro_rules|`(($a,$b,*))=>`(⟨$a,$b,*⟩)
def ifn:=@if_neg
def ifp:=@if_pos
namespace HM
open L2
section
open VasepBase
structure fb where
 text:List Nat
 place:Nat
 fault:Nat
deriving DecidableEq
def eK:List Nat:=[32,10,97,98,99,100,101,102,103,104,105,106,107,108,109,110,111,112,113,114,115,116,117,118,119,120,121,122,48,49,50,51,52,53,54,55,56,57,95,40,41,42,44,46,58,59,61,33,45,62,123,125,35]
def dropWhile_length(p:D->Bool):∀l:List D,↑(l.dropWhile p)<=↑l
 |[]=>UD _
 |a::r=>by
  rw[WE];split
  .show Vm (dropWhile_length p r) (XS _)
  .show UD _
def signOf(c:Nat):Nat:=if eK.contains c then c else if c=9\/c=13 then 32 else 63
def skip(s:List Nat):List Nat:=match s with
 |[]=>[]
 |c::r=>if c=35 then skip (r.dropWhile λx=>x !=10)else if c=32\/c=10 then skip r else c::r
termination_by ↑s
decreasing_by
 .simp only[Ut];have:=dropWhile_length (λx:Nat=>x !=10) r;lia
 .simp
def cN(p:Nat)(s:List Nat):fb:=match s with
 |[]=>([],p,4)
 |c::r=>
  if Vu c then(if↑(c::r.takeWhile VO)<=12 then(c::r.takeWhile VO,p,3)else([],p,2))
  else if VQ c then(if c::r.takeWhile VQ=[48]then([48],p,3)else([],p,2))
  else if W6.contains (c::r.take 1)then(c::r.take 1,p,3)
  else if signs.contains c then([c],p,3)
  else([],p,1)
def toks(D:Nat):Nat->List Nat->List fb
 |0,s=>[([],D-↑s,4)]
 |k+1,s=>match skip s with
  |[]=>[([],D,4)]
  |c::r=>if(cN (D-(↑r+1)) (c::r)).fault≠3 then [cN (D-(↑r+1)) (c::r)]
   else cN (D-(↑r+1)) (c::r)::toks D k ((c::r).drop (cN (D-(↑r+1)) (c::r)).text.length)
def iQ(t:Nat×Tok):fb:=match t with
 |(p,.word w)=>(w,p,3)
 |(p,.zero)=>([48],p,3)
 |(p,.sign t)=>(t,p,3)
 |(p,.over)=>([],p,4)
 |(p,.bad k)=>([],p,k)
def oI(p:D->Bool):∀l:List D,l.drop ↑(l.takeWhile p)=l.dropWhile p
 |[]=>rfl
 |a::r=>by
  by_cases h:p a=UB
  .simp [WC,WE,h,oI p r]
  .simp [WC,WE,h]
def jM(w:Nat):∀(n:Nat)(s:List Nat)(k j:Nat),↑s<=n->↑s<k->↑s<j->Yz w k s=Yz w j s:=by
 intro n
 induction n with
 |zero=>
  intro s k j U O I;have:s=[]:=Vc ⋯;subst this;obtain⟨E,rfl⟩:∃E,k=E+1:=(k-1,⋯);obtain⟨D,rfl⟩:∃D,j=D+1:=(j-1,⋯)
  rfl
 |succ n G=>
  intro s k j U O I;obtain⟨E,rfl⟩:∃E,k=E+1:=(k-1,⋯);obtain⟨D,rfl⟩:∃D,j=D+1:=(j-1,⋯);cases s with
  |nil=>rfl
  |cons c r=>
   let V:↑r<=n:=by simpa using U
   let h2:↑r<E:=by simpa using O
   let W:↑r<D:=by simpa using I
   let Z:=dropWhile_length (λx:Nat=>x !=10) r;let d2:=dropWhile_length VO r;let d3:↑(r.drop 1)<=↑r:=by simp
   simp only[Yz];rw[G r E D V h2 W,G (r.dropWhile λx=>x !=10) E D ⋯ ⋯ ⋯,G (r.dropWhile VO) E D ⋯ ⋯ ⋯,G (r.drop 1) E D ⋯ ⋯ ⋯]
def Fb(c:Nat)(h:eK.contains c=UB):c≠9/\c≠13:=by
 constructor<;>(intro e;subst e;revert h;decide)
def eP(c:Nat):(signOf c=c/\eK.contains c=UB)\/(signOf c=32/\(c=9\/c=13))\/(signOf c=63/\eK.contains c=UF/\c≠9/\c≠13):=by
 unfold signOf;by_cases h:eK.contains c=UB
 .left;rw[ifp h];show(Y,h)
 .rw[ifn h];by_cases g:c=9\/c=13
  .right;left;rw[ifp g];show(Y,g)
  .right;right;rw[ifn g]
   show(Y,by simpa using h,λe=>g (.inl e),λe=>g (.inr e))
def oZ(h:eK.contains c=UF)(k:eK.contains d=UB):c≠d:=by intro e;subst e;rw[h]at k;cases k
def asc{p q:Nat->Bool}(a:∀c:Fin 128,p c.1=q c.1)(D:∀c,p c=UB->c<128)(h2:∀c,q c=UB->c<128)(c:Nat):p c=q c:=by
 by_cases h:c<128
 .show a (c,h)
 .rw[aau.mpr λe=>h (D c e),aau.mpr λe=>h (h2 c e)]
def small_lt(c:Nat)(h:Vu c=UB):c<128:=by unfold Vu at h;simp at h;lia
def digit_lt(c:Nat)(h:VQ c=UB):c<128:=by unfold VQ at h;simp at h;lia
def inner_lt(c:Nat)(h:VO c=UB):c<128:=by unfold VO Vu VQ at h;simp at h;lia
def ur(h:eK.contains c=UF):Vu c=UF:=by
 cases e:Vu c with
 |false=>rfl
 |true=>
  have:=(by decide+kernel:∀c:Fin 128,Vu c.1=UB->eK.contains c.1=UB) (c,small_lt c e) e;rw[h]at this;cases this
def uu(h:eK.contains c=UF):VQ c=UF:=by
 cases e:VQ c with
 |false=>rfl
 |true=>
  have:=(by decide+kernel:∀c:Fin 128,VQ c.1=UB->eK.contains c.1=UB) (c,digit_lt c e) e;rw[h]at this;cases this
def qX(c:Nat):Vu (signOf c)=Vu c:=by
 rcases eP c with⟨e,_⟩|⟨e,h⟩|⟨e,h,_⟩
 .rw[e]
 .rw[e];rcases h with h|h<;>(subst h;decide)
 .rw[e,ur h];decide
def lm(c:Nat):VQ (signOf c)=VQ c:=by
 rcases eP c with⟨e,_⟩|⟨e,h⟩|⟨e,h,_⟩
 .rw[e]
 .rw[e];rcases h with h|h<;>(subst h;decide)
 .rw[e,uu h];decide
def ca(k:eK.contains d=UB)(G:d≠32)(I:d≠63):(signOf c==d)=(c==d):=by
 rcases eP c with⟨e,_⟩|⟨e,h⟩|⟨e,h,_⟩
 .rw[e]
 .rw[e];let D:(32==d)=false:=beq_eq_false_iff_ne.mpr (WX G);let E:(c==d)=false:=beq_eq_false_iff_ne.mpr λz=>by
   subst z;have:=Fb _ k;rcases h with h|h
   .show this.1 h
   .show this.2 h
  rw[D,E]
 .rw[e];let D:(63==d)=false:=beq_eq_false_iff_ne.mpr (WX I);let E:(c==d)=false:=beq_eq_false_iff_ne.mpr (oZ h k);rw[D,E]
def qY(c:Nat):VO (signOf c)=VO c:=by
 unfold VO;rw[qX,lm,ca () () ()]
def BA(c:Nat):blank (signOf c)=blank c:=by
 rcases eP c with⟨e,_⟩|⟨e,h⟩|⟨e,h,E,D⟩
 .rw[e]
 .rw[e];rcases h with h|h<;>(subst h;decide)
 .rw[e];unfold blank;rw[beq_eq_false_iff_ne.mpr E,beq_eq_false_iff_ne.mpr D,beq_eq_false_iff_ne.mpr (oZ h (d:=10) ()),beq_eq_false_iff_ne.mpr (oZ h (d:=32) ())]
  decide
def Bz(c:Nat):signs.contains (signOf c)=signs.contains c:=by
 unfold signs;simp only[VE,XB,XH];rw[ca (d:=40) () () (),ca (d:=41) () () (),ca (d:=42) () () (),ca (d:=44) () () (),ca (d:=46) () () (),ca (d:=58) () () (),ca (d:=59) () () (),ca (d:=61) () () (),ca (d:=123) () () (),ca (d:=125) () () ()]
def doubled_eq:W6=[[61,61],[33,61],[45,62]]:=()
def wy(c:Nat)(r:List Nat):W6.contains (signOf c::(r.map signOf).take 1)=W6.contains (c::r.take 1):=by
 rw[doubled_eq];cases r with
 |nil=>
  simp only[VE,XB,Yu,List.take_nil];have:∀(a b d:Nat),(([a]:List Nat)==[b,d])=UF:=λa b d=>by simp
  rw[this,this,this,this,this,this]
 |cons d r=>
  simp only[VE,XB,UJ,ab0,List.take_zero,XH];let q:∀(a b x y:Nat),(([a,b]:List Nat)==[x,y])=((a==x)&&(b==y)):=λa b x y=>by simp
  simp only[q];rw[ca (c:=c) (d:=61) () () (),ca (c:=c) (d:=33) () () (),ca (c:=c) (d:=45) () () (),ca (c:=d) (d:=61) () () (),ca (c:=d) (d:=62) () () ()]
def jN{f:Nat->Nat}{p:Nat->Bool}(h:∀c,p (f c)=p c):∀l:List Nat,(l.map f).takeWhile p=(l.takeWhile p).map f
 |[]=>rfl
 |a::r=>by
  simp only[UJ,WC,h];by_cases e:p a=UB
  .simp [e,jN h r]
  .simp [e]
def kj{f:Nat->Nat}{p:Nat->Bool}(h:∀c,p (f c)=p c):∀l:List Nat,(l.map f).dropWhile p=(l.dropWhile p).map f
 |[]=>rfl
 |a::r=>by
  simp only[UJ,WE,h];by_cases e:p a=UB
  .simp [e,kj h r]
  .simp [e]
def EX{p:Nat->Bool}(h:∀c,p c=UB->signOf c=c):∀l:List Nat,(∀c∈l,p c=UB)->l.map signOf=l
 |[],_=>rfl
 |a::r,q=>by
  rw[UJ,h a (q a (by simp)),EX h r λc D=>q c (by simp [D])]
def uz(c:Nat)(h:inner c=UB):signOf c=c:=by
 rcases eP c with⟨e,_⟩|⟨e,k⟩|⟨e,k,_⟩
 .show e
 .exfalso;rcases k with k|k<;>(subst k;revert h;decide)
 .exfalso;unfold inner at h;rw[ur k,uu k,beq_eq_false_iff_ne.mpr (oZ k (d:=95) ())]at h;cases h
def small_inner(h:Vu c=UB):VO c=UB:=by unfold VO;rw[h];rfl
def pG{p:Nat->Bool}:∀(l:List Nat)(c:Nat),c∈l.takeWhile p->p c=UB
 |[],c,h=>by simp at h
 |a::r,c,h=>by
  simp only[WC]at h;by_cases e:p a=UB
  .simp only[e,if_true,UP]at h;rcases h with h|h
   .subst h;show e
   .show pG r c h
  .simp [e]at h
def GX(c:Nat)(h:signs.contains c=true):signOf c=c:=by
 rcases eP c with⟨e,_⟩|⟨e,k⟩|⟨e,k,_⟩
 .show e
 .exfalso;rcases k with k|k<;>(subst k;revert h;decide)
 .exfalso;have:∀d,signs.contains d=true->eK.contains d=true:=by
   intro d D;unfold signs at D;simp only[VE,XB,XH,Wn,beq_iff_eq]at D;rcases D with h|h|h|h|h|h|h|h|h|h<;>(subst h;decide)
  rw[this c h]at k;cases k
def zI(h:W6.contains (c::l)=UB):(c::l).map signOf=c::l:=by
 rw[doubled_eq]at h;simp only[VE,XB,XH,Wn,beq_iff_eq]at h;rcases h with h|h|h<;>(rw[h];decide)
def wm(w:Nat):∀(k:Nat)(t:List Nat),tokensIn w k (t.map signOf)=tokensIn w k t:=by
 intro k
 induction k with
 |zero=>intro t;simp [tokensIn]
 |succ k D=>
  intro t;cases t with
  |nil=>rfl
  |cons c r=>
   simp only[UJ,tokensIn,BA,qX,lm,Bz,wy,Uq,D];rw[ca (d:=35) () () (),ca (d:=48) () () ()];rw[kj (p:=λx=>x !=10) (λc=>by change(!(signOf c==10))=!(c==10);rw[ca () () ()]),D];rw[jN qY,jN lm,kj qY,D];by_cases O:blank c=UB
   .simp only[O,if_true]
   .simp only[O,UA,if_false];by_cases h2:(c==35)=UB
    .simp only[h2,if_true]
    .simp only[h2,UA,if_false];by_cases E:Vu c=UB
     .simp only[E,if_true];let V:signOf c=c:=uz c (small_inner E);let W:(r.takeWhile VO).map signOf=r.takeWhile VO:=EX uz _ λx hx=>pG r x hx
      rw[V,W]
     .simp only[E,UA,if_false];by_cases U:VQ c=UB
      .simp only[U,if_true];let Z:((r.takeWhile VQ).map signOf).isEmpty=(r.takeWhile VQ).isEmpty:=by cases r.takeWhile VQ<;>rfl
       rw[Z]
      .simp only[U,UA,if_false];by_cases G:W6.contains (c::r.take 1)=UB
       .simp only[G,if_true];let e4:signOf c::(r.map signOf).take 1=c::r.take 1:=by
         have:=zI G;rw[UJ,aaD]at this;show this
        rw[e4,<-aaE,D]
       .simp only[G,UA,if_false];by_cases I:signs.contains c=UB
        .simp only[I,if_true,GX c I]
        .simp only[I,UA,if_false]
def pZ(s:List Nat):Prop:=∀c∈s,c≠9/\c≠13
def pZ.tail(h:pZ (c::r)):pZ r:=λx D=>h x (by simp [D])
def pZ.suffix(h:pZ s)(e:t<:+s):pZ t:=λx D=>h x (e.mem D)
def FN(t:List Nat):pZ (t.map signOf):=by
 intro c D;let(d,_,rfl):=U6.mp D;rcases eP d with⟨e,k⟩|⟨e,_⟩|⟨e,_⟩
 .rw[e];show Fb d k
 .rw[e];decide
 .rw[e];decide
def uC(h:c≠9/\c≠13):blank c=decide (c=32\/c=10):=by
 unfold blank;rw[beq_eq_false_iff_ne.mpr h.1,beq_eq_false_iff_ne.mpr h.2];by_cases a:c=10
 .subst a;decide
 .by_cases b:c=32
  .subst b;decide
  .simp [a,b]
def skip_suffix:∀(n:Nat)(s:List Nat),↑s<=n->skip s<:+s:=by
 intro n
 induction n with
 |zero=>intro s h;have:s=[]:=Vc ⋯;subst this;rw[skip];show aaT _
 |succ n D=>
  intro s h;cases s with
  |nil=>rw[skip];show aaT _
  |cons c r=>
   let E:↑r<=n:=by simpa using h
   rw[skip];split
   .let d:=dropWhile_length (λx:Nat=>x !=10) r;show(D _ ⋯).trans ((Zl _).trans (ac8 c r))
   .split
    .show(D r E).trans (ac8 c r)
    .show aaT _
def skip_length(s:List Nat):↑(skip s)<=↑s:=(skip_suffix ↑s s (UD _)).length_le
def JK:∀(n:Nat)(s:List Nat),↑s<=n->∀c r,skip s=c::r->c≠35/\c≠32/\c≠10:=by
 intro n
 induction n with
 |zero=>intro s h c r e;have:s=[]:=Vc ⋯;subst this;rw[skip]at e;cases e
 |succ n D=>
  intro s h c r e;cases s with
  |nil=>rw[skip]at e;cases e
  |cons d q=>
   let G:↑q<=n:=by simpa using h
   rw[skip]at e;split at e
   .let dl:=dropWhile_length (λx:Nat=>x !=10) q;show D _ ⋯ c r e
   .rename_i E;split at e
    .show D q G c r e
    .rename_i h2;cases e;show(E,λz=>h2 (.inl z),λz=>h2 (.inr z))
def Eg(w:Nat):∀(n:Nat)(s:List Nat),↑s<=n->pZ s->∀k j,↑s<k->↑(skip s)<j->Yz w k s=Yz w j (skip s):=by
 intro n
 induction n with
 |zero=>
  intro s h _ k j G D;have:s=[]:=Vc ⋯;subst this;rw[skip]at D⊢;show jM w 0 [] k j (by simp) G D
 |succ n V=>
  intro s h cl k j G D;cases s with
  |nil=>rw[skip]at D⊢;show jM w 0 [] k j (by simp) G D
  |cons c r=>
   let Z:↑r<=n:=by simpa using h
   obtain⟨I,rfl⟩:∃I,k=I+1:=(k-1,⋯);let W:↑r<I:=by simpa using G
   let U:=uC (cl c (by simp));let dl:=dropWhile_length (λx:Nat=>x !=10) r;by_cases E:c=35
   .let e:skip (c::r)=skip (r.dropWhile λx=>x !=10):=by rw[skip,ifp E]
    rw[e]at D⊢;rw[<-V _ ⋯ (cl.tail.suffix (Zl _)) I j ⋯ D];let O:blank c=UF:=by rw[U,E];decide
    simp only[Yz,O,UA,if_false];rw[ifp (by rw[E];decide)]
   .by_cases h2:c=32\/c=10
    .let e:skip (c::r)=skip r:=by rw[skip,ifn E,ifp h2]
     rw[e]at D⊢;rw[<-V r Z cl.tail I j W D];let O:blank c=UB:=by rw[U];simpa using h2
     simp only[Yz,O,if_true]
    .let e:skip (c::r)=c::r:=by rw[skip,ifn E,ifn h2]
     rw[e]at D⊢;show jM w (n+1) _ _ _ h G D
def Nj(w:Nat):∀(n:Nat)(s:List Nat),↑s<=n->pZ s->∀k,↑s<k->toks w k s=(Yz w k s).map iQ:=by
 intro n
 induction n with
 |zero=>
  intro s h _ k hk;have:s=[]:=Vc ⋯;subst this;obtain⟨D,rfl⟩:∃D,k=D+1:=(k-1,⋯);rw[toks,skip]
  rfl
 |succ n U=>
  intro s h cl k hk;obtain⟨D,rfl⟩:∃D,k=D+1:=(k-1,⋯);let sl:=skip_length s;rw[Eg w (n+1) s h cl (D+1) (D+1) hk ⋯,toks];cases e:skip s with
  |nil=>rfl
  |cons c r=>
   rw[e]at sl;let hl:↑(c::r)=↑r+1:=rfl;let Z:=JK (n+1) s h c r e;let I:pZ (c::r):=by rw[<-e];show cl.suffix (skip_suffix ↑s s (UD _))
   let nb:blank c=UF:=by
    rw[uC (I c (by simp))];show decide_eq_false (λz=>z.elim Z.2.1 Z.2.2)
   let ap:¬(c==35)=UB:=by simp [Z.1]
   let d2:=dropWhile_length VO r;let d3:↑(r.drop 1)<=↑r:=by simp
   simp only[Yz,nb,UA,if_false,ap];unfold cN;by_cases h3:Vu c=UB
   .simp only[h3,if_true];by_cases O:↑(c::r.takeWhile VO)<=12
    .let W:¬WORD<↑(c::r.takeWhile VO):=by unfold WORD;lia
     simp only[ifp O,ifn W,ne_eq,not_true_eq_false,if_false,UJ];let E:(c::r).drop ↑(c::r.takeWhile VO)=r.dropWhile VO:=by rw[Ut,List.drop_succ_cons,oI]
     rw[E,U (r.dropWhile VO) ⋯ (I.tail.suffix (Zl _)) D ⋯]
     rfl
    .let W:WORD<↑(c::r.takeWhile VO):=by unfold WORD;lia
     simp only[ifn O,ifp W]
     rfl
   .simp only[h3,UA,if_false];by_cases O:VQ c=UB
    .simp only[O,if_true];by_cases G:c=48/\r.takeWhile VQ=[]
     .let(ab,an):=G;let E:c::r.takeWhile VQ=[48]:=by rw[ab,an]
      let V:(c==48&&(r.takeWhile VQ).isEmpty)=UB:=by rw[ab,an];rfl
      simp only[ifp E,V,if_true,ne_eq,not_true_eq_false,if_false,UJ];let e3:(c::r).drop ↑([48]:List Nat)=r:=rfl;rw[e3,U r ⋯ I.tail D ⋯]
      rfl
     .let E:¬c::r.takeWhile VQ=[48]:=λz=>G (by injection z with z1 z2;show(z1,z2))
      let V:¬(c==48&&(r.takeWhile VQ).isEmpty)=UB:=λz=>G (by
       simp only[Vb,beq_iff_eq,List.isEmpty_iff]at z;show z)
      simp only[ifn E,ifn V]
      rfl
    .simp only[O,UA,if_false];by_cases G:W6.contains (c::r.take 1)=UB
     .simp only[G,if_true,ne_eq,not_true_eq_false,if_false,UJ];let E:(c::r).drop ↑(c::r.take 1)=r.drop 1:=by
       cases r with
       |nil=>rfl
       |cons d q=>rfl
      rw[E,U (r.drop 1) ⋯ (I.tail.suffix (ada _ _)) D ⋯]
      rfl
     .simp only[G,UA,if_false];by_cases h6:signs.contains c=UB
      .simp only[h6,if_true,ne_eq,not_true_eq_false,if_false,UJ];let E:(c::r).drop ↑([c]:List Nat)=r:=rfl;rw[E,U r ⋯ I.tail D ⋯]
       rfl
      .simp only[h6,UA,if_false]
       rfl
def toks_of(t:List Nat):toks ↑t (↑t+1) (t.map signOf)=(VC t).map iQ:=by
 unfold VC;rw[Nj ↑t ↑t (t.map signOf) (by simp) (FN t) (↑t+1) (by simp),wm]
end
section
open VasepBase
def wordOk(w:WQ):Prop:=∃c r,w=c::r/\Vu c=UB
def signOk(s:WQ):Prop:=s∈W6\/∃c,s=[c]/\signs.contains c=UB
def Se(t:Nat×Tok):Prop:=match t.2 with
 |.word w=>wordOk w
 |.zero=>True
 |.sign s=>signOk s
 |_=>False
inductive eZ:Toks->Prop where
 |over (p:Nat):eZ [(p,.over)]
 |bad (p k:Nat) (h:k≠3):eZ [(p,.bad k)]
 |cons {t:Nat×Tok} {r:Toks}:Se t->eZ r->eZ (t::r)
def DX(w:Nat):∀(k:Nat)(t:WQ),eZ (Yz w k t):=by
 intro k
 induction k with
 |zero=>intro t;show .over _
 |succ k D=>
  intro t;cases t with
  |nil=>show .over _
  |cons c r=>
   simp only[Yz];split
   .show D _
   .split
    .show D _
    .split
     .rename_i h;split
      .show .bad _ _ ()
      .show .cons (c,_,Y,h) (D _)
     .split
      .split
       .show .cons trivial (D _)
       .show .bad _ _ ()
      .split
       .rename_i h;show .cons (.inl (UV.mp h)) (D _)
       .split
        .rename_i h;show .cons (.inr (c,Y,h)) (D _)
        .show .bad _ _ ()
def tokens_wf(t:WQ):eZ (VC t):=DX _ _ _
def eZ.ne(h:eZ ts):ts≠[]:=by cases h<;>simp
def eZ.sign{ts:Vo}(h:eZ ts)(e:VD s ts=UB):eZ (ts.drop 1)/\↑(ts.drop 1)+1=↑ts:=by
 cases h with
 |over p=>simp [VD]at e
 |bad p k D=>simp [VD]at e
 |cons g r=>show(r,by simp)
def eZ.word{ts:Vo}(h:eZ ts)(e:Wj s ts=UB):eZ (ts.drop 1)/\↑(ts.drop 1)+1=↑ts:=by
 cases h with
 |over p=>simp [Wj]at e
 |bad p k D=>simp [Wj]at e
 |cons g r=>show(r,by simp)
def Lt(D ts:Vo):Prop:=eZ D/\↑D<↑ts
def Lt.trans(x:Lt a b)(y:Lt b c):Lt a c:=(x.1,acM x.2 y.2)
def jC{ts:Vo}(h:eZ ts)(e:VD s ts=UB):Lt (ts.drop 1) ts:=((h.sign e).1,by have:=(h.sign e).2;lia)
def jB{ts:Vo}(h:eZ ts)(e:Wj s ts=UB):Lt (ts.drop 1) ts:=((h.word e).1,by have:=(h.word e).2;lia)
def iR(h:eZ ts)(e:Vk s ts=.ok r):Lt r ts:=by
 unfold Vk at e;split at e
 .rename_i q;cases e;show jC h q
 .cases e
def E4(h:eZ ts)(e:Xs s ts=.ok r):Lt r ts:=by
 unfold Xs at e;split at e
 .rename_i q;cases e;show jB h q
 .cases e
def IP(h:eZ ts)(e:readName ts=.ok (w,r)):Lt r ts:=by
 cases h with
 |over p=>simp [readName]at e
 |bad p k E=>simp [readName]at e
 |@cons t q g D=>
  let(p,t):=t;cases t<;>simp only[readName]at e
  .split at e
   .cases e
   .cases e;show(D,by simp)
  all_goals cases e
def bind_ok{x:Except G D}{f:D->Except G E}(e:x.bind f=.ok b):∃a,x=.ok a/\f a=.ok b:=by
 cases x with
 |error z=>cases e
 |ok a=>show(a,Y,e)
def map_ok{x:Except G D}{f:D->E}(e:x.map f=.ok b):∃a,x=.ok a/\f a=b:=by
 cases x with
 |error z=>cases e
 |ok a=>show(a,Y,by injection e)
def Hu(h:eZ ts)(e:Yd I ts=.ok (k,r)):Lt r ts:=by
 let((w,q),E,D):=bind_ok e;split at D
 .cases D;show IP h E
 .cases D
def rM(h:eZ ts)(e:WJ I ts=.ok (x,r)):Lt r ts:=by
 unfold WJ at e;split at e
 .cases e;cases h with
  |cons g G=>show(G,by simp)
 .let((k,q),D,E):=map_ok e;cases E;show Hu h D
def lt_cond(h:eZ ts)(e:Z5 I ts=.ok (x,r)):Lt r ts:=by
 let((a,q),V,D):=bind_ok e;let G:=rM h V;dsimp only at D;split at D
 .rename_i s;let((b,W),O,U):=map_ok D;cases U;let E:=jC G.1 s;show((rM E.1 O).trans E).trans G
 .split at D
  .rename_i s;let((b,W),O,U):=map_ok D;cases U;let E:=jC G.1 s;show((rM E.1 O).trans E).trans G
  .cases D
def E5(h:eZ ts)(e:Yp ts=.ok (x,r)):Lt r ts:=by
 unfold Yp at e;split at e
 .rename_i q;cases e;show jB h q
 .split at e
  .rename_i q;cases e;show jB h q
  .cases e
inductive aj where
 |set (x:Nat) (e:VasepBase.Expr)
 |read (x y:Nat) (f:Field)
 |write (x:Nat) (f:Field) (e:VasepBase.Expr)
 |new (x:Nat)
 |free (x:Nat)
 |ifl (c:Cond) (t:Nat)
 |whl (c:Cond) (t:Nat)
 |els (t:Nat)
 |fin (t:Nat)
deriving DecidableEq
def aj.cons:aj->Code->Code
 |.set x e=>.set x e
 |.read x y f=>.read x y f
 |.write x f e=>.write x f e
 |.new x=>.new x
 |.free x=>.free x
 |_=>id
def aj.plain:aj->Bool
 |.set .. |.read .. |.write .. |.new .. |.free .. =>UB
 |_=>UF
def lL(I:List WQ)(x:Nat)(ts:Vo):Read aj:=
 if Wj "new" ts then .ok (.new x,ts.drop 1)
 else(WJ I ts).bind λe=>match e.1 with
  |.nil=>.ok (.set x .nil,e.2)
  |.var y=>if VD "." e.2 then(Yp (e.2.drop 1)).map λf=>(.read x y f.1,f.2)else .ok (.set x (.var y),e.2)
def mPlain(I:List WQ)(ts:Vo):Read aj:=
 (if Wj "free" ts then(Yd I (ts.drop 1)).map λx=>(aj.free x.1,x.2)
 else(Yd I ts).bind λx=>if VD "." x.2 then(Yp (x.2.drop 1)).bind λf=>(Vk "=" f.2).bind λq=>(WJ I q).map λe=>(aj.write x.1 f.1 e.1,e.2)else(Vk "=" x.2).bind λq=>lL I x.1 q).bind λs=>(Vk ";" s.2).map λr=>(s.1,r)
def LJ(I:List WQ)(x:Nat)(ts:Vo):readRight I x ts=(lL I x ts).map λl=>(l.1.cons,l.2):=by
 unfold readRight lL;split
 .rfl
 .cases WJ I ts with
  |error e=>rfl
  |ok e=>
   let(e,q):=e;cases e with
   |nil=>rfl
   |var y=>
    change(if VD "." q=UB then _ else _)=Wp _ (if VD "." q=UB then _ else _);split
    .cases Yp (q.drop 1)with
     |error e=>rfl
     |ok f=>rfl
    .rfl
def Ey(I:List WQ)(ts:Vo):readPlain I ts=(mPlain I ts).map λl=>(Prod.mk (l.1.cons) (l.2)):=by
 let G:∀(x:Read aj),((x.map λl=>(Prod.mk (l.1.cons) (l.2))).bind λs=>(Vk ";" s.2).map λr=>(Prod.mk (s.1) (r)))=(x.bind λs=>(Vk ";" s.2).map λr=>(Prod.mk (s.1) (r))).map λl=>(Prod.mk (l.1.cons) (l.2)):=λx=>by
  cases x with
  |error e=>rfl
  |ok a=>
   let(a,q):=a;change Wp _ (Vk ";" q)=Wp _ (Wp _ (Vk ";" q));cases Vk ";" q<;>rfl
 unfold readPlain mPlain;rw[<-G]
 congr 1
 split
 .cases Yd I (ts.drop 1)<;>rfl
 .cases Yd I ts with
  |error e=>rfl
  |ok x=>
   let(x,q):=x;change(if VD "." q=UB then _ else _)=Wp _ (if VD "." q=UB then _ else _);split
   .cases Yp (q.drop 1)with
    |error e=>rfl
    |ok f=>
     let(f,E):=f;change(Vk "=" E).bind _=Wp _ ((Vk "=" E).bind _);cases Vk "=" E with
     |error e=>rfl
     |ok D=>
      change Wp _ (WJ I D)=Wp _ (Wp _ (WJ I D));cases WJ I D<;>rfl
   .cases Vk "=" q with
    |error e=>rfl
    |ok D=>
     change readRight I x D=Wp _ (lL I x D);show LJ I x D
def lt_plain{l:aj}(h:eZ ts)(e:mPlain I ts=.ok (l,r)):Lt r ts/\l.plain=UB:=by
 unfold mPlain at e;let((l',q),W,e2):=bind_ok e;let(q',e3,e4):=map_ok e2;cases e4;let ab:Lt q ts/\l'.plain=UB:=by
  split at W
  .rename_i w;let((x,q1),e5,U):=map_ok W;cases U;let D:=jB h w;show((Hu D.1 e5).trans D,Y)
  .let((x,q1),e5,U):=bind_ok W;let D:=Hu h e5;dsimp only at U;split at U
   .rename_i s;let l2:=jC D.1 s;let((f,q2),e7,e8):=bind_ok U;let l3:=E5 l2.1 e7;let(q3,e9,O):=bind_ok e8;let E:=iR l3.1 e9;let((x',q4),Z,G):=map_ok O;cases G;show((rM E.1 Z).trans (E.trans (l3.trans (l2.trans D))),Y)
   .let(q3,e9,O):=bind_ok U;let E:=iR D.1 e9;unfold lL at O;split at O
    .rename_i w;cases O;show((jB E.1 w).trans (E.trans D),Y)
    .let((x',q4),Z,G):=bind_ok O;let V:=rM E.1 Z;dsimp only at G;split at G
     .cases G;show(V.trans (E.trans D),Y)
     .split at G
      .rename_i s;let((f,q5),an,ap):=map_ok G;cases ap;let l6:=jC V.1 s;show((E5 l6.1 an).trans (l6.trans (V.trans (E.trans D))),Y)
      .cases G;show(V.trans (E.trans D),Y)
 show((iR ab.1.1 e3).trans ab.1,ab.2)
end
section
open VasepBase
def aj.withT(t:Nat):aj->aj
 |.ifl c _=>.ifl c t
 |.whl c _=>.whl c t
 |.els _=>.els t
 |.fin _=>.fin t
 |l=>l
def aj.isIf:aj->Bool
 |.ifl .. =>UB
 |_=>UF
def aj.isWh:aj->Bool
 |.whl .. =>UB
 |_=>UF
def aj.isEls:aj->Bool
 |.els .. =>UB
 |_=>UF
def setT(L:List aj)(i t:Nat):List aj:=L.modify i (aj.withT t)
def setT_at(A B:List aj)(l:aj)(t:Nat):setT (A++l::B) ↑A t=A++l.withT t::B:=by
 unfold setT
 induction A with
 |nil=>rfl
 |cons a A D=>
  change List.modify (a::(A++l::B)) (↑A+1) _=_;rw[List.modify_succ_cons,D]
  rfl
structure PS where
 ts:Toks
 lines:List aj
 op:List Nat
def cE(L:List aj)(start:Nat):List aj:=
 let D:=if(L[start]?.any aj.isEls)&&start+1==↑L then L.dropLast else L
 setT (D++[.fin (if L[start]?.any aj.isWh then start else ↑D+1)]) start (↑D+1)
def fu(L:List aj)(start:Nat)(op:List Nat)(ts:Vo):Except V1 PS:=
 if(L[start]?.any aj.isIf)&&Wj "else" ts then(Vk "{" (ts.drop 1)).map λq=>(q,setT (L++[.els 0]) start (↑L+1),↑L::op)
 else .ok (ts,cE L start,op)
def iI(I:List WQ)(st:PS):Except V1 PS:=
 if ↑st.op=6 then .error (5,abl st.ts)
 else(Z5 I (st.ts.drop 1)).bind λc=>(Vk "{" c.2).map λq=>(q,st.lines++[if Wj "if" st.ts then .ifl c.1 0 else .whl c.1 0],↑st.lines::st.op)
def cG(I:List WQ)(st:PS):Except V1 PS:=
 match VD "}" st.ts,st.op with
 |true,start::op=>fu st.lines start op (st.ts.drop 1)
 |_,_=>if isWord "if" st.ts||isWord "while" st.ts then iI I st else(mPlain I st.ts).map λl=>(l.2,st.lines++[l.1],st.op)
def finalP(st:PS):Bool:=st.op.isEmpty&&Xh st.ts
def loopP(I:List WQ):Nat->PS->Option (Except V1 PS)
 |0,st=>if finalP st then Up (.ok st)else UH
 |n+1,st=>if finalP st then Up (.ok st)else match cG I st with
  |.error e=>Up (.error e)
  |.ok D=>loopP I n D
def Res(I:List WQ)(st:PS)(R:Except V1 PS):Prop:=∃n,loopP I n st=Up R
def Res.final{st:PS}{R:Except V1 PS}(h:Res I st R)(f:finalP st=UB):R=.ok st:=by
 let(n,e):=h;cases n<;>(unfold loopP at e;rw[ifp f]at e;cases e;rfl)
def i4{st D:PS}{R:Except V1 PS}(f:finalP st=UF)(e:cG I st=.ok D)(h:Res I D R):Res I st R:=by
 let(n,q):=h;show(n+1,?_);unfold loopP;rw[f,e];show q
def fV{st:PS}(f:finalP st=UF)(e:cG I st=.error x):Res I st (.error x):=by
 show(1,?_);unfold loopP;rw[f,e]
 rfl
def JT{st:PS}(f:finalP st=UB):Res I st (.ok st):=by
 show(0,?_);unfold loopP;rw[ifp f]
def len:Code->Nat
 |.done=>0
 |.set _ _ r=>len r+1
 |.read _ _ _ r=>len r+1
 |.write _ _ _ r=>len r+1
 |.new _ r=>len r+1
 |.free _ r=>len r+1
 |.ite _ a b r=>if b=.done then len a+2+len r else len a+len b+3+len r
 |.loop _ a r=>len a+2+len r
def flat:Nat->Code->List aj
 |_,.done=>[]
 |o,.set x e r=>.set x e::flat (o+1) r
 |o,.read x y f r=>.read x y f::flat (o+1) r
 |o,.write x f e r=>.write x f e::flat (o+1) r
 |o,.new x r=>.new x::flat (o+1) r
 |o,.free x r=>.free x::flat (o+1) r
 |o,.ite c a b r=>if b=.done then .ifl c (o+len a+2)::(flat (o+1) a++.fin (o+len a+2)::flat (o+len a+2) r)
  else .ifl c (o+len a+2)::(flat (o+1) a++.els (o+len a+len b+3)::(flat (o+len a+2) b++.fin (o+len a+len b+3)::flat (o+len a+len b+3) r))
 |o,.loop c a r=>.whl c (o+len a+2)::(flat (o+1) a++.fin o::flat (o+len a+2) r)
def bM:∀(c:Code)(o:Nat),↑(flat o c)=len c
 |.done,_=>rfl
 |.set _ _ r,o=>by simp only[flat,len,Ut,bM r]
 |.read _ _ _ r,o=>by simp only[flat,len,Ut,bM r]
 |.write _ _ _ r,o=>by simp only[flat,len,Ut,bM r]
 |.new _ r,o=>by simp only[flat,len,Ut,bM r]
 |.free _ r,o=>by simp only[flat,len,Ut,bM r]
 |.ite c a b r,o=>by
  simp only[flat,len];split
  .simp only[Ut,Us,bM a,bM r];lia
  .simp only[Ut,Us,bM a,bM b,bM r];lia
 |.loop c a r,o=>by simp only[flat,len,Ut,Us,bM a,bM r];lia
def Mq:∀(c:Code),len c=0->c=.done
 |.done,_=>rfl
 |.set _ _ r,h=>by simp [len]at h
 |.read _ _ _ r,h=>by simp [len]at h
 |.write _ _ _ r,h=>by simp [len]at h
 |.new _ r,h=>by simp [len]at h
 |.free _ r,h=>by simp [len]at h
 |.ite c a b r,h=>by
  simp only[len]at h;split at h<;>lia
 |.loop c a r,h=>by simp [len]at h
def Ky{l:aj}(h:l.plain=UB)(o:Nat)(r:Code):flat o (l.cons r)=l::flat (o+1) r:=by
 cases l<;>first|rfl|cases h
set_option tactic.hygienic true in
def wR(D:Wj "free" ts=UF)(h2:∀p w r,ts≠(p,abx w)::r):mPlain I ts=.error (W5 ts):=by
 let e:readName ts=.error (W5 ts):=by
  unfold readName;split
  .rename_i p w r;show absurd rfl (h2 p w r)
  .rfl
 unfold mPlain readVar;rw[D,e]
 rfl
def Hi(h:VD s ts=UB):mPlain I ts=.error (W5 ts):=by
 unfold VD at h;split at h
 .show wR rfl (λp w r z=>by cases z)
 .cases h
def Hj(h:Xh ts=UB):mPlain I ts=.error (W5 ts):=by
 unfold Xh at h;split at h
 .show wR rfl (λp w r z=>by cases z)
 .cases h
def JL(h:VD s ts=UB):Wj w ts=UF:=by
 unfold VD at h;split at h
 .rfl
 .cases h
def JX(h:Xh ts=UB):Wj w ts=UF:=by
 unfold Xh at h;split at h
 .rfl
 .cases h
def oU(h:Wj s ts=UB):VD w ts=UF:=by
 unfold Wj at h;split at h
 .rfl
 .cases h
end
section
open VasepBase
def Uc(I:List WQ)(f:Vo->Read Code)(d:Nat):Prop:=∀(ts:Vo)(L:List aj)(op:List Nat),eZ ts->↑op=d->
 (∀c D,f ts=.ok (c,D)->(VD "}" D||isOver D)=true/\eZ D/\↑D<=↑ts/\∀R,Res I (D,L++flat ↑L c,op) R->Res I (ts,L,op) R)/\
 ∀e,f ts=.error e->Res I (ts,L,op) (.error e)
def dW(A B:List aj)(l:aj):(A++l::B)[↑A]?=Up l:=by
 rw[UZ (UD _),Yt]
 rfl
def fS:finalP (ts,L,a::op)=UF:=rfl
def FD(h:Xh ts=UF):finalP (ts,L,op)=UF:=by unfold finalP;rw[h,Xl]
def MS(I:List WQ){ts:Vo}{A B:List aj}(h:VD "}" ts=UB)(D:Wj "else" (ts.drop 1)=UF):
  cG I (ts,A++.ifl c 0::B,↑A::op)=.ok (ts.drop 1,A++.ifl c (↑A+↑B+2)::(B++[.fin (↑A+↑B+2)]),op):=by
 unfold cG;simp only[h];unfold fu;rw[D,Xl];simp only[UA,if_false];unfold cE;rw[dW];simp only[V4,aj.isEls,aj.isWh,Xk,UA,if_false];rw[UK,US,setT_at];let e:↑(A++.ifl c 0::B)+1=↑A+↑B+2:=by simp;lia
 rw[e]
 rfl
def MQ(I:List WQ){ts:Vo}{A B:List aj}(h:VD "}" ts=UB):
  cG I (ts,A++.whl c 0::B,↑A::op)=.ok (ts.drop 1,A++.whl c (↑A+↑B+2)::(B++[.fin ↑A]),op):=by
 unfold cG;simp only[h];unfold fu;rw[dW];simp only[V4,aj.isIf,Xk,UA,if_false];unfold cE;rw[dW];simp only[V4,aj.isEls,aj.isWh,Xk,UA,if_false,if_true];rw[UK,US,setT_at];let e:↑(A++.whl c 0::B)+1=↑A+↑B+2:=by simp;lia
 rw[e]
 rfl
def HZ(I:List WQ){ts q:Vo}{A B:List aj}(h:VD "}" ts=UB)(E:Wj "else" (ts.drop 1)=UB)(D:Vk "{" ((ts.drop 1).drop 1)=.ok q):
  cG I (ts,A++.ifl c 0::B,↑A::op)=.ok (q,(A++.ifl c (↑A+↑B+2)::B)++[.els 0],↑(A++.ifl c 0::B)::op):=by
 unfold cG;simp only[h];unfold fu;rw[dW,E];simp only[V4,aj.isIf,Zz,if_true];rw[D];rw[UK,US,setT_at];let e:↑(A++.ifl c 0::B)+1=↑A+↑B+2:=by simp;lia
 rw[e];change Xv _=Xv _;rw[UK]
 rfl
def xZ(I:List WQ){ts:Vo}{A B:List aj}(h:VD "}" ts=UB)(E:Wj "else" (ts.drop 1)=UB)(D:Vk "{" ((ts.drop 1).drop 1)=.error x):
  cG I (ts,A++.ifl c 0::B,↑A::op)=.error x:=by
 unfold cG;simp only[h];unfold fu;rw[dW,E];simp only[V4,aj.isIf,Zz,if_true];rw[D]
 rfl
def KH(I:List WQ){ts:Vo}{A B:List aj}(h:VD "}" ts=UB)(D:B≠[]):
  cG I (ts,A++.els 0::B,↑A::op)=.ok (ts.drop 1,A++.els (↑A+↑B+2)::(B++[.fin (↑A+↑B+2)]),op):=by
 unfold cG;simp only[h];unfold fu;rw[dW];simp only[V4,aj.isIf,Xk,UA,if_false];unfold cE;rw[dW];let n:(↑A+1==↑(A++aj.els 0::B))=UF:=by
  cases B with
  |nil=>show absurd rfl D
  |cons b B=>apply beq_eq_false_iff_ne.mpr;simp
 rw[n];simp only[V4,aj.isEls,aj.isWh,Xl,UA,if_false];rw[UK,US,setT_at];let e:↑(A++.els 0::B)+1=↑A+↑B+2:=by simp;lia
 rw[e]
 rfl
def H_(I:List WQ){ts:Vo}{A:List aj}(h:VD "}" ts=UB):
  cG I (ts,A++[.els 0],↑A::op)=.ok (ts.drop 1,A++[.fin (↑A+1)],op):=by
 unfold cG;simp only[h];unfold fu;rw[dW];simp only[V4,aj.isIf,Xk,UA,if_false];unfold cE;rw[dW];let n:(↑A+1==↑(A++[aj.els 0]))=UB:=by simp
 rw[n];simp only[V4,aj.isEls,aj.isWh,Zz,if_true,UA,if_false,abL];rw[setT_at]
 rfl
def wg(I:List WQ)(h:(isSign "}" ts||isOver ts)=true)(n:isSign "}" ts=false):cG I (ts,L,a::op)=.error (faultAt ts):=by
 rw[n,Wm]at h;unfold cG;simp only[n,JX h,aba,UA,if_false,Hj h]
 rfl
def Bd(h:VD s ts=UF):Vk s ts=.error (W5 ts):=by unfold Vk;rw[h];rfl
def v7{ts:Vo}(h:VD s ts=UB):Vk s ts=.ok (ts.drop 1):=by unfold Vk;rw[h];rfl
def want_of{ts q:Vo}(h:Vk s ts=.ok q):VD s ts=UB/\q=ts.drop 1:=by
 unfold Vk at h;split at h
 .rename_i e;cases h;show(e,Y)
 .cases h
def Ap(I:List WQ){ts:Vo}{L:List aj}{op:List Nat}(h:(isWord "if" ts||isWord "while" ts)=true)(E:isWord "if" ts=w)(D:↑op≠6):
  cG I (ts,L,op)=(readCond I (ts.drop 1)).bind λc=>(Vk "{" c.2).map λq=>(q,L++[if w then .ifl c.1 0 else .whl c.1 0],↑L::op):=by
 let n:VD "}" ts=UF:=by
  cases e:isWord "if" ts with
  |true=>show oU e
  |false=>rw[e,Wm]at h;show oU h
 unfold cG;simp only[n,h,if_true];unfold iI;rw[ifn D,E]
def Aq(I:List WQ){op:List Nat}(h:(isWord "if" ts||isWord "while" ts)=true)(D:↑op=6):cG I (ts,L,op)=.error (5,here ts):=by
 let n:VD "}" ts=UF:=by
  cases e:isWord "if" ts with
  |true=>show oU e
  |false=>rw[e,Wm]at h;show oU h
 unfold cG;simp only[n,h,if_true];unfold iI;rw[ifp D]
end
section
open VasepBase
def nH{ts E:Vo}{L S:List aj}{g:Code->Code}(O:(∀c D,abP I block n E=.ok (Prod.mk (c) (D))->(VD "}" D||isOver D)=true/\eZ D/\↑D<=↑E/\∀R,Res I (D,(L++S)++flat ↑(L++S) c,op) R->Res I (E,L++S,op) R)/\
   ∀e,abP I block n E=.error e->Res I (E,L++S,op) (.error e))(hl:↑E<=↑ts)(hS:∀r,flat ↑L (g r)=S++flat (↑L+↑S) r)(reach:∀R,Res I (E,L++S,op) R->Res I (ts,L,op) R):
  (∀c D,((abP I block n E).map λr=>(Prod.mk (g r.1) (r.2)))=.ok (Prod.mk (c) (D))->(VD "}" D||isOver D)=true/\eZ D/\↑D<=↑ts/\∀R,Res I (D,L++flat ↑L c,op) R->Res I (ts,L,op) R)/\
   ∀e,((abP I block n E).map λr=>(Prod.mk (g r.1) (r.2)))=.error e->Res I (ts,L,op) (.error e):=by
 show(λc D e=>?_,λe h=>?_)
 .let((r,q),U,V):=map_ok e;cases V;let(W,h2,Z,h4):=O.1 r q U;show(W,h2,Vm Z hl,λR G=>reach R (h4 R ?_));rw[hS,<-UK]at G;rw[Us];show G
 .cases q:abP I block n E with
  |error x=>
   rw[q]at h;cases h;show reach _ (O.2 _ q)
  |ok a=>rw[q]at h;cases h
def Ak(I:List WQ)(d:Nat)(block:Option (Vo->Read Code))(hb:(block=UH/\d=6)\/∃f,block=Up f/\d<6/\Uc I f (d+1)):
  ∀(n:Nat)(ts:Vo)(L:List aj)(op:List Nat),eZ ts->↑op=d->↑ts<=n->
   (∀c D,readStmts I block n ts=.ok (c,D)->(VD "}" D||isOver D)=true/\eZ D/\↑D<=↑ts/\∀R,Res I (D,L++flat ↑L c,op) R->Res I (ts,L,op) R)/\
   ∀e,readStmts I block n ts=.error e->Res I (ts,L,op) (.error e):=by
 intro n
 induction n with
 |zero=>
  intro ts L op h _ hl;show absurd (Vc ⋯) h.ne
 |succ n ih=>
  intro ts L op hw V hl;unfold readStmts;by_cases h0:(VD "}" ts||isOver ts)=true
  .rw[ifp h0];show(λc D e=>?_,λe h=>by cases h);cases e;show(h0,hw,UD _,λR E=>?_);simpa [flat]using E
  .rw[ifn h0];let ns:VD "}" ts=UF:=by cases e:VD "}" ts with|true=>rw[e]at h0;simp at h0|false=>rfl
   let no:isOver ts=UF:=by cases e:isOver ts with|true=>rw[e]at h0;simp at h0|false=>rfl
   let U:∀{L op},finalP (ts,L,op)=UF:=λ{L op}=>FD no
   by_cases ab:isWord "if" ts=true
   .rw[ifp ab];let ap:(isWord "if" ts||isWord "while" ts)=true:=by rw[ab];rfl
    rcases hb with⟨rfl,h6⟩|⟨f,rfl,h6,hf⟩
    .show(λc D e=>(by cases e),λe h=>?_);cases h;show fV U (Aq I ap (by rw[V,h6]))
    .let st:=Ap (L:=L) I ap ab (op:=op) ⋯;simp only;let l0:=jB hw ab;cases ec:Z5 I (ts.drop 1)with
     |error x=>
      rw[ec]at st;show(λc D e=>(by cases e),λe h=>by cases h;show fV U st)
     |ok cq=>
      let(c,q):=cq;rw[ec]at st;let W:=(lt_cond l0.1 ec).trans l0;simp only[WG]at st⊢;unfold inBraces;cases ew:Vk "{" q with
      |error x=>
       rw[ew]at st;show(λc D e=>(by cases e),λe h=>by cases h;show fV U st)
      |ok o=>
       rw[ew]at st;let l2:=(iR W.1 ew).trans W;simp only[WG,Wp]at st⊢;let B:=hf o (L++[.ifl c 0]) (↑L::op) l2.1 (by rw[Ut,V]);cases ea:f o with
       |error x=>
        show(λc D e=>(by cases e),λe h=>by cases h;show i4 U st (B.2 _ ea))
       |ok av=>
        let(a,G):=av;let(b1,b2,b3,b4):=B.1 a G ea;let e1:L++[aj.ifl c 0]++flat ↑(L++[aj.ifl c 0]) a=L++.ifl c 0::flat (↑L+1) a:=by simp
        rw[e1]at b4;let go:∀R,Res I (G,L++.ifl c 0::flat (↑L+1) a,↑L::op) R->Res I (ts,L,op) R:=λR E=>i4 U st (b4 R E)
        simp only;cases O:VD "}" G with
        |false=>
         rw[Bd O];show(λc D e=>(by cases e),λe h=>by cases h;show go _ (fV fS (wg I b1 O)))
        |true=>
         rw[v7 O];let Z:=jC b2 O;simp only;let a6:↑G<↑ts:=aae b3 l2.2;cases ee:isWord "else" (G.drop 1)with
         |false=>
          simp only[UA,if_false];let cl:=MS I (A:=L) (B:=flat (↑L+1) a) (c:=c) (op:=op) O ee;rw[bM]at cl;show nH (S:=.ifl c (↑L+len a+2)::(flat (↑L+1) a++[.fin (↑L+len a+2)])) (g:=λr=>.ite c a .done r) (ih (G.drop 1) _ op Z.1 V (by have:=Z.2;lia)) (by have:=Z.2;lia) (λr=>?_) λR E=>go R (i4 fS cl E)
          let q1:↑L+↑(aj.ifl c (↑L+len a+2)::(flat (↑L+1) a++[aj.fin (↑L+len a+2)]))=↑L+len a+2:=by simp [bM];lia
          rw[q1];simp [flat]
         |true=>
          simp only[if_true];let l4:=jB Z.1 ee;cases a0:Vk "{" ((G.drop 1).drop 1)with
          |error x=>
           show(λc D e=>(by cases e),λe h=>by cases h;show go _ (fV fS (xZ I O ee a0)))
          |ok o2=>
           let l5:=iR l4.1 a0;simp only;let cl:=HZ I (A:=L) (B:=flat (↑L+1) a) (c:=c) (op:=op) O ee a0;rw[bM]at cl;let eL:↑(L++aj.ifl c 0::flat (↑L+1) a)=↑(L++aj.ifl c (↑L+len a+2)::flat (↑L+1) a):=by simp
           rw[eL]at cl;let B2:=hf o2 ((L++.ifl c (↑L+len a+2)::flat (↑L+1) a)++[.els 0]) (↑(L++aj.ifl c (↑L+len a+2)::flat (↑L+1) a)::op) l5.1 (by rw[Ut,V]);let bd:↑o2<↑G:=by have:=Z.2;have:=l4.2;have:=l5.2;lia
           cases ef:f o2 with
           |error x=>
            show(λc D e=>(by cases e),λe h=>by cases h;show go _ (i4 fS cl (B2.2 _ ef)))
           |ok bt=>
            let(b,t3):=bt;let(d1,d2,d3,d4):=B2.1 b t3 ef;let lA:↑(L++aj.ifl c (↑L+len a+2)::flat (↑L+1) a)=↑L+len a+1:=by simp [bM];lia
            let e2:(L++.ifl c (↑L+len a+2)::flat (↑L+1) a)++[aj.els 0]++flat ↑((L++.ifl c (↑L+len a+2)::flat (↑L+1) a)++[aj.els 0]) b=
              (L++.ifl c (↑L+len a+2)::flat (↑L+1) a)++.els 0::flat (↑L+len a+2) b:=by
             rw[Us,lA];simp
            rw[e2]at d4;let a1:∀R,Res I (t3,(L++.ifl c (↑L+len a+2)::flat (↑L+1) a)++.els 0::flat (↑L+len a+2) b,↑(L++aj.ifl c (↑L+len a+2)::flat (↑L+1) a)::op) R->Res I (ts,L,op) R:=
             λR E=>go R (i4 fS cl (d4 R E))
            simp only;cases eg:VD "}" t3 with
            |false=>
             rw[Bd eg];show(λc D e=>(by cases e),λe h=>by cases h;show a1 _ (fV fS (wg I d1 eg)))
            |true=>
             rw[v7 eg];let l6:=jC d2 eg;simp only;by_cases a2:b=.done
             .subst a2;let an:=H_ I (A:=L++aj.ifl c (↑L+len a+2)::flat (↑L+1) a) (op:=op) eg;show nH (S:=.ifl c (↑L+len a+2)::(flat (↑L+1) a++[.fin (↑L+len a+2)])) (g:=λr=>.ite c a .done r) (ih (t3.drop 1) _ op l6.1 V (by have:=l6.2;lia)) (by have:=l6.2;lia) (λr=>?_) λR E=>a1 R (i4 fS an ?_)
              .let q1:↑L+↑(aj.ifl c (↑L+len a+2)::(flat (↑L+1) a++[aj.fin (↑L+len a+2)]))=↑L+len a+2:=by simp [bM];lia
               rw[q1];simp [flat]
              .rw[lA];let q2:L++aj.ifl c (↑L+len a+2)::flat (↑L+1) a++[aj.fin (↑L+len a+1+1)]=L++aj.ifl c (↑L+len a+2)::(flat (↑L+1) a++[aj.fin (↑L+len a+2)]):=by simp
               rw[q2];show E
             .let nb:flat (↑L+len a+2) b≠[]:=λz=>a2 (Mq b (by rw[<-bM b (↑L+len a+2),z];rfl))
              let an:=KH I (A:=L++aj.ifl c (↑L+len a+2)::flat (↑L+1) a) (B:=flat (↑L+len a+2) b) (op:=op) eg nb;rw[lA,bM]at an;show nH (S:=.ifl c (↑L+len a+2)::(flat (↑L+1) a++.els (↑L+len a+len b+3)::(flat (↑L+len a+2) b++[.fin (↑L+len a+len b+3)]))) (g:=λr=>.ite c a b r) (ih (t3.drop 1) _ op l6.1 V (by have:=l6.2;lia)) (by have:=l6.2;lia) (λr=>?_) λR E=>a1 R ?_
              .let q1:↑L+↑(aj.ifl c (↑L+len a+2)::(flat (↑L+1) a++aj.els (↑L+len a+len b+3)::(flat (↑L+len a+2) b++[aj.fin (↑L+len a+len b+3)])))=↑L+len a+len b+3:=by simp [bM];lia
               rw[q1];simp [flat,a2]
              .let q3:↑L+len a+1+len b+2=↑L+len a+len b+3:=⋯
               rw[q3]at an;rw[lA];show i4 fS an ?_;let q2:L++aj.ifl c (↑L+len a+2)::flat (↑L+1) a++aj.els (↑L+len a+len b+3)::(flat (↑L+len a+2) b++[aj.fin (↑L+len a+len b+3)])=L++aj.ifl c (↑L+len a+2)::(flat (↑L+1) a++aj.els (↑L+len a+len b+3)::(flat (↑L+len a+2) b++[aj.fin (↑L+len a+len b+3)])):=by simp
               rw[q2];show E
   .rw[ifn ab];let a3:isWord "if" ts=UF:=by simpa using ab
    by_cases ar:isWord "while" ts=true
    .rw[ifp ar];let ap:(isWord "if" ts||isWord "while" ts)=true:=by rw[ar,acS]
     rcases hb with⟨rfl,h6⟩|⟨f,rfl,h6,hf⟩
     .show(λc D e=>(by cases e),λe h=>?_);cases h;show fV U (Aq I ap (by rw[V,h6]))
     .let st:=Ap (L:=L) I ap a3 (op:=op) ⋯;simp only;let l0:=jB hw ar;cases ec:Z5 I (ts.drop 1)with
      |error x=>
       rw[ec]at st;show(λc D e=>(by cases e),λe h=>by cases h;show fV U st)
      |ok cq=>
       let(c,q):=cq;rw[ec]at st;let W:=(lt_cond l0.1 ec).trans l0;simp only[WG]at st⊢;unfold inBraces;cases ew:Vk "{" q with
       |error x=>
        rw[ew]at st;show(λc D e=>(by cases e),λe h=>by cases h;show fV U st)
       |ok o=>
        rw[ew]at st;let l2:=(iR W.1 ew).trans W;simp only[WG,Wp,UA,if_false]at st⊢;let B:=hf o (L++[.whl c 0]) (↑L::op) l2.1 (by rw[Ut,V]);cases ea:f o with
        |error x=>
         show(λc D e=>(by cases e),λe h=>by cases h;show i4 U st (B.2 _ ea))
        |ok av=>
         let(a,G):=av;let(b1,b2,b3,b4):=B.1 a G ea;let e1:L++[aj.whl c 0]++flat ↑(L++[aj.whl c 0]) a=L++.whl c 0::flat (↑L+1) a:=by simp
         rw[e1]at b4;let go:∀R,Res I (G,L++.whl c 0::flat (↑L+1) a,↑L::op) R->Res I (ts,L,op) R:=λR E=>i4 U st (b4 R E)
         simp only;cases O:VD "}" G with
         |false=>
          rw[Bd O];show(λc D e=>(by cases e),λe h=>by cases h;show go _ (fV fS (wg I b1 O)))
         |true=>
          rw[v7 O];let Z:=jC b2 O;simp only;let a6:↑G<↑ts:=aae b3 l2.2;let cl:=MQ I (A:=L) (B:=flat (↑L+1) a) (c:=c) (op:=op) O;rw[bM]at cl;show nH (S:=.whl c (↑L+len a+2)::(flat (↑L+1) a++[.fin ↑L])) (g:=λr=>.loop c a r) (ih (G.drop 1) _ op Z.1 V (by have:=Z.2;lia)) (by have:=Z.2;lia) (λr=>?_) λR E=>go R (i4 fS cl E)
          let q1:↑L+↑(aj.whl c (↑L+len a+2)::(flat (↑L+1) a++[aj.fin ↑L]))=↑L+len a+2:=by simp [bM];lia
          rw[q1];simp [flat]
    .rw[ifn ar];let a5:isWord "while" ts=UF:=by simpa using ar
     let st:cG I (ts,L,op)=(mPlain I ts).map λl=>(l.2,L++[l.1],op):=by
      unfold cG;simp only[ns,a3,a5,aba,UA,if_false]
     rw[Ey];cases ep:mPlain I ts with
     |error x=>
      rw[ep]at st;show(λc D e=>(by cases e),λe h=>by cases h;show fV U st)
     |ok lq=>
      let(l,q):=lq;rw[ep]at st;let(W,a4):=lt_plain hw ep;simp only[Wp,WG]at st⊢;show nH (S:=[l]) (g:=λr=>l.cons r) (ih q (L++[l]) op W.1 V (by have:=W.2;lia)) (Xb W.2) (λr=>?_) λR E=>i4 U st E
      show Ky a4 _ _
def AT(I:List WQ):∀(k d:Nat),d+k=6->Uc I (Xr I k) d
 |0,d,h=>λts L op E D=>Ak I d UH (.inl (Y,⋯)) ↑ts ts L op E D (UD _)
 |k+1,d,h=>λts L op E D=>Ak I d (Up (Xr I k)) (.inr (_,Y,⋯,AT I k (d+1) ⋯)) ↑ts ts L op E D (UD _)
def body_res(I:List WQ)(ts:Vo)(O:eZ ts):Res I (ts,[],[]) ((Xr I ZD ts).bind λb=>if Xh b.2 then .ok (b.2,flat 0 b.1,[])else .error (W5 b.2)):=by
 let B:=AT I 6 0 rfl ts [] [] O rfl;unfold ZD;cases e:Xr I 6 ts with
 |error x=>show B.2 x e
 |ok a=>
  let(c,q):=a;let(D,h2,U,G):=B.1 c q e;show G _ ?_;change Res I _ (if Xh q then _ else _);cases E:Xh q with
  |true=>show JT (st:=(q,flat 0 c,[])) (by unfold finalP;rw[E];rfl)
  |false=>
   rw[E,XH]at D;show fV (FD E) ?_;change cG I (q,_,[])=_;unfold cG;simp only[D,JL D,aba,UA,if_false,Hi D]
   rfl
end
section
open VasepBase
def z8(L:List aj)(i:Nat)(M:List aj):Prop:=M<+:L.drop i
def z8.head{L M:List aj}(h:z8 L i (l::M)):L[i]?=Up l/\z8 L (i+1) M:=by
 let(B,e):=h;let D:(L.drop i)[0]?=Up l:=by rw[<-e];rfl
 rw[WP,Wy]at D;show(D,B,?_);let E:(L.drop i).drop 1=M++B:=by rw[<-e];rfl
 rw[V6]at E;show E.symm
def z8.app{L A B:List aj}(h:z8 L i (A++B)):z8 L i A/\z8 L (i+↑A) B:=by
 let(C,e):=h;show((B++C,by rw[<-UK];show e),C,?_);let D:(L.drop i).drop ↑A=B++C:=by rw[<-e,UK];simp
 rw[V6]at D;show D.symm
def tE(L:List aj)(j k:Nat):Prop:=L[j]?=Up (.els k)\/L[j]?=Up (.fin k)
inductive iT (L:List aj):Nat->List Code->Prop where
 |nil:iT L L.length []
 |top {i:Nat} {c:Code}:z8 L i (flat i c)->i+len c=L.length->iT L i [c]
 |blk {i k:Nat} {c:Code} {t:List Code}:z8 L i (flat i c)->tE L (i+len c) k->iT L k t->iT L i (c::t)
def iT.next{L:List aj}(h:iT L i (c::t))(D:flat i c=l::flat (i+1) r)(E:len c=len r+1):L[i]?=Up l/\iT L (i+1) (r::t):=by
 cases h with
 |top s e=>
  rw[D]at s;show(s.head.1,.top s.head.2 ⋯)
 |blk s j q=>
  rw[D]at s;show(s.head.1,.blk s.head.2 ?_ q);let e:i+1+len r=i+len c:=⋯
  rw[e];show j
def iT.done{L:List aj}(h:iT L i (.done::t)):(t=[]/\i=↑L)\/∃k,tE L i k/\iT L k t:=by
 cases h with
 |top s e=>show .inl (Y,by simpa [len]using e)
 |blk s j q=>show .inr (_,by simpa [len]using j,q)
def iT.loop{L:List aj}(h:iT L i (.loop q a r::t)):
  L[i]?=Up (.whl q (i+len a+2))/\iT L (i+1) (a::.loop q a r::t)/\iT L (i+len a+2) (r::t):=by
 let O:∀(s:z8 L i (flat i (.loop q a r))),L[i]?=Up (.whl q (i+len a+2))/\z8 L (i+1) (flat (i+1) a)/\tE L (i+1+len a) i/\z8 L (i+len a+2) (flat (i+len a+2) r):=λs=>by
  simp only[flat]at s;let(D,s1):=s.head;let(E,U):=s1.app;rw[bM]at U;let(W,G):=U.head;show(D,E,.inr W,?_);let e:i+len a+2=i+1+len a+1:=⋯
  rw[e];let V:flat (i+len a+2) r=flat (i+1+len a+1) r:=by rw[e]
  rw[<-V];show G
 let I:=h;cases h with
 |top s e=>
  let(D,E,j,G):=O s;show(D,.blk E j I,.top G ?_);simp only[len]at e;lia
 |blk s j q'=>
  let(D,E,Z,G):=O s;show(D,.blk E Z I,.blk G ?_ q');simp only[len]at j;let e:i+len a+2+len r=i+(len a+2+len r):=⋯
  rw[e];show j
def iT.ite{L:List aj}(h:iT L i (.ite q a b r::t)):
  L[i]?=Up (.ifl q (i+len a+2))/\iT L (i+1) (a::r::t)/\(if b=.done then iT L (i+len a+2) (r::t)else iT L (i+len a+2) (b::r::t)):=by
 by_cases E:b=.done
 .rw[ifp E];let D:∀(s:z8 L i (flat i (.ite q a b r))),L[i]?=Up (.ifl q (i+len a+2))/\z8 L (i+1) (flat (i+1) a)/\tE L (i+1+len a) (i+len a+2)/\z8 L (i+len a+2) (flat (i+len a+2) r):=λs=>by
   simp only[flat,ifp E]at s;let(U,Z):=s.head;let(s2,I):=Z.app;rw[bM]at I;let(V,O):=I.head;show(U,s2,.inr V,?_);let e:i+1+len a+1=i+len a+2:=⋯
   rw[e]at O;show O
  let G:iT L (i+len a+2) (r::t):=by
   cases h with
   |top s e=>
    show .top (D s).2.2.2 ?_;simp only[len,ifp E]at e;lia
   |blk s j W=>
    show .blk (D s).2.2.2 ?_ W;simp only[len,ifp E]at j;let e:i+len a+2+len r=i+(len a+2+len r):=⋯
    rw[e];show j
  let s:z8 L i (flat i (.ite q a b r)):=by cases h with|top s _=>show s|blk s _ _=>show s
  show((D s).1,.blk (D s).2.1 (D s).2.2.1 G,G)
 .rw[ifn E];let D:∀(s:z8 L i (flat i (.ite q a b r))),L[i]?=Up (.ifl q (i+len a+2))/\z8 L (i+1) (flat (i+1) a)/\tE L (i+1+len a) (i+len a+len b+3)/\
    z8 L (i+len a+2) (flat (i+len a+2) b)/\tE L (i+len a+2+len b) (i+len a+len b+3)/\z8 L (i+len a+len b+3) (flat (i+len a+len b+3) r):=λs=>by
   simp only[flat,ifn E]at s;let(U,Z):=s.head;let(s2,I):=Z.app;rw[bM]at I;let(V,O):=I.head;let(s5,s6):=O.app;rw[bM]at s6;let(h7,s8):=s6.head;let e1:i+1+len a+1=i+len a+2:=⋯
   let e2:i+1+len a+1+len b=i+len a+2+len b:=⋯
   let e3:i+1+len a+1+len b+1=i+len a+len b+3:=⋯
   rw[e1]at s5;rw[e2]at h7;rw[e3]at s8;show(U,s2,.inl V,s5,.inr h7,s8)
  let G:iT L (i+len a+len b+3) (r::t):=by
   cases h with
   |top s e=>
    show .top (D s).2.2.2.2.2 ?_;simp only[len,ifn E]at e;lia
   |blk s j W=>
    show .blk (D s).2.2.2.2.2 ?_ W;simp only[len,ifn E]at j;let e:i+len a+len b+3+len r=i+(len a+len b+3+len r):=⋯
    rw[e];show j
  let s:z8 L i (flat i (.ite q a b r)):=by cases h with|top s _=>show s|blk s _ _=>show s
  let(k1,k2,k3,k4,k5,k6):=D s;show(k1,.blk k2 k3 G,.blk k4 k5 G)
def rep_start(c:Code):iT (flat 0 c) 0 [c]:=.top ([],by simp) (by simp [bM])
def headLine(i:Nat):Code->Option aj
 |.done=>UH
 |.set x e _=>Up (.set x e)
 |.read x y f _=>Up (.read x y f)
 |.write x f e _=>Up (.write x f e)
 |.new x _=>Up (.new x)
 |.free x _=>Up (.free x)
 |.ite q a _ _=>Up (.ifl q (i+len a+2))
 |.loop q a _=>Up (.whl q (i+len a+2))
def iT.head{L:List aj}(h:iT L i (c::t))(D:headLine i c=Up l):L[i]?=Up l:=by
 cases c with
 |done=>cases D
 |set x e r=>cases D;show(h.next rfl rfl).1
 |read x y f r=>cases D;show(h.next rfl rfl).1
 |write x f e r=>cases D;show(h.next rfl rfl).1
 |new x r=>cases D;show(h.next rfl rfl).1
 |free x r=>cases D;show(h.next rfl rfl).1
 |ite q a b r=>cases D;show h.ite.1
 |loop q a r=>cases D;show h.loop.1
def iT.lt{L:List aj}(h:iT L i (c::t))(D:c≠.done):i<↑L:=by
 have:∃l,headLine i c=Up l:=by cases c<;>first|show absurd rfl D|show(_,rfl)
 let(l,e):=this;show(UO.mp (h.head e)).1
def iT.le{L:List aj}(h:iT L i t):i<=↑L:=by
 cases h with
 |nil=>show UD _
 |top s e=>lia
 |blk s j q=>
  rcases j with j|j
  .have:=(UO.mp j).1;lia
  .have:=(UO.mp j).1;lia
def leave_cons(h:c≠.done):aaj (c::t)=c::t:=by
 cases c<;>first|show absurd rfl h|rfl
end
section
open VasepBase Vasepa
def aL(h:Uu):Prop:=h.Pairwise λc d=>c.at_<d.at_
def cellAt_some{c:ZC}(e:U7 h a=Up c):c∈h/\c.at_=a:=by
 unfold U7 at e;show(List.mem_of_find?_eq_some e,by have:=List.find?_some e;simpa using this)
def cellAt_cons(d:ZC)(h:Uu)(a:Nat):U7 (d::h) a=if d.at_=a then Up d else U7 h a:=by
 unfold U7;rw[Xu];by_cases e:d.at_=a
 .simp [e]
 .have:(d.at_==a)=UF:=beq_eq_false_iff_ne.mpr e;simp [this,e]
def cellAt_mem(r:aL h){c:ZC}(D:c∈h):U7 h c.at_=Up c:=by
 induction h with
 |nil=>cases D
 |cons d h E=>
  rw[cellAt_cons];let(G,I):=Vg.mp r;rcases UP.mp D with e|e
  .subst e;rw[ifp rfl]
  .rw[ifn (Vl (G c e))];show E I e
def x_(l:∀d∈h,a<d.at_):U7 h a=UH:=by
 unfold U7;apply List.find?_eq_none.mpr;intro d D;have:=l d D;simp;lia
def put_mem:∀{h:Uu}{d:ZC},d∈Wf c h->d=c\/d∈h
 |[],d,D=>by simp [Wf]at D;show .inl D
 |e::h,d,D=>by
  simp only[Wf]at D;split at D
  .rcases UP.mp D with z|z
   .show .inl z
   .show .inr z
  .split at D
   .rcases UP.mp D with z|z
    .show .inl z
    .show .inr (UR _ z)
   .rcases UP.mp D with z|z
    .show .inr (by rw[z];show UU)
    .rcases put_mem z with q|q
     .show .inl q
     .show .inr (UR _ q)
def put_rising:∀{h:Uu},aL h->aL (Wf c h)
 |[],_=>by simp [Wf,aL]
 |d::h,r=>by
  let(E,G):=Vg.mp r;simp only[Wf];split
  .rename_i l;show Vg.mpr (λe I=>?_,r);rcases UP.mp I with z|z
   .rw[z];show l
   .show acM l (E e z)
  .split
   .rename_i l e;show Vg.mpr (λx D=>by rw[e];show E x D,G)
   .rename_i l e;show Vg.mpr (λx D=>?_,put_rising G);rcases put_mem D with z|z
    .rw[z];lia
    .show E x z
def put_at{c:ZC}:∀{h:Uu},aL h->∀a,U7 (Wf c h) a=if c.at_=a then Up c else U7 h a
 |[],_,a=>by simp only[Wf,cellAt_cons]
 |d::h,r,a=>by
  let(E,D):=Vg.mp r;simp only[Wf];split
  .rw[cellAt_cons]
  .split
   .rename_i l e;rw[cellAt_cons,cellAt_cons];by_cases q:c.at_=a
    .rw[ifp q,ifp q]
    .rw[ifn q,ifn q,ifn (by rw[<-e];show q)]
   .rename_i l e;rw[cellAt_cons,cellAt_cons,put_at D a];by_cases q:d.at_=a
    .rw[ifp q,ifp q,ifn ⋯]
    .rw[ifn q,ifn q]
def without_rising(r:aL h)(a:Nat):aL (without h a):=r.sublist List.filter_sublist
def iX(h:Uu)(a b:Nat):U7 (without h a) b=if b=a then UH else U7 h b:=by
 induction h with
 |nil=>simp [without,U7]
 |cons d h D=>
  unfold without at D⊢;rw[V7];by_cases e:d.at_=a
  .have:(d.at_ !=a)=UF:=by simp [e]
   rw[this];simp only[UA,if_false];rw[D,cellAt_cons];by_cases q:b=a
   .rw[ifp q,ifp q]
   .rw[ifn q,ifn q,ifn (by rw[e];show WX q)]
  .have:(d.at_ !=a)=UB:=by simp [e]
   rw[this];simp only[if_true];rw[cellAt_cons,cellAt_cons,D];by_cases q:d.at_=b
   .rw[ifp q,ifp q,ifn (by rw[<-q];show e)]
   .rw[ifn q,ifn q]
def rising_nodup{h:Uu}(r:aL h):(h.map (·.at_)).Nodup:=by
 unfold List.Nodup;rw[Za];show r.imp λq=>Vl q
def rising_ext:∀{h k:Uu},aL h->aL k->(∀a,U7 h a=U7 k a)->h=k
 |[],[],_,_,_=>rfl
 |[],d::k,_,U,e=>by have:=e d.at_;rw[cellAt_cons,ifp rfl]at this;cases this
 |c::h,[],O,_,e=>by have:=e c.at_;rw[cellAt_cons,ifp rfl]at this;cases this
 |c::h,d::k,O,U,e=>by
  let(I,h2):=Vg.mp O;let(k1,k2):=Vg.mp U;let D:=e c.at_;let E:=e d.at_;rw[cellAt_cons,ifp rfl,cellAt_cons]at D;rw[cellAt_cons,cellAt_cons,ifp rfl]at E;let V:c=d:=by
   by_cases q:d.at_=c.at_
   .rw[ifp q]at D;cases D;rfl
   .rw[ifn q]at D;rw[ifn (WX q)]at E;let W:=(cellAt_some D.symm).1;let Z:=(cellAt_some E).1;have:=k1 c W;have:=I d Z;lia
  subst V
  congr 1
  show rising_ext h2 k2 λa=>?_
  have:=e a;rw[cellAt_cons,cellAt_cons]at this;by_cases q:c.at_=a
  .rw[x_ (λd G=>by rw[<-q];show I d G),x_ (λd G=>by rw[<-q];show k1 d G)]
  .rw[ifn q,ifn q]at this;show this
def Bounds(h:Uu):Prop:=∀c∈h,1<=c.at_/\c.at_<=12/\c.next<=99/\c.data<=99
def cellsFrom_ok:∀(n:Nat)(l:List Int)(a:Nat)(h:Uu),↑l<=n->cellsFrom a l=Up h->aL h/\Bounds h/\∀c∈h,a<c.at_:=by
 intro n
 induction n with
 |zero=>
  intro l a h G e;have:l=[]:=Vc ⋯;subst this;simp only[cellsFrom]at e;cases e;show(.nil,(λc D=>by cases D),λc D=>by cases D)
 |succ n ih=>
  intro l a h G e
  match l,e with
  |[],e=>
   simp only[cellsFrom]at e;cases e;show(.nil,(λc D=>by cases D),λc D=>by cases D)
  |[_],e=>simp [cellsFrom]at e
  |[_,_],e=>simp [cellsFrom]at e
  |x::y::z::r,e=>
   simp only[cellsFrom]at e;split at e
   .rename_i q;let(q1,q2,O,U):=q;let(k,V,W):=X2.mp e;subst W;simp only[Ut]at G;let(i1,i2,I):=ih r x.toNat k ⋯ V;unfold XJ NUMBER at O U;unfold Ye at q2;simp only[Vb,decide_eq_true_eq]at O U;show(Vg.mpr (λd Z=>I d Z,i1),λc D=>?_,λc D=>?_)
    .rcases UP.mp D with E|E
     .subst E;dsimp only;lia
     .show i2 c E
    .rcases UP.mp D with E|E
     .subst E;dsimp only;lia
     .have:=I c E;lia
   .cases e
inductive RC (h:VasepBase.Heap) (l:List Nat):Nat->Prop where
 |base {a:Nat} {c:Cell}:a∈l->cellAt h a=some c->RC h l a
 |next {d a:Nat} {c e:Cell}:RC h l d->cellAt h d=some c->(c.next=a\/c.data=a)->cellAt h a=some e->RC h l a
def eA(h:Uu)(l:List Nat):List Nat:=(h.filter λc=>l.contains c.at_||h.any λd=>l.contains d.at_&&(d.next==c.at_||d.data==c.at_)).map λc=>c.at_
def i5(h:Uu)(n:Nat)(l:List Nat):abN h (n+1) l=abN h n (eA h l):=rfl
def ij(r:aL h):a∈eA h l↔∃c,U7 h a=Up c/\(a∈l\/∃d∈h,d.at_∈l/\(d.next=a\/d.data=a)):=by
 unfold eA;rw[U6];constructor
 .rintro⟨c,E,rfl⟩;let(D,h2):=V5.mp E;show(c,cellAt_mem r D,?_);simp only[Wn,UV,Zu,Vb,beq_iff_eq]at h2;rcases h2 with z|⟨d,G,I,O⟩
  .show .inl z
  .show .inr (d,G,I,O)
 .rintro⟨c,E,q⟩;let(D,h2):=cellAt_some E;show(c,V5.mpr (D,?_),h2);simp only[Wn,UV,Zu,Vb,beq_iff_eq];rw[h2];rcases q with z|⟨d,G,I,O⟩
  .show .inl z
  .show .inr (d,G,I,O)
def M5(h:Uu)(l:List Nat):Prop:=∀d a c e,d∈l->U7 h d=Up c->(c.next=a\/c.data=a)->U7 h a=Up e->a∈l
def uh(r:aL h):∀(n:Nat)(l:List Nat),(∀a∈l,RC h E a)->∀a∈reachFrom h n l,RC h E a
 |0,l,q,a,D=>q a D
 |n+1,l,q,a,D=>by
  rw[i5]at D;show uh r n (eA h l) (λb G=>?_) a D;let(c,I,z):=(ij r).mp G;rcases z with z|⟨d,O,U,V⟩
  .show q b z
  .show .next (q _ U) (cellAt_mem r O) V I
def pE(h:Uu)(l:List Nat):Prop:=l=(h.filter λc=>l.contains c.at_).map λc=>c.at_
def lz(r:aL h)(l:List Nat):pE h (eA h l):=by
 unfold pE;let e:(h.filter λc=>(eA h l).contains c.at_)=h.filter λc=>l.contains c.at_||h.any λd=>l.contains d.at_&&(d.next==c.at_||d.data==c.at_):=by
  apply Ze;intro c D;rw[Vv,UV,ij r];simp only[Wn,UV,Zu,Vb,beq_iff_eq];constructor
  .rintro⟨e,E,q⟩;show q
  .intro q;show(c,cellAt_mem r D,q)
 rw[e]
 rfl
def filter_grow{p q:ZC->Bool}(O:∀c,p c=UB->q c=UB):∀h:Uu,↑(h.filter p)<=↑(h.filter q)/\(↑(h.filter p)=↑(h.filter q)->∀c∈h,q c=UB->p c=UB)
 |[]=>(UD _,λ_ c D=>by cases D)
 |d::h=>by
  let(V,U):=filter_grow O h;rw[V7,V7];cases I:p d with
  |true=>
   rw[O d I];simp only[if_true,Ut];show(⋯,λe c D E=>?_);rcases UP.mp D with z|z
   .rw[z];show I
   .show U ⋯ c z E
  |false=>
   cases E:q d with
   |true=>
    simp only[UA,if_false,if_true,Ut];show(⋯,λe=>⋯)
   |false=>
    simp only[UA,if_false];show(V,λe c D G=>?_);rcases UP.mp D with z|z
    .rw[z,E]at G;cases G
    .show U e c z G
def rj{h:Uu}(r:aL h):∀(n:Nat)(l:List Nat),pE h l->↑h<=↑l+n->M5 h (abN h n l)/\∀a∈l,a∈abN h n l
 |0,l,p,hn=>by
  show(λd a c e W D Z G=>?_,λa E=>E);let hl:↑l=↑(h.filter λc=>l.contains c.at_):=by
   let q:pE h l:=p;unfold pE at q;have:=congrArg Xc q;rw[Uq]at this;show this
  have:=(filter_grow (p:=λc=>l.contains c.at_) (q:=λ_=>UB) (λ_ _=>rfl) h).2 (by
   let q0:(h.filter λ_=>UB)=h:=ZS.mpr λ_ _=>rfl
   let I:=WK (λc:ZC=>l.contains c.at_) h;rw[q0,<-hl];lia) e (cellAt_some G).1 rfl
  rw[UV,(cellAt_some G).2]at this;show this
 |n+1,l,p,hn=>by
  rw[i5];let hl:↑l=↑(h.filter λc=>l.contains c.at_):=by
   let q:pE h l:=p;unfold pE at q;have:=congrArg Xc q;rw[Uq]at this;show this
  let sub:∀a∈l,a∈eA h l:=λa E=>by
   let q:pE h l:=p;unfold pE at q;rw[q]at E;let(c,D,e):=U6.mp E;let(h1,h2):=V5.mp D;rw[UV]at h2;subst e;show(ij r).mpr (c,cellAt_mem r h1,.inl h2)
  let an:↑(eA h l)=↑(h.filter λc=>(eA h l).contains c.at_):=by
   let q:pE h (eA h l):=lz r l;unfold pE at q;have:=congrArg Xc q;rw[Uq]at this;show this
  let V:=filter_grow (p:=λc=>l.contains c.at_) (q:=λc=>(eA h l).contains c.at_) (λc D=>by
   rw[UV]at D⊢;show sub _ D) h
  by_cases e:↑(eA h l)=↑l
  .
   let U:∀a∈eA h l,a∈l:=λa E=>by
    let(c,D,_):=(ij r).mp E;have:=V.2 ⋯ c (cellAt_some D).1 (by rw[UV,(cellAt_some D).2];show E);rw[UV,(cellAt_some D).2]at this;show this
   let same:eA h l=l:=by
    let I:pE h (eA h l):=lz r l;let O:pE h l:=p;unfold pE at I O;rw[I,O]
    congr 1
    apply Ze;intro c D;rw[Vv,UV,UV];rw[<-O];show(λz=>U _ z,λz=>sub _ z)
   let cl:M5 h l:=λd a c e W D Z G=>U a ((ij r).mpr (e,G,.inr (c,(cellAt_some D).1,by rw[(cellAt_some D).2];show W,Z)))
   let ab:∀m,abN h m l=l:=λm=>by
    induction m with
    |zero=>rfl
    |succ m ih=>rw[i5,same];show ih
   rw[same,ab n];show(cl,λa E=>E)
  .let(i1,i2):=rj r n (eA h l) (lz r l) (by have:=V.1;lia);show(i1,λa E=>i2 a (sub a E))
def reached_iff(r:aL h)(l:List Nat)(a:Nat):a∈reachedFrom h l↔RC h l a:=by
 let Z:pE h ((h.filter λc=>l.contains c.at_).map λc=>c.at_):=by
  unfold pE
  congr 1
  apply Ze;intro c D;rw[Vv,UV,UV,U6];constructor
  .intro z;show(c,V5.mpr (D,by rw[UV];show z),Y)
  .rintro⟨d,O,e⟩;rw[<-e];have:=(V5.mp O).2;rw[UV]at this;show this
 unfold reachedFrom;constructor
 .show uh r _ _ (λb I=>?_) a;let(c,D,e):=U6.mp I;let(E,h2):=V5.mp D;rw[UV]at h2;subst e;show .base h2 (cellAt_mem r E)
 .intro z;let(cl,sub):=rj r ↑h _ Z (Nat.le_add_left _ _)
  induction z with
  |base G D=>
   apply sub;rw[U6];show(_,V5.mpr ((cellAt_some D).1,by rw[UV,(cellAt_some D).2];show G),(cellAt_some D).2)
  |next _ D V U W=>show cl _ _ _ _ W D V U
end
section
open VasepBase Vasepa
def bp(I:List WQ):aj->WQ
 |.set x e=>nameAt I x++(Uz " = "++(U0 I e++[59]))
 |.read x y f=>nameAt I x++(Uz " = "++(nameAt I y++(Z3 f++[59])))
 |.write x f e=>nameAt I x++(Z3 f++(Uz " = "++(U0 I e++[59])))
 |.new x=>nameAt I x++Uz " = new;"
 |.free x=>Uz "free "++(nameAt I x++[59])
 |.ifl c _=>Uz "if "++(Xe I c++Uz " {")
 |.whl c _=>Uz "while "++(Xe I c++Uz " {")
 |.els _=>Uz "} else {"
 |.fin _=>Uz "}"
def aj.down:aj->Bool
 |.els _|.fin _=>UB
 |_=>UF
def aj.up:aj->Bool
 |.ifl .. |.whl .. |.els _=>UB
 |_=>UF
def cK(I:List WQ):Nat->List aj->WQ
 |_,[]=>[]
 |d,l::r=>pad (if l.down then d-1 else d)++(bp I l++(10::cK I ((if l.down then d-1 else d)+(if l.up then 1 else 0)) r))
def hZ:Uz ";\n"=[59,10]:=()
def qL:Uz " {\n"=Uz " {"++[10]:=()
def oR:Uz "}\n"=Uz "}"++[10]:=()
def Ik:Uz "} else {\n"=Uz "} else {"++[10]:=()
def KR:Uz " = new;"=Uz " = new"++[59]:=()
def cJ(I:List WQ):∀(c:Code)(o d:Nat)(R:List aj),cK I d (flat o c++R)=ZB I d c++cK I d R
 |.done,o,d,R=>rfl
 |.set x e r,o,d,R=>by
  simp only[flat,US,cK,aj.down,aj.up,UA,if_false,Wy,cJ I r,ZB,line,bp,hZ];simp [UK]
 |.read x y f r,o,d,R=>by
  simp only[flat,US,cK,aj.down,aj.up,UA,if_false,Wy,cJ I r,ZB,line,bp,hZ];simp [UK]
 |.write x f e r,o,d,R=>by
  simp only[flat,US,cK,aj.down,aj.up,UA,if_false,Wy,cJ I r,ZB,line,bp,hZ];simp [UK]
 |.new x r,o,d,R=>by
  simp only[flat,US,cK,aj.down,aj.up,UA,if_false,Wy,cJ I r,ZB,line,bp,hZ,KR];simp [UK]
 |.free x r,o,d,R=>by
  simp only[flat,US,cK,aj.down,aj.up,UA,if_false,Wy,cJ I r,ZB,line,bp,hZ];simp [UK]
 |.ite c a b r,o,d,R=>by
  by_cases D:b=.done
  .simp only[flat,ifp D,US,UK,cK,aj.down,aj.up,UA,if_false,if_true,cJ I a,cJ I r,ZB,bp,qL,oR,X3,Wy];simp [UK]
  .simp only[flat,ifn D,US,UK,cK,aj.down,aj.up,UA,if_false,if_true,cJ I a,cJ I b,cJ I r,ZB,bp,qL,oR,Ik,X3,Wy];simp [UK]
 |.loop c a r,o,d,R=>by
  simp only[flat,US,UK,cK,aj.down,aj.up,UA,if_false,if_true,cJ I a,cJ I r,ZB,bp,qL,oR,X3,Wy];simp [UK]
def written_eq(I:List WQ)(c:Code)(D:I≠[]):Uz "vars "++(aep I++(59::10::cK I 0 (flat 0 c)))=XU {names:=I,body:=c}:=by
 let h:=cJ I c 0 0 [];rw[VB]at h;unfold XU;cases I with
 |nil=>show absurd rfl D
 |cons n r=>
  rw[h];simp [hZ,cK]
end
section
open VasepBase
def fine(t:Nat×Tok):Prop:=(iQ t).text.length<=12/\t.2≠.bad 4
def pF(w:Nat):∀(k:Nat)(t:Text),(∀x∈tokensIn w k t,fine x)/\↑(tokensIn w k t)<=↑t+1:=by
 intro k
 induction k with
 |zero=>intro t;show(λx O=>by rw[tokensIn,Vh]at O;subst O;show(by change 0<=12;decide,by intro z;cases z),by simp [tokensIn])
 |succ k E=>
  intro t;let I:∀x:Nat×Tok,fine x->∀(r:Text),(∀y∈[x],fine y)/\[x].length<=↑r+1:=λx h r=>(λy D=>by rw[Vh]at D;subst D;show h,by simp)
  let G:∀(x:Nat×Tok)(s r:Text),fine x->↑s<↑r->(∀y∈x::tokensIn w k s,fine y)/\↑(x::tokensIn w k s)<=↑r+1:=λx s r h U=>by
   show(λy D=>?_,by have:=(E s).2;rw[Ut];lia);rcases UP.mp D with z|z
   .subst z;show h
   .show(E s).1 y z
  let less:∀(s r:Text),↑s<=↑r->(∀y∈tokensIn w k s,fine y)/\↑(tokensIn w k s)<=↑r+1:=λs r U=>((E s).1,by have:=(E s).2;lia)
  cases t with
  |nil=>show I (w,.over) (by change 0<=12;decide,by intro z;cases z) []
  |cons c r=>
   simp only[tokensIn];split
   .show less r (c::r) (by simp)
   .split
    .show less _ (c::r) (by have:=dropWhile_length (λx=>x !=10) r;rw[Ut];lia)
    .split
     .split
      .show I _ (by change 0<=12;decide,by intro z;cases z) _
      .rename_i h;show G _ _ (c::r) (?_,by intro z;cases z) (by have:=dropWhile_length VO r;rw[Ut];lia);unfold WORD at h;change↑(c::r.takeWhile VO)<=12;lia
     .split
      .split
       .show G _ r (c::r) (by change 1<=12;decide,by intro z;cases z) (by simp)
       .show I _ (by change 0<=12;decide,by intro z;cases z) _
      .split
       .show G _ _ (c::r) (?_,by intro z;cases z) (by rw[Vx,Ut];lia);change↑(c::r.take 1)<=12;rw[Ut,VL];lia
       .split
        .show G _ r (c::r) (by change 1<=12;decide,by intro z;cases z) (by simp)
        .show I _ (by change 0<=12;decide,by intro z;cases z) _
def tokens_fine(t:WQ):∀x∈tokens t,fine x:=(pF _ _ _).1
def tokens_len(t:WQ):↑(VC t)<=↑t+1:=(pF _ _ _).2
end
section
open VasepBase
def without_lt{h:Uu}(e:U7 h x=Up c):↑(without h x)<↑h:=by
 let(m,q):=cellAt_some e;let D:=filter_grow (p:=λc=>c.at_ !=x) (q:=λ_=>UB) (λ_ _=>rfl) h;let h2:(h.filter λ_=>UB)=h:=ZS.mpr λ_ _=>rfl
 rw[h2]at D;show Nat.lt_of_le_of_ne D.1 λz=>?_
 have:=D.2 z c m rfl;rw[q]at this;simp at this
def without_one{h:Uu}(r:aL h)(e:U7 h x=Up c):↑(without h x)+1=↑h:=by
 induction h with
 |nil=>cases e
 |cons d h E=>
  let(G,I):=Vg.mp r;rw[cellAt_cons]at e;by_cases q:d.at_=x
  .have:without (d::h) x=h:=by
    unfold without;rw[V7,ifn (by simp [q]),ZS];intro y D;have:=G y D;rw[bne_iff_ne];lia
   rw[this];rfl
  .rw[ifn q]at e;have:without (d::h) x=d::without h x:=by
    unfold without;rw[V7,ifp (by simp [q])]
   rw[this,Ut,Ut,E I e]
def takeF(h:Uu)(D:List Nat):Option Uu:=match D with
 |[]=>Up h
 |x::t=>if x=0 then takeF h t else match e:U7 h x with
  |none=>UH
  |some c=>takeF (without h x) (c.data::c.next::t)
termination_by 3*↑h+↑D
decreasing_by
 .simp only[Ut];lia
 .have:=without_lt e;simp only[Ut];lia
def takeF_nil(h:Uu):takeF h []=Up h:=by rw[takeF]
def takeF_zero(h:Uu)(t:List Nat):takeF h (0::t)=takeF h t:=by rw[takeF,ifp rfl]
set_option tactic.hygienic true in
def takeF_none(D:x≠0)(e:U7 h x=UH):takeF h (x::t)=UH:=by
 rw[takeF,ifn D];split
 .rfl
 .rename_i c q;rw[e]at q;cases q
set_option tactic.hygienic true in
def takeF_some{c:ZC}(D:x≠0)(e:U7 h x=Up c):takeF h (x::t)=takeF (without h x) (c.data::c.next::t):=by
 rw[takeF,ifn D];split
 .rename_i q;rw[e]at q;cases q
 .rename_i d q;rw[e]at q;cases q;rfl
def pI(h:Uu)(x:Nat)(t:List Nat):Option Uu:=if x=0 then takeF h t else match U7 h x with
 |none=>UH
 |some c=>takeF (without h x) (c.data::c.next::t)
def fZ(h:Uu)(x:Nat)(t:List Nat):takeF h (x::t)=pI h x t:=by
 unfold pI;by_cases D:x=0
 .rw[ifp D,D,takeF_zero]
 .rw[ifn D];cases e:U7 h x with
  |none=>show takeF_none D e
  |some c=>show takeF_some D e
def Bb(h:Uu)(x y:Nat):without (without h x) y=without (without h y) x:=by
 unfold without;rw[acn,acn]
 congr 1
 funext c
 show Bool.and_comm _ _
def Gn:∀(n:Nat)(h:Uu)(I us:List Nat),3*↑h+↑I<=n->I.Perm us->takeF h I=takeF h us:=by
 intro n
 induction n with
 |zero=>
  intro h I us hn p;have:I=[]:=Vc ⋯;subst this;rw[List.nil_perm.mp p]
 |succ n V=>
  let choose:∀(h:Uu)(y x:Nat)(t:List Nat),3*↑h+(↑t+2)<=n+1->takeF h (y::x::t)=takeF h (x::y::t):=by
   intro h y x t hn;rw[fZ,fZ];unfold pI;by_cases W:y=0
   .subst W;rw[ifp rfl,fZ];unfold pI;by_cases E:x=0
    .subst E;rw[ifp rfl,ifp rfl,takeF_zero]
    .rw[ifn E,ifn E];cases e:U7 h x with
     |none=>rfl
     |some c=>
      have:=without_lt e;dsimp only;let p1:(c.data::c.next::0::t).Perm (0::c.data::c.next::t):=by
       have:(c.data::c.next::0::t)=[c.data,c.next]++0::t:=rfl;rw[this];show aaU
      rw[V _ _ _ (by simp only[Ut];lia) p1,takeF_zero]
   .rw[ifn W];by_cases E:x=0
    .subst E;rw[ifp rfl,fZ];unfold pI;rw[ifn W];cases e:U7 h y with
     |none=>rfl
     |some d=>
      have:=without_lt e;dsimp only;let p1:(d.data::d.next::0::t).Perm (0::d.data::d.next::t):=by
       have:(d.data::d.next::0::t)=[d.data,d.next]++0::t:=rfl;rw[this];show aaU
      rw[V _ _ _ (by simp only[Ut];lia) p1,takeF_zero]
    .rw[ifn E];let Z:∀(k:Uu)(p q z:Nat)(t:List Nat),3*↑k+(↑t+3)<=n->takeF k (p::q::z::t)=pI k z (p::q::t):=λk p q z t hk=>by
      rw[<-fZ];show V _ _ _ (by simp only[Ut];lia) ?_;have:(p::q::z::t)=[p,q]++z::t:=rfl;rw[this];show aaU
     cases ey:U7 h y with
     |none=>
      cases U:U7 h x with
      |none=>rfl
      |some c=>
       have:=without_lt U;dsimp only;rw[Z _ _ _ _ _ ⋯];unfold pI;rw[ifn W,iX,ey];by_cases q:y=x
       .rw[ifp q]
       .rw[ifn q]
     |some d=>
      let ly:=without_lt ey;cases U:U7 h x with
      |none=>
       dsimp only;rw[Z _ _ _ _ _ ⋯];unfold pI;rw[ifn E,iX,U];by_cases q:x=y
       .rw[ifp q]
       .rw[ifn q]
      |some c=>
       let lx:=without_lt U;dsimp only;rw[Z _ _ _ _ _ ⋯,Z _ _ _ _ _ ⋯];unfold pI;rw[ifn E,ifn W,iX,iX,U,ey];by_cases q:x=y
       .subst q;rw[ifp rfl,ifp rfl]
       .rw[ifn q,ifn (λz=>q z.symm)];dsimp only;let G:↑(without (without h y) x)<↑(without h y):=without_lt (c:=c) (by rw[iX,ifn q];show U);rw[Bb h x y];show V _ _ _ (by simp only[Ut];lia) ?_;let e1:(c.data::c.next::d.data::d.next::t)=[c.data,c.next]++([d.data,d.next]++t):=rfl;let e2:(d.data::d.next::c.data::c.next::t)=[d.data,d.next]++([c.data,c.next]++t):=rfl;rw[e1,e2,<-UK,<-UK];show List.Perm.append_right _ abu
  intro h I us hn p;let cons:∀(x:Nat)(D G:List Nat),↑D+1=↑I->D.Perm G->takeF h (x::D)=takeF h (x::G):=λx D G O q=>by
   rw[fZ,fZ];unfold pI;split
   .show V _ _ _ ⋯ q
   .cases e:U7 h x with
    |none=>rfl
    |some c=>
     have:=without_lt e;show V _ _ _ (by simp only[Ut];lia) (.cons _ (.cons _ q))
  let ab:∀{D G:List Nat},D.Perm G->↑D=↑I->takeF h D=takeF h G:=λ{D G}q=>by
   induction q with
   |nil=>intro _;rfl
   |cons x q _=>intro O;show cons x _ _ (by simpa using O) q
   |swap x y t=>intro O;show choose h y x t (by simp only[Ut]at O;lia)
   |trans q1 q2 i1 i2=>intro O;rw[i1 O,i2 (by rw[<-q1.length_eq];show O)]
  show ab p rfl
def lh:∀(n:Nat)(h:Uu)(x:Nat)(k:Uu),YX n h x=Up k->↑k<=↑h
 |0,h,x,k,e=>by
  unfold YX at e;split at e
  .cases e;show UD _
  .cases e
 |n+1,h,x,k,e=>by
  unfold YX at e;split at e
  .cases e;show UD _
  .split at e
   .cases e
   .rename_i c q;let(k1,D,E):=Option.bind_eq_some_iff.mp e;have:=lh n _ _ _ D;have:=lh n _ _ _ E;have:=without_lt q;lia
def qd:∀(n:Nat)(h:Uu)(x:Nat)(D:List Nat),↑h<n->takeF h (x::D)=(YX n h x).bind λk=>takeF k D
 |0,h,x,D,I=>⋯
 |n+1,h,x,D,I=>by
  unfold YX;by_cases E:x=0
  .rw[ifp E,E,takeF_zero];rfl
  .rw[ifn E];cases e:U7 h x with
   |none=>rw[takeF_none E e];rfl
   |some c=>
    let O:=without_lt e;rw[takeF_some E e,Gn _ _ _ (c.next::c.data::D) (UD _) (.swap _ _ _),qd n _ _ _ ⋯];change _=((YX n (without h x) c.next).bind λk=>YX n k c.data).bind _;rw[Option.bind_assoc];cases G:YX n (without h x) c.next with
    |none=>rfl
    |some k=>
     have:=lh _ _ _ _ G;show qd n k c.data D ⋯
def tree_all(h:Uu)(x:Nat):takeF h [x]=YX (↑h+1) h x:=by
 rw[qd (↑h+1) h x [] (VW _)];cases YX (↑h+1) h x with
 |none=>rfl
 |some k=>show takeF_nil k
end
section
open VasepBase Vasepa
def dep:Code->Nat
 |.done=>0
 |.set _ _ r=>dep r
 |.read _ _ _ r=>dep r
 |.write _ _ _ r=>dep r
 |.new _ r=>dep r
 |.free _ r=>dep r
 |.ite _ a b r=>max (max (dep a) (dep b)+1) (dep r)
 |.loop _ a r=>max (dep a+1) (dep r)
def LvOk(B:Nat):Nat->List aj->Prop
 |_,[]=>True
 |d,l::r=>(l.down=UB->1<=d)/\(if l.down then d-1 else d)<=B/\LvOk B ((if l.down then d-1 else d)+(if l.up then 1 else 0)) r
def lv_flat:∀(c:Code)(o d:Nat)(R:List aj),d+dep c<=B->LvOk B d R->LvOk B d (flat o c++R)
 |.done,o,d,R,h,q=>q
 |.set x e r,o,d,R,h,q=>(λz=>(by cases z),Nat.le_trans (Nat.le_add_right d _) h,lv_flat r (o+1) d R h q)
 |.read x y f r,o,d,R,h,q=>(λz=>(by cases z),Nat.le_trans (Nat.le_add_right d _) h,lv_flat r (o+1) d R h q)
 |.write x f e r,o,d,R,h,q=>(λz=>(by cases z),Nat.le_trans (Nat.le_add_right d _) h,lv_flat r (o+1) d R h q)
 |.new x r,o,d,R,h,q=>(λz=>(by cases z),Nat.le_trans (Nat.le_add_right d _) h,lv_flat r (o+1) d R h q)
 |.free x r,o,d,R,h,q=>(λz=>(by cases z),Nat.le_trans (Nat.le_add_right d _) h,lv_flat r (o+1) d R h q)
 |.ite c a b r,o,d,R,h,q=>by
  simp only[dep]at h;let D:=Nat.le_trans (Nat.le_add_right d _) h;let g:∀x,x<=_->d+x<=B:=λx z=>Nat.le_trans (Nat.add_le_add_left z d) h;let E:=g _ (Nat.le_max_right _ _);let G:∀x,x<=max (dep a) (dep b)->d+1+x<=B:=λx z=>by rw[Nat.add_right_comm];show g _ (Nat.le_trans (Nat.succ_le_succ z) (Nat.le_max_left _ _))
  by_cases I:b=.done
  .simp only[flat,ifp I,US,UK];show(λz=>(by cases z),D,lv_flat a (o+1) (d+1) _ (G _ (Nat.le_max_left _ _)) (λ_=>Nat.le_add_left 1 d,D,?_));show lv_flat r _ d R E q
  .simp only[flat,ifn I,US,UK];show(λz=>(by cases z),D,lv_flat a (o+1) (d+1) _ (G _ (Nat.le_max_left _ _)) (λ_=>Nat.le_add_left 1 d,D,?_));show lv_flat b _ (d+1) _ (G _ (Nat.le_max_right _ _)) (λ_=>Nat.le_add_left 1 d,D,?_);show lv_flat r _ d R E q
 |.loop c a r,o,d,R,h,q=>by
  simp only[dep]at h;let D:=Nat.le_trans (Nat.le_add_right d _) h;let g:∀x,x<=_->d+x<=B:=λx z=>Nat.le_trans (Nat.add_le_add_left z d) h;simp only[flat,US,UK];show(λz=>(by cases z),D,lv_flat a (o+1) (d+1) _ (by rw[Nat.add_right_comm];show g _ (Nat.le_max_left _ _)) (λ_=>Nat.le_add_left 1 d,D,?_));show lv_flat r _ d R (g _ (Nat.le_max_right _ _)) q
def ML{l:aj}(h:l.plain=UB)(r:Code):dep (l.cons r)=dep r:=by cases l<;>first|rfl|cases h
def tP{f:Vo->Read Code}(hf:∀ts c r,eZ ts->f ts=.ok (c,r)->eZ r/\dep c+1<=B){ts r:Vo}(W:eZ ts)(e:inBraces f ts=.ok (c,r)):eZ r/\dep c+1<=B:=by
 let(o,D,E):=bind_ok e;let((a,q),G,I):=bind_ok E;let(z,O,U):=map_ok I;cases U;let(V,Z):=hf _ _ _ (iR W D).1 G;show((iR V O).1,Z)
set_option tactic.hygienic true in
def AN(I:List WQ)(hf:∀f,block=Up f->∀ts c r,eZ ts->f ts=.ok (c,r)->eZ r/\dep c+1<=B):
  ∀(n:Nat)(ts:Vo)(c:Code)(r:Vo),eZ ts->readStmts I block n ts=.ok (c,r)->eZ r/\dep c<=B:=by
 intro n
 induction n with
 |zero=>intro ts c r _ e;cases e
 |succ n ih=>
  intro ts c r W e;unfold readStmts at e;split at e
  .cases e;show(W,VN _)
  .split at e
   .rename_i h1 h2;split at e
    .cases e
    .rename_i f;let((q,t1),D,E):=bind_ok e;let((a,t2),G,O):=bind_ok E;let((b,t3),e5,e6):=bind_ok O;let((r',t4),U,V):=map_ok e6;cases V;let wc:=(lt_cond (W.word h2).1 D).1;let(wa,da):=tP (hf f rfl) wc G;let db:eZ t3/\dep b+1<=B:=by
      split at e5
      .rename_i he;show tP (hf f rfl) (wa.word he).1 e5
      .cases e5;show(wa,by simp only[dep];lia)
     let(Z,dr):=ih _ _ _ db.1 U;show(Z,?_);simp only[dep];lia
   .split at e
    .rename_i h1 h2 h3;split at e
     .cases e
     .rename_i f;let((q,t1),D,E):=bind_ok e;let((a,t2),G,O):=bind_ok E;let((r',t4),U,V):=map_ok O;cases V;let wc:=(lt_cond (W.word h3).1 D).1;let(wa,da):=tP (hf f rfl) wc G;let(Z,dr):=ih _ _ _ wa U;show(Z,?_);simp only[dep];lia
    .let((s,t1),D,E):=bind_ok e;let((r',t4),U,V):=map_ok E;cases V;rw[Ey]at D;let((l,t2),G,O):=map_ok D;cases O;let(g1,g2):=lt_plain W G;let(Z,dr):=ih _ _ _ g1.1 U;show(Z,?_);change dep (l.cons r')<=B;rw[ML g2];show dr
def AO(I:List WQ):∀(k:Nat)(ts:Vo)(c:Code)(r:Vo),eZ ts->Xr I k ts=.ok (c,r)->eZ r/\dep c<=k
 |0,ts,c,r,W,e=>AN I (block:=UH) (λf z=>by cases z) _ _ _ _ W e
 |k+1,ts,c,r,W,e=>AN I (block:=Up (Xr I k)) (λf z ts c r W e=>by cases z;let(a,b):=AO I k ts c r W e;show(a,⋯)) _ _ _ _ W e
def DL:∀(k:Nat)(l:List WQ)(ts:Vo)(n:List WQ)(r:Vo),eZ ts->X7 k l ts=.ok (n,r)->eZ r
 |0,l,ts,n,r,W,e=>by cases e
 |k+1,l,ts,n,r,W,e=>by
  unfold X7 at e;let((w,t),G,D):=bind_ok e;let E:=(IP W G).1;split at D
  .cases D
  .split at D
   .rename_i h;show DL k _ _ _ _ (E.sign h).1 D
   .let(z,I,O):=map_ok D;cases O;show(iR E I).1
def dep_program{p:Program}(e:YM t=.ok p):dep p.body<=6:=by
 let(v,G,I):=bind_ok e;let((n,q),O,U):=bind_ok I;let((b,r),V,D):=bind_ok U;let E:=(E4 (tokens_wf t) G).1;let h:=(AO n ZD _ _ _ (DL _ _ _ _ _ E O) V).2;split at D
 .cases D;show h
 .cases D
def rowsText(I:List WQ):Nat->List aj->List WQ
 |_,[]=>[]
 |d,l::r=>(pad (if l.down then d-1 else d)++bp I l)::rowsText I ((if l.down then d-1 else d)+(if l.up then 1 else 0)) r
def rows_lines(I:List WQ):∀(L:List aj)(d:Nat),((rowsText I d L).map (· ++[10])).flatten=cK I d L
 |[],d=>rfl
 |l::r,d=>by
  unfold rowsText cK;rw[UJ,WA,rows_lines I r];simp [UK]
def rows_len(I:List WQ):∀(L:List aj)(d:Nat),↑(rowsText I d L)=↑L
 |[],d=>rfl
 |l::r,d=>by unfold rowsText;rw[Ut,rows_len I r,Ut]
end
end HM
namespace L2
open PySem PySem.Spec PyProof.Rows
def uv:bT->Uv->Bool
 |.inl k,v=>Value.isInt k v
 |.inr x,v=>aet x v
def Tx(w:We):bT->Int
 |.inl k=>hashInt k
 |.inr x=>hashStr w x
def dc:∀{k:bT}{v:Uv},uv k v=UB->(∃i t,k=UW i/\v=YR i t)\/(∃x t,k=WV x/\v=abQ x t)
 |.inl i,v,h=>by
  let(t,e):=Value.isInt_shape (k:=i) (v:=v) h;show .inl (i,t,Y,e)
 |.inr x,v,h=>by
  let(t,e):=Value.isStrOf_shape (x:=x) (v:=v) h;show .inr (x,t,Y,e)
def Ko(i:Int)(t:Tok):uv (.inl i) (.int i t)=UB:=by simp [uv,Value.isInt]
def Kn(x:Vp)(t:Tok):uv (.inr x) (.str x t)=UB:=by simp [uv,aet]
def QD(a b:Int):decide ((UW a:bT)=UW b)=(a==b):=by
 by_cases e:a=b
 .subst e;simp
 .let h:¬(UW a:bT)=UW b:=λq=>e (ZE q)
  rw[decide_eq_false h];show(beq_eq_false_iff_ne.mpr e).symm
def QA(a b:Vp):decide ((WV a:bT)=WV b)=decide (a=b):=by
 by_cases e:a=b
 .subst e;simp
 .let h:¬(WV a:bT)=WV b:=λq=>e (aak q)
  rw[decide_eq_false h,decide_eq_false e]
def QC(a:Int)(b:Vp):decide ((UW a:bT)=WV b)=UF:=decide_eq_false (λq=>nomatch q)
def QB(a:Vp)(b:Int):decide ((WV a:bT)=UW b)=UF:=decide_eq_false (λq=>nomatch q)
def cD(prog:Program)(w:We):PySem.KeyKind prog w bT where
 is:=uv
 hash:=Tx w
 inj:=λv a b ha hb=>by
  rcases dc ha with⟨i,t,rfl,rfl⟩|⟨x,t,rfl,rfl⟩
  .rcases dc hb with⟨j,u,rfl,e⟩|⟨y,u,rfl,e⟩
   .injection e with e1 _;rw[e1]
   .show nomatch e
  .rcases dc hb with⟨j,u,rfl,e⟩|⟨y,u,rfl,e⟩
   .show nomatch e
   .injection e with e1 _;rw[e1]
 byValue:=λk v h=>by
  rcases dc h with⟨i,t,rfl,rfl⟩|⟨x,t,rfl,rfl⟩<;>rfl
 pyHash:=λhv h=>by
  rcases dc hv with⟨i,t,rfl,rfl⟩|⟨x,t,rfl,rfl⟩
  .show wpAny_pyHash_int h
  .show wpAny_pyHash_str h
 eqBool:=λhu hv h=>by
  rcases dc hu with⟨i,t,rfl,rfl⟩|⟨x,t,rfl,rfl⟩
  .rcases dc hv with⟨j,u,rfl,rfl⟩|⟨y,u,rfl,rfl⟩
   .rw[QD]at h;show wpAny_eqBool_int h
   .rw[QC]at h;show acj i t y u _ _ _ _ h
  .rcases dc hv with⟨j,u,rfl,rfl⟩|⟨y,u,rfl,rfl⟩
   .rw[QB]at h;show aci x t j u _ _ _ _ h
   .rw[QA]at h;show wpAny_eqBool_str h
 «strs»:=λk x t v h=>by
  rcases dc h with⟨i,u,rfl,e⟩|⟨y,u,rfl,e⟩
  .show nomatch e
  .injection e with e1 _;subst e1;cases v<;>rfl
def EW(prog:Program)(w:We)(i:Int)(t:Tok):(cD prog w).is (.inl i) (.int i t)=UB:=Ko i t
def EV(prog:Program)(w:We)(x:Vp)(t:Tok):(cD prog w).is (.inr x) (.str x t)=UB:=Kn x t
def bq.length{xs:List V}{us:List Uv}(r:bq xs us):↑xs=↑us:=Paired.length r
def bq.get:∀{xs:List V}{us:List Uv}{i:Nat}{x:V},bq xs us->xs[i]?=Up x->∃u,us[i]?=Up u/\bQ x u
 |_,_,_,_,.nil,e=>by simp at e
 |_,_,0,_,.cons r _,e=>by simp at e;subst e;show(_,Y,r)
 |_,_,i+1,x,.cons _ t,e=>by
  let(u,h1,h2):=bq.get (i:=i) (x:=x) t (by simpa using e);show(u,by simpa using h1,h2)
def bq.set(r:bQ x u):∀{xs:List V}{us:List Uv}(i:Nat),bq xs us->bq (xs.set i x) (us.set i u)
 |_,_,_,.nil=>.nil
 |_,_,0,.cons _ t=>.cons r t
 |_,_,i+1,.cons q t=>.cons q (bq.set r i t)
def bq.append:∀{xs ys:List V}{us I:List Uv},bq xs us->bq ys I->bq (xs++ys) (us++I)
 |_,_,_,_,.nil,s=>s
 |_,_,_,_,.cons r t,s=>.cons r (bq.append t s)
def bq.take:∀{xs:List V}{us:List Uv}(n:Nat),bq xs us->bq (xs.take n) (us.take n)
 |_,_,0,_=>.nil
 |_,_,_+1,.nil=>.nil
 |_,_,n+1,.cons r t=>.cons r (bq.take n t)
def bq.drop:∀{xs:List V}{us:List Uv}(n:Nat),bq xs us->bq (xs.drop n) (us.drop n)
 |_,_,0,r=>r
 |_,_,_+1,.nil=>.nil
 |_,_,n+1,.cons _ t=>bq.drop n t
def h_:Option V->Option Uv->Prop
 |some v,some u=>bQ v u
 |none,none=>True
 |_,_=>False
def KV{κ:Type}:List (κ×V)->List (κ×Value)->Prop:=Paired λ(p:κ×V)(q:κ×Value)=>p.1=q.1/\bQ p.2 q.2
def kV:bT->V
 |.inl i=>.int i
 |.inr x=>.str x
def aw(H:Hp)(a:Uw)(o:HO):Hp:=λb=>if b=a then Up o else H b
def ae:aw H a o a=Up o:=by unfold aw;rw[ifp rfl]
def ah{H:Hp}(h:b≠a):aw H a o b=H b:=by unfold aw;rw[ifn h]
def b_:aw (aw H a o) a u=aw H a u:=by
 funext b;unfold aw;split<;>rfl
def aV{H:Hp}(h:H a=Up o)(h':H b=Up u)(d:o≠u):a≠b:=by
 intro e;subst e;rw[h]at h';show d (UI h')
def ak{H:Hp}(h:H a=Up o)(h':H b=UH):a≠b:=by
 intro e;subst e;rw[h]at h';cases h'
section
variable (P:Program) (w:World)
def cP(H:Hp)(h:Heap)(a:Addr):HO->Prop
 |.lst xs=>↑xs<=U1/\∃(I:List Value)(n:Nat),bq xs I/\h.get? a=Up {cls:=.type "list",data:=.seq I.toArray n}
 |.tup xs=>↑xs<=U1/\∃I:List Value,bq xs I/\IsTup h a I.toArray
 |.dK Z=>↑Z<=U1/\(a==WY)=UF/\∃vs,KV Z vs/\h.DictOf (cD P w) a vs
 |.dT Z=>↑Z<=U1/\(a==WY)=UF/\∃xs:List (List bT×Addr×Value),
   Paired (λ(p:List bT×V)(q:List bT×Addr×Value)=>p.1=q.1/\H q.2.1=Up (.tup (p.1.map kV))/\bQ p.2 q.2.2) Z xs/\
   ∃o es ep,h.get? a=Up o/\o.ExactDict/\o.data=.dict es ep/\es.toList=xs.map (entryOfKey (aaJ (cD P w)))/\(xs.map (·.1)).Nodup
 |.set S n=>h.SetOf (intKind P w) a S n
 |.ins C dx fs=>H dx=Up (.own a)/\↑fs<=1000/\dx≠a/\h.get? a=Up (Xt C dx)/\
   ∃mA,h.Ns1 dx mA/\(∀f,h_ (fs.lookup f) (mA f))/\aa3 mA (fs.map (·.1))
 |.own _=>∃o,h.get? a=Up o
 |.xd fs=>∃mA,h.Ns1 a mA/\∀f,h_ (fs.lookup f) (mA f)
 |.rng lo hi=>∃t u v,h.get? a=Up {cls:=.type "range",data:=.fields #[.int lo t,.int hi u,.int 1 v]}
 |.frz o u=>h.get? a=Up o/\cP H h a u
 |.tbl ps=>h.get? a=Up {cls:=.none,data:=.fields ps}
 |.met f x=>h.get? a=Up (aao (.ref f) (.ref x))
 |.ext φ=>φ h/\(∃o,h.get? a=Up o)/\∀h1 h2:Heap,φ h1->(∀o,h1.get? a=Up o->h2.get? a=Up o)->φ h2
def kt(H:Hp)(h:Heap):Prop:=∀a o,H a=Up o->cP P w H h a o
end
section
variable {P:Program} {w:World} {H H':Hp} {h h':Heap} {a:Addr} {o:HO}
def cP.lt(x:cP P w H h a o):a<h.objs.size:=by
 cases o with
 |lst xs=>let(_,_,_,_,e):=x;show U4 e
 |tup xs=>let(_,_,_,p):=x;show p.lt
 |dK Z=>let(_,_,_,_,o,_,_,e,_):=x;show U4 e
 |dT Z=>let(_,_,_,_,o,_,_,e,_):=x;show U4 e
 |set S n=>let(o,_,_,_,e,_):=x;show U4 e
 |ins C dx fs=>let(_,_,_,e,_):=x;show U4 e
 |own y=>let(_,e):=x;show U4 e
 |xd fs=>let(_,(_,_,_,e,_),_):=x;show U4 e
 |rng lo hi=>let(_,_,_,e):=x;show U4 e
 |frz I u=>let(e,_):=x;show U4 e
 |tbl ps=>show U4 (show h.get? a=Up _ from x)
 |met f y=>show U4 (show h.get? a=Up _ from x)
 |ext φ=>let(_,(_,e),_):=x;show U4 e
def Paired.mapP{F I:ab->an->Prop}:∀{α:List ab}{β:List an},Paired F α β->(∀a b,F a b->I a b)->Paired I α β
 |_,_,.nil,_=>.nil
 |_,_,.cons r t,f=>.cons (f _ _ r) (Paired.mapP t f)
def cP.stay(x:cP P w H h a o)(k:∀b u,(b=a\/H b=Up (.own a))->h.get? b=Up u->h'.get? b=Up u)(ho:∀b,H b=Up (.own a)->H' b=Up (.own a))(ht:∀b xs,H b=Up (.tup xs)->H' b=Up (.tup xs)):cP P w H' h' a o:=by
 induction o with
 |lst xs=>let(z,φ,n,r,e):=x;show(z,φ,n,r,k _ _ (.inl rfl) e)
 |tup xs=>let(z,φ,r,I,e,c):=x;show(z,φ,r,I,k _ _ (.inl rfl) e,c)
 |dK Z=>let(z,y,vs,r,I,es,ep,e,c):=x;show(z,y,vs,r,I,es,ep,k _ _ (.inl rfl) e,c)
 |dT Z=>
  let(z,y,xs,r,I,es,ep,e,c):=x;show(z,y,xs,Paired.mapP r λp q z=>(z.1,ht _ _ z.2.1,z.2.2),I,es,ep,k _ _ (.inl rfl) e,c)
 |set S n=>let(I,es,ep,t,e,c):=x;show(I,es,ep,t,k _ _ (.inl rfl) e,c)
 |ins C dx fs=>
  let(d,z,ne,e,mA,(od,es,ep,e2,c),r):=x;show(ho _ d,z,ne,k _ _ (.inl rfl) e,mA,(od,es,ep,k _ _ (.inr d) e2,c),r)
 |own y=>let(I,e):=x;show(I,k _ _ (.inl rfl) e)
 |xd fs=>let(mA,(od,es,ep,e,c),r):=x;show(mA,(od,es,ep,k _ _ (.inl rfl) e,c),r)
 |rng lo hi=>let(t,u,v,e):=x;show(t,u,v,k _ _ (.inl rfl) e)
 |frz I u ih=>let(e,q):=x;show(k _ _ (.inl rfl) e,ih q)
 |tbl ps=>
  let e:h.get? a=Up {cls:=.none,data:=.fields ps}:=x;change h'.get? a=Up {cls:=.none,data:=.fields ps};show k a _ (.inl rfl) e
 |met f y=>
  let e:h.get? a=Up (aao (.ref f) (.ref y)):=x;change h'.get? a=Up (aao (.ref f) (.ref y));show k a _ (.inl rfl) e
 |ext ab=>let(p,(o,e),st):=x;show(st _ _ p λo q=>k _ _ (.inl rfl) q,(o,k _ _ (.inl rfl) e),st)
def kt.lt(x:kt P w H h)(e:H a=Up o):a<h.objs.size:=(x a o e).lt
def kt.fresh(x:kt P w H h)(e:h.objs.size<=a):H a=UH:=by
 cases q:H a with
 |none=>rfl
 |some u=>show absurd (U9 (x.lt q) e) (Wv _)
def kt.kept(x:kt P w H h)(k:∀b u,h.get? b=Up u->h'.get? b=Up u):kt P w H h':=λa o e=>
 (x a o e).stay (λb u _ q=>k b u q) (λ_ q=>q) λ_ _ q=>q
def kt.laid(x:kt P w H h)(k:∀b u,h.get? b=Up u->h'.get? b=Up u)(hp:h.objs.size<=a)(ab:cP P w (aw H a o) h' a o):kt P w (aw H a o) h':=λb u e=>by
 let hn:=x.fresh hp;by_cases I:b=a
 .subst I;rw[ae]at e;cases e;show ab
 .rw[ah I]at e;show(x b u e).stay (λc v _ q=>k c v q) (λc q=>by rw[ah (ak q hn)];show q) λc xs q=>by rw[ah (ak q hn)];show q
end
def Rd.ok{P:Program}(r:Rd H a u)(x:kt P w H h):cP P w H h a u:=by
 rcases r with r|⟨o,r⟩
 .show x a u r
 .let(_,q):=x a _ r;show q
def OK:Option HO->Prop
 |some (.lst _)=>True
 |some (.dK _)=>True
 |some (.dT _)=>True
 |some (.set _ _)=>True
 |some (.ins _ _ _)=>True
 |some (.ext _)=>True
 |_=>False
section
variable {P:Program} {w:World} {H:Hp} {h h':Heap} {x e:Addr} {o':HO}
def kt.write(ok:kt P w H h)(mu:OK (H x))(he:e=x\/H e=Up (.own x))(k:∀b u,b≠e->h.get? b=Up u->h'.get? b=Up u)(ap:∃u,h'.get? e=Up u)(ar:cP P w (aw H x o') h' x o'):kt P w (aw H x o') h':=λb u q=>by
 let an:∀c y,H c=Up (.own y)->c≠x:=λc y r z=>by subst z;rw[r]at mu;show mu
 let av:∀c xs,H c=Up (.tup xs)->c≠x:=λc xs r z=>by subst z;rw[r]at mu;show mu
 by_cases I:b=x
 .subst I;rw[ae]at q;cases q;show ar
 .rw[ah I]at q;by_cases ab:b=e
  .let q':H b=Up (.own x):=by
    rcases he with z|z
    .show absurd (ab.trans z) I
    .rw[ab];show z
   rw[q]at q';cases q';let(v,hv):=ap;show(v,by rw[ab];show hv)
  .show(ok b u q).stay (λc v hc r=>k c v ?_ r) (λc r=>by rw[ah (an c b r)];show r) λc xs r=>by rw[ah (av c xs r)];show r
   rcases hc with rfl|hc
   .show ab
   .rintro rfl;rcases he with z|z
    .show an c b hc z
    .rw[hc]at z;cases z;show I rfl
end
structure Un (fs ex:List Addr) (H H':Hp) (h h':Heap):Prop where
 keep: ∀b o,h.get? b=some o->H b=none->b∉fs->b∉ex->h'.get? b=some o
 slot: ∀b o,h.get? b=some o->H b=none->b∈fs->b∉ex-> ∃sl,h'.get? b=some {o with slots:=sl}
 free: ∀b o,h.get? b=some o->H b=none->b∉ex->H' b=none
 there: ∀b o,h.get? b=some o->b∉ex-> ∃o',h'.get? b=some o'
 tups: ∀b xs,H b=some (.tup xs)->H' b=some (.tup xs)
 frzs: ∀b o u,H b=some (.frz o u)->H' b=some (.frz o u)
 tbls: ∀b ps,H b=some (.tbl ps)-> ∃more,H' b=some (.tbl (ps++more))
section
variable {fs fs' ex ex':List Addr} {H H1 H2:Hp} {h h1 h2 h':Heap} {a x e:Addr} {o:HO}
def Un.any(u:Un fs ex H H1 h h1)(q:h.get? b=Up I)(n:H b=UH)(hx:b∉ex):∃sl,h1.get? b=Up {I with slots:=sl}:=by
 by_cases hb:b∈fs
 .show u.slot b I q n hb hx
 .show(I.slots,u.keep b I q n hb hx)
def Un.kept(k:∀b u,h.get? b=Up u->h'.get? b=Up u):Un fs ex H H h h':=
 (λb I q _ _ _=>k b I q,λb I q _ _ _=>(I.slots,k b I q),λ_ _ _ n _=>n,λb I q _=>(I,k b I q),λ_ _ q=>q,λ_ _ _ q=>q,λ_ ps q=>(#[],by rw[q];simp))
def Un.refl:Un fs ex H H h h:=Un.kept λ_ _ q=>q
def Un.laid(k:∀b u,h.get? b=Up u->h'.get? b=Up u)(hp:h.objs.size<=a)(hn:H a=UH):Un fs ex H (aw H a o) h h' where
 keep:=λb u q _ _ _=>k b u q
 slot:=λb u q _ _ _=>(u.slots,k b u q)
 free:=λb u q n _=>by rw[ah (Vl (U9 (U4 q) hp))];show n
 there:=λb u q _=>(u,k b u q)
 tups:=λb xs q=>by rw[ah (ak q hn)];show q
 frzs:=λb u xs q=>by rw[ah (ak q hn)];show q
 tbls:=λb ps q=>(#[],by rw[ah (ak q hn),q];simp)
def Un.write(I:OK (H x))(he:e=x\/H e=some (.own x))(k:∀b u,b≠e->h.get? b=some u->h'.get? b=some u)(an:∃u,h'.get? e=some u):Un fs ex H (aw H x o) h h':=by
 let hx:∀b,H b=UH->b≠x:=λb n z=>by subst z;rw[n]at I;show I
 let hb:∀b,H b=UH->b≠e:=λb n z=>by
  subst z;rcases he with r|r
  .show hx b n r
  .rw[n]at r;cases r
 let hm:∀b u,H b=some u->¬OK (some u)->b≠x:=λb u q nm z=>by subst z;rw[q]at I;show nm I
 show(λb u q n _ _=>k b u (hb b n) q,λb u q n _ _=>(u.slots,k b u (hb b n) q),λb u q n _=>by rw[ah (hx b n)];show n,λb u q _=>?_,
  λb xs q=>by rw[ah (hm b _ q λz=>z)];show q,λb u xs q=>by rw[ah (hm b _ q λz=>z)];show q,λb ps q=>(#[],by rw[ah (hm b _ q λz=>z),q];simp))
 by_cases ab:b=e
 .subst ab;show an
 .show(u,k b u ab q)
end
def Sy(h:Heap)(H:Hp):List Uw:=(W0 h.objs.size).filter λa=>(H a).isSome
def CS(h:Heap)(H:Hp):Heap:=PySem.W.hideAll h (Sy h H)
def Kp(h:Heap)(H:Hp):(CS h H).objs.size=h.objs.size:=PySem.W.hideAll_size _ _
def MC{h:Heap}{H:Hp}(e:h.get? b=Up o)(n:H b=UH):(CS h H).get? b=Up o:=
 PySem.W.hideAll_get _ e λI=>by
  let q:(H b).isSome=UB:=(V5.mp I).2;rw[n]at q;simp at q
def Ob{h:Heap}{H:Hp}(e:(CS h H).get? b=Up o):h.get? b=Up o/\H b=UH:=by
 let I:h.get? b=Up o:=PySem.W.of_hideAll (Sy h H) e;show(I,?_);cases q:H b with
 |none=>rfl
 |some x=>
  let hm:b∈Sy h H:=V5.mpr (aaf.mpr (U4 I),by simp [q]);let z:(CS h H).get? b=UH:=PySem.W.hideAll_none (Sy h H) hm;rw[z]at e;cases e
structure Mod (K:PySem.W.Frag) (mg:Str->Option Value) (base:Heap):Prop where
 kin:K.In base
 glob:base.Ns mainGlobals mg
 blt: ∃mb,base.Ns builtinsNs mb/\ ∀x:Str,x≠"__name__"->mb x=bootBuiltins x
 nolimit:base.NoLimit
structure Cx where
 prog:Program
 w:World
 K:PySem.W.Frag
 mg:Str->Option Value
 base:Heap
 A:Around
 N:List Str
 s_0:Shared
 H_0:Hp
 env:Env
 outer:List Env
 stack:List Env
 ex:List Addr
 fn:Str->Bool
 calm:Bool
 pn:List (Addr×Obj)
 xe:Value->Shared->Prop
def DI(l:List Env):List Uw:=l.filterMap (·.frame)
abbrev Cx.fs(X:Cx):List Uw:=DI X.outer
def Q9(I:XQ)(x:Vp):Prop:=I.names.lookup x=Up .local\/I.names.lookup x=Up .cell\/I.names.lookup x=Up .free
def Sq(I:XQ)(x:Vp):Prop:=I.names.lookup x=Up .local\/I.names.lookup x=Up .cell
def TZ(I:Env)(h:Heap)(m:Vp->Option Uv)(x:Vp)(u:Uv):Prop:=
 (I.kindOf x=Up .local/\m x=Up u)\/((I.kindOf x=Up .cell\/I.kindOf x=Up .free)/\∃c,I.cells.lookup x=Up c/\h.IsCell c (Up u))
structure Cx.Ok (X:Cx):Prop where
 mod:Mod X.K X.mg X.base
 kind:X.env.scope.kind=.function
 glob:X.env.globals=mainGlobals
 blt:X.env.builtins=builtinsNs
 above:X.s_0.heap.objs.size<=X.env.locals
 inj: ∀x y c,X.env.cells.lookup x=some c->X.env.cells.lookup y=some c->x=y
 has: ∀x,(X.env.kindOf x=some .cell\/X.env.kindOf x=some .free)-> ∃c,X.env.cells.lookup x=some c
 cab: ∀x c,X.fn x=true->X.env.cells.lookup x=some c->X.s_0.heap.objs.size<=c
 hd:X.calm=true->X.A.handled=none
 frames:X.A.frames=some X.stack
 stk:X.stack=X.outer\/(X.stack=X.env::X.outer/\X.env.frame=some X.env.locals)
 exf: ∀b∈X.ex,b≠X.env.locals/\ ∀x c,X.env.cells.lookup x=some c->c≠b
 bs: ∀b o,X.base.get? b=some o->X.s_0.heap.get? b=some o/\X.H_0 b=none
 bsz:X.base.objs.size<=X.s_0.heap.objs.size
 noex: ∀b o,X.base.get? b=some o->b∉X.ex
 exfs: ∀b∈X.ex,b∉X.fs
 funs:X.s_0.heap.FunFrames X.base X.outer
 frf: ∀b∈X.fs,X.H_0 b=none
structure aZ (X:Cx) (pins:List (Addr×Obj)) (σ:List (Option V)) (H:Hp) (s:Shared):Prop where
 ok:X.Ok
 os:s.os=X.s_0.os
 bare:AllBare s.gens
 base:Un X.fs X.ex X.H_0 H X.s_0.heap s.heap
 loc: ∃m,s.heap.Ns X.env.locals m/\ ∀(i:Nat) (x:Str) (v:V),X.N[i]?=some x->σ[i]?=some (some v)->Q9 X.env.scope x-> ∃u,bQ v u/\TZ X.env s.heap m x u
 cell: ∀x c,X.env.cells.lookup x=some c-> ∃v,s.heap.IsCell c v
 free:H X.env.locals=none
 freeC: ∀x c,X.env.cells.lookup x=some c->H c=none
 pin: ∀p∈X.pn++pins,s.heap.get? p.1=some p.2/\H p.1=none/\p.1≠X.env.locals/\p.1∉X.fs/\ ∀v,p.2.data≠.cell v
 hok:kt X.prog X.w H s.heap
 len:σ.length=X.N.length
section
variable {X:Cx} {O:List (Addr×Obj)} {D:List (Option V)} {H H':Hp} {s:Shared} {h':Heap}
def Cx.Ok.nofr(ok:X.Ok)(e:X.base.get? b=Up o):b∉X.fs:=λI=>by
 have:=(ok.funs.mem I).1;rw[e]at this;cases this
def aZ.bs(I:aZ X O D H s):∀b o,X.base.get? b=Up o->s.heap.get? b=Up o/\H b=UH:=λb o e=>
 (I.base.keep b o (I.ok.bs b o e).1 (I.ok.bs b o e).2 (I.ok.nofr e) (I.ok.noex b o e),I.base.free b o (I.ok.bs b o e).1 (I.ok.bs b o e).2 (I.ok.noex b o e))
def aZ.bk(I:aZ X O D H s):∀b o,X.base.get? b=Up o->s.heap.get? b=Up o:=λb o e=>(I.bs b o e).1
def aZ.mod(I:aZ X O D H s):Mod X.K X.mg X.base:=I.ok.mod
def aZ.kIn(I:aZ X O D H s):X.K.In s.heap:=I.ok.mod.kin.keeps I.bk
def aZ.lt(I:aZ X O D H s):X.env.locals<s.heap.objs.size:=let(_,hn,_):=I.loc;hn.lt
def aZ.sz(I:aZ X O D H s):X.s_0.heap.objs.size<=s.heap.objs.size:=Vm I.ok.above (Xb I.lt)
def aZ.nofs(I:aZ X O D H s)(h:s.heap.objs.size<=a):a∉X.fs:=λhb=>by
 let(_,o,ho,_):=I.ok.funs.mem hb;show absurd (U9 (U4 ho) (Vm I.sz h)) (Wv _)
def aZ.cne(I:aZ X O D H s):∀x c,X.env.cells.lookup x=Up c->c≠X.env.locals:=λx c e z=>by
 let(v,o,ho,hd):=I.cell x c e;let(m,(o',es,ep,an,ab,_),_):=I.loc;rw[z,an]at ho;cases ho;rw[ab]at hd;cases hd
def aZ.funs(I:aZ X O D H s):s.heap.FunFrames X.base X.outer:=by
 let all:∀(l:List Env),(∀b∈DI l,b∈X.fs)->X.s_0.heap.FunFrames X.base l->s.heap.FunFrames X.base l:=by
  intro l
  induction l with
  |nil=>intro _ _;trivial
  |cons ab r ih=>
   intro hs hl;let(hk,(L,o,hf,hn,ho,hd),hr):=hl;let hL:L∈X.fs:=hs L (by unfold DI;rw[ZT,hf];show UU);let(sl,e):=I.base.slot L o ho (I.ok.frf L hL) hL λz=>I.ok.exfs L z hL
   show(hk,(L,_,hf,hn,e,hd),ih (λb hb=>hs b (by unfold DI;rw[ZT,hf];show UR _ hb)) hr)
 show all X.outer (λ_ hb=>hb) I.ok.funs
def aZ.stack(I:aZ X O D H s):s.heap.FunFrames X.base X.stack:=by
 rcases I.ok.stk with e|⟨e,hf⟩
 .rw[e];show I.funs
 .rw[e];let(m,hn,_):=I.loc;show .cons (by rw[I.ok.kind];decide) hf hn ?_ I.funs;show Heap.get?_none_of_le (Vm I.ok.bsz I.ok.above)
def aZ.stkSub(ab:aZ X O D H s):∀b∈DI X.stack,b∈X.env.locals::X.fs:=λb I=>by
 rcases ab.ok.stk with e|⟨e,hf⟩
 .rw[e]at I;show UR _ I
 .rw[e]at I;unfold DI at I;rw[ZT,hf]at I;show I
def aZ.stkFree(I:aZ X O D H s):∀b∈DI X.stack,H b=UH:=λb hb=>by
 rcases UP.mp (I.stkSub b hb)with e|hb
 .rw[e];show I.free
 .let(_,o,ho,_):=I.ok.funs.mem hb;show I.base.free b o ho (I.ok.frf b hb) λz=>I.ok.exfs b z hb
def aZ.step{g':Array GenState}{t':Nat}{d':Drawn}{ch:List Uw}(I:aZ X O D H s)(ab:∀b∈ch,(b∈X.ex\/X.s_0.heap.objs.size<=b)/\b≠X.env.locals/\(∀x c,X.env.cells.lookup x=some c->c≠b)/\∀p∈X.pn++O,p.1≠b)(av:∀b o,b≠X.env.locals->b∉X.fs->b∉ch->s.heap.get? b=some o->H b=UH->h'.get? b=some o)(a2:∀b o,b≠X.env.locals->b∈X.fs->b∉ch->s.heap.get? b=some o->H b=UH->∃sl,h'.get? b=some {o with slots:=sl})(ap:∀b o,b∉ch->s.heap.get? b=some o->H b=UH->H' b=UH)(bk:∀b o,b∉ch->s.heap.get? b=some o->∃o',h'.get? b=some o')(bl:∀b xs,H b=some (.tup xs)->H' b=some (.tup xs))(a3:∀b o u,H b=some (.frz o u)->H' b=some (.frz o u))(bd:∀b ps,H b=some (.tbl ps)->∃a5,H' b=some (.tbl (ps++a5)))(ns:∀m,s.heap.Ns X.env.locals m->h'.Ns X.env.locals m)(a4:kt X.prog X.w H' h')(hg:acK g'):
  aZ X O D H' {s with heap:=h',gens:=g',drawn:=d',toks:=t'}:=by
 let a1:∀b o,X.s_0.heap.get? b=some o->b≠X.env.locals:=λb o e=>Vl (U9 (U4 e) I.ok.above)
 let ar:∀b o,X.s_0.heap.get? b=some o->b∉X.ex->b∉ch:=λb o e hx hb=>by
  rcases(ab b hb).1 with z|z
  .show hx z
  .show absurd (U9 (U4 e) z) (Wv _)
 let a0:∀x c,X.env.cells.lookup x=some c->∀v,s.heap.IsCell c v->h'.IsCell c v:=λx c e v (o,ho,hd)=>by
  let an:c∉ch:=λz=>(ab c z).2.2.1 x c e rfl
  by_cases hc:c∈X.fs
  .let(sl,q):=a2 c o (I.cne x c e) hc an ho (I.freeC x c e);show(_,q,hd)
  .show(o,av c o (I.cne x c e) hc an ho (I.freeC x c e),hd)
 show(I.ok,I.os,hg,(λb o e n hb hx=>?_,λb o e n hb hx=>?_,λb o e n hx=>?_,λb o e hx=>?_,λb xs e=>bl b xs (I.base.tups b xs e),λb o xs e=>a3 b o xs (I.base.frzs b o xs e),λb ps e=>?_),?_,λx c e=>?_,?_,λx c e=>?_,λp hp=>?_,a4,I.len)
 .show av b o (a1 b o e) hb (ar b o e hx) (I.base.keep b o e n hb hx) (I.base.free b o e n hx)
 .let(sl,e1):=I.base.slot b o e n hb hx;let(a6,e2):=a2 b _ (a1 b o e) hb (ar b o e hx) e1 (I.base.free b o e n hx);show(a6,e2)
 .let(o',e1):=I.base.there b o e hx;show ap b o' (ar b o e hx) e1 (I.base.free b o e n hx)
 .let(o',e1):=I.base.there b o e hx;show bk b o' (ar b o e hx) e1
 .let(m1,e1):=I.base.tbls b ps e;let(m2,e2):=bd b _ e1;show(m1++m2,by rw[e2,Array.append_assoc])
 .let(m,hn,hl):=I.loc;show(m,ns m hn,λi x v e1 e2 e3=>?_);let(u,r,l):=hl i x v e1 e2 e3;show(u,r,?_);rcases l with l|⟨k,c,e,z⟩
  .show .inl l
  .show .inr (k,c,e,a0 x c e _ z)
 .let(v,z):=I.cell x c e;show(v,a0 x c e v z)
 .let(m,(o,_,_,ho,_),_):=I.loc;show ap _ o (λz=>(ab _ z).2.1 rfl) ho I.free
 .let(v,o,ho,hd):=I.cell x c e;show ap c o (λz=>(ab c z).2.2.1 x c e rfl) ho (I.freeC x c e)
 .let(e,n,ne,nf,d):=I.pin p hp;let an:p.1∉ch:=λz=>(ab p.1 z).2.2.2 p hp rfl
  show(av p.1 p.2 ne nf an e n,ap p.1 p.2 an e n,ne,nf,d)
def aZ.un{t':Nat}(I:aZ X O D H s)(u:Un X.fs [] H H' s.heap h')(ar:kt X.prog X.w H' h'):aZ X O D H' {s with heap:=h',toks:=t'}:=by
 let(m,(o,es,ep,ho,r),_):=id I.loc;let(sl,hL):=u.any ho I.free (by simp);show I.step (g':=s.gens) (d':=s.drawn) (ch:=[]) (λ_ z=>nomatch z) (λb o _ hb _ e n=>u.keep b o e n hb (by simp)) (λb o _ hb _ e n=>u.slot b o e n hb (by simp)) (λb o _ e n=>u.free b o e n (by simp)) (λb o _ e=>u.there b o e (by simp)) u.tups u.frzs u.tbls (λm' hm=>by
  let(o',ap,an,ab,r'):=hm;rw[ho]at ab;cases ab;show(_,ap,an,hL,r')) ar I.bare
def aZ.call{g':Array GenState}{t':Nat}{d':Drawn}{ch:List Uw}(ab:aZ X O D H s)(u:Un (DI X.stack) ch H H' s.heap h')(a0:kt X.prog X.w H' h')(hg:acK g')(an:∀b∈ch,(b∈X.ex\/X.s_0.heap.objs.size<=b)/\b≠X.env.locals/\(∀x c,X.env.cells.lookup x=Up c->c≠b)/\∀p∈X.pn++O,p.1≠b):
  aZ X O D H' {s with heap:=h',gens:=g',drawn:=d',toks:=t'}:=by
 let(m,(o,es,ep,ho,r),_):=id ab.loc;let(sl,hL):=u.any ho ab.free λz=>(an _ z).2.1 rfl
 show ab.step (ch:=ch) an (λb o hL hb I e n=>u.keep b o e n (λz=>(UP.mp (ab.stkSub b z)).elim hL hb) I) (λb o _ _ I e n=>u.any e n I) (λb o I e n=>u.free b o e n I) (λb o I e=>u.there b o e I) u.tups u.frzs u.tbls (λm' hm=>by
  let(o',av,ar,ap,r'):=hm;rw[ho]at ap;cases ap;show(_,av,ar,hL,r')) a0 hg
def aZ.turned{t':Nat}{I:Uw}(ab:aZ X O D H s)(k:∀b o,b≠I->s.heap.get? b=Up o->h'.get? b=Up o)(hn:H I=UH)(hL:I≠X.env.locals)(h1:I∈X.ex\/X.s_0.heap.objs.size<=I)(h2:∀x c,X.env.cells.lookup x=Up c->c≠I)(h3:∀p∈X.pn++O,p.1≠I):aZ X O D H {s with heap:=h',toks:=t'}:=by
 let an:∀b u,H b=Up u->b≠I:=λb u e z=>by rw[z,hn]at e;cases e
 show ab.step (g':=s.gens) (d':=s.drawn) (ch:=[I]) (λb hb=>?_) (λb o _ _ hc e _=>k b o (λz=>hc (by simp [z])) e) (λb o _ _ hc e _=>(o.slots,k b o (λz=>hc (by simp [z])) e)) (λ_ _ _ _ n=>n)
  (λb o hc e=>(o,k b o (λz=>hc (by simp [z])) e)) (λ_ _ e=>e) (λ_ _ _ e=>e) (λb ps e=>(#[],by rw[e];simp)) (λm hm=>?_) (λb u e=>?_) ab.bare
 .let e:b=I:=by simpa using hb
  subst e;show(h1,hL,h2,h3)
 .let(o,es,ep,ho,r):=hm;show(o,es,ep,k _ o (WX hL) ho,r)
 .show(ab.hok b u e).stay (λc v hc q=>k c v ?_ q) (λ_ q=>q) λ_ _ q=>q
  rcases hc with z|z
  .rw[z];show an b u e
  .show an c _ z
def aZ.tok(I:aZ X O D H s)(t:Nat):aZ X O D H {s with toks:=t}:=I.un (h':=s.heap) (t':=t) Un.refl I.hok
def aZ.kept{t':Nat}(I:aZ X O D H s)(k:∀b u,s.heap.get? b=Up u->h'.get? b=Up u):aZ X O D H {s with heap:=h',toks:=t'}:=I.un (Un.kept k) (I.hok.kept k)
def aZ.laid{t':Nat}(I:aZ X O D H s)(k:∀b u,s.heap.get? b=Up u->h'.get? b=Up u)(hp:s.heap.objs.size<=a)(ab:cP X.prog X.w (aw H a o) h' a o):
  aZ X O D (aw H a o) {s with heap:=h',toks:=t'}:=I.un (Un.laid k hp (I.hok.fresh hp)) (I.hok.laid k hp ab)
def aZ.write{t':Nat}(I:aZ X O D H s)(mu:OK (H x))(he:e=x\/H e=Up (.own x))(k:∀b u,b≠e->s.heap.get? b=Up u->h'.get? b=Up u)(ab:∃u,h'.get? e=Up u)(an:cP X.prog X.w (aw H x o) h' x o):aZ X O D (aw H x o) {s with heap:=h',toks:=t'}:=I.un (Un.write mu he k ab) (I.hok.write mu he k ab an)
def aZ.weak{σ':List (Option V)}(I:aZ X O D H s)(hl:↑σ'=↑D)(w:∀(i:Nat)v,σ'[i]?=Up (Up v)->D[i]?=Up (Up v)):aZ X O σ' H s:=
 (I.ok,I.os,I.bare,I.base,let(m,hn,ab):=I.loc;(m,hn,λi x v e1 e2 e3=>ab i x v e1 (w i v e2) e3),I.cell,I.free,I.freeC,I.pin,I.hok,hl.trans I.len)
def aZ.pins_of(I:aZ X O D H s)(h:∀p∈pins',s.heap.get? p.1=Up p.2/\H p.1=UH/\p.1≠X.env.locals/\p.1∉X.fs/\∀v,p.2.data≠.cell v):aZ X pins' D H s:=
 (I.ok,I.os,I.bare,I.base,I.loc,I.cell,I.free,I.freeC,λp hp=>(VM.mp hp).elim (λz=>I.pin p (Ws _ z)) (h p),I.hok,I.len)
def xb{N:List Vp}(hN:N.Nodup){i j:Nat}{x:Vp}(a:N[i]?=Up x)(b:N[j]?=Up x):i=j:=by
 let(h1,I):=UO.mp a;let(h2,e2):=UO.mp b;show(ac9 hN).mp (I.trans e2.symm)
def Aj{M:Model}{A:VU}{E:Uv->UE->Prop}{i:Nat}{x:Vp}{v:V}{u:Uv}{Q:Unit->UE->Prop}(I:aZ X O D H s)(hN:X.N.Nodup)(hi:X.N[i]?=Up x)(hx:Sq X.env.scope x)(r:bQ v u)(h:∀s',aZ X O (D.set i (Up v)) H s'->(∃a,Ys a s.heap s'.heap/\(a=X.env.locals\/X.env.cells.lookup x=Up a))->Q ⟨⟩ s')(hf:X.fn x=UB\/X.env.scope.names.lookup x=Up .local:=by first|show .inl rfl|show .inr rfl|assumption):wpAny M A (storeName X.env x u) Q E s:=by
 let(m,hn,hl):=id I.loc;let a3:(X.env.scope.kind==.class||(X.env.scope.kind==.module&&X.env.locals !=X.env.globals))=false:=by rw[I.ok.kind];rfl
 let a0:i<↑D:=by rw[I.len];show(UO.mp hi).1
 let ab:=I.cne;let a2:∀{a:Uw}{h':Heap},(∃o,s.heap.get? a=Up o/\H a=UH)->Ys a s.heap h'->kt X.prog X.w H h':=λ{a h'}ha hs b ob e=>by
  let(_,_,av):=ha;show(I.hok b ob e).stay (λc w' hc q=>(hs.2 c ?_).trans q) (λ_ q=>q) λ_ _ q=>q
  rintro rfl;rcases hc with rfl|hc
  .rw[av]at e;cases e
  .rw[av]at hc;cases hc
 rcases hx with hk|hk
 .show wpAny_storeName_local hk hn (λh' a4 hs=>?_) a3;let(oL,_,_,a5,_):=id hn;show h _ (I.ok,I.os,I.bare,(λb o e n hb hx=>?_,λb o e n hb hx=>?_,I.base.free,λb o e hx=>?_,I.base.tups,I.base.frzs,I.base.tbls),(_,a4,λj y v' e1 e2 e3=>?_),λy c e=>?_,I.free,I.freeC,λp hp=>?_,a2 (oL,a5,I.free) hs,by simpa using I.len) (_,hs,.inl rfl)
  .show(hs.2 b (Vl (U9 (U4 e) I.ok.above))).trans (I.base.keep b o e n hb hx)
  .let(sl,e1):=I.base.slot b o e n hb hx;show(sl,(hs.2 b (Vl (U9 (U4 e) I.ok.above))).trans e1)
  .let(o',e1):=I.base.there b o e hx;show(o',(hs.2 b (Vl (U9 (U4 e) I.ok.above))).trans e1)
  .by_cases hj:j=i
   .subst hj;rw[hi]at e1;cases e1;rw[Zc a0]at e2;cases e2;show(u,r,.inl (hk,by simp))
   .rw[ZG (WX hj)]at e2;let(u',r',q):=hl j y v' e1 e2 e3;show(u',r',?_);rcases q with⟨k,e⟩|⟨k,c,e,z⟩
    .show .inl (k,?_);have:y≠x:=λe=>hj (xb hN e1 (e▸hi))
     simp [this,e]
    .show .inr (k,c,e,z.sameBut hs (ab y c e))
  .let(w',z):=I.cell y c e;show(w',z.sameBut hs (ab y c e))
  .let(e,n,ne,nf,d):=I.pin p hp;show((hs.2 p.1 ne).trans e,n,ne,nf,d)
 .let an:X.fn x=UB:=by
   rcases hf with z|z
   .show z
   .rw[z]at hk;cases hk
  let(c,hc):=I.ok.has x (.inl hk);let(w',z):=I.cell x c hc;show wpAny_storeName_cell I.ok.kind hk hc z (λh' ap hs=>?_);let(oc,a1,a6):=id z;show h {s with heap:=h'} (I.ok,I.os,I.bare,(λb o e n hb hx=>?_,λb o e n hb hx=>?_,I.base.free,λb o e hx=>?_,I.base.tups,I.base.frzs,I.base.tbls),(m,hn.sameBut hs (WX (ab x c hc)),λj y v' e1 e2 e3=>?_),λy c' e=>?_,I.free,I.freeC,λp hp=>?_,a2 (oc,a1,I.freeC x c hc) hs,by simpa using I.len) (c,hs,.inr hc)
  .show(hs.2 b (Vl (U9 (U4 e) (I.ok.cab x c an hc)))).trans (I.base.keep b o e n hb hx)
  .let(sl,e1):=I.base.slot b o e n hb hx;show(sl,(hs.2 b (Vl (U9 (U4 e) (I.ok.cab x c an hc)))).trans e1)
  .let(o',e1):=I.base.there b o e hx;show(o',(hs.2 b (Vl (U9 (U4 e) (I.ok.cab x c an hc)))).trans e1)
  .by_cases hj:j=i
   .subst hj;rw[hi]at e1;cases e1;rw[Zc a0]at e2;cases e2;show(u,r,.inr (.inl hk,c,hc,ap))
   .rw[ZG (WX hj)]at e2;let(u',r',q):=hl j y v' e1 e2 e3;show(u',r',?_);rcases q with q|⟨k,c',e,z'⟩
    .show .inl q
    .show .inr (k,c',e,z'.sameBut hs ?_);rintro rfl;show hj (xb hN e1 (I.ok.inj _ _ _ e hc▸hi))
  .by_cases ar:c'=c
   .subst ar;show(_,ap)
   .let(w2,z2):=I.cell y c' e;show(w2,z2.sameBut hs ar)
  .let(e,n,ne,nf,d):=I.pin p hp;show((hs.2 p.1 ?_).trans e,n,ne,nf,d);intro q;rw[q,a1]at e;let q':oc=p.2:=UI e;show d w' (by rw[<-q'];show a6)
def qW{M:Model}{A:VU}{E:Uv->UE->Prop}{Q:Unit->UE->Prop}(I:aZ X O D H s)(hN:X.N.Nodup)(hi:X.N[i]?=Up x)(hx:Sq X.env.scope x)(r:bQ v u)(h:∀s',aZ X O (D.set i (Up v)) H s'->Q ⟨⟩ s')(hf:X.fn x=UB\/X.env.scope.names.lookup x=Up .local:=by first|show .inl rfl|show .inr rfl|assumption):wpAny M A (storeName X.env x u) Q E s:=
 Aj I hN hi hx r (λs' I' _=>h s' I') hf
def aZ.call'{s':UE}(I:aZ X O D H s)(ho:s'.os=s.os)(u:Un (DI X.stack) ch H H' s.heap s'.heap)(an:kt X.prog X.w H' s'.heap)(hg:acK s'.gens)(ab:∀b∈ch,(b∈X.ex\/X.s_0.heap.objs.size<=b)/\b≠X.env.locals/\(∀x c,X.env.cells.lookup x=Up c->c≠b)/\∀p∈X.pn++O,p.1≠b):aZ X O D H' s':=by
 let(h',g',d',t',o'):=s';let e:o'=s.os:=ho;subst e;show I.call (g':=g') (t':=t') (d':=d') u an hg ab
end
abbrev XK:=Uv->Option Uw->Hp->Prop
abbrev St:=List (Option V)
abbrev VK:=V->Hp->Prop
abbrev TE:=St->Hp->VK->Prop
abbrev TT:=St->Hp->(Bool->Hp->Prop)->Prop
abbrev TA:=St->Hp->(List V->Hp->Prop)->Prop
structure mz where
 nx:St->Hp->Prop
 rt:VK
 bk:St->Hp->Prop:=fun _ _=>False
 ct:St->Hp->Prop:=fun _ _=>False
abbrev TS:=mz->St->Hp->Prop
inductive EP(X:Cx)(a:List (Addr×Obj))(c:St)(Q:VK)(u:Value)(d:Shared):Prop|mk(v b:_)(_:aZ X a c b d)(_:bQ v u)(_:Q v b)
inductive TP(X:Cx)(a:List (Addr×Obj))(d:St)(Q:Bool->Hp->Prop)(b:Bool)(e:Shared):Prop|mk(c:_)(_:aZ X a d c e)(_:Q b c)
inductive AP(X:Cx)(a:List (Addr×Obj))(d:St)(Q:List V->Hp->Prop)(e:List Value)(f:Shared):Prop|mk(b c:_)(_:aZ X a d c f)(_:bq b e)(_:Q b c)
def SP(X:Cx)(O:List (Uw×W2))(I:mz)(f:Flow)(s':UE):Prop:=
 match f with
 |.next=>∃σ' H',aZ X O σ' H' s'/\I.nx σ' H'
 |.brk=>∃σ' H',aZ X O σ' H' s'/\I.bk σ' H'
 |.cont=>∃σ' H',aZ X O σ' H' s'/\I.ct σ' H'
 |.ret u=>∃v σ' H',aZ X O σ' H' s'/\bQ v u/\I.rt v H'
def PE(X:Cx)(e:Expr)(t:TE):Prop:=
 ∀(O:List (Uw×W2))(s:UE)(D:St)(H:Hp)(Q:VK),aZ X O D H s->t D H Q->Vi (U_ X.prog X.w) X.A (Xq e X.env) (EP X O D Q) X.xe s
def PT(X:Cx)(e:Expr)(t:TT):Prop:=
 ∀(O:List (Uw×W2))(s:UE)(D:St)(H:Hp)(Q:Bool->Hp->Prop),aZ X O D H s->t D H Q->Vi (U_ X.prog X.w) X.A (isTrue e X.env (Xq e X.env)) (TP X O D Q) X.xe s
def PW(X:Cx)(e:Expr)(t:TT):Prop:=
 ∀(I:Sem Uv)(O:List (Uw×W2))(s:UE)(D:St)(H:Hp)(Q:Bool->Hp->Prop),aZ X O D H s->t D H Q->Vi (U_ X.prog X.w) X.A (isTrue e X.env I) (TP X O D Q) X.xe s
def PW.pt{X:Cx}(h:PW X e t):PT X e t:=h _
def PA(X:Cx)(es:List Expr)(t:TA):Prop:=
 ∀(G:Pos)(O:List (Uw×W2))(s:UE)(D:St)(H:Hp)(Q:List V->Hp->Prop),aZ X O D H s->t D H Q->Vi (U_ X.prog X.w) X.A (spliced (Yk G (Vt es X.env))) (AP X O D Q) X.xe s
def PS(X:Cx)(st:Vs)(t:TS):Prop:=
 ∀(O:List (Uw×W2))(s:UE)(D:St)(H:Hp)(I:mz),aZ X O D H s->t I D H->Vi (U_ X.prog X.w) X.A (exec st X.env) (SP X O I) X.xe s
def yw(X:Cx)(st:List Vs)(t:TS):Prop:=
 ∀(O:List (Uw×W2))(s:UE)(D:St)(H:Hp)(I:mz),aZ X O D H s->t I D H->Vi (U_ X.prog X.w) X.A (execs st X.env) (SP X O I) X.xe s
def cW{α:Type}{t:Sem α}{Q I:α->UE->Prop}{M:Model}{A:VU}{E:Uv->UE->Prop}{s:UE}(h:Vi M A t Q E s)(hQ:∀a s,Q a s->I a s):Vi M A t I E s:=V9 h hQ λ_ _ x=>x
section
variable {X:Cx}
inductive bJ(i:Nat)(a:St)(H:Hp)(Q:VK):Prop|mk(v:_)(_:a[i]?=some (some v))(_:Q v H)
def tC(v:V):TE:=λ_ H Q=>Q v H
def Qs{G:Pos}(hN:X.N[i]?=Up x)(hv:Q9 X.env.scope x)(hd:(x==("__debug__":Vp))=UF:=by decide)(ar:(x==("__classdict__":Vp))=UF:=by decide):PE X (.Name x G) (bJ i):=by
 intro O s D H Q ab h;let(v,e,h):=h;let(m,hn,hl):=ab.loc;let(u,r,l):=hl i x v hN e hv;let an:EP X O D Q u s:=(v,H,ab,r,h);rcases l with⟨I,hm⟩|⟨I,c,hc,ap⟩
 .show wpAny_Name (wpAny_loadName_local ab.ok.kind I hn hm an) hd
 .rcases I with I|I
  .show wpAny_Name (wpAny_loadName_cell ab.ok.kind I hc ap an) hd
  .show wpAny_Name (wpAny_loadName_free ab.ok.kind I hc ap an ar) hd
def aF{i j G}:PE X (.Constant (.int i) j G) (tC (.int i)):=λ_ _ _ H _ I h=>wpAny_Constant_int (.int i,H,I.tok _,(_,Y),h)
def II{b j G}:PE X (.Constant (.bool b) j G) (tC (.bl b)):=λ_ _ _ H _ I h=>Constant_bool (.bl b,H,I,Y,h)
def cZ{j G}:PE X (.Constant .none j G) (tC .non):=λ_ _ _ H _ I h=>Constant_none (.non,H,I,Y,h)
def aD{x j G}:PE X (.Constant (.str x) j G) (tC (.str x)):=λ_ _ _ H _ I h=>Calls.Constant_str (.str x,H,I.tok _,(_,Y),h)
def Gl(X:Cx)(x:Vp):Prop:=X.env.kindOf x=Up .globalImplicit
def lN{E:Uv->UE->Prop}{G:Pos}{Q:Uv->UE->Prop}(I:aZ X O D H s)(hg:Gl X x)(hm:X.mg x=Up u)(h:Q u s)(hd:(x==("__debug__":Vp))=UF:=by decide):Vi (U_ X.prog X.w) X.A (Xq (.Name x G) X.env) Q E s:=
 aac I.ok.kind hg (Calls.loadGlobal_global (by rw[I.ok.glob];show I.mod.glob.keeps I.bk) hm h) hd
def Cy{E:Uv->UE->Prop}{G:Pos}{Q:Uv->UE->Prop}(I:aZ X O D H s)(hg:Gl X x)(hm:X.mg x=UH)(hv:aa2 x=Up u)(h:Q u s)(hn:x≠"__name__":=by decide)(hd:(x==("__debug__":Vp))=UF:=by decide):Vi (U_ X.prog X.w) X.A (Xq (.Name x G) X.env) Q E s:=by
 let(mb,h1,h2):=I.mod.blt;show aac I.ok.kind hg (Calls.loadGlobal_builtin (by rw[I.ok.glob];show I.mod.glob.keeps I.bk) hm (by rw[I.ok.blt];show h1.keeps I.bk) ((h2 x hn).trans hv) h) hd
def N1{G:Pos}(hg:Gl X x)(hm:X.mg x=Up u)(r:bQ v u)(hd:(x==("__debug__":Vp))=UF:=by decide):PE X (.Name x G) (tC v):=
 λ_ _ _ H _ I h=>lN I hg hm (v,H,I,r,h) hd
variable {a b:Expr} {ta tb:TE} {G:Pos}
def PC(X:Cx)(op:CmpOp)(a b:Expr)(t:TE):Prop:=
 ∀(O:List (Uw×W2))(s:UE)(D:St)(H:Hp)(Q:VK),aZ X O D H s->t D H Q->
  Vi (U_ X.prog X.w) X.A (Xq a X.env) (λv I=>Vi (U_ X.prog X.w) X.A (Xq b X.env) (λu s₂=>Vi (U_ X.prog X.w) X.A (V0 op v u) (EP X O D Q) X.xe s₂) X.xe I) X.xe s
inductive Q5(Q:Bool->Hp->Prop)(x:V)(a:Hp):Prop|mk(c:_)(_:x=.bl c)(_:Q c a)
def tB(t:TE):TT:=λD H Q=>t D H (Q5 Q)
def Qt(h:PC X op a b t)(h1:aax op b=UF:=by first|show nobehind _ (by decide) (by decide)|rfl):PE X (.Compare a [op] [b] G) t:=λO s D H Q I hw=>wpAny_Compare1 (h O s D H Q I hw) h1
def nI(h:PC X op a b t)(h1:aax op b=UF:=by first|show nobehind _ (by decide) (by decide)|rfl):PT X (.Compare a [op] [b] G) (tB t):=by
 intro O s D H Q I hw;show wpAny_isTrue_Compare1 (cW (h O s D H _ I hw) λv s1 h1=>cW h1 λu s2 h2=>cW h2 λc s3 (x,H1,I1,r1,q1)=>?_) h1;let(d,rfl,q):=q1;cases r1;show Wx (H1,I1,q)
def cB{e:Expr}(h:PE X e t)(he:∀I,isTrue e X.env I=(do let v<-I;standAt e.pos;holding [v] (truthy v)):=by intro _;rfl):PT X e (tB t):=by
 intro O s D H Q ab hw;show isTrue_plain (cW (h O s D H _ ab hw) λv s1 (x,H1,I1,r1,q1)=>?_) (he _);let(d,rfl,q):=q1;cases r1;show Wx (H1,I1,q)
variable {tA Q5:TT} {rest:List Expr}
def Rp(t u:TT):TT:=λD H Q=>t D H λc H1=>if c=UB then u D H1 Q else Q UF H1
def T4(t u:TT):TT:=λD H Q=>t D H λc H1=>if c=UB then Q UB H1 else u D H1 Q
def Rg(t:TT):TT:=λD H Q=>t D H λc H1=>Q (!c) H1
def iM(ha:PT X a tA):PW X (.BoolOp .And [a] G) tA:=by
 intro wh O s D H Q I h;show isTrue_and (cW (ha O s D H Q I h) λc s1 e=>?_);cases c with
 |true=>show isTrue_and_nil e
 |false=>show e
def sJ(ha:PT X a tA):PW X (.BoolOp .Or [a] G) tA:=by
 intro wh O s D H Q I h;show isTrue_or (cW (ha O s D H Q I h) λc s1 e=>?_);cases c with
 |false=>show isTrue_or_nil e
 |true=>show e
def jP(ha:PT X a tA)(hb:PW X (.BoolOp .And (b::rest) G) Q5):PW X (.BoolOp .And (a::b::rest) G) (Rp tA Q5):=by
 intro wh O s D H Q ab h;show isTrue_and (cW (ha O s D H _ ab h) λc s1 (H1,I,q1)=>?_);cases c with
 |true=>show hb wh O s1 D H1 Q I q1
 |false=>show(H1,I,q1)
def wO(ha:PT X a tA)(hb:PW X (.BoolOp .Or (b::rest) G) Q5):PW X (.BoolOp .Or (a::b::rest) G) (T4 tA Q5):=by
 intro wh O s D H Q ab h;show isTrue_or (cW (ha O s D H _ ab h) λc s1 (H1,I,q1)=>?_);cases c with
 |true=>show(H1,I,q1)
 |false=>show hb wh O s1 D H1 Q I q1
def i6(ha:PT X a tA):PT X (.UnaryOp .Not a G) (Rg tA):=by
 intro O s D H Q I h;show isTrue_not (cW (ha O s D H (λc H1=>Q (!c) H1) I h) λc s1 (H1,I1,q)=>(H1,I1,q))
inductive PN(b:TE)(d:St)(Q:VK)(x:V)(a:Hp):Prop|mk(c:_)(_:x=.bl c)(_:if c=true then b d a Q else Q (.bl false) a)
def OS(ta tb:TE):TE:=λD H Q=>ta D H (PN tb D Q)
def B7{op}(h:PE X a t):PE X (.BoolOp op [a] G) t:=λO s D H Q I hw=>BoolOp_one (h O s D H Q I hw)
def qo(ha:PE X a ta)(hb:PE X (.BoolOp .And (b::rest) G) tb):PE X (.BoolOp .And (a::b::rest) G) (OS ta tb):=by
 intro O s D H Q ab h;show BoolOp_and (cW (ha O s D H _ ab h) λv s1 (x,H1,I1,r1,I)=>?_);let(c,rfl,I):=I;cases r1;show Wx ?_;cases c with
 |true=>show hb O s1 D H1 Q I1 I
 |false=>show(.bl UF,H1,I1,Y,I)
def Sz(t:TT)(ta tb:TE):TE:=λD H Q=>t D H λc H1=>if c=UB then ta D H1 Q else tb D H1 Q
def gy(hc:PT X c tA)(ha:PE X a ta)(hb:PE X b tb):PE X (.IfExp c a b G) (Sz tA ta tb):=by
 intro O s D H Q ab h;show wpAny_IfExp (cW (hc O s D H _ ab h) λd s1 (H1,I,q1)=>?_);cases d with
 |true=>show ha O s1 D H1 Q I q1
 |false=>show hb O s1 D H1 Q I q1
end
def bx(K:UN)(H:Hp)(a:Uw)(xs:List V):Prop:=
 Rd H a (.lst xs)\/
  ∃(o:W2)(I:Array Uv)(n:Nat),K.lookup a=Up o/\o.cls=.type "list"/\o.dict=UH/\o.data=.seq I n/\I.size<=U1/\bq xs I.toList
def TM:Uv->Option V
 |.none=>Up .non
 |.bool b=>Up (.bl b)
 |.int i _=>Up (.int i)
 |.str x _=>Up (.str x)
 |.bytes b _=>Up (.byt b)
 |.float b _=>Up (.flt b)
 |.ref a=>Up (.ref a)
 |.type n=>Up (.ty n)
 |_=>none
def bQ.abs(r:bQ x u):TM u=Up x:=by
 cases x with
 |non=>cases r;rfl
 |bl _=>cases r;rfl
 |int _=>let(t,rfl):=r;rfl
 |str _=>let(t,rfl):=r;rfl
 |byt _=>let(t,rfl):=r;rfl
 |flt _=>let(t,rfl):=r;rfl
 |ref _=>cases r;rfl
 |ty _=>cases r;rfl
def bQ.inj(r:bQ x u)(q:bQ y u):x=y:=UI (r.abs.symm.trans q.abs)
def bq.inj:∀{xs ys:List V}{us:List Uv},bq xs us->bq ys us->xs=ys
 |_,_,_,.nil,.nil=>rfl
 |_,_,_,.cons r t,.cons I t'=>by rw[r.inj I,bq.inj t t']
section
variable {X:Cx} {O:List (Addr×Obj)} {D:St} {H:Hp} {s:Shared} {a:Addr} {xs ys:List V}
def bx.of{K:UN}(h:H a=Up (.lst xs)):bx K H a xs:=.inl (.inl h)
def gK.of{K:UN}(h:H a=Up (.tup xs)):gK K H a xs:=.inl (.inl h)
def aZ.list(ab:aZ X O D H s)(h:bx X.K H a xs):∃I:List Uv,bq xs I/\PlainL s.heap a I.toArray/\↑xs<=U1:=by
 rcases h with h|⟨o,I,n,hk,hc,hd,hs,hz,r⟩
 .let(z,I,n,r,e):=h.ok ab.hok;show(I,r,(_,n,e,Y,Y,Y),z)
 .show(I.toList,r,(o,n,ab.kIn a o hk,hc,hd,by simpa using hs),?_);let e:=↑r;simp only[V8]at e;lia
def aZ.tuple(ab:aZ X O D H s)(h:gK X.K H a xs):∃I:List Uv,bq xs I/\IsTup s.heap a I.toArray/\↑xs<=U1:=by
 rcases h with h|⟨o,I,n,hk,hc,hs,hz,r⟩
 .let(z,I,r,p):=h.ok ab.hok;show(I,r,p,z)
 .show(I.toList,r,(o,ab.kIn a o hk,hc,n,by simpa using hs),?_);let e:=↑r;simp only[V8]at e;lia
def aZ.list_inj(I:aZ X O D H s)(h:bx X.K H a xs)(h':bx X.K H a ys):xs=ys:=by
 let(ab,r,(o,n,e,_,_,d),_):=I.list h;let(its',r',(o',n',e',_,_,d'),_):=I.list h';rw[e]at e';cases e';rw[d]at d';injection d' with d1 _;have:ab=its':=by simpa using congrArg Z1 d1
 subst this;show r.inj r'
def aZ.tuple_inj(I:aZ X O D H s)(h:gK X.K H a xs)(h':gK X.K H a ys):xs=ys:=by
 let(ab,r,(o,e,_,n,d),_):=I.tuple h;let(its',r',(o',e',_,n',d'),_):=I.tuple h';rw[e]at e';cases e';rw[d]at d';injection d' with d1 _;have:ab=its':=by simpa using congrArg Z1 d1
 subst this;show r.inj r'
end
abbrev Cx.wish(X:Cx)(E:Uv->UE->Prop):Cx:={X with xe:=E}
abbrev Cx.nox(X:Cx):Cx:=X.wish λ_ _=>False
def Cx.Ok.wish{X:Cx}(ok:X.Ok)(E:Uv->UE->Prop):(X.wish E).Ok:=
 (ok.mod,ok.kind,ok.glob,ok.blt,ok.above,ok.inj,ok.has,ok.cab,ok.hd,ok.frames,ok.stk,ok.exf,ok.bs,ok.bsz,ok.noex,ok.exfs,ok.funs,ok.frf)
def Cx.Ok.unwish{X:Cx}(ok:(X.wish E).Ok):X.Ok:=
 (ok.mod,ok.kind,ok.glob,ok.blt,ok.above,ok.inj,ok.has,ok.cab,ok.hd,ok.frames,ok.stk,ok.exf,ok.bs,ok.bsz,ok.noex,ok.exfs,ok.funs,ok.frf)
section
variable {X:Cx} {O:List (Addr×Obj)} {D:St} {H:Hp} {s:Shared} {E:Value->Shared->Prop}
def aZ.wish(I:aZ X O D H s)(E:Uv->UE->Prop):aZ (X.wish E) O D H s:=(I.ok.wish E,I.os,I.bare,I.base,I.loc,I.cell,I.free,I.freeC,I.pin,I.hok,I.len)
def aZ.unwish(I:aZ (X.wish E) O D H s):aZ X O D H s:=(I.ok.unwish,I.os,I.bare,I.base,I.loc,I.cell,I.free,I.freeC,I.pin,I.hok,I.len)
def SP.unwish(h:SP (X.wish E) O ab f s'):SP X O ab f s':=by
 cases f with
 |next=>let(σ',H',I,q):=h;show(σ',H',I.unwish,q)
 |brk=>let(σ',H',I,q):=h;show(σ',H',I.unwish,q)
 |cont=>let(σ',H',I,q):=h;show(σ',H',I.unwish,q)
 |ret u=>let(v,σ',H',I,r,q):=h;show(v,σ',H',I.unwish,r,q)
def yw.nox{st:List Vs}(h:yw X.nox st t):yw X st t:=λO s D H I ab hw=>
 V9 (h O s D H I (ab.wish _) hw) (λ_ _ q=>q.unwish) λ_ _ z=>VI z
end
section
variable {X:Cx} {st:Stmt} {rest:List Stmt} {t u:TS} {e:Expr} {te:TE} {G:Pos}
def Li:TS:=λI D H=>I.nx D H
def uG(t u:TS):TS:=λI D H=>t {I with nx:=u I} D H
def ay:yw X [] Li:=λ_ _ D H _ I h=>ZJ (D,H,I,h)
def ac(h1:PS X st t)(h2:yw X rest u):yw X (st::rest) (uG t u):=by
 intro O s D H I ab h;show wpAny_execs_cons (cW (h1 O s D H {I with nx:=u I} ab h) λf s1 q=>?_);cases f with
 |next=>
  let(σ',H',I',q):=q;show h2 O s1 σ' H' I I' q
 |ret v=>show q
 |brk=>show q
 |cont=>show q
def ag(h1:PS X st t):yw X [st] t:=by
 intro O s D H I ab h;show wpAny_execs_cons (cW (h1 O s D H I ab h) λf s1 q=>?_);cases f with
 |next=>show ZJ q
 |ret v=>show q
 |brk=>show q
 |cont=>show q
def aZ.quiet(I:aZ X O D H s):interactive X.env=UF:=by simp [interactive,I.ok.kind]
def nu(te:TE):TS:=λI D H=>te D H λ_ H1=>I.nx D H1
def aE(he:PE X e te)(hs:aaK e UH G.line X.env=pure UF:=by rfl):PS X (.Expr e G) (nu te):=by
 intro O s D H ab I h;show wpAny_Expr_any (cW (he O s D H _ I h) λv s1 (x,H1,I1,r1,q1)=>(D,H1,I1,q1)) I.quiet hs
def mV(te:TE):TS:=λI D H=>te D H I.rt
def am(he:PE X e te):PS X (.Return (Up e) G) (mV te):=by
 intro O s D H ab I h;show wpAny_Return_some (cW (he O s D H _ I h) λv s1 (x,H1,I1,r1,q1)=>(x,D,H1,I1,r1,q1))
def Rf:TS:=λD _ H=>D.rt .non H
def NW:PS X (.Return UH G) Rf:=λ_ _ D H _ I h=>wpAny_Return_none (.non,D,H,I,Y,h)
def Jv(c:TT)(t u:TS):TS:=λI D H=>c D H λb H1=>if b=UB then t I D H1 else u I D H1
def aJ(hc:PT X c tc)(ha:yw X a t)(hb:yw X b u):PS X (.If c a b G) (Jv tc t u):=by
 intro O s D H I ab h;show wpAny_If (cW (hc O s D H _ ab h) λd s1 (H1,I1,q1)=>?_);cases d with
 |true=>show ha O s1 D H1 I I1 q1
 |false=>show hb O s1 D H1 I I1 q1
end
abbrev TG:=V->St->Hp->(St->Hp->Prop)->Prop
def PG(X:Cx)(I:Expr)(t:TG):Prop:=
 ∀(O:List (Uw×W2))(s:UE)(D:St)(H:Hp)(v:V)(u:Uv)(Q:St->Hp->Prop),aZ X O D H s->bQ v u->t v D H Q->
  Vi (U_ X.prog X.w) X.A (assign I X.env u) (λ_ s'=>∃σ' H',aZ X O σ' H' s'/\Q σ' H') X.xe s
abbrev Q0:=V->V->V->Hp->(Hp->Prop)->Prop
def Sn(X:Cx)(t:Q0):Prop:=
 ∀(O:List (Uw×W2))(s:UE)(D:St)(H:Hp)(o i v:V)(ov I u:Uv)(Q:Hp->Prop),aZ X O D H s->bQ o ov->bQ i I->bQ v u->t o i v H Q->
  Vi (U_ X.prog X.w) X.A (setItem ov I u) (λ_ s'=>∃H',aZ X O D H' s'/\Q H') X.xe s
abbrev TQ:=V->V->Hp->VK->Prop
def TV(X:Cx)(op:acE)(t:TQ):Prop:=
 ∀(O:List (Uw×W2))(s:UE)(D:St)(H:Hp)(x y:V)(v u:Uv)(Q:VK),aZ X O D H s->bQ x v->bQ y u->t x y H Q->
  Vi (U_ X.prog X.w) X.A (ac0 op v u) (EP X O D Q) X.xe s
section
variable {X:Cx} {G:Pos}
def mQ(i:Nat):TG:=λv D H Q=>Q (D.set i (Up v)) H
def cQ(hN:X.N.Nodup)(hi:X.N[i]?=Up x)(hx:Sq X.env.scope x)(hf:X.fn x=UB\/X.env.scope.names.lookup x=Up .local:=by first|show .inl rfl|show .inr rfl|assumption):PG X (.Name x G) (mQ i):=by
 intro O s D H v u Q I r h;show wpAny_assign_Name (qW I hN hi hx r (λs' I'=>(_,H,I',h)) hf)
def TB(to ti:TE)(t:Q0):TG:=λv D H Q=>to D H λo H1=>ti D H1 λi H2=>t o i v H2 λI=>Q D I
def Qr(ho:PE X o to)(hi:PE X i ti)(hs:Sn X t)(ha:∀v,assign (.Subscript o i G) X.env v=(do
   let I<-holding [v] (eval o X.env);let iv<-holding [v,I] (eval i X.env)
   standAt G
   holding [v,I,iv] (setItem I iv v)
   release [v,I,iv] []):=by intro _;rfl):PG X (.Subscript o i G) (TB to ti t):=by
 intro O s D H v u Q ab r h;rw[ha];show wpAny_bind (wpAny_holding (cW (ho O s D H _ ab h) λI s1 (x,H1,I1,r1,q1)=>?_));show wpAny_bind (wpAny_holding (cW (hi O s1 D H1 _ I1 q1) λiv s2 (y,H2,I2,r2,q2)=>?_));show wpAny_bind (aav (wpAny_bind (wpAny_holding (cW (hs O s2 D H2 x y v I iv u _ I2 r1 r2 r q2) λ_ s3 (H3,I3,q3)=>?_))));show wpAny_release (D,H3,I3,q3)
def Jw(te:TE)(g:TG):TS:=λI D H=>te D H λx H1=>g x D H1 I.nx
def Qn(he:PE X e te)(hg:PG X tg g)(hs:swapsWithSole [tg] e G.line X.env=pure UF:=by rfl)(hw:swappedStores [tg] e X.env=pure UH:=by rfl)(h1:(assignEach [tg] X.env).map (·.2)=[assign tg X.env]:=by rfl):PS X (.Assign [tg] e G) (Jw te g):=by
 intro O s D H ab I h;show wpAny_Assign_stores (cW (he O s D H _ I h) λv s1 (x,H1,I1,r1,q1)=>?_) hs hw;rw[h1];show cW (hg O s1 D H1 x v _ I1 r1 q1) λ_ s2 q=>q
def aA(hN:X.N.Nodup)(hi:X.N[i]?=Up x)(hx:Sq X.env.scope x)(he:PE X e te)(hs:aaK e (Up (.Name x pos')) G.line X.env=pure UF:=by rfl)(hf:X.fn x=UB\/X.env.scope.names.lookup x=Up .local:=by first|show .inl rfl|show .inr rfl|assumption):
  PS X (.Assign [.Name x pos'] e G) (Jw te (mQ i)):=by
 intro O s D H ab I h;show wpAny_Assign_Name (cW (he O s D H _ I h) λv s1 (y,H1,I1,r1,q1)=>?_) hs;show qW I1 hN hi hx r1 (λs2 I2=>(_,H1,I2,q1)) hf
inductive SY(i:Nat)(b:TE)(c:TQ)(D:mz)(a:St)(H:Hp):Prop|mk(x:_)(_:a[i]?=some (some x))(_:b a H fun y H1=>c x y H1 fun z H2=>D.nx (a.set i (some z)) H2)
def qm{pos':Pos}(hN:X.N.Nodup)(hi:X.N[i]?=some x)(hx:Sq X.env.scope x)(he:PE X e te)(ho:TV X op ti)(hf:X.fn x=UB\/X.env.scope.names.lookup x=some .local:=by first|show .inl rfl|show .inr rfl|assumption):
  PS X (.AugAssign (.Name x pos') op e G) (SY i te ti):=by
 intro O s D H an ab h;let(v,e1,h):=h;let(m,hn,hl):=ab.loc;let ar:Q9 X.env.scope x:=by rcases hx with k|k;show .inl k;show .inr (.inl k)
 let(u,r,l):=hl i x v hi e1 ar;show wpAny_AugAssign_Name ?_;let go:Vi (U_ X.prog X.w) X.A (Xq e X.env) (λw s₂=>Vi (U_ X.prog X.w) X.A (ac0 op u w) (λr s₃=>Vi (U_ X.prog X.w) X.A (storeName X.env x r) (λ_=>SP X O an .next) X.xe s₃) X.xe s₂) X.xe s:=by
  show cW (he O s D H _ ab h) λw s1 (y,H1,I1,r1,q1)=>?_
  show cW (ho O s1 D H1 v y u w _ I1 r r1 q1) λz s2 (zv,H2,I2,r2,q2)=>?_
  show qW I2 hN hi hx r2 (λs3 I3=>(_,H2,I3,q2)) hf
 rcases l with⟨I,hm⟩|⟨I,c,hc,ap⟩
 .show wpAny_loadName_local ab.ok.kind I hn hm go
 .rcases I with I|I
  .show wpAny_loadName_cell ab.ok.kind I hc ap go
  .rcases hx with k|k
   .have:X.env.scope.names.lookup x=some .free:=I;rw[k]at this;cases this
   .have:X.env.scope.names.lookup x=some .free:=I;rw[k]at this;cases this
inductive T8(f:Int->Int->Int)(x y:V)(H:Hp)(Q:VK):Prop|mk(i j:_)(_:x=.int i)(_:y=.int j)(_:Q (.int (f i j)) H)
def qy:TV X .Add (T8 λi j=>i+j):=by
 intro O s D H x y v u Q I r1 r2 h;let(i,j,e1,e2,q):=h;subst e1;subst e2;let(t,rfl):=r1;let(t',rfl):=r2;show adw (.int _,H,I.tok _,(_,Y),q)
def QH:TV X .Sub (T8 λi j=>i-j):=by
 intro O s D H x y v u Q I r1 r2 h;let(i,j,e1,e2,q):=h;subst e1;subst e2;let(t,rfl):=r1;let(t',rfl):=r2;show isub_int (.int _,H,I.tok _,(_,Y),q)
end
section
variable {X:Cx} {G:Pos}
def Py(c:TT)(tb:TS):TS:=λI D H=>∃W:Nat->St->Hp->Prop,(∃m,W m D H)/\∀m D H,W m D H->
 c D H λb H1=>if b=UB then∃N:St->Hp->Prop,(∀σ' H',N σ' H'->∃m',m'<m/\W m' σ' H')/\tb {I with nx:=N,ct:=N,bk:=I.nx} D H1 else I.nx D H1
def dF{ab:List Vs}(hp:PassesOwn (U_ X.prog X.w) X.A X.env X.xe)(hc:PT X c tc)(hb:yw X ab tb):PS X (.While c ab [] G) (Py tc tb):=by
 intro O s D H ar an h;let(W,(m0,w0),ap):=h;show wpAny_While (codeAny_whileLoop (λn s'=>∃σ' H',aZ X O σ' H' s'/\W n σ' H') ?_ m0 (D,H,an,w0));rintro n s1 ⟨σ1,H1,I1,w1⟩;show wpAny_passesOwn hp (cW (hc O s1 σ1 H1 _ I1 (ap n σ1 H1 w1)) λb s2 (H2,I2,q2)=>?_);cases b with
 |true=>
  let(N,hN,q2):=q2;rw[ifp rfl];show wpAny_passesOwn hp (cW (hb O s2 σ1 H2 _ I2 q2) λf s3 q3=>?_);cases f with
  |next=>
   let(σ3,I,I3,n3):=q3;let(m',hm,w3):=hN σ3 I n3;show(m',hm,σ3,I,I3,w3)
  |cont=>
   let(σ3,I,I3,n3):=q3;let(m',hm,w3):=hN σ3 I n3;show(m',hm,σ3,I,I3,w3)
  |brk=>show q3
  |ret v=>show q3
 |false=>
  rw[ifn Ur];show ZJ (σ1,H2,I2,q2)
end
structure It where
 go:Nat->Hp->Prop
 yld:Nat->Hp->V->Hp->Prop
 stop:Nat->Hp->Prop
def z_(X:Cx)(O:List (Uw×W2))(H:Hp)(b:Uw):Prop:=
 H b=UH/\b≠X.env.locals/\b∉X.fs/\(b∈X.ex\/X.s_0.heap.objs.size<=b)/\(∀x c,X.env.cells.lookup x=Up c->c≠b)/\∀p∈X.pn++O,p.1≠b
def aZ.fpOk{X:Cx}{H H':Hp}{s:UE}(I:aZ X O D H s)(hb:s.heap.objs.size<=b)(hn:H' b=UH):z_ X O H' b:=by
 show(hn,Nat.ne_of_gt (U9 I.lt hb),I.nofs hb,.inr (Vm I.sz hb),λx c e z=>?_,λp hp z=>?_)
 .let(v,q):=I.cell x c e;show absurd (U9 q.lt (by rw[z];show hb)) (Wv _)
 .show absurd (U9 (U4 (I.pin p hp).1) (by rw[z];show hb)) (Wv _)
structure DF (P:Program) (w:World) (K:PySem.W.Frag) (tg:Expr) (J:It) (fp:List Addr) (it:Addr) (tn:Nat->Heap->Prop):Prop where
 mem:it∈fp
 obj: ∀i h,tn i h-> ∀b∈fp,∃o,h.get? b=some o/\ ∀v,o.data≠.cell v
 keep: ∀i h h',tn i h->(∀b∈fp,∀o,h.get? b=some o->h'.get? b=some o)->tn i h'
 item: ∀(X:Cx),X.prog=P->X.w=w->X.K=K->X.calm=true-> ∀(i:Nat) (pins:List (Addr×Obj)) (s:Shared) (σ:St) (H:Hp) (E:Value->Shared->Prop),aZ X pins σ H s->(∀b∈fp,z_ X pins H b)->tn i s.heap->J.go i H->
  wpAny (model P w) X.A (pyNext (.ref it)) (fun r s1=> ∃u,r=some u/\
   wpAny (model P w) X.A (letOwnedTupleGo tg (.ref it) u) (fun _ s2=> ∃x H',aZ X pins σ H' s2/\bQ x u/\J.yld i H x H'/\tn (i+1) s2.heap/\ ∀b∈fp,H' b=none) E s1) E s
 done: ∀(X:Cx),X.prog=P->X.w=w->X.K=K->X.calm=true-> ∀(i:Nat) (pins:List (Addr×Obj)) (s:Shared) (σ:St) (H:Hp) (E:Value->Shared->Prop),aZ X pins σ H s->(∀b∈fp,z_ X pins H b)->tn i s.heap->J.stop i H->
  wpAny (model P w) X.A (pyNext (.ref it)) (fun r s1=>r=none/\aZ X pins σ H s1) E s
 self: ∀(A:Around) (i:Nat) (s:Shared) (Q:Value->Shared->Prop) (E:Value->Shared->Prop),tn i s.heap->Q (.ref it) s->wpAny (model P w) A (pyIter (.ref it)) Q E s
abbrev TI:=St->Hp->(It->Hp->Prop)->Prop
def TW(X:Cx)(O:List (Uw×W2))(D:St)(tg:Expr)(R:It->Hp->Prop)(ab:Uv)(s2:UE):Prop:=
 ∃(it:Uw)(I:List Uw)(tn:Nat->Heap->Prop)(J:It)(H':Hp),ab=.ref it/\aZ X O D H' s2/\DF X.prog X.w X.K tg J I it tn/\tn 0 s2.heap/\(∀b∈I,z_ X O H' b)/\R J H'
def PI(X:Cx)(tg I:Expr)(wi:TI):Prop:=
 ∀(O:List (Uw×W2))(s:UE)(D:St)(H:Hp)(R:It->Hp->Prop),aZ X O D H s->wi D H R->
  Vi (U_ X.prog X.w) X.A (Xq I X.env) (λv s1=>Vi (U_ X.prog X.w) X.A (pyIter v) (TW X O D tg R) X.xe s1) X.xe s
def xE{s:UE}{o:W2}{Q:Unit->UE->Prop}(ho:s.heap.get? it=Up o)(hc:o.cls=.type n)(hd:o.data=.fields vs)(hn:["enumerate","zip","dict_itemiterator","dict_reverseitemiterator","odict_iterator","itertools.zip_longest","itertools.pairwise"].contains n=UF)(I:Q ⟨⟩ s):wpAny M A (abg tg (.ref it) u) Q E s:=by
 unfold abg;cases tg<;>first
  |show wpAny_pure I
  |(cases u<;>first
    |show wpAny_pure I
    |(show wpAny_bind (wpAny_load ho ?_)
      rw[hc,hd];change wpAny M A (if(["enumerate","zip","dict_itemiterator","dict_reverseitemiterator","odict_iterator","itertools.zip_longest","itertools.pairwise"].contains n&&vs[0]?==Up (rawInt _))=UB then _ else _) Q E s;rw[ifn (by intro h;rw[hn,Xk]at h;cases h)];show wpAny_pure I))
def Pg(K:UN)(a:Uw):It:=
 (λi H=>∃xs x,bx K H a xs/\xs[i]?=Up x,λi H x H'=>H'=H/\∀xs,bx K H a xs->xs[i]?=Up x,λi H=>∃xs,bx K H a xs/\↑xs<=i)
def Ua(K:UN)(a:Uw):It:=
 (λi H=>∃xs x,gK K H a xs/\xs[i]?=Up x,λi H x H'=>H'=H/\∀xs,gK K H a xs->xs[i]?=Up x,λi H=>∃xs,gK K H a xs/\↑xs<=i)
def Q_(lo:Int)(n:Nat):It:=(λi _=>i<n,λi H x H'=>H'=H/\x=.int (lo+i),λi _=>n<=i)
def Jo{P:Program}{K:UN}(a it:Uw):DF P w K tg (Pg K a) [it] it (λi h=>h.IsListIter it a i) where
 mem:=by simp
 obj:=λi h st b hb=>by
  let e:b=it:=by simpa using hb
  subst e;let(o,e,c,d):=st;show(o,e,λv z=>by rw[d]at z;cases z)
 keep:=λi h h' st k=>st.at λo e=>k it (by simp) o e
 item:=by
  intro X hP hw hK hc i O s D H E I hf st hg;subst hP hw hK;let(xs,x,hq,hx):=hg;let(its,rv,p,hz):=I.list hq;let(u,hu,ru):=rv.get hx;let(f0,f1,f2,f3,f4,f5):=hf it (by simp);show wpAny_pyNext_list_item st p.isList (x:=u) (by simpa using hu) λh' st' sb=>?_
  let I1:aZ X O D H {s with heap:=h'}:=I.turned (t':=s.toks) (λb o hb e=>(sb.2 b hb).trans e) f0 f1 f3 f4 f5;let(o,e,c,d):=id st';show(u,Y,xE (s:={s with heap:=h'}) e c d () (x,H,I1,ru,(Y,λys hy=>by rw[I.list_inj hy hq];show hx),st',λb hb=>(hf b hb).1))
 done:=by
  intro X hP hw hK hc i O s D H E I hf st hg;subst hP hw hK;let(xs,hq,hx):=hg;let(its,rv,p,hz):=I.list hq;let(f0,f1,f2,f3,f4,f5):=hf it (by simp);let hl:=↑rv;show wpAny_pyNext_list_end (I.ok.hd hc) st p.isList (by simp;lia) λh' eb=>(Y,I.turned (t':=s.toks) (λb o hb e=>eb b o hb e) f0 f1 f3 f4 f5)
 self:=λ_ _ _ _ _ st h=>wpAny_pyIter_listiter st h
def Gh{P:Program}{K:UN}(a it:Uw):DF P w K tg (Ua K a) [it] it (λi h=>h.IsTupleIter it a i) where
 mem:=by simp
 obj:=λi h st b hb=>by
  let e:b=it:=by simpa using hb
  subst e;let(o,e,c,d):=st;show(o,e,λv z=>by rw[d]at z;cases z)
 keep:=λi h h' st k=>st.at λo e=>k it (by simp) o e
 item:=by
  intro X hP hw hK hc i O s D H E I hf st hg;subst hP hw hK;let(xs,x,hq,hx):=hg;let(its,rv,p,hz):=I.tuple hq;let(u,hu,ru):=rv.get hx;let(f0,f1,f2,f3,f4,f5):=hf it (by simp);show wpAny_pyNext_tuple_item st (show s.heap.IsTuple a its.toArray from p) (x:=u) (by simpa using hu) λh' st' sb=>?_
  let I1:aZ X O D H {s with heap:=h'}:=I.turned (t':=s.toks) (λb o hb e=>(sb.2 b hb).trans e) f0 f1 f3 f4 f5;let(o,e,c,d):=id st';show(u,Y,xE (s:={s with heap:=h'}) e c d () (x,H,I1,ru,(Y,λys hy=>by rw[I.tuple_inj hy hq];show hx),st',λb hb=>(hf b hb).1))
 done:=by
  intro X hP hw hK hc i O s D H E I hf st hg;subst hP hw hK;let(xs,hq,hx):=hg;let(its,rv,p,hz):=I.tuple hq;let(f0,f1,f2,f3,f4,f5):=hf it (by simp);let hl:=↑rv;show wpAny_pyNext_tuple_end (I.ok.hd hc) st (show s.heap.IsTuple a its.toArray from p) (by simp;lia) λh' eb=>(Y,I.turned (t':=s.toks) (λb o hb e=>eb b o hb e) f0 f1 f3 f4 f5)
 self:=λ_ _ _ _ _ st h=>wpAny_pyIter_tupleiter st h
def Gi{P:Program}{K:UN}(it:Uw)(lo:Int)(n:Nat):DF P w K tg (Q_ lo n) [it] it (λi h=>abG h it (lo+(i:Nat)*1) ((n:Int)-(i:Nat)) 1) where
 mem:=by simp
 obj:=λi h st b hb=>by
  let e:b=it:=by simpa using hb
  subst e;show(_,st,λv z=>by
   let z':Data.fields _=Data.cell v:=z;cases z')
 keep:=λi h h' st k=>k it (by simp) _ st
 item:=by
  intro X hP hw hK hc i O s D H E I hf st hg;subst hP hw hK;let(f0,f1,f2,f3,f4,f5):=hf it (by simp);let W:=Walks.range (prog:=X.prog) (w:=X.w) (I.ok.hd hc) it lo 1 n;show W.item i s _ _ hg st λv h' tk hv st' kk=>?_
  let(t,rfl):=hv;let I1:aZ X O D H {s with heap:=h',toks:=tk}:=I.turned (λb o hb e=>kk b o (by simpa using hb) e) f0 f1 f3 f4 f5;show(_,Y,xE (s:={s with heap:=h',toks:=tk}) (n:="range_iterator") st' rfl rfl () (.int (lo+i),H,I1,(t,?_),(Y,Y),st',λb hb=>(hf b hb).1));rw[Int.mul_one]
 done:=by
  intro X hP hw hK hc i O s D H E I hf st hg;subst hP hw hK;let(f0,f1,f2,f3,f4,f5):=hf it (by simp);show aaZ (I.ok.hd hc) st (by have:n<=i:=hg;lia) λh' eb=>(Y,I.turned (t':=s.toks) (λb o hb e=>eb b o hb e) f0 f1 f3 f4 f5)
 self:=λ_ _ _ _ _ st h=>aa0 st h
section
variable {X:Cx} {tg:Expr}
inductive QK(K:PySem.W.Frag)(R:It->Hp->Prop)(x:V)(b:Hp):Prop|mk(a:_)(_:x=.ref a)(_:∃xs,bx K b a xs)(_:R (Pg K a) b)
def MA(K:UN)(tl:TE):TI:=λD H R=>tl D H (QK K R)
inductive R9(K:PySem.W.Frag)(R:It->Hp->Prop)(x:V)(b:Hp):Prop|mk(a:_)(_:x=.ref a)(_:∃xs,gK K b a xs)(_:R (Ua K a) b)
def R_(K:UN)(tl:TE):TI:=λD H R=>tl D H (R9 K R)
def fW(hl:PE X l tl):PI X tg l (MA X.K tl):=by
 intro O s D H R ab h;show cW (hl O s D H _ ab h) λv s1 (x,H1,I,r1,q1)=>?_
 let(a,e,(xs,hq),q):=q1;subst e;cases r1;let(an,rv,p,hz):=I.list hq;show wpAny_pyIter_list p.isList ?_;show(s1.heap.objs.size,[s1.heap.objs.size],_,_,H1,Y,I.kept (t':=s1.toks) λb o e=>UG _ e,Jo a _,(_,U5 _ rfl,Y,Y),λb hb=>?_,q);let e:b=s1.heap.objs.size:=by simpa using hb
 subst e;show I.fpOk (UD _) (I.hok.fresh (UD _))
def Qq(hl:PE X l tl):PI X tg l (R_ X.K tl):=by
 intro O s D H R ab h;show cW (hl O s D H _ ab h) λv I (x,H1,I1,r1,q1)=>?_
 let(a,e,(xs,hq),q):=q1;subst e;cases r1;let(an,rv,p,hz):=I1.tuple hq;show wpAny_pyIter_tuple (show I.heap.IsTuple a an.toArray from p) ?_;show(I.heap.objs.size,[I.heap.objs.size],_,_,H1,Y,I1.kept (t':=I.toks) λb o e=>UG _ e,Gh a _,(_,U5 _ rfl,Y,Y),λb hb=>?_,q);let e:b=I.heap.objs.size:=by simpa using hb
 subst e;show I1.fpOk (UD _) (I1.hok.fresh (UD _))
def LO{s:UE}{R:It->Hp->Prop}{lo hi:Int}{t u v:Tok}{tk:Nat}(ab:aZ X O D H s)(h1: -(2^62)<=lo)(h2:lo<2^62)(h3: -(2^62)<=hi)(h4:hi<2^62)(q:R (Q_ lo (hi-lo).toNat) H):Vi (U_ X.prog X.w) X.A (pyIter (.ref s.heap.objs.size)) (TW X O D tg R) E {s with heap:=s.heap.push {cls:=.type "range",data:=.fields #[.int lo t,.int hi u,.int 1 v]},toks:=tk}:=by
 show wpAny_pyIter_range (agq ..) (small_one h1 h2 h3 h4) ?_;let I:aZ X O D H {s with heap:=s.heap.push {cls:=.type "range",data:=.fields #[.int lo t,.int hi u,.int 1 v]},toks:=tk}:=ab.kept λb o e=>UG _ e
 show((s.heap.push {cls:=.type "range",data:=.fields #[.int lo t,.int hi u,.int 1 v]}).objs.size,[(s.heap.push {cls:=.type "range",data:=.fields #[.int lo t,.int hi u,.int 1 v]}).objs.size],_,_,H,Y,
  I.kept (t':=tk) λb o e=>UG _ e,Gi _ lo (hi-lo).toNat,?_,λb hb=>?_,q)
 .let e1:lo+((0:Nat):Int)*1=lo:=by simp
  let e2:(((hi-lo).toNat:Nat):Int)-((0:Nat):Int)=WW lo hi 1:=by rw[rangeSize_one];split<;>lia
  change abG _ _ (lo+((0:Nat):Int)*1) ((((hi-lo).toNat:Nat):Int)-((0:Nat):Int)) 1;rw[e1,e2];show U5 _ rfl
 .let e:b=(s.heap.push {cls:=.type "range",data:=.fields #[.int lo t,.int hi u,.int 1 v]}).objs.size:=by simpa using hb
  subst e;show I.fpOk (UD _) (I.hok.fresh (UD _))
inductive QJ(R:It->Hp->Prop)(a:List V)(b:Hp):Prop|mk(j:Int)(_:a=[.int j])(_: -(2^62)<=j)(_:j<2^62)(_:R (Q_ 0 j.toNat) b)
def Sd(ta:TA):TI:=λD H R=>ta D H (QJ R)
def Ao{p G:Pos}(hg:Gl X "range")(hm:X.mg "range"=UH)(ha:PA X [a] ta)(hs:Vt [a] X.env=[(UF,Xq a X.env)]:=by rfl):PI X tg (.Call (.Name "range" p) [a] [] G) (Sd ta):=by
 intro O s D H R ab h;show Call_ (Cy ab hg hm boot_range (Yf (cW (ha G O s D H _ ab h) λus s1 (vs,H1,I1,r1,I)=>?_) hs rfl));let(j,e,I,q2,q):=I;subst e;cases r1 with
 |cons r rr=>
  cases rr;let(t,rfl):=r;show call_range_1 (LO I1 ⋯ ⋯ I q2 (by simpa using q))
def Rj(wi:TI)(g:TG)(tb:TS):TS:=λI D H=>wi D H λJ H1=>∃W:Nat->Nat->St->Hp->Prop,(∃m,W 0 m D H1)/\∀i m D H,W i m D H->
 (J.stop i H/\I.nx D H)\/(J.go i H/\∃N:St->Hp->Prop,(∀σ' H',N σ' H'->∃m',m'<m/\W (i+1) m' σ' H')/\∀x H',J.yld i H x H'->g x D H' λσ2 H2=>tb {I with nx:=N,ct:=N,bk:=I.nx} σ2 H2)
def wS(I:List Uw)(h:Heap):List (Uw×W2):=I.filterMap λb=>(h.get? b).map λo=>(b,o)
def qw{h:Heap}(hb:b∈I)(e:h.get? b=Up o):(b,o)∈wS I h:=acm.mpr (b,hb,by rw[e];rfl)
def J0{h:Heap}{p:Uw×W2}(hp:p∈wS I h):p.1∈I/\h.get? p.1=Up p.2:=by
 let(b,hb,e):=acm.mp hp;cases q:h.get? b with
 |none=>rw[q]at e;cases e
 |some o=>
  rw[q]at e;let e':(b,o)=p:=UI e;subst e';show(hb,q)
def aZ.pinned{s:UE}(ab:aZ X O D H s)(hf:∀b∈I,z_ X O H b)(ho:∀b∈I,∃o,s.heap.get? b=Up o/\∀v,o.data≠.cell v):aZ X (O++wS I s.heap) D H s:=
 ab.pins_of λp hp=>(VM.mp hp).elim (λz=>ab.pin p (VP _ z)) λz=>by
  let(hb,e):=J0 z;let(f0,f1,f2,_):=hf p.1 hb;let(o,e',d):=ho p.1 hb;rw[e]at e';cases e';show(e,f0,f1,f2,d)
def aZ.unpinned(I:aZ X (O++pl) D H s):aZ X O D H s:=I.pins_of λp hp=>I.pin p (VP _ (Ws _ hp))
def lu{G:Pos}(hp:PassesOwn (U_ X.prog X.w) X.A X.env X.xe)(hc:X.calm=UB)(hi:PI X tg ab wi)(hg:PG X tg g)(hb:yw X ar tb)(hs:∀x,Y2 ab X.env x=pure x:=by intro _;rfl):PS X (.For tg ab ar [] G) (Rj wi g tb):=by
 intro O s D H a6 a1 h;show wpAny_For (cW (hi O s D H _ a1 h) λv s1 h1=>cW h1 λbd s2 h2=>?_) hs;let(it,fp,tn,J,H2,e,I2,T,a4,f2,W,(m0,w0),a5):=h2;subst e;let ap:∀{H':Hp},(∀b∈fp,H' b=UH)->∀b∈fp,z_ X O H' b:=λhn b hb=>(hn b hb,(f2 b hb).2)
 show codeAny_forLoop_any (λn s'=>∃i σ' H',aZ X O σ' H' s'/\tn i s'.heap/\(∀b∈fp,H' b=UH)/\W i n σ' H') ?_ m0 (0,D,H2,I2,a4,λb hb=>(f2 b hb).1,w0);rintro n s3 ⟨i,σ3,H3,I3,a0,av,w3⟩;rcases a5 i n σ3 H3 w3 with⟨stop,qn⟩|⟨go,N,hN,step⟩
 .show wpAny_passesOwn hp (cW (T.done X rfl rfl rfl hc i O s3 σ3 H3 X.xe I3 (ap av) a0 stop) λr s4 (hr,I4)=>?_);subst hr;show wpAny_execs_nil (σ3,H3,I4,qn)
 .show wpAny_passesOwn hp (cW (T.item X rfl rfl rfl hc i O s3 σ3 H3 X.xe I3 (ap av) a0 go) λr s4 (u,hr,h4)=>?_);subst hr;show wpAny_passesOwn hp (cW h4 λ_ s5 (x,H5,I5,r5,y5,an,a3)=>?_);let a2:=I5.pinned (ap a3) (T.obj _ _ an);show wpAny_passesOwn hp (cW (hg _ s5 σ3 H5 x u _ a2 r5 (step x H5 y5)) λ_ s6 (σ6,H6,I6,q6)=>?_);show wpAny_passesOwn hp (cW (hb _ s6 σ6 H6 _ I6 q6) λf s7 q7=>?_);let again:∀{σ7:St}{I:Hp},aZ X (O++wS fp s5.heap) σ7 I s7->N σ7 I->∃m,m<n/\∃i σ' H',aZ X O σ' H' s7/\tn i s7.heap/\(∀b∈fp,H' b=UH)/\W i m σ' H':=λ{σ7 I}I7 n7=>by
   let(m',hm,w7):=hN σ7 I n7;show(m',hm,i+1,σ7,I,I7.unpinned,T.keep _ _ _ an λb hb o e=>(I7.pin (b,o) (VP _ (VP _ (qw hb e)))).1,λb hb=>?_,w7);let(o,e,d):=T.obj _ _ an b hb;show(I7.pin (b,o) (VP _ (VP _ (qw hb e)))).2.1
  cases f with
  |next=>let(σ7,I,I7,n7):=q7;show again I7 n7
  |cont=>let(σ7,I,I7,n7):=q7;show again I7 n7
  |brk=>let(σ7,I,I7,q7):=q7;show(σ7,I,I7.unpinned,q7)
  |ret v=>let(x7,σ7,I,I7,r7,q7):=q7;show(x7,σ7,I,I7.unpinned,r7,q7)
end
def xN{K:UN}{a:Uw}{xs:List V}{g:TG}{tb:TS}{I:mz}{D:St}{H:Hp}(Pv:Nat->St->Hp->Prop)(h0:Pv 0 D H)(hl:∀i D H,i<=↑xs->Pv i D H->bx K H a xs)(hs:∀i x D H,xs[i]?=Up x->Pv i D H->g x D H λσ2 H2=>tb {I with nx:=Pv (i+1),ct:=Pv (i+1),bk:=I.nx} σ2 H2)(hd:∀D H,Pv ↑xs D H->I.nx D H):
  ∃W:Nat->Nat->St->Hp->Prop,(∃m,W 0 m D H)/\∀i m D H,W i m D H->
   ((Pg K a).stop i H/\I.nx D H)\/((Pg K a).go i H/\∃N:St->Hp->Prop,(∀σ' H',N σ' H'->∃m',m'<m/\W (i+1) m' σ' H')/\∀x H',(Pg K a).yld i H x H'->g x D H' λσ2 H2=>tb {I with nx:=N,ct:=N,bk:=I.nx} σ2 H2):=by
 show(λi m D H=>m=↑xs-i/\i<=↑xs/\Pv i D H,(↑xs,by simp,VN _,h0),?_);rintro i m D H ⟨rfl,hi,p⟩;let q:=hl i D H hi p;by_cases ab:i<↑xs
 .show .inr ((xs,xs[i],q,by simp [ab]),Pv (i+1),λσ' H' p'=>(↑xs-(i+1),⋯,Y,ab,p'),λx H' y=>?_);let(e,y):=y;subst e;show hs i x D _ (y xs q) p
 .let e:i=↑xs:=⋯
  subst e;show .inl ((xs,q,UD _),hd D H p)
def AG{lo:Int}{n:Nat}{g:TG}{tb:TS}{I:mz}{D:St}{H:Hp}(Pv:Nat->St->Hp->Prop)(h0:Pv 0 D H)(hs:∀i D H,i<n->Pv i D H->g (.int (lo+i)) D H λσ2 H2=>tb {I with nx:=Pv (i+1),ct:=Pv (i+1),bk:=I.nx} σ2 H2)(hd:∀D H,Pv n D H->I.nx D H):
  ∃W:Nat->Nat->St->Hp->Prop,(∃m,W 0 m D H)/\∀i m D H,W i m D H->
   ((Q_ lo n).stop i H/\I.nx D H)\/((Q_ lo n).go i H/\∃N:St->Hp->Prop,(∀σ' H',N σ' H'->∃m',m'<m/\W (i+1) m' σ' H')/\∀x H',(Q_ lo n).yld i H x H'->g x D H' λσ2 H2=>tb {I with nx:=N,ct:=N,bk:=I.nx} σ2 H2):=by
 show(λi m D H=>m=n-i/\i<=n/\Pv i D H,(n,by simp,VN _,h0),?_);rintro i m D H ⟨rfl,hi,p⟩;by_cases ab:i<n
 .show .inr (ab,Pv (i+1),λσ' H' p'=>(n-(i+1),⋯,Y,ab,p'),λx H' y=>?_);let(e,y):=y;subst e y;show hs i D _ ab p
 .let e:i=n:=⋯
  subst e;show .inl (UD _,hd D H p)
abbrev R2:=V->V->Hp->VK->Prop
def pX(X:Cx)(f:Uv->Uv->Sem Uv)(r:R2):Prop:=
 ∀(O:List (Uw×W2))(s:UE)(D:St)(H:Hp)(x y:V)(v u:Uv)(Q:VK),aZ X O D H s->bQ x v->bQ y u->r x y H Q->
  Vi (U_ X.prog X.w) X.A (f v u) (EP X O D Q) X.xe s
def iL(X:Cx)(f:Uv)(r:List V->Hp->VK->Prop):Prop:=
 ∀(O:List (Uw×W2))(s:UE)(D:St)(H:Hp)(xs:List V)(us:List Uv)(Q:VK),aZ X O D H s->bq xs us->r xs H Q->
  Vi (U_ X.prog X.w) X.A (Z9 f us) (EP X O D Q) X.xe s
def F8(r:R2)(ta tb:TE):TE:=λD H Q=>ta D H λx H1=>tb D H1 λy H2=>r x y H2 Q
inductive rI(C:Int->Int->Prop)(g:Int->Int->V)(x y:V)(H:Hp)(Q:VK):Prop|mk(i j:_)(_:x=.int i)(_:y=.int j)(_:C i j)(_:Q (g i j) H)
inductive Qm(g:Int->Int->V)(x y:V)(H:Hp)(Q:VK):Prop|mk(i j:_)(_:x=.int i)(_:y=.int j)(_:Q (g i j) H)
section
variable {X:Cx} {a b c:Expr} {ta tb tc:TE} {G:Pos}
def QX(ha:PE X a ta)(hb:PE X b tb){R:V->V->Hp->Prop}(ab:aZ X O D H s)(h:ta D H λx H1=>tb D H1 λy H2=>R x y H2){f:Uv->Uv->Sem Uv}(hf:∀v u I x y H2,aZ X O D H2 I->bQ x v->bQ y u->R x y H2->Vi (U_ X.prog X.w) X.A (f v u) Q X.xe I):
  Vi (U_ X.prog X.w) X.A (Xq a X.env) (λv s₁=>Vi (U_ X.prog X.w) X.A (Xq b X.env) (λu s₂=>Vi (U_ X.prog X.w) X.A (f v u) Q X.xe s₂) X.xe s₁) X.xe s:=by
 show cW (ha O s D H _ ab h) λv s1 (x,H1,I1,r1,q1)=>?_
 show cW (hb O s1 D H1 _ I1 q1) λu I (y,H2,I2,r2,q2)=>?_
 show hf v u I x y H2 I2 r1 r2 q2
def bI(ho:pX X (Z_ op) r)(ha:PE X a ta)(hb:PE X b tb):PE X (.BinOp a op b G) (F8 r ta tb):=by
 intro O s D H Q I h;show wpAny_BinOp (QX ha hb I h λv u s2 x y H2 I2 rx ry q=>ho O s2 D H2 x y v u Q I2 rx ry q)
def T7{f:Uv->Uv->Sem Uv}{C:Int->Int->Prop}{g:Int->Int->Int}(rule:∀(i j:Int)(t u:Tok)(s:UE)(Q:Uv->UE->Prop)(E:Uv->UE->Prop),C i j->Q (.int (g i j) s.toks) {s with toks:=s.toks+1}->Vi (U_ X.prog X.w) X.A (f (.int i t) (.int j u)) Q E s):
  pX X f (rI C λi j=>.int (g i j)):=by
 intro O s D H x y v u Q I rx ry h;let(i,j,rfl,rfl,hc,q):=h;let(t,rfl):=rx;let(t',rfl):=ry;show rule i j t t' s _ _ hc (.int (g i j),H,I.tok _,(_,Y),q)
def RI{f:Uv->Uv->Sem Uv}{g:Int->Int->Int}(rule:∀(i j:Int)(t u:Tok)(s:UE)(Q:Uv->UE->Prop)(E:Uv->UE->Prop),Q (.int (g i j) s.toks) {s with toks:=s.toks+1}->Vi (U_ X.prog X.w) X.A (f (.int i t) (.int j u)) Q E s):
  pX X f (Qm λi j=>.int (g i j)):=by
 intro O s D H x y v u Q I rx ry h;let(i,j,rfl,rfl,q):=h;let(t,rfl):=rx;let(t',rfl):=ry;show rule i j t t' s _ _ (.int (g i j),H,I.tok _,(_,Y),q)
def Qv{f:Uv->Uv->Sem Uv}{g:Int->Int->Bool}(rule:∀(i j:Int)(t u:Tok)(s:UE)(Q:Uv->UE->Prop)(E:Uv->UE->Prop),Q (.bool (g i j)) s->Vi (U_ X.prog X.w) X.A (f (.int i t) (.int j u)) Q E s):
  pX X f (Qm λi j=>.bl (g i j)):=by
 intro O s D H x y v u Q I rx ry h;let(i,j,rfl,rfl,q):=h;let(t,rfl):=rx;let(t',rfl):=ry;show rule i j t t' s _ _ (.bl (g i j),H,I,Y,q)
def T2(i j:Int):Prop:=0<j/\j<1073741824
def lD:pX X (Z_ .Add) (Qm λi j=>.int (i+j)):=RI λ_ _ _ _ _ _ _ q=>add_int q
def L6:pX X (Z_ .Sub) (Qm λi j=>.int (i-j)):=RI λ_ _ _ _ _ _ _ q=>sub_int q
def N_:pX X (Z_ .FloorDiv) (rI T2 λi j=>.int (i/j)):=T7 λi j _ _ _ _ _ I q=>by
 let h1:(0:Int)<j:=I.1;let h2:j<1073741824:=I.2;show floordiv_int ⋯ (by rw[Int.fdiv_eq_ediv_of_nonneg i ⋯];show q) (.inl (aa6 ⋯))
def Qu:pX X (Z_ .Mod) (rI (λ_ j=>0<j) λi j=>.int (i % j)):=T7 λi j _ _ _ _ _ I q=>by
 let h1:(0:Int)<j:=I;show mod_int' ⋯ (by rw[Int.fmod_eq_emod_of_nonneg i ⋯];show q)
end
def Rs:V->V->Bool
 |.non,.non=>UB|.non,.int _=>UB|.int _,.non=>UB|.non,.bl _=>UB|.bl _,.non=>UB|.non,.str _=>UB|.str _,.non=>UB
 |.int _,.int _=>UB|.bl _,.bl _=>UB|.str _,.str _=>UB|.byt _,.byt _=>UB
 |.int _,.str _=>UB|.str _,.int _=>UB|.bl _,.str _=>UB|.str _,.bl _=>UB
 |_,_=>UF
inductive SD(x y:V)(H:Hp)(Q:VK):Prop|mk(_:Rs x y=true)(_:Q (.bl (decide (x=y))) H)
inductive T5(x y:V)(H:Hp)(Q:VK):Prop|mk(_:Rs x y=true)(_:Q (.bl (!decide (x=y))) H)
def Jb:decide (V.int i=V.int j)=(i==j):=by
 rw[Vv];simp
def HU:decide (V.bl i=V.bl j)=(i==j):=by
 rw[Vv];simp
def I_:decide (V.str i=V.str j)=(i==j):=by
 rw[Vv];simp
def Jc{i j:Array UInt8}:decide (V.byt i=V.byt j)=(i.toList==j.toList):=by
 rw[Vv];cases i;cases j;simp
section
variable {X:Cx} {a b c:Expr} {ta tb tc:TE} {G:Pos}
def cj{Q:VK}(ab:aZ X O D H s)(q:Q (.bl k) H)(e:k=I):EP X O D Q (.bool I) s:=by
 subst e;show(.bl k,H,ab,Y,q)
def bP:pX X (V0 .Eq) SD:=by
 intro O s D H x y v u Q I rx ry h;let(hs,q):=h;cases x with
 |non=>
  cases rx;cases y with
  |non=>cases ry;show PySem.EqNone.eq_none_none (cj I q (by simp))
  |bl j=>cases ry;show PySem.EqNone.eq_none_bool (cj I q (by simp))
  |int j=>let(t',rfl):=ry;show PySem.EqNone.eq_none_int (cj I q (by simp))
  |str j=>let(t',rfl):=ry;show PySem.EqNone.eq_none_str (cj I q (by simp))
  |_=>show absurd (show UF=UB from hs) Ur
 |bl i=>
  cases rx;cases y with
  |non=>cases ry;show PySem.EqNone.eq_bool_none (cj I q (by simp))
  |bl j=>cases ry;show eq_bool (cj I q HU)
  |str j=>let(t',rfl):=ry;show PySem.EqMixed.eq_bool_str (cj I q (by simp))
  |_=>show absurd (show UF=UB from hs) Ur
 |int i=>
  let(t,rfl):=rx;cases y with
  |non=>cases ry;show PySem.EqNone.eq_int_none (cj I q (by simp))
  |int j=>let(t',rfl):=ry;show eq_int (cj I q Jb)
  |str j=>let(t',rfl):=ry;show PySem.EqMixed.eq_int_str (cj I q (by simp))
  |_=>show absurd (show UF=UB from hs) Ur
 |str i=>
  let(t,rfl):=rx;cases y with
  |non=>cases ry;show PySem.EqNone.eq_str_none (cj I q (by simp))
  |bl j=>cases ry;show PySem.EqMixed.eq_str_bool (cj I q (by simp))
  |int j=>let(t',rfl):=ry;show PySem.EqMixed.eq_str_int (cj I q (by simp))
  |str j=>let(t',rfl):=ry;show eq_str (cj I q I_)
  |_=>show absurd (show UF=UB from hs) Ur
 |byt i=>
  let(t,rfl):=rx;cases y with
  |byt j=>let(t',rfl):=ry;show PySem.W.eq_bytes (cj I q Jc)
  |_=>show absurd (show UF=UB from hs) Ur
 |_=>cases y<;>show absurd (show UF=UB from hs) Ur
def wW:pX X (V0 .NotEq) T5:=by
 intro O s D H x y v u Q I rx ry h;let(hs,q):=h;cases x with
 |non=>
  cases rx;cases y with
  |non=>cases ry;show PySem.EqNone.ne_none_none (cj I q (by simp))
  |bl j=>cases ry;show PySem.EqNone.ne_none_bool (cj I q (by simp))
  |int j=>let(t',rfl):=ry;show PySem.EqNone.ne_none_int (cj I q (by simp))
  |str j=>let(t',rfl):=ry;show PySem.EqNone.ne_none_str (cj I q (by simp))
  |_=>show absurd (show UF=UB from hs) Ur
 |bl i=>
  cases rx;cases y with
  |non=>cases ry;show PySem.EqNone.ne_bool_none (cj I q (by simp))
  |bl j=>cases ry;show ne_bool (cj I q (congrArg not HU))
  |str j=>let(t',rfl):=ry;show PySem.EqMixed.ne_bool_str (cj I q (by simp))
  |_=>show absurd (show UF=UB from hs) Ur
 |int i=>
  let(t,rfl):=rx;cases y with
  |non=>cases ry;show PySem.EqNone.ne_int_none (cj I q (by simp))
  |int j=>let(t',rfl):=ry;show ne_int (cj I q (congrArg not Jb))
  |str j=>let(t',rfl):=ry;show PySem.EqMixed.ne_int_str (cj I q (by simp))
  |_=>show absurd (show UF=UB from hs) Ur
 |str i=>
  let(t,rfl):=rx;cases y with
  |non=>cases ry;show PySem.EqNone.ne_str_none (cj I q (by simp))
  |bl j=>cases ry;show PySem.EqMixed.ne_str_bool (cj I q (by simp))
  |int j=>let(t',rfl):=ry;show PySem.EqMixed.ne_str_int (cj I q (by simp))
  |str j=>let(t',rfl):=ry;show ne_str (cj I q (congrArg not I_))
  |_=>show absurd (show UF=UB from hs) Ur
 |byt i=>
  let(t,rfl):=rx;cases y with
  |byt j=>let(t',rfl):=ry;show PySem.W.ne_bytes (cj I q (congrArg not Jc))
  |_=>show absurd (show UF=UB from hs) Ur
 |_=>cases y<;>show absurd (show UF=UB from hs) Ur
def nN:pX X (V0 .Lt) (Qm λi j=>.bl (decide (i<j))):=Qv λ_ _ _ _ _ _ _ q=>lt_int q
def ui:pX X (V0 .LtE) (Qm λi j=>.bl (decide (i<=j))):=Qv λ_ _ _ _ _ _ _ q=>le_int q
def IK:pX X (V0 .Gt) (Qm λi j=>.bl (decide (j<i))):=Qv λ_ _ _ _ _ _ _ q=>gt_int q
def io:pX X (V0 .Is) (λx y H Q=>y=.non/\Q (.bl (decide (x=.non))) H):=by
 intro O s D H x y v u Q ab I ry h;let(rfl,q):=h;cases ry;show is_none_gen (cj ab q ?_);cases x<;>first
  |(cases I;rfl)
  |(let(t,rfl):=I;rfl)
def N9:pX X (V0 .IsNot) (λx y H Q=>y=.non/\Q (.bl (!decide (x=.non))) H):=by
 intro O s D H x y v u Q ab I ry h;let(rfl,q):=h;cases ry;show isnot_none_gen (cj ab q ?_);cases x<;>first
  |(cases I;rfl)
  |(let(t,rfl):=I;rfl)
def aB(b:Expr)(h:op≠.In:=by decide)(h2:op≠.NotIn:=by decide):behindInMarks op b=false:=by
 let I:(op==CmpOp.In)=false:=by cases op<;>first|rfl|show absurd rfl h
 let e2:(op==CmpOp.NotIn)=false:=by cases op<;>first|rfl|show absurd rfl h2
 cases b<;>simp [behindInMarks,I,e2]
def dv(ho:pX X (V0 op) r)(ha:PE X a ta)(hb:PE X b tb)(hm:aax op b=UF):PE X (.Compare a [op] [b] G) (F8 r ta tb):=by
 intro O s D H Q I h;show wpAny_Compare1 (QX ha hb I h λv u s2 x y H2 I2 rx ry q=>ho O s2 D H2 x y v u Q I2 rx ry q) hm
inductive Pz(Q:Bool->Hp->Prop)(x:V)(a:Hp):Prop|mk(k:_)(_:x=.bl k)(_:Q k a)
def ud(t:TE):TT:=λD H Q=>t D H (Pz Q)
def au(ho:pX X (V0 op) r)(ha:PE X a ta)(hb:PE X b tb)(hm:aax op b=UF):PT X (.Compare a [op] [b] G) (ud (F8 r ta tb)):=by
 intro O s D H Q ab h;show wpAny_isTrue_Compare1 (cW (ha O s D H _ ab h) λv s1 (x,H1,I1,r1,q1)=>cW (hb O s1 D H1 _ I1 q1) λu s2 (y,H2,I2,r2,q2)=>
  cW (ho O s2 D H2 x y v u _ I2 r1 r2 q2) λc s3 (z,I,I3,r3,k,e,q3)=>?_) hm
 subst e;cases r3;show Wx (I,I3,q3)
inductive Nu(b:R2)(c:TE)(d:St)(Q:VK)(y z:V)(a:Hp):Prop|mk(k:_)(_:z=.bl k)(_:if k=true then c d a fun w' H4=>b y w' H4 Q else Q (.bl false) a)
def Ll(r I:R2)(ta tb tc:TE):TE:=λD H Q=>ta D H λx H1=>tb D H1 λy H2=>r x y H2 (Nu I tc D Q y)
def EB(ho:pX X (V0 op) r)(an:pX X (V0 I) r')(ha:PE X a ta)(hb:PE X b tb)(hc:PE X c tc)(hm:lastMarks [op,I] [b,c]=UF:=by with_unfolding_all rfl):PE X (.Compare a [op,I] [b,c] G) (Ll r r' ta tb tc):=by
 intro O s D H Q ab h;show Compare_chain (cW (ha O s D H _ ab h) λv s1 (x,H1,I1,r1,q1)=>chain_link (cW (hb O s1 D H1 _ I1 q1) λu s2 (y,H2,I2,r2,q2)=>
  cW (ho O s2 D H2 x y v u _ I2 r1 r2 q2) λd s3 (z,H3,I3,r3,k,e,q3)=>?_)) hm
 subst e;cases r3;show Wx ?_;cases k with
 |false=>show ite_ff (.bl UF,H3,I3,Y,q3)
 |true=>show ite_tt (chain_last (cW (hc O s3 D H3 _ I3 q3) λw' s4 (z',H4,I4,r4,q4)=>an O s4 D H4 y z' u w' Q I4 r2 r4 q4))
def LU(ho:pX X (V0 op) r)(an:pX X (V0 I) r')(ha:PE X a ta)(hb:PE X b tb)(hc:PE X c tc)(hm:lastMarks [op,I] [b,c]=UF:=by with_unfolding_all rfl):PT X (.Compare a [op,I] [b,c] G) (ud (Ll r r' ta tb tc)):=by
 intro O s D H Q ab h;show isTrue_chain (cW (ha O s D H _ ab h) λv s1 (x,H1,I1,r1,q1)=>test_link (cW (hb O s1 D H1 _ I1 q1) λu s2 (y,H2,I2,r2,q2)=>
  cW (ho O s2 D H2 x y v u _ I2 r1 r2 q2) λd s3 (z,H3,I3,r3,k,e,q3)=>?_)) hm
 subst e;cases r3;show Wx ?_;cases k with
 |false=>
  let(k',e',q'):=q3;cases e';show ite_ff (H3,I3,q')
 |true=>
  show ite_tt (test_last (cW (hc O s3 D H3 _ I3 q3) λw' s4 (z',H4,I4,r4,q4)=>cW (an O s4 D H4 y z' u w' _ I4 r2 r4 q4) λd' s5 (z2,H5,I5,r5,k2,e2,q5)=>?_));subst e2;cases r5;show Wx (H5,I5,q5)
def tm:(sizeLine:Nat)<2^63:=by rw[Ux];decide
def aO:pX X (Z_ .Add) (λx y H Q=>∃i j,x=.str i/\y=.str j/\↑i+↑j<=U1/\Q (.str (i++j)) H):=by
 intro O s D H x y v u Q I rx ry h;let(i,j,rfl,rfl,hz,q):=h;let(t,rfl):=rx;let(t',rfl):=ry;show add_str (λt' tk=>(.str (i++j),H,I.tok _,(_,Y),q)) hz
def Fn:pX X (ac0 .Add) (λx y H Q=>∃i j,x=.str i/\y=.str j/\↑i+↑j<=U1/\Q (.str (i++j)) H):=by
 intro O s D H x y v u Q I rx ry h;let(i,j,rfl,rfl,hz,q):=h;let(t,rfl):=rx;let(t',rfl):=ry;show iadd_str (λt' tk=>(.str (i++j),H,I.tok _,(_,Y),q)) hz
def Ae(r:bq [x] us):∃u,us=[u]/\bQ x u:=by
 cases r with
 |cons I r2=>cases r2;show(_,Y,I)
def FP:iL X (.builtin "ord") (λxs H Q=>∃x,xs=[.str x]/\↑x=1/\Q (.int (x.cps.getD 0 0:Nat)) H):=by
 intro O s D H xs us Q I r h;let(x,rfl,hz,q):=h;let(u,rfl,t,rfl):=Ae r;show ord_of_one hz (.int _,H,I.tok _,(_,Y),q)
end
structure Im (h:Heap) (x dx C:Addr) (mA:Str->Option Value):Prop where
 obj:h.get? x=some (PySem.W.instObj C dx)
 ns:h.Ns1 dx mA
 ne:dx≠x
set_option tactic.hygienic true in
def Ay{h:Heap}{mA:Vp->Option Uv}(n:h.Ns1 dx mA):∃I,h.get? dx=some I/\∀name,Y4 name I=some (mA name):=by
 let(o,es,ep,ho,hd,hk,_,hm):=n;show(o,ho,λname=>?_);let e:=hm name;unfold nsFind findBy at e;rw[<-acq]at e;unfold Y4;rw[hd];dsimp only;split
 .rename_i y q;rw[q]at e;show congrArg some e
 .rename_i q;rw[q]at e;let a:es.toList.any (·.refKey)=UF:=by
   rw[aat];intro y hy;let(z,t,ab):=hk y (Array.mem_toList_iff.mp hy);simp [DictEntry.refKey,ab]
  let a':¬es.toList.any (·.refKey)=UB:=by rw[a];show Ur
  rw[ifn a'];show congrArg some e
def Im.look{mA:Vp->Option Uv}(ab:Im h x dx C mA):∃I,Ym h x (Xt C dx) C (Up I)/\∀name,Y4 name I=Up (mA name):=
 let(I,ho,hl):=Ay ab.ns
 (I,(ab.obj,Y,Y,ho),hl)
section
variable {prog:Program} {w:World} {A:Around} {E:Value->Shared->Prop} {s:Shared} {K:PySem.W.Frag} {x dx C f:Addr} {mA:Str->Option Value} {name:Str} {v:Value}
def Oz{ab:Bool}{Q:Uv->UE->Prop}(X:K.In s.heap)(I:Im s.heap x dx C mA)(hg:aaN K C name=UB)(hh:Y5 K C=UB)(ha:VS K (.ref C) name=Up UH)(hv:mA name=Up v)(an:aaO v=UB)(h:Q v {s with toks:=s.toks+1}):
  Vi (U_ prog w) A (acA (.ref x) name ab) Q E s:=by
 let(od,J,hl):=I.look;show PySem.W.get_value X J (ZQ hg).1 (abR hh ha rfl (by rw[hl,hv])) an h
def MD{Q:Uv×List Uv->UE->Prop}(X:K.In s.heap)(ab:Im s.heap x dx C mA)(I:aaN K C name=UB)(hf:VS K (.ref C) name=Up (Up (.ref f)))(ht:aa4 K (.ref f)=UB)(hv:mA name=UH)(h:Q (.ref f,[.ref x]) s):
  Vi (U_ prog w) A (aaM (.ref x) name pl) Q E s:=by
 let(od,J,hl):=ab.look;show PySem.W.method_fn X J (ZQ I).1 (ZQ I).2 hf (beq_iff_eq.mp ht) (by change(Y4 name od).map (·.isSome)=Up UF;rw[hl,hv];rfl) h
def NI{ns:List Vp}{Q:Unit->UE->Prop}(X:K.In s.heap)(I:Im s.heap x dx C mA)(hs:VS K (.ref C) "__setattr__"=Up (Up (.builtin "object.__setattr__")))(hp:PySem.W.plainOver K C=UB)(ht:abh K C name=Up UH)(hh:Y5 K C=UB)(hw:aa3 mA ns)(hsz:↑ns<=U1)(h:∀h',Im h' x dx C (λy=>if y=name then Up v else mA y)->Ys dx s.heap h'->Q ⟨⟩ {s with heap:=h',toks:=s.toks+2}):
  Vi (U_ prog w) A (setAttr (.ref x) name v) Q E s:=by
 let(od,J,hl):=I.look;show acD X J hs (PySem.W.osa_open (s:={s with toks:=s.toks+1}) (r:=UH) X J hp ht λb=>?_);let(cd,hc,ar):=PySem.W.any_some hh;let hx:s.heap.get? x=Up (.ref C,Up dx,.plain,#[]):=I.obj;show UL (Vq (UL (UL (abA hx (UL (PySem.W.Looks.here (s:={s with toks:=s.toks+1}) (ZR X hc) ?_))))));rw[ar];show Vq (a:=Up dx) (UL (Vq (UL ?_)));show acv (s:={s with toks:=s.toks+1}) I.ns λh' ab an=>?_
 let(oD,a2,a1,a0,av,ap):=ab.count (ab5 name v hw);show UL (aaH a0 (by rw[av];show aaL (Vm ap (by rw[Ut];lia))) ?_);show Vq (h _ ((an.2 _ (WX I.ne)).trans I.obj,ab,I.ne) an)
def EY{R:Result->UE->Prop}(X:K.In s.heap)(hm:PySem.W.makesIn K C=UB)(hi:VS K (.ref C) "__init__"=Up (Up (.ref f)))(hf:PySem.W.typeIn K (.ref f)=Up (.type "function"))(h:Zw (U_ prog w) (A.under (.builtin "type.__call__" (.ref C::vs,I))) (.call (.ref f) (.ref (s.heap.objs.size+1)::vs,I)) (PySem.W.InitBack (s.heap.objs.size+1) R)
   {s with heap:=(s.heap.push Wh).push (Xt C s.heap.objs.size)}):
  Zw (U_ prog w) A (.call (.ref C) (vs,I)) R s:=by
 let(hh,g,d,t,os):=s;show PySem.W.make_core (PySem.W.makes_of X hm) (Xy X hi) (λab=>adk X ab hf) (.inl rfl) h
end
def ck(f:Vp)(v:V):List (Vp×V)->List (Vp×V)
 |[]=>[(f,v)]
 |(g,x)::r=>if g=f then(g,v)::r else(g,x)::ck f v r
def n_(f g:Vp)(v:V):∀fs:List (Vp×V),(ck f v fs).lookup g=if g=f then Up v else fs.lookup g
 |[]=>by
  change Xz g [(f,v)]=_;by_cases h:g=f
  .let I:(g==f)=UB:=beq_iff_eq.mpr h;simp only[Xz,I,ifp h]
  .let I:(g==f)=UF:=beq_eq_false_iff_ne.mpr h;simp only[Xz,I,ifn h]
 |(k,x)::r=>by
  let ih:=n_ f g v r;rw[show ck f v ((k,x)::r)=(if k=f then(k,v)::r else(k,x)::ck f v r)from rfl];by_cases hk:k=f
  .rw[ifp hk];by_cases h:g=k
   .let I:(g==k)=UB:=beq_iff_eq.mpr h;simp only[Xz,I,ifp (h.trans hk)]
   .let I:(g==k)=UF:=beq_eq_false_iff_ne.mpr h;simp only[Xz,I,ifn (λe:g=f=>h (e.trans hk.symm))]
  .rw[ifn hk];by_cases h:g=k
   .let I:(g==k)=UB:=beq_iff_eq.mpr h;simp only[Xz,I,ifn (λe:g=f=>hk (h.symm.trans e))]
   .let I:(g==k)=UF:=beq_eq_false_iff_ne.mpr h;simp only[Xz,I];show ih
def tw(f:Vp)(v:V):∀fs:List (Vp×V),f∈(ck f v fs).map (·.1)/\∀g,g∈fs.map (·.1)->g∈(ck f v fs).map (·.1)
 |[]=>(by simp [ck],λg h=>by simp at h)
 |(k,x)::r=>by
  let(i1,i2):=tw f v r;rw[show ck f v ((k,x)::r)=(if k=f then(k,v)::r else(k,x)::ck f v r)from rfl];by_cases I:k=f
  .rw[ifp I];subst I;show(by simp,λg h=>by simpa using h)
  .rw[ifn I];show(?_,λg h=>?_)
   .rw[UJ];show UR _ i1
   .rw[UJ]at h⊢;rcases UP.mp h with e|e
    .show UP.mpr (.inl e)
    .show UR _ (i2 g e)
def uq(f:Vp)(v:V):∀fs:List (Vp×V),↑(ck f v fs)<=↑fs+1
 |[]=>by simp [ck]
 |(k,x)::r=>by
  let ih:=uq f v r;rw[show ck f v ((k,x)::r)=(if k=f then(k,v)::r else(k,x)::ck f v r)from rfl];by_cases I:k=f
  .rw[ifp I,Ut,Ut];lia
  .rw[ifn I,Ut,Ut];lia
def h_.some_of(r:h_ (Up v) o):∃u,o=Up u/\bQ v u:=by
 cases o with
 |none=>show(show False from r).elim
 |some u=>show(u,Y,r)
def h_.none_of(r:h_ UH o):o=UH:=by
 cases o with
 |none=>rfl
 |some u=>show(show False from r).elim
def AE(r:bQ v u):aaO u=UB:=by
 cases v with
 |non=>cases(show u=WL from r);rfl
 |bl b=>cases(show u=YJ b from r);rfl
 |int i=>let(t,e):=(show∃t,u=YR i t from r);cases e;rfl
 |str x=>let(t,e):=(show∃t,u=abQ x t from r);cases e;rfl
 |byt b=>let(t,e):=(show∃t,u=Value.bytes b t from r);cases e;rfl
 |flt b=>let(t,e):=(show∃t,u=Value.float b t from r);cases e;rfl
 |ref a=>cases(show u=Vd a from r);rfl
 |ty n=>cases(show u=Yn n from r);rfl
section
variable {P:Program} {w:World} {H H':Hp} {h h':Heap} {a C dx:Addr} {fs fs':List (Str×V)}
def CO(I:kt P w H h)(e:H a=Up (.ins C dx fs)):∃mA,Im h a dx C mA/\(∀f,h_ (fs.lookup f) (mA f))/\aa3 mA (fs.map (·.1))/\↑fs<=1000/\H dx=Up (.own a):=by
 let(d,z,ne,ob,mA,n,r,q):=(show cP P w H h a (.ins C dx fs)from I a _ e);show(mA,(ob,n,ne),r,q,z,d)
end
def vY.get{K:UN}(c:vY K C)(f:Vp):aaN K C f=UB:=c.pg
def bA.taker{K:UN}(n:bA K C f):abh K C f=Up UH:=by
 unfold abh;rw[show VS K (.ref C) f=Up UH from n]
 rfl
section
variable {X:Cx} {O:List (Addr×Obj)} {D:St} {H:Hp} {s:Shared} {a C dx:Addr} {fs:List (Str×V)} {f:Str} {v:V} {A:Around} {E:Value->Shared->Prop}
def xG{Q:Uv->UE->Prop}(I:aZ X O D H s)(e:H a=Up (.ins C dx fs))(c:vY X.K C)(n:bA X.K C f)(l:fs.lookup f=Up v)(h:∀u s',aZ X O D H s'->bQ v u->Q u s'):Vi (U_ X.prog X.w) A (acA (.ref a) f b) Q E s:=by
 let(mA,ab,r,_,_,_):=CO I.hok e;let(u,hu,ru):=h_.some_of (v:=v) (o:=mA f) (by rw[<-l];show r f);show Oz I.kIn ab (c.get f) c.hd n hu (AE ru) (h u _ (I.tok _) ru)
def xF{Q:Uv×List Uv->UE->Prop}(I:aZ X O D H s)(e:H a=Up (.ins C dx fs))(c:vY X.K C)(k:dN X.K C m g)(l:fs.lookup m=UH)(h:Q (.ref g,[.ref a]) s):Vi (U_ X.prog X.w) A (aaM (.ref a) m pl) Q E s:=by
 let(mA,ab,r,_,_,_):=CO I.hok e;let hn:mA m=UH:=h_.none_of (by rw[<-l];show r m);show MD I.kIn ab (c.get m) k.at_ k.fn hn h
def wz{Q:Unit->UE->Prop}(I:aZ X O D H s)(e:H a=Up (.ins C dx fs))(c:vY X.K C)(n:bA X.K C f)(hl:↑fs<1000)(ry:bQ y u)(h:∀s',aZ X O D (aw H a (.ins C dx (ck f y fs))) s'->Q ⟨⟩ s'):Vi (U_ X.prog X.w) A (setAttr (.ref a) f u) Q E s:=by
 let(mA,ab,r,wi,_,ho):=CO I.hok e;let hz:↑(fs.map (·.1))<=U1:=by rw[Uq,Ux];lia
 show NI I.kIn ab c.sa c.po n.taker c.hd wi hz λh' O' sb=>h _ ?_
 let hd:∃o,h'.get? dx=Up o:=let(o,_,_,e',_):=O'.ns;(o,e');show I.write (x:=a) (e:=dx) (by rw[e];show Ww) (.inr ho) (λb q hb z=>(sb.2 b hb).trans z) hd ?_;show(by rw[ah ab.ne];show ho,?_,ab.ne,O'.obj,_,O'.ns,λg=>?_,λg hg=>?_)
 .have:=uq f y fs;lia
 .change h_ ((ck f y fs).lookup g) (if g=f then Up u else mA g);rw[n_];by_cases q:g=f
  .rw[ifp q,ifp q];show ry
  .rw[ifn q,ifn q];show r g
 .by_cases q:g=f
  .rw[q];show(tw f y fs).1
  .show(tw f y fs).2 g (wi g λz=>hg ?_);change(if g=f then Up u else mA g)=UH;rw[ifn q];show z
def aZ.made(ab:aZ X O D H s):aZ X O D (aw (aw H s.heap.objs.size (.own (s.heap.objs.size+1))) (s.heap.objs.size+1) (.ins C s.heap.objs.size []))
  {s with heap:=(s.heap.push Wh).push (Xt C s.heap.objs.size)}:=by
 let I:(s.heap.push Wh).get? s.heap.objs.size=Up Wh:=U5 s.heap rfl;let e2:((s.heap.push Wh).push (Xt C s.heap.objs.size)).get? (s.heap.objs.size+1)=Up (Xt C s.heap.objs.size):=by
  have:=U5 (s.heap.push Wh) (o:=Xt C s.heap.objs.size) rfl;rwa [VT]at this
 let e3:(s.heap.push Wh).Ns s.heap.objs.size (λ_=>UH):=(Wh,#[],_,I,Y,(λe he=>absurd he (by simp)),λ_=>rfl);let I1:=ab.laid (a:=s.heap.objs.size) (o:=.own (s.heap.objs.size+1)) (h':=s.heap.push Wh) (t':=s.toks) (λb u q=>UG _ q) (UD _) (_,I);show I1.laid (a:=s.heap.objs.size+1) (o:=.ins C s.heap.objs.size []) (t':=s.toks) (λb u q=>UG _ q) (ZZ (VT _ _)) ?_;let ne:s.heap.objs.size≠s.heap.objs.size+1:=Vl (VW _);show(by rw[ah ne,ae],VN _,ne,e2,λ_=>UH,(acG e3).at λo q=>UG _ q,λ_=>Ww,λy hy=>absurd rfl hy)
def Jd(hb:X9 e f I (Xq e I)=Xq e I)(h:Vi (U_ prog w) A (Xq e I) (λo s₁=>Vi (U_ prog w) A (acA o f UB) Q E s₁) E s):Vi (U_ prog w) A (Xq (.Attribute e f G) I) Q E s:=
 Attribute_any_ h (by rw[arm_eval_Attribute,hb])
end
inductive Rk(K:PySem.W.Frag)(f:Str)(Q:VK)(x:V)(b:Hp):Prop|mk(a C d c v:_)(_:x=.ref a)(_:b a=some (.ins C d c))(_:vY K C)(_:bA K C f)(_:c.lookup f=some v)(_:Q v b)
def Bo(K:UN)(ta:TE)(f:Vp):TE:=λD H Q=>ta D H (Rk K f Q)
inductive Ru(K:PySem.W.Frag)(f:Str)(D:mz)(e:St)(y x:V)(c:Hp):Prop|mk(a C d b:_)(_:x=.ref a)(_:c a=some (.ins C d b))(_:vY K C)(_:bA K C f)(_:b.length<1000)(_:D.nx e (aw c a (.ins C d (ck f y b))))
def Qh(K:UN)(ta tv:TE)(f:Vp):TS:=λI D H=>tv D H λy H1=>ta D H1 (Ru K f I D y)
def Sv(X:Cx)(op:acE)(I:V->V->Hp->VK->Prop):Prop:=
 ∀(O:List (Uw×W2))(s:UE)(D:St)(H:Hp)(x y:V)(u v:Uv)(Q:VK),aZ X O D H s->bQ x u->bQ y v->I x y H Q->Vi (U_ X.prog X.w) X.A (ac0 op u v) (EP X O D Q) X.xe s
inductive LF(K:PySem.W.Frag)(e:TE)(g:V->V->Hp->VK->Prop)(f:Str)(D:mz)(b:St)(x:V)(c:Hp):Prop|mk(a C h d v:_)(_:x=.ref a)(_:c a=some (.ins C h d))(_:vY K C)(_:bA K C f)(_:d.lookup f=some v)(_:e b c fun y H2=>g v y H2 fun z H3=> ∃dx' fs',H3 a=some (.ins C dx' fs')/\fs'.length<1000/\D.nx b (aw H3 a (.ins C dx' (ck f z fs'))))
def Iy(K:UN)(ta tv:TE)(rd:V->V->Hp->VK->Prop)(f:Vp):TS:=λI D H=>ta D H (LF K tv rd f I D)
section
variable {X:Cx} {o e value:Expr} {f:Str} {G pos' tpos:Pos} {ta tv:TE}
def ai(he:PE X e ta)(hb:X9 e f X.env (Xq e X.env)=Xq e X.env):PE X (.Attribute e f G) (Bo X.K ta f):=by
 intro O s D H Q I h;show Jd hb (cW (he O s D H _ I h) λu s1 (x,H1,I1,rx,a,C,dx,fs,v,ex,ea,c,n,l,q)=>?_);subst ex;obtain rfl:u=Vd a:=rx;show xG I1 ea c n l λu' s2 I2 ru=>(v,H1,I2,ru,q)
def br(ha:PE X o ta)(hv:PE X value tv)(hs:aaK value (Up (.Attribute o f pos')) G.line X.env=pure UF):PS X (.Assign [.Attribute o f pos'] value G) (Qh X.K ta tv f):=by
 intro O s D H ab I h;show plainObj_wpAny_Assign_Attribute (cW (hv O s D H _ I h) λu s1 (y,H1,I1,ry,q)=>cW (ha O s1 D H1 _ I1 q) λov s2 (x,H2,I2,rx,a,C,dx,fs,ex,ea,c,n,l,q2)=>?_) hs;subst ex;obtain rfl:ov=Vd a:=rx;show wz I2 ea c n l ry λs3 I3=>(D,_,I3,q2)
def gP(ha:PE X o ta)(hv:PE X value tv)(ap:Sv X op I):PS X (.AugAssign (.Attribute o f tpos) op value G) (Iy X.K ta tv I f):=by
 intro O s D H ar ab h;show wpAny_AugAssign_AttributeAny (cW (ha O s D H _ ab h) λov s1 (x,H1,I1,rx,a,C,dx,fs,v,ex,ea,c,n,l,q)=>?_);subst ex;obtain rfl:ov=Vd a:=rx;show xG I1 ea c n l λu s2 I2 ru=>cW (hv O s2 D H1 _ I2 q) λw3 s3 (y,H2,I3,ry,q3)=>cW (ap O s3 D H2 v y u w3 _ I3 ru ry q3) λw4 s4 (z,H3,I4,rz,av,fs',an,l',q4)=>?_
 show wz I4 an c n l' rz λs5 I5=>(D,_,I5,q4)
inductive RF(x y:V)(H:Hp)(Q:VK):Prop|mk(i j:_)(_:x=.int i)(_:y=.int j)(_:Q (.int (i+j)) H)
def xC:Sv X .Add RF:=by
 rintro O s D H x y u v Q I rx ry ⟨i,j,rfl,rfl,q⟩;let(t,rfl):=(show∃t,u=YR i t from rx);let(t',rfl):=(show∃t',v=YR j t' from ry);show adw (.int (i+j),H,I.tok _,(_,Y),q)
end
structure Room (k:Nat) (A:Around):Prop where
 hd:A.handled=none
 dp:A.depth+3*k+5<recursionLimit
 un:A.units+16*k+200<cLine
def Room.mono(r:Room k A)(h:j<=k):Room j A:=(r.hd,by have:=r.dp;lia,by have:=r.un;lia)
def Room.deeper{A:VU}(r:Room (k+1) A)(I:Env):Room k (A.deeper I):=
 (r.hd,by have:=r.dp;change A.depth+1+3*k+5<_;lia,by have:=r.un;change A.units+3+16*k+200<_;lia)
def xk{A:VU}:(A.under (.builtin "type.__call__" (.ref C::us,I))).depth=A.depth+1:=by
 first|rfl|simp [acJ,Code.weight,Code.isCreation,Code.isGuard,Code.isCaller,Code.frames,acH,guardIds]
def xj{A:VU}:(A.under (.builtin "type.__call__" (.ref C::us,I))).units=A.units+1:=by
 first|rfl|simp [acJ,Code.cUnits,Code.frames,acH]
def Room.make{A:VU}(r:Room (k+1) A)(C:Uw)(us:List Uv)(I:List (Vp×Uv)):Room k (A.under (.builtin "type.__call__" (.ref C::us,I))):=
 (r.hd,by have:=r.dp;rw[xk];lia,by have:=r.un;rw[xj];lia)
def Room.depth{A:VU}(r:Room k A):A.depth<recursionLimit:=by have:=r.dp;lia
def Room.units{A:VU}(r:Room k A):A.units+64<Zh:=by have:=r.un;lia
def b8:TA:=λ_ H Q=>Q [] H
def bG(ta:TE)(I:TA):TA:=λD H Q=>ta D H λx H1=>I D H1 λxs H2=>Q (x::xs) H2
section
variable {X:Cx} {e:Expr} {es:List Expr} {te:TE} {t:TA} {G:Pos}
def af:PA X [] b8:=λ_ _ _ _ H Q I h=>Y8 ([],H,I,.nil,h)
def aa(ha:PE X e te)(hr:PA X es t)(hs:Vt (e::es) X.env=(false,Xq e X.env)::Vt es X.env:=by rfl):PA X (e::es) (bG te t):=by
 intro G O s D H Q I h;rw[hs];change wpAny _ _ (spliced ((false,Xq e X.env)::Yk G (Vt es X.env))) _ _ s;show XZ (cW (ha O s D H _ I h) λu s1 (x,H1,I1,r1,q1)=>?_);show cW (hr G O s1 D H1 _ I1 q1) λus s2 (xs,H2,I2,r2,q2)=>(x::xs,H2,I2,.cons r1 r2,q2)
inductive Re(Q:VK)(a:List V)(b:Hp):Prop|mk(_:a.length<=sizeLine)(_:∀p,b p=none->Q (.ref p) (aw b p (.tup a)))
def No(t:TA):TE:=λD H Q=>t D H (Re Q)
inductive Ri(Q:VK)(a:List V)(b:Hp):Prop|mk(_:a.length<=sizeLine)(_:∀p,b p=none->Q (.ref p) (aw b p (.lst a)))
def Np(t:TA):TE:=λD H Q=>t D H (Ri Q)
def cg{x1}(h:PA X es t):PE X (.Tuple es x1 G) (No t):=by
 intro O s D H Q ab hq;show wpAny_Tuple_spliced (cW (h G O s D H _ ab hq) λus I (xs,H1,I1,r,z,q)=>(by rw[<-↑r];show z,?_));let hf:H1 I.heap.objs.size=UH:=I1.hok.fresh (UD _);show(.ref I.heap.objs.size,aw H1 I.heap.objs.size (.tup xs),I1.laid (t':=I.toks) (λb u e=>UG _ e) (UD _) ?_,Y,q _ hf);show(z,us,r,(_,U5 _ rfl,Y,_,Y))
def aS(h:PA X es t):PE X (.List es G) (Np t):=by
 intro O s D H Q ab hq;show wpAny_List_spliced (cW (h G O s D H _ ab hq) λus I (xs,H1,I1,r,z,q)=>(by rw[<-↑r];show z,?_));let hf:H1 I.heap.objs.size=UH:=I1.hok.fresh (UD _);show(.ref I.heap.objs.size,aw H1 I.heap.objs.size (.lst xs),I1.laid (t':=I.toks) (λb u e=>UG _ e) (UD _) ?_,Y,q _ hf);show(z,us,0,r,U5 _ rfl)
end
abbrev Sp:=List V->Hp->VK->XK->Prop
abbrev F6:=List Env->Hp->UE->XK->Uv->UE->Prop
structure DH (P:Program) (w:World) (K:PySem.W.Frag) (mg:Str->Option Value) (base:Heap) (A:Around) (outer:List Env) (s:Shared) (H:Hp):Prop where
 frames:A.frames=some outer
 mod:Mod K mg base
 bs: ∀b o,base.get? b=some o->s.heap.get? b=some o/\H b=none
 bsz:base.objs.size<=s.heap.objs.size
 funs:s.heap.FunFrames base outer
 frf: ∀b∈DI outer,H b=none
 hok:kt P w H s.heap
 bare:AllBare s.gens
def CE(I:List Env)(P:Program)(w:We)(H:Hp)(s:UE)(Q:VK)(u:Uv)(s':UE):Prop:=
 ∃v H',s'.os=s.os/\acK s'.gens/\Un (DI I) [] H H' s.heap s'.heap/\kt P w H' s'.heap/\bQ v u/\Q v H'
def CR(CX:F6)(I:List Env)(P:Program)(w:We)(H:Hp)(s:UE)(Q:VK)(E:XK)(r:Result)(s':UE):Prop:=
 match r with
 |.ok (.ret u)=>CE I P w H s Q u s'
 |.ok _=>False
 |.error e=>CX I H s E e s'
structure ku (P:Program) (w:World) (K:PySem.W.Frag) (mg:Str->Option Value) (base:Heap) (CX:F6) (k:Nat) (f:Addr) (fd:FuncData) (ps:List Str) (sp:Sp):Prop where
 len: ∀vs H Q E,sp vs H Q E->vs.length=ps.length
 run: ∀(A:Around) (outer:List Env) (s:Shared) (H:Hp) (args:Args) (us:List Value) (vs:List V) (Q:VK) (E:XK),Room k A->DH P w K mg base A outer s H->BindsTo s fd args (ps.zip us)->bq vs us->sp vs H Q E->
  codeAny (model P w) A (.call (.ref f) args) (CR CX outer P w H s Q E) s
def ku.imp{P:Program}{K:UN}{W:Heap}{sp I:Sp}(F:ku P w K U W CX k f fd ps sp)(h:∀vs H Q E,I vs H Q E->sp vs H Q E):ku P w K U W CX k f fd ps I:=
 (λvs H Q E q=>F.len vs H Q E (h _ _ _ _ q),λA an s H ab us vs Q E hr he hb hv hs=>F.run A an s H ab us vs Q E hr he hb hv (h _ _ _ _ hs))
def DH.make{P:Program}{K:UN}{W:Heap}{A:VU}(e:DH P w K U W A I s H)(C:Uw)(us:List Uv)(kw:List (Vp×Uv)):
  DH P w K U W (A.under (.builtin "type.__call__" (.ref C::us,kw))) I s H:=(by first|show e.frames|(simpa [acJ,Code.envs,acH,pushEnvs]using e.frames),e.mod,e.bs,e.bsz,e.funs,e.frf,e.hok,e.bare)
section
variable {X:Cx} {O:List (Addr×Obj)} {D:St} {H:Hp} {s s':Shared}
def aZ.env0(I:aZ X O D H s):DH X.prog X.w X.K X.mg X.base X.A X.stack s H:=
 (I.ok.frames,I.ok.mod,I.bs,Vm I.ok.bsz I.sz,I.stack,I.stkFree,I.hok,I.bare)
def aZ.after(I:aZ X O D H s)(h:CE X.stack X.prog X.w H s Q u s'):EP X O D Q u s':=by
 let(v,H',os,ab,un,an,r,q):=h;let(hh,g,d,t,ap):=s';obtain rfl:ap=s.os:=os;show(v,H',I.call (h':=hh) (g':=g) (d':=d) (t':=t) (ch:=[]) un an ab (λb z=>absurd z (by simp)),r,q)
end
def mD(sp:Sp)(dvs:List V)(E:XK)(t:TA):TE:=λD H Q=>t D H λvs H1=>sp (vs++dvs) H1 Q E
inductive PD(C:Addr)(m:Str)(e:Sp)(b:List V)(E:XK)(t:TA)(f:St)(Q:VK)(x:V)(c:Hp):Prop|mk(a g d:_)(_:x=.ref a)(_:c a=some (.ins C g d))(_:d.lookup m=none)(_:t f c fun vs H2=>e (x::(vs++b)) H2 Q E)
def iZ(C:Uw)(m:Vp)(sp:Sp)(dvs:List V)(E:XK)(ta:TE)(t:TA):TE:=λD H Q=>ta D H (PD C m sp dvs E t D Q)
def qV(C:Uw)(sp:Sp)(dvs:List V)(E:XK)(t:TA):TE:=λD H Q=>t D H λvs H1=>∀x dx,H1 x=UH->H1 dx=UH->dx≠x->
 sp (.ref x::(vs++dvs)) (aw (aw H1 dx (.own x)) x (.ins C dx [])) (λv H2=>v=.non/\Q (.ref x) H2) E
def gf(CX:F6)(X:Cx)(E:XK):Prop:=∀(O:List (Uw×W2))(D:St)(H:Hp)(s:UE)(e:Uv)(s':UE),aZ X O D H s->CX X.stack H s E e s'->X.xe e s'
section
variable {X:Cx} {CX:F6} {k:Nat} {f C:Addr} {fd:FuncData} {ps:List Str} {sp:Sp} {dvs:List V} {ds:List Value} {E:XK} {x m:Str} {p G apos:Pos} {e o:Expr} {es:List Expr} {ta:TE} {t:TA}
def Hb(F:ku X.prog X.w X.K X.mg X.base CX k f fd ps sp)(hr:Room k X.A)(hb:gM X.K fd ps ds)(hd:bq dvs ds)(hx:gf CX X E)(ab:aZ X O D H s)(r:bq vs us)(h:sp (vs++dvs) H Q E):Vi (U_ X.prog X.w) X.A (Z9 (.ref f) us) (EP X O D Q) X.xe s:=by
 let r2:bq (vs++dvs) (us++ds):=r.append hd;let hl:↑(us++ds)=↑ps:=by rw[<-↑r2];show F.len _ _ _ _ h
 show Z7 (Y3 (F.run X.A X.stack s H (us,[]) (us++ds) (vs++dvs) Q E hr ab.env0 (hb s us ab.kIn hl) r2 h) λr s' I=>?_);cases r with
 |error e=>show hx O D H s e s' ab I
 |ok fl=>
  cases fl with
  |ret u=>show ab.after I
  |next=>show VI I
  |brk=>show VI I
  |cont=>show VI I
def N3(F:ku X.prog X.w X.K X.mg X.base CX k f fd ps sp)(hr:Room k X.A)(hg:Gl X x)(hm:X.mg x=Up (.ref f))(hk:Yl X.K (.ref f)=UB)(hb:gM X.K fd ps ds)(hd:bq dvs ds)(hx:gf CX X E)(ha:PA X (e::es) t)(ab:(x==("__debug__":Vp))=UF:=by decide)(he:Vt (e::es) X.env=(UF,Xq e X.env)::Vt es X.env:=by rfl)(an:(Yk G (Vt es X.env)).any (·.1)=UF:=by rfl):
  PE X (.Call (.Name x p) (e::es) [] G) (mD sp dvs E t):=by
 intro O s D H Q I h;show wpAny_Call_Name_kw (lN I hg hm ?_ ab);show XW (h₀:=X.base) I.ok.mod.kin hk (cW (ha G O s D H _ I h) λus s1 (vs,H1,I1,r,q)=>(I1.kIn,?_)) he an;show Hb F hr hb hd hx I1 r q
def NY{pl:Sem Bool}(he:PE X o ta)(c:vY X.K C)(hm:dN X.K C m f)(F:ku X.prog X.w X.K X.mg X.base CX k f fd ps sp)(hr:Room k X.A)(hb:gM X.K fd ps ds)(hd:bq dvs ds)(hx:gf CX X E)(ha:PA X (e::es) t)(an:Vt (e::es) X.env=(UF,eval e X.env)::Vt es X.env:=by rfl)(ab:(Yk G (Vt es X.env)).any (·.1)=UF:=by rfl)(ht:eval (.Call (.Attribute o m apos) (e::es) [] G) X.env=(do
   let ov<-eval o X.env
   standAt apos.atName
   let(f,first)<-holding [ov] (aaM ov m pl)
   callWith G f first (Yk G (Vt (e::es) X.env)) (acC G (aan [] X.env))):=by rfl):
  PE X (.Call (.Attribute o m apos) (e::es) [] G) (iZ C m sp dvs E ta t):=by
 intro O s D H Q I h;show abm (pl:=pl) (cW (he O s D H _ I h) λu s1 (x,H1,I1,rx,a,dx,fs,ex,ea,l,q)=>?_) ht;subst ex;obtain rfl:u=Vd a:=rx;show xF I1 ea c hm l ?_;show XW (first:=[.ref a]) (h₀:=X.base) I.ok.mod.kin hm.kp (cW (ha G O s1 D H1 _ I1 q) λus s2 (vs,H2,I2,r,q2)=>(I2.kIn,?_)) an ab;show Hb (us:=.ref a::us) (vs:=.ref a::vs) F hr hb hd hx I2 (.cons rfl r) q2
def L0(he:PE X o ta)(c:vY X.K C)(hm:dN X.K C m f)(F:ku X.prog X.w X.K X.mg X.base CX k f fd ps sp)(hr:Room k X.A)(hb:gM X.K fd ps ds)(hd:bq dvs ds)(hx:gf CX X E)(ht:eval (.Call (.Attribute o m apos) [] [] G) X.env=(do
   let ov<-eval o X.env
   standAt apos.atName
   let(f,first)<-holding [ov] (aaM ov m pl)
   callWith G f first (Yk G (Vt [] X.env)) (acC G (aan [] X.env))):=by rfl):
  PE X (.Call (.Attribute o m apos) [] [] G) (iZ C m sp dvs E ta b8):=by
 intro O s D H Q ab h;show abm (pl:=pl) (cW (he O s D H _ ab h) λu s1 (x,H1,I,rx,a,dx,fs,ex,ea,l,q)=>?_) ht;subst ex;obtain rfl:u=Vd a:=rx;show xF I ea c hm l ?_;show abS (first:=[.ref a]) I.kIn hm.kp (Hb (us:=[.ref a]) (vs:=[.ref a]) F hr hb hd hx I (.cons rfl .nil) q)
def Et{H:Hp}{Q:VK}(M:Mk X.K C f)(F:ku X.prog X.w X.K X.mg X.base CX k f fd ps sp)(hr:Room (k+1) X.A)(hb:gM X.K fd ps ds)(hd:bq dvs ds)(hx:gf CX X E)(ab:aZ X O D H s)(r:bq vs us)(h:∀x dx,H x=UH->H dx=UH->dx≠x->sp (.ref x::(vs++dvs)) (aw (aw H dx (.own x)) x (.ins C dx [])) (λv H2=>v=.non/\Q (.ref x) H2) E):
  Vi (U_ X.prog X.w) X.A (Z9 (.ref C) us) (EP X O D Q) X.xe s:=by
 let hq:=h (s.heap.objs.size+1) s.heap.objs.size (ab.hok.fresh (XS _)) (ab.hok.fresh (UD _)) (Vl (VW _));let I2:=aZ.made (C:=C) ab;let r2:bq (V.ref (s.heap.objs.size+1)::(vs++dvs)) (Vd (s.heap.objs.size+1)::(us++ds)):=.cons rfl (r.append hd);let hl:↑(Vd (s.heap.objs.size+1)::us++ds)=↑ps:=by
  let e:=↑r2;rw[F.len _ _ _ _ hq]at e;show e.symm
 show Z7 (EY (f:=f) ab.kIn M.makes M.init (beq_iff_eq.mp M.fn) (Y3 (F.run _ X.stack _ _ (Vd (s.heap.objs.size+1)::us,[]) (Vd (s.heap.objs.size+1)::(us++ds)) _ _ E (hr.make C us [])
  (I2.env0.make C us []) (hb _ (Vd (s.heap.objs.size+1)::us) I2.kIn hl) r2 hq) λr s' I=>?_))
 cases r with
 |error e=>show hx O D _ _ e s' I2 I
 |ok fl=>
  cases fl with
  |ret u=>
   let(v,H',I3,rv,ev,q3):=I2.after I;subst ev;show(rv,(V.ref (s.heap.objs.size+1),H',I3,Y,q3))
  |next=>show VI I
  |brk=>show VI I
  |cont=>show VI I
def NZ(M:Mk X.K C f)(F:ku X.prog X.w X.K X.mg X.base CX k f fd ps sp)(hr:Room (k+1) X.A)(hg:Gl X x)(hm:X.mg x=Up (.ref C))(hb:gM X.K fd ps ds)(hd:bq dvs ds)(hx:gf CX X E)(ha:PA X (e::es) t)(ab:(x==("__debug__":Vp))=UF:=by decide)(he:Vt (e::es) X.env=(UF,Xq e X.env)::Vt es X.env:=by rfl)(an:(Yk G (Vt es X.env)).any (·.1)=UF:=by rfl):
  PE X (.Call (.Name x p) (e::es) [] G) (qV C sp dvs E t):=by
 intro O s D H Q I h;show wpAny_Call_Name_kw (lN I hg hm ?_ ab);show XW (h₀:=X.base) I.ok.mod.kin M.kp (cW (ha G O s D H _ I h) λus s1 (vs,H1,I1,r,q)=>(I1.kIn,?_)) he an;show Et M F hr hb hd hx I1 r q
def L3(M:Mk X.K C f)(F:ku X.prog X.w X.K X.mg X.base CX k f fd ps sp)(hr:Room (k+1) X.A)(hg:Gl X x)(hm:X.mg x=Up (.ref C))(hb:gM X.K fd ps ds)(hd:bq dvs ds)(hx:gf CX X E)(ab:(x==("__debug__":Vp))=UF:=by decide):PE X (.Call (.Name x p) [] [] G) (qV C sp dvs E b8):=by
 intro O s D H Q I h;show wpAny_Call_Name_kw (lN I hg hm ?_ ab);show abS I.kIn M.kp (Et (us:=[]) M F hr hb hd hx I .nil h)
end
structure fJ (N P:List Str) (sc:Scope):Prop where
 kind:sc.kind=.function
 co:sc.isCoroutine=false
 gen:sc.isGenerator=false
 nd:N.Nodup
 pre:N.take P.length=P
 par: ∀x∈P,sc.names.lookup x=some .local\/sc.names.lookup x=some .cell
 nofree: ∀y∈sc.names,y.2≠.free
def AU{kindOf:Vp->Option Xj}:∀{I:List (Vp×Uv)}{m:Vp->Option Uv},(∀v,(x,v)∉I)->bindL kindOf I m x=m x
 |[],_,_=>rfl
 |(n,v)::r,m,h=>by
  unfold bindL;rw[AU λw hw=>h w (UR _ hw)];split
  .have:x≠n:=by rintro rfl;show h v UU
   simp [this]
  .rfl
def AW{kindOf:Vp->Option Xj}:∀{I:List (Vp×Uv)}{m:Vp->Option Uv},(∀v,(x,v)∉I)->bindC kindOf I m x=m x
 |[],_,_=>rfl
 |(n,v)::r,m,h=>by
  unfold bindC;rw[AW λw hw=>h w (UR _ hw)];split
  .rfl
  .have:x≠n:=by rintro rfl;show h v UU
   simp [this]
def AV{kindOf:Vp->Option Xj}:∀{P:List Vp}{vs:List Uv}{i:Nat}{m:Vp->Option Uv},P.Nodup->P[i]?=Up x->vs[i]?=Up v->kindOf x=Up .local->
  bindL kindOf (P.zip vs) m x=Up v
 |[],_,_,_,_,h,_,_=>by simp at h
 |_::_,[],_,_,_,_,h,_=>by simp at h
 |p::P,w::vs,0,m,nd,h1,h2,I=>by
  simp at h1 h2;subst h1;subst h2;change bindL kindOf ((p,w)::P.zip vs) m p=_;unfold bindL;rw[AU λv hv=>(VR.mp nd).1 (ZO hv).1,ifp I];simp
 |p::P,w::vs,i+1,m,nd,h1,h2,I=>by
  change bindL kindOf ((p,w)::P.zip vs) m x=_;unfold bindL;show AV (i:=i) (VR.mp nd).2 (by simpa using h1) (by simpa using h2) I
def AX{kindOf:Vp->Option Xj}:∀{P:List Vp}{vs:List Uv}{i:Nat}{m:Vp->Option Uv},P.Nodup->P[i]?=Up x->vs[i]?=Up v->kindOf x≠Up .local->
  bindC kindOf (P.zip vs) m x=Up v
 |[],_,_,_,_,h,_,_=>by simp at h
 |_::_,[],_,_,_,_,h,_=>by simp at h
 |p::P,w::vs,0,m,nd,h1,h2,I=>by
  simp at h1 h2;subst h1;subst h2;change bindC kindOf ((p,w)::P.zip vs) m p=_;unfold bindC;rw[AW λv hv=>(VR.mp nd).1 (ZO hv).1,ifn I];simp
 |p::P,w::vs,i+1,m,nd,h1,h2,I=>by
  change bindC kindOf ((p,w)::P.zip vs) m x=_;unfold bindC;show AX (i:=i) (VR.mp nd).2 (by simpa using h1) (by simpa using h2) I
def start(N:List Vp)(vs:List V):St:=vs.map Up++VX (↑N-↑vs) UH
def jt(CX:F6)(P:Program)(w:We)(K:UN)(U:Vp->Option Uv)(W:Heap)(N:List Vp)(qual:Vp)(scope:XQ)(f:Uw)(cd:Uv)(A:VU)(outer:List Env)(s:UE)(H:Hp)(E:XK):Cx where
 prog:=P
 w:=w
 K:=K
 mg:=U
 base:=W
 A:=A.deeper (YK qual scope s.heap.objs.size f cd)
 N:=N
 s_0:=s
 H_0:=H
 env:=YK qual scope s.heap.objs.size f cd
 outer:=outer
 stack:=YK qual scope s.heap.objs.size f cd::outer
 ex:=[]
 calm:=UB
 fn:=λ_=>UB
 pn:=[]
 xe:=λe s'=>Vi (U_ P w) (A.deeper (YK qual scope s.heap.objs.size f cd)) (leaving (YK qual scope s.heap.objs.size f cd) e) (λ_ s''=>CX outer H s E e s'') (λe' s''=>CX outer H s E e' s'') s'
def FO{I:XQ}(h:I.names.lookup x=Up .cell):∃c,(cellsFrom n I.names []).lookup x=Up c:=by
 let q:=Y7 I.names n [] (.inl h);show WS.mp q
def AD{P:Program}{K:UN}{W:Heap}{N ps:List Vp}{ab:XQ}{A:VU}{s s1:UE}{vs:List V}(S:fJ N ps ab)(hd:A.handled=UH)(I:DH P w K U W A ar s H)(hl:↑vs=↑ps)(r:bq vs us)(x:InCallC s s.heap.objs.size (bindL (YK an ab s.heap.objs.size f cd).kindOf (ps.zip us) λ_=>UH) (cellsFrom (s.heap.objs.size+1) ab.names []) (bindC (YK an ab s.heap.objs.size f cd).kindOf (ps.zip us) λ_=>UH) s1):
  aZ (jt CX P w K U W N an ab f cd A ar s H E) [] (start N vs) H s1:=by
 let a0:↑ps<=↑N:=by have:=congrArg Xc S.pre;rw[VL]at this;lia
 let(h1,tk,rfl,hk):=x.done;let ap:∀b:Uw,b∉(jt CX P w K U W N an ab f cd A ar s H E).ex:=λb z=>absurd (show b∈([]:List Uw)from z) (by simp)
 show((I.mod,S.kind,Y,Y,UD _,λy z c h1 h2=>?_,λy hy=>?_,λy c _ h=>?_,λ_=>hd,Around.frames_deeper I.frames,.inr (Y,Y),λb z=>absurd z (ap b),I.bs,I.bsz,λb _ _=>ap b,λb z=>absurd z (ap b),I.funs,I.frf),
  Y,I.bare,Un.kept hk,(_,x.toInCall.ns,λi y v h1 h2 h3=>?_),λy c h=>(_,x.cell y c h),I.hok.fresh (UD _),λy c h=>?_,λp hp=>absurd (show p∈([]:List (Uw×W2))from hp) (by simp),I.hok.kept hk,?_)
 .show name_of_addr x.apart (Vw h1) (Vw h2)
 .let hy:ab.names.lookup y=Up .cell\/ab.names.lookup y=Up .free:=hy;rcases hy with hy|hy
  .show FO hy
  .show absurd rfl (S.nofree _ (Vw hy))
 .show Xb (x.above y c (Vw h))
 .let hi:i<↑vs:=by
   unfold start at h2;by_cases hi:i<↑vs
   .show hi
   .rw[UZ (by simpa using hi)]at h2;rw[YV]at h2;split at h2<;>cases h2
  let ha:vs[i]?=Up v:=by
   unfold start at h2;rw[UY (by simpa using hi),UM]at h2;cases e:vs[i]? with
   |none=>rw[e]at h2;cases h2
   |some a=>rw[e]at h2;cases h2;rfl
  let(u,hu,rv):=r.get ha;let hp:ps[i]?=Up y:=by
   rw[<-S.pre,List.getElem?_take_of_lt ⋯];show h1
  let av:ps.Nodup:=by rw[<-S.pre];show S.nd.sublist (acN _ _)
  show(u,rv,?_);rcases S.par y (U3 hp)with k|k
  .show .inl (k,AV av hp hu k)
  .let(c,e):=FO (n:=s.heap.objs.size+1) k;show .inr (.inl k,c,e,?_);let q:=x.cell y c e;rw[AX av hp hu (by change ab.names.lookup y≠_;rw[k];decide)]at q;show q
 .show I.hok.fresh (Xb (x.above y c (Vw h)))
 .unfold start;change _=↑N;rw[Us,Uq,Zk];lia
def MI{P:Program}{K:UN}{W:Heap}{dV kV a0 pm ab ct oc:Uv}{N ps:List Vp}{sp:Sp}(lk:K.lookup f=Up (oc,od,.func (W8 name ap a3 av I dV kV a0 pm an ab ct),bl))(a6:Y6 K ab ap=UB)(S:fJ N ps I)(len:∀vs H Q E,sp vs H Q E->↑vs=↑ps)(a5:∀(A:VU)(ar:List Env)(s:UE)(H:Hp)(vs:List V)(Q:VK)(E:XK),Room k (A.deeper (YK ap I s.heap.objs.size f ab))->sp vs H Q E->
   ∃t,yw (jt CX P w K U W N ap I f ab A ar s H E) av t/\t {nx:=λ_ H'=>Q .non H',rt:=Q} (start N vs) H):
  ku P w K U W CX (k+1) f (W8 name ap a3 av I dV kV a0 pm an ab ct) ps sp:=by
 show(len,λA ar s H bm us vs Q E hr e0 hb r a2=>?_);let hl:=len _ _ _ _ a2;let KX:K.In s.heap:=e0.mod.kin.keeps λb o e=>(e0.bs b o e).1
 let bk:s.heap.NoLimit:=e0.mod.nolimit.keeps λb o e=>(e0.bs b o e).1
 let bd:∀y∈ps.zip us,I.names.lookup y.1=Up .local\/(I.names.lookup y.1=Up .cell/\((cellsFrom (s.heap.objs.size+1) I.names []).lookup y.1).isSome=UB):=λ(n,v)hy=>by
  rcases S.par n (ZO hy).1 with q|q
  .show .inl q
  .show .inr (q,Y7 _ _ _ (.inl q))
 show codeAny_call_function hr.depth (KX _ _ lk) rfl S.co S.gen rfl (ach KX a6) (hb _ _ _ _ ?_);show Z6 S.kind bd λbs he s1 x=>?_
 subst he;show(bk.keeps x.toInCall.keep,codeAny_func ?_);let(t,ht,hq):=a5 A ar s H vs Q E (hr.deeper _) a2;let a4:aZ (jt CX P w K U W N ap I f ab A ar s H E) [] (start N vs) H s1:=AD S hr.hd e0 hl r x;show V9 (ht [] s1 (start N vs) H _ a4 hq) (λfl s' hs=>?_) λe s' hs=>hs
 let a1:∀{σ':St}{H':Hp}{v:V}{u:Uv},aZ (jt CX P w K U W N ap I f ab A ar s H E) [] σ' H' s'->bQ v u->Q v H'->CE ar P w H s Q u s':=
  λ{σ' H' v u}J rv q=>(v,H',J.os,J.bare,J.base,J.hok,rv,q)
 cases fl with
 |ret u=>
  let(v,σ',H',J,rv,q):=hs;show a1 J rv q
 |next=>
  let(σ',H',J,q):=hs;show a1 (v:=V.non) (u:=WL) J rfl q
 |brk=>
  let(_,_,_,q):=hs;show VI q
 |cont=>
  let(_,_,_,q):=hs;show VI q
section
variable {X:Cx} {x:Str} {p G:Pos} {e:Expr} {es:List Expr} {t:TA} {id T:String} {r:List V->Hp->VK->Prop}
def OR(r:List V->Hp->VK->Prop)(t:TA):TE:=λD H Q=>t D H λvs H1=>r vs H1 Q
def aW(hc:iL X (.builtin id) r)(hg:Gl X x)(hm:X.mg x=UH)(hv:aa2 x=Up (.builtin id))(ha:PA X (e::es) t)(hn:x≠"__name__":=by decide)(ab:(x==("__debug__":Vp))=UF:=by decide)(he:Vt (e::es) X.env=(UF,Xq e X.env)::Vt es X.env:=by rfl)(an:(Yk G (Vt es X.env)).any (·.1)=UF:=by rfl):PE X (.Call (.Name x p) (e::es) [] G) (OR r t):=by
 intro O s D H Q I h;show wpAny_Call_Name_kw (Cy I hg hm hv ?_ hn ab);show PyProof.Rows.callWith_builtin1 (cW (ha G O s D H _ I h) λus s1 (vs,H1,I1,r1,q1)=>hc O s1 D H1 vs us Q I1 r1 q1) he an
def dE(hc:iL X (.type T) r)(hg:Gl X x)(hm:X.mg x=UH)(hv:aa2 x=Up (.type T))(ha:PA X (e::es) t)(hn:x≠"__name__":=by decide)(ab:(x==("__debug__":Vp))=UF:=by decide)(he:Vt (e::es) X.env=(UF,Xq e X.env)::Vt es X.env:=by rfl)(an:(Yk G (Vt es X.env)).any (·.1)=UF:=by rfl):PE X (.Call (.Name x p) (e::es) [] G) (OR r t):=by
 intro O s D H Q I h;show wpAny_Call_Name_kw (Cy I hg hm hv ?_ hn ab);show Yf (cW (ha G O s D H _ I h) λus s1 (vs,H1,I1,r1,q1)=>hc O s1 D H1 vs us Q I1 r1 q1) he an
end
end L2
namespace HT
open L2
open PySem PyProof.Rows
section
variable {prog:Program} {w:World} {A:Around} {E:Value->Shared->Prop} {s:Shared}
def sIx(n d:Nat):Option Int->Nat
 |none=>d
 |some v=>if v<0 then(v+(n:Int)).toNat else min v.toNat n
def sIx_none(n d:Nat):sIx n d UH=d:=rfl
def sIx_nat(n d k:Nat):sIx n d (Up (k:Int))=min k n:=by
 change(if(k:Int)<0 then((k:Int)+(n:Int)).toNat else min (k:Int).toNat n)=min k n;rw[ifn ⋯,Zf]
def sIx_le(n d:Nat)(hd:d<=n)(o:Option Int):sIx n d o<=n:=by
 cases o with
 |none=>show hd
 |some v=>
  change(if v<0 then(v+(n:Int)).toNat else min v.toNat n)<=n;by_cases I:v<0
  .rw[ifp I];lia
  .rw[ifn I];show Nat.min_le_right _ _
end
end HT
namespace L2
open PySem PySem.Spec PyProof.Rows
abbrev TO:=St->Hp->(Option Int->Hp->Prop)->Prop
def PO(X:Cx)(e:Option Expr)(t:TO):Prop:=
 ∀(O:List (Uw×W2))(s:UE)(D:St)(H:Hp)(Q:Option Int->Hp->Prop),aZ X O D H s->t D H Q->
  Vi (U_ X.prog X.w) X.A (evalPart e X.env) (λu s'=>∃o H',aZ X O D H' s'/\IsPart u o/\Q o H') X.xe s
def Bn:TO:=λ_ H Q=>Q UH H
inductive PB(Q:Option Int->Hp->Prop)(x:V)(a:Hp):Prop|mk(i:_)(_:x=.int i)(_:Q (some i) a)
def Lh(t:TE):TO:=λD H Q=>t D H (PB Q)
section
variable {X:Cx} {e:Expr} {te:TE} {lo hi:Option Expr} {tl th:TO} {G p2:Pos}
def vG:PO X none Bn:=by
 intro O s D H Q I h;rw[evalPart_none];show wpAny_pure (none,H,I,.none,h)
def eu(h:PE X e te):PO X (Up e) (Lh te):=by
 intro O s D H Q I hw;rw[evalPart_some];show cW (h O s D H _ I hw) λu s1 (x,H1,I1,r1,q1)=>?_
 let(i,rfl,q):=q1;let(t,rfl):=r1;show(Up i,H1,I1,.int i t,q)
def TR(X:Cx)(r:V->Option Int->Option Int->Hp->VK->Prop):Prop:=
 ∀(O:List (Uw×W2))(s:UE)(D:St)(H:Hp)(x:V)(v vl vu:Uv)(lo hi:Option Int)(I:Uw)(Q:VK),aZ X O D H s->bQ x v->s.heap.IsSliceOf I vl vu .none->IsPart vl lo->IsPart vu hi->r x lo hi H Q->
  ∃T id,Z8 (.type T) "__getitem__"=pure (Up (.builtin id))/\s.TypeIs v T/\Vi (U_ X.prog X.w) X.A (acz v (.ref I)) (EP X O D Q) X.xe s
def T3(r:V->Option Int->Option Int->Hp->VK->Prop)(te:TE)(tl th:TO):TE:=λD H Q=>te D H λx H1=>tl D H1 λl H2=>th D H2 λu I=>r x l u I Q
def fQ(hr:TR X r)(he:PE X e te)(hl:PO X lo tl)(hu:PO X hi th):PE X (.Subscript e (.Slice lo hi UH p2) G) (T3 r te tl th):=by
 intro O s D H Q ab h;show Subscript_ (cW (he O s D H _ ab h) λv s1 (x,H1,I1,r1,q1)=>?_);show wpAny_Slice (cW (hl O s1 D H1 _ I1 q1) λvl s2 (l,H2,I2,pl,q2)=>cW (hu O s2 D H2 _ I2 q2) λvu I (u,H3,I3,pu,q3)=>?_);rw[evalPart_none];show Vq ?_;let I4:aZ X O D H3 {I with heap:=I.heap.push {cls:=.type "slice",data:=.fields #[vl,vu,.none]}}:=I3.kept (t':=I.toks) λb ob q=>UG _ q
 let(T,id,hT,ht,hg):=hr O {I with heap:=I.heap.push {cls:=.type "slice",data:=.fields #[vl,vu,.none]}} D H3 x v vl vu l u I.heap.objs.size Q I4 r1 (Heap.IsSliceOf.new ..) pl pu q3;change Vi (U_ X.prog X.w) X.A (ab_ e (.Slice lo hi UH p2) v (.ref I.heap.objs.size)) (EP X O D Q) X.xe {I with heap:=I.heap.push {cls:=.type "slice",data:=.fields #[vl,vu,.none]}};show tail_any (ops:=[.ref I.heap.objs.size,v]) ht hT hg (by with_unfolding_all rfl)
def rZ(xs:List V)(lo hi:Option Int):List V:=(xs.drop (HT.sIx ↑xs 0 lo)).take (HT.sIx ↑xs ↑xs hi-HT.sIx ↑xs 0 lo)
def FI(xs:List V)(lo hi:Option Int):↑(rZ xs lo hi)<=↑xs:=by
 unfold rZ;rw[VL,Vx];show Nat.le_trans (Nat.min_le_right _ _) (Nat.sub_le _ _)
end
def QE(n:Nat)(i:Int):Option Nat:=if 0<=i then(if i<n then Up i.toNat else UH)else if-(n:Int)<=i then Up (i+n).toNat else UH
def MW{I:Type}(xs:List I)(i:Int):Option I:=(QE ↑xs i).bind λj=>xs[j]?
def IT(h:QE n i=Up j):seqIndex? i n=Up j/\j<n/\ -(n:Int)<=i/\i<n:=by
 unfold QE at h;by_cases I:0<=i
 .rw[ifp I]at h;by_cases h1:i<n
  .rw[ifp h1]at h;let e:i.toNat=j:=UI h;show(by rw[adc I h1,e],⋯,⋯,h1)
  .rw[ifn h1]at h;cases h
 .rw[ifn I]at h;by_cases h1: -(n:Int)<=i
  .rw[ifp h1]at h;let e:(i+n).toNat=j:=UI h;show(by rw[acx ⋯ h1,e],⋯,h1,⋯)
  .rw[ifn h1]at h;cases h
def DB{xs:List I}(h:MW xs i=Up v):∃j,seqIndex? i ↑xs=Up j/\xs[j]?=Up v/\j<↑xs/\ -(↑xs:Int)<=i/\i<↑xs:=by
 unfold MW at h;cases e:QE ↑xs i with
 |none=>rw[e]at h;cases h
 |some j=>
  rw[e]at h;let(h1,h2,α,h4):=IT e;show(j,h1,h,h2,α,h4)
def b5{I:Type}{xs:List I}{j:Nat}{v:I}(h:xs[j]?=Up v):MW xs (j:Int)=Up v:=by
 let α:j<↑xs:=(UO.mp h).1;let e:QE ↑xs (j:Int)=Up j:=by
  unfold QE;rw[ifp ⋯,ifp ⋯];simp
 unfold MW;rw[e];show h
def OJ(b:Expr):Prop:=∀o i,abC b UF o i=operate [o,i] (acz o i)
def SN(X:Cx)(r:R2):Prop:=
 ∀(value I:Expr)(O:List (Uw×W2))(s:UE)(D:St)(H:Hp)(x y:V)(v u:Uv)(Q:VK),aZ X O D H s->bQ x v->bQ y u->r x y H Q->
  abC I UF v u=operate [v,u] (acz v u)->Vi (U_ X.prog X.w) X.A (ab_ value I v u) (EP X O D Q) X.xe s
def OL(X:Cx)(id:String)(r:V->List V->Hp->VK->Prop):Prop:=
 ∀(O:List (Uw×W2))(s:UE)(D:St)(H:Hp)(x:V)(xs:List V)(v:Uv)(us:List Uv)(Q:VK),aZ X O D H s->bQ x v->bq xs us->r x xs H Q->
  Vi (U_ X.prog X.w) X.A (Z9 (.builtin id) (v::us)) (EP X O D Q) X.xe s
section
variable {X:Cx} {a b:Expr} {ta tb:TE} {G:Pos}
def c9(hr:SN X r)(ha:PE X a ta)(hb:PE X b tb)(hs:OJ b):PE X (.Subscript a b G) (F8 r ta tb):=by
 intro O s D H Q I h;show Subscript_ (QX ha hb I h λv u s2 x y H2 I2 rx ry q=>hr a b O s2 D H2 x y v u Q I2 rx ry q (hs _ _))
inductive NQ(K:PySem.W.Frag)(x y:V)(H:Hp)(Q:VK):Prop|mk(p a i v:_)(_:x=.ref p)(_:y=.int i)(_:bx K H p a)(_:MW a i=some v)(_:Q v H)
inductive RD(K:PySem.W.Frag)(x y:V)(H:Hp)(Q:VK):Prop|mk(p a i v:_)(_:x=.ref p)(_:y=.int i)(_:gK K H p a)(_:MW a i=some v)(_:Q v H)
inductive Tl(x y:V)(H:Hp)(Q:VK):Prop|mk(z i c:_)(_:x=.str z)(_:y=.int i)(_:z.length<=sizeLine)(_:MW z.cps.toList i=some c)(_:Q (.str ⟨#[c]⟩) H)
def cS:SN X (NQ X.K):=by
 intro value av O s D H x y v u Q ab rx ry h hs;let(p,xs,i,z,rfl,rfl,hq,he,q):=h;cases rx;let(t,rfl):=ry;let(ap,r,pl,hz):=ab.list hq;let(j,h1,h2,h3,h4,h5):=DB he;let(w,ew,ar):=r.get h2;let hl:=↑r;let hn:=tm;let an:EP X O D Q w s:=(z,H,ab,ar,q);by_cases h0:0<=i
 .let I:i.toNat=j:=by
   rw[adc h0 h5]at h1;show UI h1
  show item_listR pl.isList h0 ⋯ (by rw[I];simpa using ew) an hs
 .let I:(i+(ap.toArray.size:Int)).toNat=j:=by
   rw[acx ⋯ h4]at h1;rw[UX,<-hl];show UI h1
  show aa7 (x:=w) pl.isList.typeIs slot_list_getitem.lookup
   (wpAny_getItem_list_neg (Q:=λr s'=>r=w/\EP X O D Q r s') pl.isList ⋯ (by rw[UX]<;>lia) ⋯ (by rw[I];simpa using ew) (Y,an)) hs
def lO:SN X (RD X.K):=by
 intro value ar O s D H x y v u Q I rx ry h hs;let(p,xs,i,z,rfl,rfl,hq,he,q):=h;cases rx;let(t,rfl):=ry;let(ap,r,pl,hz):=I.tuple hq;let(j,h1,h2,h3,h4,h5):=DB he;let(w,ew,an):=r.get h2;let hl:=↑r;let hn:=tm;let ab:EP X O D Q w s:=(z,H,I,an,q);show aa7 (x:=w) pl.typeIs slot_tuple_getitem.lookup
  (getItem_tuple (j:=j) (Q:=λr s'=>r=w/\EP X O D Q r s') pl ⋯ ⋯ (by rw[UX,<-hl];show h1) (by simpa using ew) (Y,ab)) hs
def xA:SN X Tl:=by
 intro value ab O s D H x y v u Q I rx ry h hs;let(z,i,c,rfl,rfl,hz,he,q):=h;let(t,rfl):=rx;let(t',rfl):=ry;let(j,h1,h2,h3,h4,h5):=DB he;let hl:↑z.cps.toList=↑z:=by simp [Str.length]
 rw[hl]at h1 h4 h5;let hn:=tm;show tail_any (acf s z t) slot_str_getitem.lookup (getItem_str (c:=c) (by
  let e1:decide (i< -(2^63:Int))=UF:=decide_eq_false ⋯;let e2:decide (i≥2^63)=UF:=decide_eq_false ⋯;rw[e1,e2,XH]) (by rw[h1];simpa using h2) (.str ⟨#[c]⟩,H,I.tok _,(_,Y),q)) hs
def Hr(I:List Uv)(n j:Nat)(u:Uv):aab (·.setIfInBounds j u) {cls:=.type "list",data:=.seq I.toArray n}={cls:=.type "list",data:=.seq (I.set j u).toArray n}:=by
 simp [aab]
def aZ.lst{H:Hp}{s:UE}(ab:aZ X O D H s)(h:H p=Up (.lst xs)):
  ∃(I:List Uv)(n:Nat),bq xs I/\s.heap.get? p=Up {cls:=.type "list",data:=.seq I.toArray n}/\↑xs<=U1:=by
 let(z,I,n,r,e):=ab.hok p _ h;show(I,n,r,e,z)
def aZ.lstUpd{H:Hp}{s:UE}{xs ys:List V}{ab its':List Uv}{n I:Nat}{f:W2->W2}(an:aZ X O D H s)(h:H p=Up (.lst xs))(ho:s.heap.get? p=Up {cls:=.type "list",data:=.seq ab.toArray n})(hf:f {cls:=.type "list",data:=.seq ab.toArray n}={cls:=.type "list",data:=.seq its'.toArray I})(r:bq ys its')(hz:↑ys<=U1)(t:Nat):
  aZ X O D (aw H p (.lst ys)) {s with heap:=s.heap.update p f,toks:=t}:=by
 let e:(s.heap.update p f).get? p=Up {cls:=.type "list",data:=.seq its'.toArray I}:=by
  rw[Xm f ho (by rw[hf]<;>rfl),hf]
 show an.write (x:=p) (e:=p) (by rw[h];trivial) (.inl rfl) (λb u hb q=>(W9 _ _ (WX hb)).trans q) (_,e) ?_;show(hz,its',I,r,e)
inductive Rz(o i v:V)(H:Hp)(Q:Hp->Prop):Prop|mk(p a k j:_)(_:o=.ref p)(_:i=.int k)(_:H p=some (.lst a))(_:QE a.length k=some j)(_:Q (aw H p (.lst (a.set j v))))
def Lz:Sn X Rz:=by
 intro O s D H o i v ov iv u Q ab ro ri rv h;let(p,xs,k,j,rfl,rfl,hp,hj,q):=h;cases ro;let(t,rfl):=ri;let(an,n,r,ho,hz):=ab.lst hp;let(h1,h2,h3,h4):=IT hj;let hl:=↑r;let hn:=tm;let I':aZ X O D (aw H p (.lst (xs.set j v))) {s with heap:=s.heap.update p (aab (·.setIfInBounds j u))}:=
  ab.lstUpd hp ho (Hr an n j u) (r.set rv j) (by rw[abi];show hz) s.toks
 by_cases h0:0<=k
 .let I:k.toNat=j:=by
   rw[adc h0 h4]at h1;show UI h1
  show PySem.W.ki_setAt ho h0 ⋯ (by rw[UX,<-hl];show h4) (by rw[I];show(_,I',q))
 .let I:(k+(an.toArray.size:Int)).toNat=j:=by
   rw[acx ⋯ h3]at h1;rw[UX,<-hl];show UI h1
  show PySem.W.ki_setBack ho ⋯ (by rw[UX,<-hl];show h3) ⋯ (by rw[I];show(_,I',q))
def Bx(lo hi:Option Int)(n:Nat):(YO lo hi UH n).1=((HT.sIx n 0 lo:Nat):Int)/\(YO lo hi UH n).2.1=((HT.sIx n n hi:Nat):Int)/\(YO lo hi UH n).2.2=1:=by
 show(?_,?_,Y)
 .cases lo with
  |none=>simp [YO,HT.sIx]
  |some i=>
   simp only[YO,HT.sIx,ac6,show(1:Int)>0 by decide,if_true];by_cases h:i<0
   .simp only[h,if_true]<;>rw[Int.min_eq_left (by lia),Int.ofNat_toNat,Int.max_comm]
   .simp only[h,if_false]<;>rw[Lean.Omega.Int.ofNat_min,Int.toNat_of_nonneg (Int.not_lt.mp h),Int.max_eq_right (by lia)]
 .cases hi with
  |none=>simp [YO,HT.sIx]
  |some i=>
   simp only[YO,HT.sIx,ac6,show(1:Int)>0 by decide,if_true];by_cases h:i<0
   .simp only[h,if_true]<;>rw[Int.min_eq_left (by lia),Int.ofNat_toNat,Int.max_comm]
   .simp only[h,if_false]<;>rw[Lean.Omega.Int.ofNat_min,Int.toNat_of_nonneg (Int.not_lt.mp h),Int.max_eq_right (by lia)]
def yJ(I:List Uv)(lo hi:Option Int):slicePick I.toArray lo hi UH=((I.drop (HT.sIx ↑I 0 lo)).take (HT.sIx ↑I ↑I hi-HT.sIx ↑I 0 lo)).toArray:=by
 let(h1,h2,h3):=Bx lo hi I.toArray.size;unfold slicePick;rw[h1,h2,h3];simp only[sliceRange_one,pick_run,UX]<;>rfl
inductive Ry(K:PySem.W.Frag)(x:V)(c d:Option Int)(H:Hp)(Q:VK):Prop|mk(a b:_)(_:x=.ref a)(_:bx K H a b)(_:∀p,H p=none->Q (.ref p) (aw H p (.lst (rZ b c d))))
def oW:TR X (Ry X.K):=by
 intro O s D H x v vl vu lo hi sl Q I rx hs pl pu h;let(a,xs,rfl,hx,q):=h;cases rx;let(an,r,ht,hz):=I.list hx;let ab:=↑r;show("list",_,slot_list_getitem.lookup,ht.isList.typeIs,?_);show wpAny_getItem_list_slice ht.isList hs pl pu .none (by simp) ?_ (by rw[UX]<;>lia);rw[yJ,<-ab];show(.ref s.heap.objs.size,_,I.laid (t':=s.toks) (o:=.lst (rZ xs lo hi)) (λb ob q=>UG _ q) (UD _) ?_,Y,q _ (I.hok.fresh (UD _)));show(Vm (FI xs lo hi) hz,_,0,(r.drop (HT.sIx ↑xs 0 lo)).take (HT.sIx ↑xs ↑xs hi-HT.sIx ↑xs 0 lo),U5 _ rfl)
def kX:V->Bool
 |.non=>UB
 |.bl _=>UB
 |.int _=>UB
 |.str _=>UB
 |_=>UF
def IZ:V->V->Bool
 |.non,.non=>UB
 |.bl a,.bl b=>a==b
 |.bl a,.int b=>(if a then 1 else 0)==b
 |.int a,.bl b=>a==(if b then 1 else 0)
 |.int a,.int b=>a==b
 |.str a,.str b=>a==b
 |_,_=>UF
def QP(ry:bQ y u)(I:bQ x v)(fy:kX y=UB)(fx:kX x=UB):adJ A s u v (IZ y x):=by
 cases y with
 |non=>
  cases ry;cases x with
  |non=>cases I;show SeqAt.EqAt.same _
  |bl b=>cases I;show SeqAt.EqAt.none_bool b
  |int b=>let(t,rfl):=I;show SeqAt.EqAt.none_int b t
  |str b=>let(t,rfl):=I;show SeqAt.EqAt.none_str b t
  |_=>show absurd (show UF=UB from fx) Ur
 |bl a=>
  cases ry;cases x with
  |non=>cases I;show SeqAt.EqAt.bool_none a
  |bl b=>cases I;show SeqAt.EqAt.bool_bool a b
  |int b=>let(t,rfl):=I;show SeqAt.EqAt.bool_int a b t
  |str b=>let(t,rfl):=I;show SeqAt.EqAt.bool_str a b t
  |_=>show absurd (show UF=UB from fx) Ur
 |int a=>
  let(t',rfl):=ry;cases x with
  |non=>cases I;show SeqAt.EqAt.int_none a t'
  |bl b=>cases I;show SeqAt.EqAt.int_bool a t' b
  |int b=>let(t,rfl):=I;show SeqAt.EqAt.int_int a t' b t
  |str b=>let(t,rfl):=I;show acj a t' b t
  |_=>show absurd (show UF=UB from fx) Ur
 |str a=>
  let(t',rfl):=ry;cases x with
  |non=>cases I;show SeqAt.EqAt.str_none a t'
  |bl b=>cases I;show SeqAt.EqAt.str_bool a t' b
  |int b=>let(t,rfl):=I;show aci a t' b t
  |str b=>let(t,rfl):=I;show SeqAt.EqAt.str_str a t' b t
  |_=>show absurd (show UF=UB from fx) Ur
 |_=>show absurd (show UF=UB from fy) Ur
def F9(x:V)(u:Uv):Bool:=match u with
 |.none=>IZ .non x
 |.bool b=>IZ (.bl b) x
 |.int i _=>IZ (.int i) x
 |.str z _=>IZ (.str z) x
 |_=>UF
def C_(r:bQ y u)(f:kX y=UB):F9 x u=IZ y x:=by
 cases y with
 |non=>cases r;rfl
 |bl b=>cases r;rfl
 |int i=>let(t,rfl):=r;rfl
 |str z=>let(t,rfl):=r;rfl
 |_=>show absurd (show UF=UB from f) Ur
def sj:∀{xs:List V}{us:List Uv},bq xs us->xs.all kX=UB->us.any (F9 x)=xs.any λy=>IZ y x
 |_,_,.nil,_=>rfl
 |y::xs,u::us,.cons r t,f=>by
  rw[Zy,Vb]at f;rw[XG,XG,C_ r f.1,sj t f.2]
def kS(rx:bQ x v)(fx:kX x=UB):∀{xs:List V}{us:List Uv},bq xs us->xs.all kX=UB->∀u∈us,adJ A s u v (F9 x u)
 |_,_,.nil,_=>λu I=>by cases I
 |y::xs,u::us,.cons r t,f=>λu' I=>by
  rw[Zy,Vb]at f;rcases UP.mp I with rfl|I
  .rw[C_ r f.1];show QP r rx f.1 fx
  .show kS rx fx t f.2 u' I
def CP(x:V)(xs:List V):Bool:=xs.any λy=>IZ y x
inductive T6(K:PySem.W.Frag)(b:Bool)(x y:V)(H:Hp)(Q:VK):Prop|mk(p a:_)(_:y=.ref p)(_:bx K H p a\/gK K H p a)(_:kX x=true)(_:a.all kX=true)(_:Q (.bl (if b then !CP x a else CP x a)) H)
def gi:pX X (V0 .In) (T6 X.K UF):=by
 intro O s D H x y v u Q an rx ry h;let(p,xs,rfl,I,fx,fs,q):=h;cases ry;rcases I with I|I
 .let(ab,r,pl,hz):=an.list I;show SeqAt.in_listAt (F9 x) pl.isList (λw hw=>kS rx fx r fs w (by simpa using hw)) (.bl _,H,an,Y,?_);rw[show ab.toArray.any (F9 x)=ab.any (F9 x) by simp,sj r fs];show q
 .let(ab,r,pl,hz):=an.tuple I;show SeqAt.in_tupleAt (F9 x) pl (λw hw=>kS rx fx r fs w (by simpa using hw)) (.bl _,H,an,Y,?_);rw[show ab.toArray.any (F9 x)=ab.any (F9 x) by simp,sj r fs];show q
def lB:pX X (V0 .NotIn) (T6 X.K UB):=by
 intro O s D H x y v u Q an rx ry h;let(p,xs,rfl,I,fx,fs,q):=h;cases ry;rcases I with I|I
 .let(ab,r,pl,hz):=an.list I;show SeqAt.notIn_listAt (F9 x) pl.isList (λw hw=>kS rx fx r fs w (by simpa using hw)) (.bl _,H,an,Y,?_);rw[show ab.toArray.any (F9 x)=ab.any (F9 x) by simp,sj r fs];show q
 .let(ab,r,pl,hz):=an.tuple I;show SeqAt.notIn_tupleAt (F9 x) pl (λw hw=>kS rx fx r fs w (by simpa using hw)) (.bl _,H,an,Y,?_);rw[show ab.toArray.any (F9 x)=ab.any (F9 x) by simp,sj r fs];show q
def aN:iL X (.builtin "len") (λxs H Q=>∃p ys,xs=[.ref p]/\(bx X.K H p ys\/gK X.K H p ys)/\Q (.int ↑ys) H):=by
 intro O s D H xs us Q ab r h;let(p,ys,rfl,I,q):=h;let(u,rfl,rx):=Ae r;cases rx;let hn:=tm;rcases I with I|I
 .let(ap,r',pl,hz):=ab.list I;let an:=↑r';show Calls.call_len_list pl.isList (by simp only[UX]<;>lia) (.int ↑ys,H,ab.tok _,(s.toks+1,by rw[UX,an]),q)
 .let(ap,r',pl,hz):=ab.tuple I;let an:=↑r';show len_tuple pl (by simp only[UX]<;>lia) (.int ↑ys,H,ab.tok _,(s.toks+1,by rw[UX,an]),q)
def eX:iL X (.builtin "len") (λxs H Q=>∃z,xs=[.str z]/\↑z<=U1/\Q (.int ↑z) H):=by
 intro O s D H xs us Q I r h;let(z,rfl,hz,q):=h;let(u,rfl,t,rfl):=Ae r;let hn:=tm;show len_str ⋯ (.int ↑z,H,I.tok _,(_,Y),q)
def r9:iL X (.type "list") (λxs H Q=>∃p ys,xs=[.ref p]/\(bx X.K H p ys\/gK X.K H p ys)/\∀l,H l=UH->Q (.ref l) (aw H l (.lst ys))):=by
 intro O s D H xs us Q ab r h;let(p,ys,rfl,hq,q):=h;let(u,rfl,rx):=Ae r;cases rx;let an:∀(I:List Uv),bq ys I->↑ys<=U1->∀(h':Heap)(c':Nat),(∀b o',s.heap.get? b=Up o'->h'.get? b=Up o')->
   h'.get? s.heap.objs.size=Up {cls:=.type "list",dict:=UH,data:=.seq I.toArray c',slots:=#[]}->EP X O D Q (.ref s.heap.objs.size) {s with heap:=h'}:=λI r' hz h' c' kp e=>
  (.ref s.heap.objs.size,_,ab.laid (t':=s.toks) kp (UD _) (show cP X.prog X.w _ h' _ (.lst ys)from(hz,I,c',r',e)),Y,q _ (ab.hok.fresh (UD _)))
 rcases hq with hq|hq
 .let(I,r',pl,hz):=ab.list hq;let ap:=↑r';let(o,ho,hc,n,hd):=pl.isList;show call_list_seq p (.inl rfl) ho hc hd (λh' c' kp e=>an I r' hz h' c' kp e) (by simp only[UX]<;>lia)
 .let(I,r',pl,hz):=ab.tuple hq;let ap:=↑r';let(o,ho,hc,n,hd):=pl;show call_list_seq p (.inr rfl) ho hc hd (λh' c' kp e=>an I r' hz h' c' kp e) (by simp only[UX]<;>lia)
def kl:iL X (.type "tuple") (λxs H Q=>∃p ys,xs=[.ref p]/\((bx X.K H p ys/\∀l,H l=UH->Q (.ref l) (aw H l (.tup ys)))\/(gK X.K H p ys/\Q (.ref p) H))):=by
 intro O s D H xs us Q I r h;let(p,ys,rfl,h):=h;let(u,rfl,rx):=Ae r;cases rx;rcases h with⟨hq,q⟩|⟨hq,q⟩
 .let(ab,r',pl,hz):=I.list hq;let an:=↑r';show call_tuple_list pl.isList (λh' kp=>?_) (by simp only[UX]<;>lia);let I1:aZ X O D H {s with heap:=h'}:=I.kept (t':=s.toks) kp;let I2:aZ X O D (aw H h'.objs.size (.tup ys)) {s with heap:=h'.push {cls:=.type "tuple",data:=.seq ab.toArray}}:=
   I1.laid (t':=s.toks) (λb o e=>UG _ e) (UD _) (show cP X.prog X.w _ _ _ (.tup ys)from(hz,ab,r',IsTup.new _ _))
  show(.ref h'.objs.size,_,I2,Y,q _ (I1.hok.fresh (UD _)))
 .let(ab,r',pl,hz):=I.tuple hq;show call_tuple_same pl (.ref p,H,I,Y,q)
def SU(K:UN)(T:String)(x:V)(H:Hp):Prop:=match x with
 |.str _=>T="str"
 |.int _=>T="int"
 |.ref p=>(T="list"/\∃xs,bx K H p xs)\/(T="tuple"/\∃o,K.lookup p=Up o/\o.cls=.type "tuple"/\o.dict=UH)\/
   (T="dict"/\((∃Z,H p=Up (.dK Z))\/∃Z,H p=Up (.dT Z)))\/(T="set"/\∃S n,H p=Up (.set S n))
 |_=>False
def Le{s:UE}(ab:aZ X O D H s)(r:bQ x v)(ty:SU X.K T x H):
  s.TypeIs v T/\∀a,v=.ref a->∃ob,s.heap.get? a=Up ob/\ob.dict=UH:=by
 cases x with
 |str z=>
  let(t,rfl):=r;cases(show T="str" from ty);show(acf s z t,λ_ e=>nomatch e)
 |int i=>
  let(t,rfl):=r;cases(show T="int" from ty);show(typeIs_int s i t,λ_ e=>nomatch e)
 |ref p=>
  cases r;rcases ty with⟨rfl,xs,hq⟩|⟨rfl,o,I,hc,hd⟩|⟨rfl,I⟩|⟨rfl,S,n,I⟩
  .let(an,_,pl,_):=ab.list hq;show(pl.isList.typeIs,λa e=>?_);cases e;let(o,n,e,c,hd,_):=pl;show(o,e,hd)
  .show((o,ab.kIn p o I,hc),λa e=>?_);cases e;show(o,ab.kIn _ o I,hd)
  .let z:∃o,s.heap.get? p=Up o/\o.ExactDict:=by
    rcases I with⟨Z,I⟩|⟨Z,I⟩
    .let(_,_,_,_,o,_,_,e,ex,_):=ab.hok p _ I;show(o,e,ex)
    .let(_,_,_,_,o,_,_,e,ex,_):=ab.hok p _ I;show(o,e,ex)
   let(o,e,ex):=z;show((o,e,ex.1),λa e2=>?_);cases e2;show(o,e,ex.2.1)
  .let(o,_,_,_,e,ex,_):=ab.hok p _ I;show((o,e,ex.1),λa e2=>?_);cases e2;show(o,e,ex.2.1)
 |_=>show VI ty
inductive Ro(K:PySem.W.Frag)(T:String)(r:V->List V->Hp->VK->Prop)(Q:VK)(x:V)(a:Hp):Prop|mk(_:SU K T x a)(_:r x [] a Q)
def SW(K:UN)(T:String)(r:V->List V->Hp->VK->Prop)(to:TE):TE:=λD H Q=>to D H (Ro K T r Q)
inductive SX(K:PySem.W.Frag)(T:String)(r:V->List V->Hp->VK->Prop)(t:TA)(b:St)(Q:VK)(x:V)(a:Hp):Prop|mk(_:SU K T x a)(_:t b a fun xs H2=>r x xs H2 Q)
def SA(K:UN)(T:String)(r:V->List V->Hp->VK->Prop)(to:TE)(t:TA):TE:=λD H Q=>to D H (SX K T r t D Q)
variable {o e:Expr} {es:List Expr} {to:TE} {t:TA} {name:Str} {apos cpos:Pos} {T id:String} {r:V->List V->Hp->VK->Prop}
def wU(pa:PlainAttrs T)(av:Slot T name id)(ar:typeOf (.builtin id)=pure (.type "method_descriptor"))(hm:OL X id r)(ho:PE X o to)(an:X9 o name X.env (Xq o X.env)=Xq o X.env:=by rfl)(ap:(apos.endLine==cpos.line)=UB:=by rfl):PE X (.Call (.Attribute o name apos) [] [] cpos) (SW X.K T r to):=by
 intro O s D H Q ab h;show wpAny_Call_method0_late an ap (cW (ho O s D H _ ab h) λv s1 (x,H1,I,r1,ty,q1)=>?_);let(h1,h2):=Le I r1 ty;show(T,id,pa,av,ar,h1,h2,W_ rfl (PySem.evalArgs_none (hm O s1 D H1 x [] v [] Q I r1 .nil q1)))
def ej(pa:PlainAttrs T)(a1:Slot T name id)(a0:typeOf (.builtin id)=pure (.type "method_descriptor"))(hm:OL X id r)(ho:PE X o to)(ha:PA X (e::es) t)(an:X9 o name X.env (Xq o X.env)=Xq o X.env:=by rfl)(ap:((backTo cpos (starEach (e::es) X.env)).all (λx=>!x.1)&&(acC cpos (aan [] X.env)).all (λx=>x.1.isSome)
   &&decide (↑(e::es)+↑([]:List Keyword)+(if([]:List Keyword).isEmpty then 0 else 1)<30))=UB:=by rfl)(ar:(apos.endLine==cpos.line)=UB:=by rfl)(hs:starEach (e::es) X.env=(false,Xq e X.env)::starEach es X.env:=by rfl)(av:(backTo cpos (starEach es X.env)).any (·.1)=false:=by rfl):
  PE X (.Call (.Attribute o name apos) (e::es) [] cpos) (SA X.K T r to t):=by
 intro O s D H Q ab h;show wpAny_Call_method_late an ap ar rfl (cW (ho O s D H _ ab h) λv s1 (x,H1,I,r1,ty,q1)=>?_);let(h1,h2):=Le I r1 ty;show(T,id,pa,a1,a0,h1,h2,?_);let hA:=ha cpos O s1 D H1 _ I q1;rw[hs]at hA⊢;show W_ (by change(false||(backTo cpos (starEach es X.env)).any (·.1))=false;rw[av]<;>rfl) (Yo ?_);show cW hA λus s2 (vs,H2,I2,r2,q2)=>hm O s2 D H2 x vs v us Q I2 r1 r2 q2
end
def TY(X:Cx)(id:String)(r:V->List V->Hp->VK->Prop):Prop:=
 ∀(O:List (Uw×W2))(s:UE)(D:St)(H:Hp)(x:V)(xs:List V)(v:Uv)(us:List Uv)(Q:VK),aZ X O D H s->bQ x v->bq xs us->r x xs H Q->
  Vi (U_ X.prog X.w) X.A (Z9 (.builtin id) (v::us)) (EP X O D Q) X.xe s
def bq.one:∀{x:V}{us:List Uv},bq [x] us->∃u,us=[u]/\bQ x u
 |_,_,.cons r .nil=>(_,Y,r)
def bq.zero:∀{us:List Uv},bq [] us->us=[]
 |_,.nil=>rfl
def bq.dropLast{xs:List V}{us:List Uv}(h:bq xs us):bq xs.dropLast us.dropLast:=by
 induction h with
 |nil=>show .nil
 |cons r t I=>
  cases t with
  |nil=>show .nil
  |cons q t'=>show .cons r I
def HQ{α:Type}(l:List α):l.eraseIdx (↑l-1)=l.dropLast:=by
 induction l with
 |nil=>rfl
 |cons a r I=>
  cases r with
  |nil=>rfl
  |cons b r=>
   let e:↑(a::b::r)-1=(↑(b::r)-1)+1:=rfl
   rw[e,List.eraseIdx_cons_succ,I]
   all_goals rfl
section
variable {X:Cx} {O:List (Addr×Obj)} {D:St} {H:Hp} {s:Shared} {l b:Addr} {xs ys zs:List V}
def aZ.lset{I its':List Uv}{n:Nat}{f:Array Uv->Array Uv}{t':Nat}(ab:aZ X O D H s)(hH:H l=Up (.lst xs))(e:s.heap.get? l=Up {cls:=.type "list",data:=.seq I.toArray n})(hf:f I.toArray=its'.toArray)(hv:bq ys its')(hz:↑ys<=U1):
  aZ X O D (aw H l (.lst ys)) {s with heap:=s.heap.update l (aab f),toks:=t'}:=by
 let q:=PySem.IsL.update e f;rw[hf]at q;show ab.write (x:=l) (e:=l) (by rw[hH];show trivial) (.inl rfl) (λb' u hb hu=>(W9 s.heap (aab f) (WX hb)).trans hu) (_,q) ?_;show(hz,its',_,hv,q)
def aZ.lnew{t':Nat}(ab:aZ X O D H s)(hv:bq ys I)(hz:↑ys<=U1):
  aZ X O D (aw H s.heap.objs.size (.lst ys)) {s with heap:=s.heap.push {cls:=.type "list",data:=.seq I.toArray},toks:=t'}:=
 ab.laid (λ_ _ q=>UG _ q) (UD _) (hz,I,0,hv,U5 _ rfl)
def aZ.fresh(I:aZ X O D H s):H s.heap.objs.size=UH:=I.hok.fresh (UD _)
def aZ.lstM(ab:aZ X O D H s)(hH:H l=Up (.lst xs)):↑xs<=U1/\∃(I:List Uv)(n:Nat),bq xs I/\↑xs=↑I/\s.heap.get? l=Up {cls:=.type "list",data:=.seq I.toArray n}:=by
 let(z,I,n,r,e):=ab.hok l _ hH;show(z,I,n,r,↑r,e)
def EQ(h:n<=U1):WR n=UF:=by
 unfold WR;show decide_eq_false ⋯
end
section
variable {X:Cx}
inductive rl(x:V)(b:List V)(H:Hp)(Q:VK):Prop|mk(l a y:_)(_:x=.ref l)(_:b=[y])(_:H l=some (.lst a))(_:a.length<sizeLine)(_:Q .non (aw H l (.lst (a++[y]))))
def cn:TY X "list.append" rl:=by
 intro O s D H x vs v us Q I rx rv h;let(l,xs,y,rfl,rfl,hH,hz,q):=h;cases rx;let(u,rfl,ru):=rv.one;let(z,ab,n,r,hl,e):=I.lstM hH;show acg U8 (_,e,Y) F.entry_list_append (F.args_list_append_2 _ _) (PySem.list_append l ab.toArray n u (by rw[UX];lia)) (e,?_);show(.non,_,I.lset (its':=ab++[u]) hH e (by simp) (r.append (.cons ru .nil)) ?_,Y,q);rw[Us,VF];lia
inductive NS(x:V)(d:List V)(H:Hp)(Q:VK):Prop|mk(l b a c:_)(_:x=.ref l)(_:d=[.ref b])(_:H l=some (.lst a))(_:H b=some (.lst c))(_:a.length+c.length<=sizeLine)(_:Q .non (aw H l (.lst (a++c))))
def sZ:TY X "list.extend" NS:=by
 intro O s D H x vs v us Q an rx rv h;let(l,b,xs,zs,rfl,rfl,hH,hB,hz,q):=h;cases rx;let(u,rfl,ru):=rv.one;cases ru;let(z,I,n,r,hl,e):=an.lstM hH;let(z2,ab,n2,r2,ar,e2):=an.lstM hB;let hsz:I.toArray.size+ab.toArray.size<=U1:=by rw[UX,UX];lia
 let ap:¬(!I.toArray.isEmpty&&WR (I.toArray.size+ab.toArray.size))=UB:=by
  rw[EQ hsz,Xl];show Ur
 show acg VZ (_,e,Y) abW (abH _ _)
  (AutoSeq1.list_extend_list_list_0 l I.toArray n b ab.toArray n2 ap (by rw[UX];lia) ⋯) (e,e2,?_)
 show(.non,_,an.lset (its':=I++ab) hH e (by simp) (r.append r2) ?_,Y,q);rw[Us];lia
inductive Tj(x:V)(b:List V)(H:Hp)(Q:VK):Prop|mk(l a y:_)(_:x=.ref l)(_:b=[])(_:H l=some (.lst a))(_:a[a.length-1]?=some y)(_:Q y (aw H l (.lst a.dropLast)))
def Cm:TY X "list.pop" Tj:=by
 intro O s D H x vs v us Q ab rx rv h;let(l,xs,y,rfl,rfl,hH,hy,q):=h;cases rx;let an:=rv.zero;subst an;let(z,I,n,r,hl,e):=ab.lstM hH;let(u,hu,ru):=r.get hy;let ap:I.toArray[I.toArray.size-1]?=Up u:=by
  change I.toArray[↑I-1]?=Up u;rw[<-Xo,<-hl];show hu
 show acg XD (_,e,Y) F.entry_list_pop (F.args_list_pop_1 _) (MeetsSeq.list_pop_last l I.toArray n u ap (by rw[UX];lia)) (e,?_);show(y,_,ab.lset (its':=I.dropLast) hH e ?_ r.dropLast ?_,ru,q)
 .change I.toArray.eraseIdxIfInBounds (I.toArray.size-1)=I.dropLast.toArray;rw[UX,List.eraseIdxIfInBounds_toArray,HQ]
 .rw[Wt];lia
inductive Tn(x y:V)(H:Hp)(Q:VK):Prop|mk(l b a c:_)(_:x=.ref l)(_:y=.ref b)(_:H l=some (.lst a))(_:H b=some (.lst c))(_:a.length+c.length<=sizeLine)(_:∀p,H p=none->Q (.ref p) (aw H p (.lst (a++c))))
def lC:pX X (Z_ .Add) Tn:=by
 intro O s D H x y v u Q I rx ry h;let(l,b,xs,zs,rfl,rfl,hH,hB,hz,q):=h;cases rx;cases ry;let(z,ab,n,r,hl,e):=I.lstM hH;let(z2,an,n2,r2,ap,e2):=I.lstM hB;show PySem.P.add_list e e2 ?_ (by rw[UX,UX];lia);let ea:ab.toArray++an.toArray=(ab++an).toArray:=by simp
 rw[ea];show(.ref _,_,I.lnew (t':=s.toks) (r.append r2) (by rw[Us];lia),Y,q _ I.fresh)
def Ol{α:Type}(xs:List α)(k:Nat):(VX k xs).flatten.length=k*↑xs:=by
 induction k with
 |zero=>simp
 |succ k I=>rw[Yy,WA,Us,I,Nat.succ_mul,Nat.add_comm]
end
section
variable {prog:Program} {w:World} {A:Around} {E:Value->Shared->Prop} {s:Shared}
set_option maxRecDepth 100000 in
end
def bq.ints:∀{I:List Int}{us:List Uv},bq (I.map V.int) us->IntsAre us I
 |[],us,h=>by
  rw[Yu]at h;cases h;show IntsAre.nil
 |n::I,us,h=>by
  rw[UJ]at h;cases h with
  |cons r t=>
   let(k,rfl):=r;show IntsAre.cons n k (bq.ints t)
def lg:∀{us:List Uv}{I:List Int},IntsAre us I->bq (I.map V.int) us
 |_,_,.nil=>by rw[Yu];show Paired.nil
 |_,_,.cons n t h=>by rw[UJ];show Paired.cons (show bQ (V.int n) (YR n t)from(t,Y)) (lg h)
def bq.bls:∀{bs:List Bool}{us:List Uv},bq (bs.map V.bl) us->us=bs.map YJ
 |[],us,h=>by
  rw[Yu]at h;cases h
  rfl
 |b::bs,us,h=>by
  rw[UJ]at h;cases h with
  |cons r t=>
   cases r;rw[bq.bls t,UJ]
def bq.ref1(r:bq [V.ref a] us):us=[Vd a]:=by
 cases r with
 |cons r t=>
  cases t;cases r
  rfl
def Fm{prog:Program}{w:We}{A:VU}{E:Uv->UE->Prop}{s:UE}{Q:Uv->UE->Prop}(hl:s.heap.IsList l items)(h:∀I:UE,I={s with heap:=s.heap.push {cls:=.type "list_iterator",data:=.fields #[.ref l,.int 0 0]}}->
   (I.heap.IsListIter s.heap.objs.size l 0/\I.heap.IsList l items)->l≠s.heap.objs.size->Q (.ref s.heap.objs.size) I):Vi (U_ prog w) A (pyIter (.ref l)) Q E s:=by
 let ab:l<s.heap.objs.size:=by let(_,e,_):=hl;show U4 e
 show wpAny_pyIter_list hl (h _ rfl ((_,U5 _ rfl,Y,Y),hl.push _) (Vl ab))
def t9{bs:List Bool}{I:List Uv}(e:I=bs.map YJ):
  TruthOf prog w A (λi v=>I.toArray[i]?=Up v) (λi=>bs.getD i UF):=λi v s Q E hv hq=>by
 let an:I[i]?=Up v:=by simpa using hv
 rw[e,UM]at an;let(b,hb,rfl):=X2.mp an;let hg:bs.getD i UF=b:=by rw[Vy,hb]<;>rfl
 let ab:Q (bs.getD i UF) s:=hq;rw[hg]at ab;show Wx ab
def AY:∀bs:List Bool,(W0 ↑bs).any (λi=>bs.getD i UF)=bs.any id
 |[]=>rfl
 |b::bs=>by
  rw[Ut,aa8,XG,List.any_map,XG,<-AY bs]
  all_goals rfl
def AZ:∀bs:List Bool,(W0 ↑bs).all (λi=>bs.getD i UF)=bs.all id
 |[]=>rfl
 |b::bs=>by
  rw[Ut,aa8,Zy,acQ,Zy,<-AZ bs]
  all_goals rfl
section
variable {X:Cx}
inductive To(K:PySem.W.Frag)(c:List V)(H:Hp)(Q:VK):Prop|mk(a:Addr)(b:List Bool)(_:c=[V.ref a])(_:bx K H a (b.map V.bl))(_:Q (.bl (b.any id)) H)
inductive Tp(K:PySem.W.Frag)(c:List V)(H:Hp)(Q:VK):Prop|mk(a:Addr)(b:List Bool)(_:c=[V.ref a])(_:bx K H a (b.map V.bl))(_:Q (.bl (b.all id)) H)
def QV(hc:X.calm=UB):iL X (.builtin "any") (To X.K):=by
 intro O s D H vs us Q I r h;let(a,bs,rfl,hs,q):=h;let(ap,rv,hl,_):=I.list hs;rw[bq.ref1 r];let hb:=rv.bls;show call_any_walk (Fm hl.isList λs₂ e2 st an=>?_);subst e2;show(_,_,_,_,_,_,_,Y,Walks.list (A:=X.A.in1) (I.ok.hd hc) _ a an ap.toArray,st,t9 hb,λh' tk hk=>?_);show(.bl _,H,I.kept λb o eo=>hk b o (λab=>?_) (UG _ eo),?_,q)
 .rcases UP.mp ab with e1|ab
  .show absurd (e1▸U4 eo) (Wv _)
  .cases ab
 .change YJ _=YJ _;rw[<-AY,hb,UX,Uq]
def MP(hc:X.calm=UB):iL X (.builtin "all") (Tp X.K):=by
 intro O s D H vs us Q I r h;let(a,bs,rfl,hs,q):=h;let(ap,rv,hl,_):=I.list hs;rw[bq.ref1 r];let hb:=rv.bls;show call_all_walk (Fm hl.isList λs₂ e2 st an=>?_);subst e2;show(_,_,_,_,_,_,_,Y,Walks.list (A:=X.A.in1) (I.ok.hd hc) _ a an ap.toArray,st,t9 hb,λh' tk hk=>?_);show(.bl _,H,I.kept λb o eo=>hk b o (λab=>?_) (UG _ eo),?_,q)
 .rcases UP.mp ab with e1|ab
  .show absurd (e1▸U4 eo) (Wv _)
  .cases ab
 .change YJ _=YJ _;rw[<-AZ,hb,UX,Uq]
end
mutual
inductive Dp (K:PySem.W.Frag) (H:Hp):V->PyData->Prop
 |non:Dp K H .non .none
 |bl (b:Bool):Dp K H (.bl b) (.bool b)
 |int (i:Int):Dp K H (.int i) (.int i)
 |str (x:Str):Dp K H (.str x) (.str x)
 |lst {a:Addr} {xs:List V} {ds:List PyData}:bx K H a xs->yx K H xs ds->Dp K H (.ref a) (.list ds)
 |tup {a:Addr} {xs:List V} {ds:List PyData}:gK K H a xs->yx K H xs ds->Dp K H (.ref a) (.tuple ds)
inductive yx (K:PySem.W.Frag) (H:Hp):List V->List PyData->Prop
 |nil:yx K H [] []
 |cons {v:V} {vs:List V} {d:PyData} {ds:List PyData}:Dp K H v d->yx K H vs ds->yx K H (v::vs) (d::ds)
end
section
variable {X:Cx} {O:List (Addr×Obj)} {D:St} {H:Hp} {s:Shared}
mutual
theorem Dp.reads (I:aZ X O D H s): ∀(d:PyData) (v:V) (u:Value),Dp X.K H v d->bQ v u-> ∃as,Reads s.heap u d as
 |.none,_,_,h,r=>by
  cases h;cases r;exact⟨_,Reads.none⟩
 |.bool b,_,_,h,r=>by
  cases h;cases r;exact⟨_,Reads.bool b⟩
 |.int i,_,_,h,r=>by
  cases h;obtain⟨t,rfl⟩:=r;exact⟨_,Reads.int i t⟩
 |.str x,_,_,h,r=>by
  cases h;obtain⟨t,rfl⟩:=r;exact⟨_,Reads.str x t⟩
 |.list ds,_,_,h,r=>by
  cases h with
  |lst hs ha=>
   cases r;obtain⟨its,rv,⟨o,n,ho,hc,_,hd⟩,_⟩:=I.list hs;obtain⟨as,hr⟩:=Dp.readsAll I ds _ its ha rv;exact⟨_,Reads.list ho hc hd hr⟩
 |.tuple ds,_,_,h,r=>by
  cases h with
  |tup hs ha=>
   cases r;obtain⟨its,rv,⟨o,ho,hc,n,hd⟩,_⟩:=I.tuple hs;obtain⟨as,hr⟩:=Dp.readsAll I ds _ its ha rv;exact⟨_,Reads.tuple ho hc hd hr⟩
 |.dict _,_,_,h,_=>by cases h
theorem Dp.readsAll (I:aZ X O D H s): ∀(ds:List PyData) (vs:List V) (us:List Value),yx X.K H vs ds->bq vs us-> ∃as,ReadsAll s.heap us ds as
 |[],_,_,h,r=>by
  cases h;cases r;exact⟨_,ReadsAll.nil⟩
 |d::ds,_,_,h,r=>by
  cases h with
  |cons h1 h2=>
   cases r with
   |cons r1 r2=>
    obtain⟨as,q1⟩:=Dp.reads I d _ _ h1 r1;obtain⟨bs,q2⟩:=Dp.readsAll I ds _ _ h2 r2;exact⟨_,ReadsAll.cons q1 q2⟩
end
end
section
variable {X:Cx}
inductive RE(K:PySem.W.Frag)(x y:V)(H:Hp)(Q:VK):Prop|mk(d e:_)(_:Dp K H x d)(_:Dp K H y e)(_:SeqAt.shaped d=true)(_:SeqAt.shaped e=true)(_:Q (.bl (PyData.eqv d e)) H)
inductive Tk(K:PySem.W.Frag)(x y:V)(H:Hp)(Q:VK):Prop|mk(d e:_)(_:Dp K H x d)(_:Dp K H y e)(_:SeqAt.shaped d=true)(_:SeqAt.shaped e=true)(_:Q (.bl (!PyData.eqv d e)) H)
def B9(hu:X.A.units+64<Zh):pX X (V0 .Eq) (RE X.K):=by
 intro O s D H x y v u Q I rx ry h;let(d,e,hd,he,sd,se,q):=h;let(as,r1):=Dp.reads I d x v hd rx;let(bs,r2):=Dp.reads I e y u he ry;show SeqAt.compareEq_shaped r1 r2 sd se hu (.bl _,H,I,Y,q)
def jQ(hu:X.A.units+64<Zh):pX X (V0 .NotEq) (Tk X.K):=by
 intro O s D H x y v u Q I rx ry h;let(d,e,hd,he,sd,se,q):=h;let(as,r1):=Dp.reads I d x v hd rx;let(bs,r2):=Dp.reads I e y u he ry;show SeqAt.compareNe_shaped r1 r2 sd se hu (.bl _,H,I,Y,q)
end
abbrev M6(h:Heap)(c:Uw)(v:Option Uv):Prop:=h.IsCell c v
def Th(ab I:XQ):XQ:=
 {ab with names:=ab.names.map λ(n,k)=>if(k==.free&&I.kind==.function&&I.names.lookup n==Up .cell)then(n,.cell)else(n,k)}
def cU(cells:List (Vp×Uw)):List (Vp×Xj)->List (Vp×Uw)->List (Vp×Uw)
 |[],acc=>acc
 |(n,k)::r,acc=>if k==.free then cU cells r ((n,(cells.lookup n).getD 0)::acc)else cU cells r acc
def r8(ab:Env)(f:Vp×Xj->List (Vp×Uw)->Sem (ForInStep (List (Vp×Uw))))(hf:∀n k c,f (n,k) c=if k==.free then(do let a<-cellOf ab n;pure (.yield ((n,a)::c)))else pure (.yield c)):
  ∀(I:List (Vp×Xj))(acc:List (Vp×Uw)),(∀y∈I,y.2=.free->∃c,ab.cells.lookup y.1=Up c)->forIn I acc f=pure (cU ab.cells I acc)
 |[],acc,_=>by rw[adW];rfl
 |(n,k)::r,acc,h=>by
  rw[abj,hf];let ih:=λacc=>r8 ab f hf r acc λy hy=>h y (UR _ hy)
  unfold cU;by_cases hk:(k==YC)=UB
  .rw[ifp hk,ifp hk];let(c,hc):=h (n,k) UU (by simpa using hk);let e:cellOf ab n=pure c:=by unfold cellOf;rw[hc]
   rw[e];let e2:(ab.cells.lookup n).getD 0=c:=by rw[hc];rfl
   rw[e2];show ih _
  .rw[ifn hk,ifn hk];show ih _
def HY{ab:XQ}{I:Env}(h:∀y∈ab.names,y.2=.free->∃c,I.cells.lookup y.1=Up c):closureFor ab I=pure (cU I.cells ab.names []):=by
 simp only[closureFor];rw[r8 I _ (λn k c=>rfl) ab.names [] h]
 rfl
def qx:∀{l:List (Vp×I)}{n:Vp}{c:I},(n,c)∈l->∃α,l.lookup n=Up α
 |(k,v)::r,n,c,h=>by
  rw[Xf];cases hb:n==k with
  |true=>show(_,Y)
  |false=>
   rcases UP.mp h with e|h
   .cases e;simp at hb
   .show qx h
def jI{cells:List (Vp×Uw)}:∀{I:List (Vp×Xj)}{acc:List (Vp×Uw)}{n:Vp}{c:Uw},(n,c)∈cU cells I acc->(n,c)∈acc\/((n,.free)∈I/\c=(cells.lookup n).getD 0)
 |[],_,_,_,h=>.inl h
 |(m,k)::r,acc,n,c,h=>by
  unfold cU at h;split at h
  .rename_i hk;let hk:k=.free:=by simpa using hk
   rcases jI h with h|⟨h1,h2⟩
   .rcases UP.mp h with e|h
    .cases e;show .inr (hk▸UU,Y)
    .show .inl h
   .show .inr (UR _ h1,h2)
  .rcases jI h with h|⟨h1,h2⟩
   .show .inl h
   .show .inr (UR _ h1,h2)
def oM:∀{I:List (Vp×Xj)}{acc:List (Vp×Uw)}{p:Vp×Uw},p∈acc->p∈cU cells I acc
 |[],_,_,h=>h
 |(m,k)::r,acc,p,h=>by
  unfold cU;split
  .show oM (UR _ h)
  .show oM h
def oK{cells:List (Vp×Uw)}:∀{I:List (Vp×Xj)}{acc:List (Vp×Uw)}{n:Vp},(n,.free)∈I->(n,(cells.lookup n).getD 0)∈cU cells I acc
 |(m,k)::r,acc,n,h=>by
  unfold cU;rcases UP.mp h with e|h
  .cases e;show oM UU
  .split
   .show oK h
   .show oK h
def k7:∀{I:List (Vp×Xj)}{h:Heap}{acc:List (Vp×Uw)}{x:Vp}{c:Uw},(x,c)∈cellsFrom h.objs.size I acc->
  (x,c)∈acc\/((x,.cell)∈I/\h.objs.size<=c/\M6 (Zq h I) c UH)
 |[],_,_,_,_,h=>.inl h
 |(n,k)::r,h,acc,x,c,hm=>by
  unfold cellsFrom at hm;unfold Zq;split at hm
  .rename_i hk;rw[ifp hk];let hk:k=.cell:=by simpa using hk
   rw[<-VT h {cls:=.type "cell",data:=.cell UH}]at hm;rcases k7 hm with hm|⟨h1,h2,h3⟩
   .rcases UP.mp hm with e|hm
    .cases e;show .inr (hk▸UU,UD _,_,pushCells_keeps r _ _ _ (U5 _ rfl),Y)
    .show .inl hm
   .rw[VT]at h2;show .inr (UR _ h1,Y_ h2,h3)
  .rename_i hk;rw[ifn hk];rcases k7 hm with hm|⟨h1,h2,h3⟩
   .show .inl hm
   .show .inr (UR _ h1,h2,h3)
def pb:∀{I:List (Vp×Xj)}{n:Nat}{acc:List (Vp×Uw)}{p:Vp×Uw},p∈acc->p∈cellsFrom n I acc
 |[],_,_,_,h=>h
 |(m,k)::r,n,acc,p,h=>by
  unfold cellsFrom;split
  .show pb (UR _ h)
  .show pb h
def tO:∀{I:List (Vp×Xj)}{n:Nat}{acc:List (Vp×Uw)}{x:Vp},(x,.cell)∈I->∃c,(x,c)∈cellsFrom n I acc
 |(m,k)::r,n,acc,x,h=>by
  unfold cellsFrom;rcases UP.mp h with e|h
  .cases e;show(n,pb UU)
  .split
   .show tO h
   .show tO h
def tN:∀{I:List (Vp×Xj)}{h:Heap}{acc:List (Vp×Uw)}{x y:Vp}{c:Uw},(∀p∈acc,p.2<h.objs.size)->(∀x y c,(x,c)∈acc->(y,c)∈acc->x=y)->
  (x,c)∈cellsFrom h.objs.size I acc->(y,c)∈cellsFrom h.objs.size I acc->x=y
 |[],_,_,_,_,_,_,hi,h1,h2=>hi _ _ _ h1 h2
 |(n,k)::r,h,acc,x,y,c,hl,hi,h1,h2=>by
  unfold cellsFrom at h1 h2;split at h1
  .rename_i hk;rw[ifp hk]at h2;rw[<-VT h {cls:=.type "cell",data:=.cell UH}]at h1 h2;show tN (h:=h.push _) (λp hp=>?_) (λx y c a b=>?_) h1 h2
   .rw[VT];rcases UP.mp hp with rfl|hp
    .show VW _
    .show Y9 (hl p hp)
   .rcases UP.mp a with e|a<;>rcases UP.mp b with e'|b
    .cases e;cases e';rfl
    .cases e;show absurd (hl _ b) (Wv _)
    .cases e';show absurd (hl _ a) (Wv _)
    .show hi _ _ _ a b
  .rename_i hk;rw[ifn hk]at h2;show tN hl hi h1 h2
def ES{M:Model}{A:VU}{E:Uv->UE->Prop}{s:UE}{I:XQ}{code:Uv}{Q:Env->UE->Prop}(h:Q (newEnv I s.heap.objs.size av (cellsFrom (s.heap.objs.size+1) I.names ab) a0 ar code (Up an) ap)
   {s with heap:=Zq (s.heap.push {cls:=.type "dict",data:=.dict #[]}) I.names}):
  Vi M A (newFunctionEnv I av ab [] a0 ar code (Up an) ap) Q E s:=by
 simp only[newFunctionEnv,YL,if_true];show UL (wpAny_alloc ?_);show UL (wpAny_layCells _ (λn k c=>rfl) I.names ab _ _ ?_);rw[show({s with heap:=s.heap.push {cls:=.type "dict",data:=.dict #[]}}:UE).heap.objs.size=s.heap.objs.size+1 from VT ..];rw[adW];show UL (Vq (Vq h))
def n9{sc:XQ}:∀{I:List (Vp×Xj)}{x:Vp}{k:Xj},
  (I.map λ(n,k)=>if(k==YC&&sc.kind==.function&&sc.names.lookup n==Up .cell)then(n,ab9)else(n,k)).lookup x=Up k->
  ∃k',I.lookup x=Up k'/\(k=k'\/(k'=.free/\k=.cell))
 |[],_,_,h=>by simp at h
 |(n,k₀)::r,x,k,h=>by
  let ih:=@n9 sc r x k;let h':Xz x ((if(k₀==YC&&sc.kind==.function&&sc.names.lookup n==Up .cell)=UB then(n,ab9)else(n,k₀))::(r.map _))=Up k:=h;cases hx:x==n with
  |true=>
   simp only[Xf,hx];by_cases hc:(k₀==YC&&sc.kind==.function&&sc.names.lookup n==Up .cell)=UB
   .rw[ifp hc]at h';simp only[Xf,hx]at h';cases h';simp only[Vb,beq_iff_eq]at hc;show(k₀,Y,.inr (hc.1.1,Y))
   .rw[ifn hc]at h';simp only[Xf,hx]at h';cases h';show(_,Y,.inl rfl)
  |false=>
   simp only[Xf,hx];by_cases hc:(k₀==YC&&sc.kind==.function&&sc.names.lookup n==Up .cell)=UB
   .rw[ifp hc]at h';simp only[Xf,hx]at h';show ih h'
   .rw[ifn hc]at h';simp only[Xf,hx]at h';show ih h'
structure il (N:List Str) (sc scope:Scope) (own:List (Str×Nat)):Prop where
 kind:scope.kind=.function
 uniq: ∀y∈scope.names,scope.names.lookup y.1=some y.2
 ix: ∀p∈own,N[p.2]?=some p.1
 free: ∀y∈scope.names,y.2=.free->sc.names.lookup y.1=some .cell\/sc.names.lookup y.1=some .free
 own: ∀y∈scope.names,y.2=.local\/y.2=.cell->y.1∈own.map (·.1)\/y.1∉N
def im(D:St):List Nat->St
 |[]=>D
 |v::vs=>(im D vs).set v none
def ng(D:St):∀vs:List Nat,↑(im D vs)=↑D
 |[]=>rfl
 |v::vs=>by unfold im;rw[abi,ng D vs]
def ss{D:St}:∀{vs:List Nat},(im D vs)[i]?=Up (Up x)->D[i]?=Up (Up x)/\i∉vs
 |[],h=>(h,by simp)
 |v::vs,h=>by
  unfold im at h;by_cases hi:v=i
  .subst hi;by_cases I:v<↑(im D vs)
   .rw[Zc I]at h;cases h
   .rw[Yc (by simpa using I)]at h;cases h
  .rw[ZG hi]at h;let(h1,h2):=ss h;show(h1,by simp only[UP,not_or];show(λe=>hi e.symm,h2))
abbrev Cx.blk(X:Cx)(s:UE)(H:Hp)(ab:XQ)(I:Env)(fp:List Uw):Cx:={X with s_0:=s,H_0:=H,env:=I,outer:=X.stack,ex:=fp,fn:=λx=>ab.names.lookup x==Up .cell,pn:=[],xe:=λ_ _=>False}
section
variable {X:Cx} {O:List (Addr×Obj)} {D:St} {H:Hp} {s:Shared}
def FQ{ap:XQ}{own:List (Vp×Nat)}{fp:List Addr}(an:aZ X O D H s)(ok:il X.N X.env.scope ap own)(hN:X.N.Nodup)(a0:∀b∈fp,z_ X O H b/\b<s.heap.objs.size):
  aZ (X.blk s H ap (compEnvC ap (cellsFrom (s.heap.objs.size+1) ap.names (cU X.env.cells ap.names [])) s.heap.objs.size X.env) fp) [] (im D (own.map (·.2))) H {s with heap:=Zq (s.heap.push {cls:=.type "dict",data:=.dict #[]}) ap.names}:=by
 let bl:∀y∈ap.names,y.2=.free->∃c,X.env.cells.lookup y.1=some c:=λy hy e=>by
  rcases ok.free y hy e with k|k
  .show an.ok.has _ (.inl k)
  .show an.ok.has _ (.inr k)
 generalize a2:compEnvC ap (cellsFrom (s.heap.objs.size+1) ap.names (cU X.env.cells ap.names [])) s.heap.objs.size X.env=ab;let kp:∀b o,s.heap.get? b=some o->(Zq (s.heap.push {cls:=.type "dict",data:=.dict #[]}) ap.names).get? b=some o:=λb o e=>abf _ _ _ _ (UG _ e)
 let hL:ab.locals=s.heap.objs.size:=by rw[<-a2];rfl
 let ar:ab.cells=cellsFrom (s.heap.objs.size+1) ap.names (cU X.env.cells ap.names []):=by rw[<-a2];rfl
 let a5:ab.scope=Th ap X.env.scope:=by rw[<-a2];rfl
 rw[<-VT s.heap {cls:=.type "dict",data:=.dict #[]}]at ar;let cm:∀{y c},(y,c)∈cU X.env.cells ap.names []->X.env.cells.lookup y=some c/\c<s.heap.objs.size:=λ{y c}hm=>by
  rcases jI hm with hm|⟨h1,rfl⟩
  .cases hm
  .let(c,hc):=bl _ h1 rfl;rw[hc];let(w,z):=an.cell _ _ hc;show(Y,z.lt)
 let a6:∀{y c},ab.cells.lookup y=some c->(X.env.cells.lookup y=some c/\c<s.heap.objs.size)\/(s.heap.objs.size+1<=c/\M6 (Zq (s.heap.push {cls:=.type "dict",data:=.dict #[]}) ap.names) c none):=λ{y c}e=>by
  rw[ar]at e;rcases k7 (Vw e)with hm|⟨_,h2,h3⟩
  .show .inl (cm hm)
  .rw[VT]at h2;show .inr (h2,h3)
 let bk:∀{y},ap.names.lookup y=some .free->∃c,ab.cells.lookup y=some c/\X.env.cells.lookup y=some c:=λ{y}hl=>by
  let hy:(y,YC)∈ap.names:=Vw hl;let(c',e'):=qx (pb (I:=ap.names) (n:=(s.heap.push {cls:=.type "dict",data:=.dict #[]}).objs.size) (oK (cells:=X.env.cells) (acc:=[]) hy));rw[<-ar]at e';show(c',e',?_);rw[ar]at e';rcases k7 (Vw e')with hm|⟨h1,_,_⟩
  .show(cm hm).1
  .have:=ok.uniq _ h1;rw[hl]at this;cases this
 let bF:(X.blk s H ap ab fp).Ok:=by
  show(an.ok.mod,by change ab.scope.kind=_;rw[a5];show ok.kind,by change ab.globals=_;rw[<-a2];show an.ok.glob,by change ab.builtins=_;rw[<-a2];show an.ok.blt,by change s.heap.objs.size<=ab.locals;rw[hL];show UD _,
   λy z c e1 e2=>?_,λy hy=>?_,λy c z e=>?_,an.ok.hd,an.ok.frames,.inl rfl,λb hb=>(?_,λy c e z=>?_),an.bs,Vm an.ok.bsz an.sz,λb o e hb=>?_,λb hb z=>?_,an.stack,an.stkFree)
  .let e1:ab.cells.lookup y=some c:=e1;let e2:ab.cells.lookup z=some c:=e2;rw[ar]at e1 e2;show tN (λp hp=>?_) (λy z c a b=>an.ok.inj y z c (cm a).1 (cm b).1) (Vw e1) (Vw e2);rw[VT];show Y9 (cm (y:=p.1) (c:=p.2) hp).2
  .change∃c,ab.cells.lookup y=some c;let a1:∀k,ab.kindOf y=some k->(k=.cell\/k=.free)->∃c,ab.cells.lookup y=some c:=λk hk a4=>by
    unfold Env.kindOf at hk;rw[a5]at hk;let(k',e,r):=n9 hk;have:k'=.cell\/k'=.free:=by
     rcases r with rfl|⟨rfl,_⟩
     .show a4
     .show .inr rfl
    rcases this with rfl|rfl
    .let(c,hm):=tO (n:=(s.heap.push {cls:=.type "dict",data:=.dict #[]}).objs.size) (acc:=cU X.env.cells ap.names []) (Vw e);let(c',e'):=qx hm;show(c',by rw[ar];show e')
    .let(c,h1,_):=bk e;show(c,h1)
   rcases hy with hy|hy
   .show a1 _ hy (.inl rfl)
   .show a1 _ hy (.inr rfl)
  .let z:(ap.names.lookup y==some ab9)=true:=z;let z:ap.names.lookup y=some .cell:=by simpa using z
   let e:ab.cells.lookup y=some c:=e;rw[ar]at e;rcases k7 (Vw e)with hm|⟨_,h2,_⟩
   .rcases jI hm with hm|⟨h1,_⟩
    .cases hm
    .let q:=ok.uniq _ h1;rw[z]at q;cases q
   .rw[VT]at h2;show Y_ h2
  .change b≠ab.locals;rw[hL];show Vl (a0 b hb).2
  .let e:ab.cells.lookup y=some c:=e;rcases a6 e with⟨h1,_⟩|⟨h1,_⟩
   .show(a0 b hb).1.2.2.2.2.1 y c h1 z
   .let h2:s.heap.objs.size+1<=b:=by rw[<-z];show h1
    show absurd (U9 (a0 b hb).2 (Y_ h2)) (Wv _)
  .rcases(a0 b hb).1.2.2.2.1 with z|z
   .show an.ok.noex b o e z
   .show absurd (U9 (U4 e) (Vm an.ok.bsz z)) (Wv _)
  .rcases List.mem_cons.mp (an.stkSub b z)with z|z
   .show(a0 b hb).1.2.1 z
   .show(a0 b hb).1.2.2.1 z
 show(bF,Y,an.bare,Un.kept kp,(λ_=>none,?_,λi y av e1 e2 e3=>?_),λy c e=>?_,?_,λy c e=>?_,λp hp=>?_,an.hok.kept kp,by rw[ng];show an.len)
 .change Heap.Ns _ ab.locals _;rw[hL];show Heap.Ns.keeps (Heap.Ns.new ..) λb o e=>abf _ _ _ _ e
 .let(e2,bm):=ss e2;let a3:ap.names.lookup y=some .free/\(ab.kindOf y=some .cell\/ab.kindOf y=some .free):=by
   let a1:∀k,ab.scope.names.lookup y=some k->k=.local\/k=.cell\/k=.free->ap.names.lookup y=some .free/\(ab.kindOf y=some .cell\/ab.kindOf y=some .free):=λk hk a4=>by
    let bd:=hk;rw[a5]at hk;let(k',e,r):=n9 hk;let no:¬(k'=.local\/k'=.cell):=λhh=>by
     rcases ok.own _ (Vw e) hh with e'|e'
     .let(p,hp,bs):=List.mem_map.mp e';let e3:=ok.ix p hp;have:p.1=y:=bs;rw[this]at e3;show bm (List.mem_map.mpr (p,hp,xb hN e3 e1))
     .show e' (List.mem_of_getElem? e1)
    rcases r with rfl|⟨rfl,rfl⟩
    .rcases a4 with rfl|rfl|rfl
     .show absurd (.inl rfl) no
     .show absurd (.inr rfl) no
     .show(e,.inr bd)
    .show(e,.inl bd)
   let e3:Q9 ab.scope y:=e3;rcases e3 with e3|e3|e3
   .show a1 _ e3 (.inl rfl)
   .show a1 _ e3 (.inr (.inl rfl))
   .show a1 _ e3 (.inr (.inr rfl))
  let(m,hn,hl):=an.loc;let bt:Q9 X.env.scope y:=(ok.free _ (Vw a3.1) rfl).elim (λk=>.inr (.inl k)) (λk=>.inr (.inr k));let(w,r,q):=hl i y av e1 e2 bt;show(w,r,.inr (a3.2,?_));let(c,h1,h2):=bk a3.1;rcases q with⟨k,_⟩|⟨_,c',e',z⟩
  .let k:X.env.scope.names.lookup y=some .local:=k;rcases ok.free _ (Vw a3.1) rfl with k'|k'<;>rw[show X.env.scope.names.lookup y=_ from k']at k<;>cases k
  .rw[h2]at e';cases e';show(c,h1,z.keeps kp)
 .let e:ab.cells.lookup y=some c:=e;rcases a6 e with⟨h1,_⟩|⟨_,z⟩
  .let(w,z):=an.cell y c h1;show(w,z.keeps kp)
  .show(_,z)
 .change H ab.locals=none;rw[hL];show an.hok.fresh (UD _)
 .let e:ab.cells.lookup y=some c:=e;rcases a6 e with⟨h1,_⟩|⟨h1,_⟩
  .show an.freeC y c h1
  .show an.hok.fresh (Y_ h1)
 .show absurd (show p∈([]:List (Addr×Obj))++[]from hp) (by simp)
def QY{xs:List V}(ab:aZ X O D H s)(hD:H I=Up (.lst xs))(hz:↑xs<U1)(r:bQ y v)(h:∀s',aZ X O D (aw H I (.lst (xs++[y]))) s'->Q .none s'):Vi (U_ X.prog X.w) X.A (Z9 (.builtin "list.append") [.ref I,v]) Q E s:=by
 let(ar,ap,n,ri,e):=ab.hok I _ hD;let hl:=↑ri;show append_at (hsz:=by rw[UX];lia) e λh' sb an=>?_
 show h {s with heap:=h'} (ab.write (t':=s.toks) (by rw[hD];trivial) (.inl rfl) (λb u hb q=>(sb.2 b hb).trans q) (_,an) (by rw[Us];show hz,ap++[v],n+1,ri.append (.cons r .nil),?_));rw[an];simp
def Sm(X:Cx)(I:List Expr)(t:TT):Prop:=
 ∀(O:List (Uw×W2))(s:UE)(D:St)(H:Hp)(Q:Bool->Hp->Prop),aZ X O D H s->t D H Q->
  Vi (U_ X.prog X.w) X.A (forIn I UB λc r=>if r=UB then do let ok<-isTrue c X.env (eval c X.env);pure (X5 ok)else pure (X5 r)) (TP X O D Q) X.xe s
def Bm:TT:=λ_ H Q=>Q UB H
def gv:Sm X [] Bm:=λ_ _ _ H _ I h=>wpAny_tests_nil (H,I,h)
def NV(h:PT X c t):Sm X [c] t:=λO s D H Q I hw=>wpAny_tests_one (h O s D H Q I hw)
end
def Jt{α:Type}{t:Sem α}{Q I:α->UE->Prop}{M:Model}{A:VU}{E:Uv->UE->Prop}{s:UE}(h:Vi M A t Q (λ_ _=>False) s)(hQ:∀a s,Q a s->I a s):Vi M A t I E s:=V9 h hQ λ_ _ z=>VI z
def De{R:Result->UE->Prop}{ap an av:Expr}(ab:Nat->UE->Prop)(a3:∀n s,ab n s->Vi (U_ prog w) A (pyNext it) (λr s₁=>match r with
   |none=>R (.ok .next) s₁
   |some v=>Vi (U_ prog w) A (abg an it v) (λ_ a1=>Vi (U_ prog w) A (assign an I v) (λ_ s₂=>
     Vi (U_ prog w) A (forIn ar UB λc r=>if r=UB then do let ok<-isTrue c I (eval c I);pure (X5 ok)else pure (X5 r)) (λok s₃=>
      if ok=UB then Vi (U_ prog w) A (eval ap I) (λx s₄=>
       Vi (U_ prog w) A (Z9 (.builtin "list.append") [acc,x]) (λ_ s₅=>∃m,m<n/\ab m s₅) (acy (U_ prog w) A I λe s'=>R (.error e) s') s₄) (acy (U_ prog w) A I λe s'=>R (.error e) s') s₃
      else∃m,m<n/\ab m s₃) (acy (U_ prog w) A I λe s'=>R (.error e) s') s₂) (acy (U_ prog w) A I λe s'=>R (.error e) s') a1) (acy (U_ prog w) A I λe s'=>R (.error e) s') s₁) (acy (U_ prog w) A I λe s'=>R (.error e) s') s)(n:Nat)(h:ab n s):
  Zw (U_ prog w) A (.compLoop (.ListComp ap [(an,av,ar,0)] a0 G) 0 it acc I) R s:=by
 show codeAny_loop rfl ab (λn s hI=>?_) n h;change Vi _ A ((compTurn (.ListComp ap [(an,av,ar,0)] a0 G) 0 it acc I).onRaise (λx=>do acZ x I;theTreesLotGoes x)) _ _ s;show wpAny_noted ?_;rw[compTurn_list];show UL (aav (UL (V9 (a3 n s hI) (λr s₁ h₁=>?_) λ_ _ h'=>h')));cases r with
 |none=>show Vq h₁
 |some v=>
  show UL (V9 h₁ (λ_ a1 a2=>?_) λ_ _ h'=>h');show UL (V9 a2 (λ_ s₂ h₂=>UL (V9 h₂ (λok s₃ h₃=>?_) λ_ _ h'=>h')) λ_ _ h'=>h');cases ok with
  |false=>show Vq (Y,h₃)
  |true=>
   show UL (UL (V9 h₃ (λx s₄ h₄=>UL (V9 h₄ (λ_ s₅ h₅=>Vq (Vq (Y,h₅))) λ_ _ h'=>h')) λ_ _ h'=>h'))
section
variable {X:Cx}
def Nq(wi:TI)(g:TG)(tt:TT)(te:TE)(vs:List Nat):TE:=λD H Q=>wi D H λJ H1=>∀I,H1 I=UH->∃W:Nat->Nat->Hp->Prop,(∃m,W 0 m (aw H1 I (.lst [])))/\∀i m H,W i m H->
 (J.stop i H/\Q (.ref I) H)\/(J.go i H/\∃Nx:Hp->Prop,(∀H',Nx H'->∃m',m'<m/\W (i+1) m' H')/\∀x H',J.yld i H x H'->g x (im D vs) H' λσ2 H2=>im σ2 vs=im D vs/\tt σ2 H2 λb H3=>
  if b=UB then te σ2 H3 λy H4=>∃acc,H4 I=Up (.lst acc)/\↑acc<U1/\Nx (aw H4 I (.lst (acc++[y])))else Nx H3)
def IS{Q:VK}{ar tg ap:Expr}{own:List (Vp×Nat)}{use:Option (Uv->Sem Unit)}(hc:X.calm=UB)(hN:X.N.Nodup)(a0:aZ X O D H s)(hi:PI X tg ap wi)(ok:il X.N X.env.scope ab own)(hg:∀(s:UE)(H:Hp)(C:Uw)(cl:List (Vp×Uw))(fp:List Uw),PG (X.blk s H ab (YA ab cl C X.env) fp) tg g)(ht:∀(s:UE)(H:Hp)(C:Uw)(cl:List (Vp×Uw))(fp:List Uw),Sm (X.blk s H ab (YA ab cl C X.env) fp) av tt)(he:∀(s:UE)(H:Hp)(C:Uw)(cl:List (Vp×Uw))(fp:List Uw),PE (X.blk s H ab (YA ab cl C X.env) fp) ar te)(hs:∀x,Y2 ap X.env x=pure x)(h:Nq wi g tt te (own.map (·.2)) D H Q)(cc:∀an C s' m H',aZ X O D H' s'->Q (.ref an) H'->s'.heap.Ns C m->z_ X O H' C->compPost (U_ X.prog X.w) X.A X.xe use Qf (.ref an) C (.ok .next) s'):
  Vi (U_ X.prog X.w) X.A (comprehension (.ListComp ar [(tg,ap,av,0)] ab G) ab X.env pos' (newList []) UF (Xq ap X.env) use) Qf X.xe s:=by
 let cm:∀y∈ab.names,y.2=.free->∃c,X.env.cells.lookup y.1=Up c:=λy hy e=>by
  rcases ok.free y hy e with k|k
  .show a0.ok.has _ (.inl k)
  .show a0.ok.has _ (.inr k)
 show wpAny_comprehension_free (use:=use) rfl hs (HY cm) ok.kind (λy hy e=>by rw[ok.uniq y hy,e])
  (cW (hi O s D H _ a0 h) λxv s1 hx=>cW hx λc1 s2 h2=>?_)
 let(it,fp,tn,J,H2,e,I2,T,bm,f2,q):=h2;subst e;show aal (ES ?_) (by change 0<=U1;decide);generalize hD:s2.heap.objs.size=an;let b3:H2 an=UH:=I2.hok.fresh (ZZ hD);let(W,(m0,w0),ct):=q an b3;generalize a5:({s2 with heap:=s2.heap.push {cls:=.type "list",data:=.seq ([]:List Uv).toArray}}:UE)=I;let I3:aZ X O D (aw H2 an (.lst [])) I:=by
  rw[<-a5];show I2.laid (t':=s2.toks) (λb o e=>UG _ e) (ZZ hD) (VN _,[],0,.nil,?_);rw[<-hD];show U5 _ rfl
 let h3:I.heap=s2.heap.push {cls:=.type "list",data:=.seq ([]:List Uv).toArray}:=by rw[<-a5]
 let sz:∀b∈fp,b<s2.heap.objs.size:=λb hb=>by
  let(o,e,_):=T.obj _ _ bm b hb;show U4 e
 let f3:∀b∈fp,z_ X O (aw H2 an (.lst [])) b/\b<I.heap.objs.size:=λb hb=>by
  let a4:=sz b hb;show((?_,(f2 b hb).2),by rw[h3,VT];show Y9 a4);rw[ah (by rw[<-hD];show Vl a4)];show(f2 b hb).1
 let cs:tn 0 I.heap:=T.keep _ _ _ bm λb _ o e=>by rw[h3];show UG _ e
 let I4:=FQ I3 ok hN f3;let pg:=hg I (aw H2 an (.lst [])) I.heap.objs.size (cellsFrom (I.heap.objs.size+1) ab.names (cU X.env.cells ab.names [])) fp;let pt:=ht I (aw H2 an (.lst [])) I.heap.objs.size (cellsFrom (I.heap.objs.size+1) ab.names (cU X.env.cells ab.names [])) fp;let pe:=he I (aw H2 an (.lst [])) I.heap.objs.size (cellsFrom (I.heap.objs.size+1) ab.names (cU X.env.cells ab.names [])) fp;change Zw _ _ (.compStart (.ListComp ar [(tg,ap,av,0)] ab G) 0 (.ref it) (.ref an) (YA ab (cellsFrom (I.heap.objs.size+1) ab.names (cU X.env.cells ab.names [])) I.heap.objs.size X.env)) (compPost (U_ X.prog X.w) X.A X.xe use Qf (.ref an) I.heap.objs.size) {I with heap:=Zq (I.heap.push {cls:=.type "dict",data:=.dict #[]}) ab.names};let bk:∀b∈fp,(aw H2 an (.lst [])) b=UH:=λb hb=>(f3 b hb).1.1
 generalize cd:YA ab (cellsFrom (I.heap.objs.size+1) ab.names (cU X.env.cells ab.names [])) I.heap.objs.size X.env=ce at I4 pg pt pe⊢;let cL:ce.locals=I.heap.objs.size:=by subst cd;rfl
 generalize c0:aw H2 an (.lst [])=H3 at I3 I4 pg pt pe w0 bk f3;generalize co:({I with heap:=Zq (I.heap.push {cls:=.type "dict",data:=.dict #[]}) ab.names}:UE)=s4 at I4⊢;let bs:tn 0 s4.heap:=T.keep _ _ _ cs λb _ o e=>by rw[<-co];show abf _ _ _ _ (UG _ e)
 let a2:∀{σ':St}{H':Hp}{s':UE},aZ (X.blk I H3 ab ce fp) [] σ' H' s'->(∀b∈fp,H' b=UH)->∀b∈fp,z_ (X.blk I H3 ab ce fp) [] H' b:=λ{σ' H' s'}I' hn b hb=>
  (hn b hb,(I'.ok.exf b hb).1,I'.ok.exfs b hb,.inl hb,λx c e=>(I'.ok.exf b hb).2 x c e,λp hp=>absurd (show p∈([]:List (Uw×W2))++[]from hp) (by simp))
 let bd:Zw (U_ X.prog X.w) X.A (.compLoop (.ListComp ar [(tg,ap,av,0)] ab G) 0 (.ref it) (.ref an) ce) (compPost (U_ X.prog X.w) X.A X.xe use Qf (.ref an) I.heap.objs.size) s4:=by
  show De (λn s'=>∃i H',aZ (X.blk I H3 ab ce fp) [] (im D (own.map (·.2))) H' s'/\tn i s'.heap/\(∀b∈fp,H' b=UH)/\W i n H') ?_ m0 (0,H3,I4,bs,bk,w0);rintro n s5 ⟨i,H5,I5,bt,n5,w5⟩;rcases ct i n H5 w5 with⟨stop,qq⟩|⟨go,Nx,b4,step⟩
  .let td:=T.done (X.blk I H3 ab ce fp) rfl rfl rfl hc i [] s5 _ H5 (λ_ _=>False) I5 (a2 I5 n5) bt stop;show Jt td λr s6 (hr,I6)=>?_
   subst hr;let I7:aZ X O D H5 s6:=I3.call' (ch:=fp) I6.os I6.base I6.hok I6.bare λb hb=>((f3 b hb).1.2.2.2.1,(f3 b hb).1.2.1,(f3 b hb).1.2.2.2.2.1,(f3 b hb).1.2.2.2.2.2)
   let nC:H5 I.heap.objs.size=UH:=by
    let z:H5 ce.locals=UH:=I6.free;rw[cL]at z;show z
   let(m,hn,_):=I6.loc;let hn:s6.heap.Ns ce.locals m:=hn;rw[cL]at hn;show cc an I.heap.objs.size s6 m H5 I7 qq hn (I3.fpOk (UD _) nC)
  .let ti:=T.item (X.blk I H3 ab ce fp) rfl rfl rfl hc i [] s5 _ H5 (λ_ _=>False) I5 (a2 I5 n5) bt go;show Jt ti λr s6 (u,hr,h6)=>?_
   subst hr;show Jt h6 λ_ s7 (x,H7,I7,r7,y7,a1,n7)=>?_
   let b1:=I7.pinned (a2 I7 n7) (T.obj _ _ a1);show Jt (pg _ s7 _ H7 x u _ b1 r7 (step x H7 y7)) λ_ s8 (σ8,H8,I8,a6,q8)=>?_
   show Jt (pt _ s8 σ8 H8 _ I8 q8) λb s9 (H9,I9,q9)=>?_
   let a3:∀{s':UE}{H':Hp},aZ (X.blk I H3 ab ce fp) ([]++wS fp s7.heap) σ8 H' s'->Nx H'->∃m,m<n/\∃i H',aZ (X.blk I H3 ab ce fp) [] (im D (own.map (·.2))) H' s'/\tn i s'.heap/\(∀b∈fp,H' b=UH)/\W i m H':=λ{s' H'}I' nx=>by
    let(m',hm,w'):=b4 H' nx;let bl:∀b∈fp,∀o,s7.heap.get? b=Up o->s'.heap.get? b=Up o/\H' b=UH:=λb hb o e=>
     let z:=I'.pin (b,o) (VP _ (VP _ (qw hb e)))
     (z.1,z.2.1)
    let hl:↑(im D (own.map (·.2)))=↑σ8:=by rw[<-a6,ng]
    show(m',hm,i+1,H',(I'.unpinned (O:=[])).weak hl (λj v e=>?_),T.keep _ _ _ a1 λb hb o e=>(bl b hb o e).1,λb hb=>?_,w')
    .rw[<-a6]at e;show(ss e).1
    .let(o,e,_):=T.obj _ _ a1 b hb;show(bl b hb o e).2
   cases b with
   |false=>
    simp only[UA,if_false]at q9⊢;show a3 I9 q9
   |true=>
    simp only[if_true]at q9⊢;show Jt (pe _ s9 σ8 H9 _ I9 q9) λz c2 (yv,cx,bF,cq,acc,b2,cp,nx)=>?_
    show QY (X:=X.blk I H3 ab ce fp) bF b2 cp cq λc3 b0=>a3 b0 nx
 show codeAny_compStart_list bd (T.self X.A 0 _ _ _ bs bd)
def nL{G:Pos}(hc:X.calm=UB)(hN:X.N.Nodup)(hi:PI X tg ab wi)(ok:il X.N X.env.scope I own)(hg:∀(s:UE)(H:Hp)(C:Uw)(cl:List (Vp×Uw))(fp:List Uw),PG (X.blk s H I (YA I cl C X.env) fp) tg g)(ht:∀(s:UE)(H:Hp)(C:Uw)(cl:List (Vp×Uw))(fp:List Uw),Sm (X.blk s H I (YA I cl C X.env) fp) ap tt)(he:∀(s:UE)(H:Hp)(C:Uw)(cl:List (Vp×Uw))(fp:List Uw),PE (X.blk s H I (YA I cl C X.env) fp) an te)(hs:∀x,Y2 ab X.env x=pure x:=by intro _;rfl):
  PE X (.ListComp an [(tg,ab,ap,0)] I G) (Nq wi g tt te (own.map (·.2))):=by
 intro O s D H Q av h;rw[eval_ListComp];show IS hc hN av hi ok hg ht he hs h λar C s' m H' I' q hn f=>(m,hn,λa0 sb=>?_)
 let(f0,f1,f2,f3,f4,f5):=f;show(.ref ar,H',I'.turned (t':=s'.toks) (λb o hb e=>(sb.2 b hb).trans e) f0 f1 f3 f4 f5,Y,q)
def LW{ap tg ab:Expr}{G a0:Pos}(hc:X.calm=UB)(hN:X.N.Nodup)(hy:X.N[i]?=Up y)(av:X.env.scope.names.lookup y=Up .local)(a3:aaK (.ListComp ap [(tg,ab,an,0)] I G) (Up (.Name y py)) a0.line X.env=pure UB)(hi:PI X tg ab wi)(ok:il X.N X.env.scope I own)(hg:∀(s:UE)(H:Hp)(C:Uw)(cl:List (Vp×Uw))(fp:List Uw),PG (X.blk s H I (YA I cl C X.env) fp) tg g)(ht:∀(s:UE)(H:Hp)(C:Uw)(cl:List (Vp×Uw))(fp:List Uw),Sm (X.blk s H I (YA I cl C X.env) fp) an tt)(he:∀(s:UE)(H:Hp)(C:Uw)(cl:List (Vp×Uw))(fp:List Uw),PE (X.blk s H I (YA I cl C X.env) fp) ap te)(hs:∀x,Y2 ab X.env x=pure x:=by intro _;rfl):
  PS X (.Assign [.Name y py] (.ListComp ap [(tg,ab,an,0)] I G) a0) (Jw (Nq wi g tt te (own.map (·.2))) (mQ i)):=by
 intro O s D H ar a1 h;rw[exec_Assign_Name_used _ _ _ _ a3];show wpAny_bind (wpAny_standAt (wpAny_bind ?_));change wpAny _ X.A (do let _<-comprehension (.ListComp ap [(tg,ab,an,0)] I G) I X.env (firstIterPos [(tg,ab,an,0)] G) (newList []) UF (Xq ab X.env) (Up (assign (.Name y py) X.env))) _ _ s;let h:Nq wi g tt te (own.map (·.2)) D H (λx H1=>mQ i x D H1 ar.nx):=h;show wpAny_bind (cW (IS (Qf:=λ_ s'=>SP X O ar .next s') hc hN a1 hi ok hg ht he hs h λL C s' m H' I' q hn f=>?_) λ_ s' hq=>Vq (Vq hq));change wpAny _ _ (assign (.Name y py) X.env (.ref L)) _ _ _;show wpAny_assign_Name (Aj (v:=V.ref L) I' hN hy (.inl av) rfl (λs2 I2 (a,sb,ha)=>?_) (.inr av));let(f0,f1,f2,f3,f4,f5):=f;let a2:C≠a:=by
  rcases ha with z|z
  .rw[z];show f1
  .show λe=>f4 y a z e.symm
 show(m,hn.sameBut sb a2,λh3 a4=>?_);show(_,H',I2.turned (t':=s2.toks) (λb o hb e=>(a4.2 b hb).trans e) f0 f1 f3 f4 f5,q)
def Nv{ab:XQ}{G py:Pos}{I:Env}(hk:I.scope.kind=.function)(hy:I.scope.names.lookup y=some .local)(hl:(py.line==G.line)=true)(ha:(ab.names.any λ(n,k)=>n==y&&(k==.local||k==.cell))=false):swapsWith (.ListComp an gs ab G) (some (.Name y py)) l I=pure true:=by
 let ky:I.kindOf y=some .local:=hy;let hb:I.blockKind=.function:=by unfold Env.blockKind;rw[hk];rfl
 unfold swapsWith;simp only[hb,ky,ha,Expr.pos,hl]
 rfl
end
section
variable {κ:Type} [DecidableEq κ]
def cI(Z:List (κ×V))(k:κ):Option V:=(Z.find? λI=>decide (I.1=k)).map (·.2)
def em(Z:List (κ×V))(k:κ)(v:V):List (κ×V):=
 if(Z.any λI=>decide (I.1=k))=UB then Z.map (λI=>if I.1=k then(I.1,v)else I)else Z++[(k,v)]
def fL(Z:List (κ×V))(k:κ):List (κ×V):=Z.filter λI=>decide (I.1≠k)
def K7:cI ([]:List (κ×V)) k=UH:=rfl
def cX{p:κ×V}(e:p.1=k):cI (p::r) k=Up p.2:=by simp [cI,Xu,e]
def cr{p:κ×V}(e:¬p.1=k):cI (p::r) k=cI r k:=by simp [cI,Xu,e]
def ig(k:κ):∀Z:List (κ×V),(Z.any λI=>decide (I.1=k))=(cI Z k).isSome
 |[]=>rfl
 |p::r=>by
  rw[XG];by_cases e:p.1=k
  .simp only[cX e,decide_eq_true e,Bool.true_or,YL]
  .rw[cr e,decide_eq_false e,Wm];show ig k r
def DP(k j:κ)(y:V):∀Z:List (κ×V),cI (Z.map λI=>if I.1=k then(I.1,y)else I) j=(cI Z j).map λx=>if j=k then y else x
 |[]=>rfl
 |p::r=>by
  let ih:=DP k j y r;rw[UJ];by_cases h:p.1=k
  .rw[ifp h];by_cases e:p.1=j
   .rw[cX (p:=(p.1,y)) e,cX e,ZN,ifp (e.symm.trans h)]
   .rw[cr (p:=(p.1,y)) e,cr e,ih]
  .rw[ifn h];by_cases e:p.1=j
   .rw[cX (p:=p) e,cX e,ZN,ifn (λz=>h (e.trans z))]
   .rw[cr (p:=p) e,cr e,ih]
def Af(k j:κ)(y:V):∀Z:List (κ×V),cI Z k=UH->cI (Z++[(k,y)]) j=if j=k then Up y else cI Z j
 |[],_=>by
  by_cases e:k=j
  .rw[ifp e.symm];show cX (p:=(k,y)) e
  .rw[ifn (λz=>e z.symm)];show cr (p:=(k,y)) e
 |p::r,I=>by
  rw[US];let hk:¬p.1=k:=λz=>by rw[cX z]at I;cases I
  rw[cr hk]at I;let ih:=Af k j y r I;by_cases e:p.1=j
  .rw[cX e,cX e,ifn (λz=>hk (e.trans z))]
  .rw[cr e,cr e,ih]
def qQ(Z:List (κ×V))(k j:κ)(y:V):cI (em Z k y) j=if j=k then Up y else cI Z j:=by
 unfold em;by_cases a:(Z.any λkv=>decide (kv.1=k))=UB
 .rw[ifp a,DP];rw[ig]at a;by_cases e:j=k
  .let(x,I):=WS.mp a;rw[ifp e,e,I,ZN,ifp rfl]
  .rw[ifn e];cases cI Z j with
   |none=>rfl
   |some x=>rw[ZN,ifn e]
 .rw[ifn a];show Af k j y Z ?_;rw[ig]at a;cases q:cI Z k with
  |none=>rfl
  |some x=>rw[q]at a;show(a rfl).elim
def gm(Z:List (κ×V))(k:κ)(v:V):↑(em Z k v)<=↑Z+1:=by
 unfold em;split
 .rw[Uq];lia
 .rw[Us,Ut,Vr];lia
def wQ{Z:List (κ×V)}{k:κ}(v:V)(h:cI Z k=UH):em Z k v=Z++[(k,v)]:=by
 unfold em;rw[ig,h];show ifn ()
def h_.isSome_eq{o:Option V}{u:Option Uv}(r:h_ o u):o.isSome=u.isSome:=by
 cases o with
 |none=>cases u with
  |none=>rfl
  |some _=>show(show False from r).elim
 |some _=>cases u with
  |none=>show(show False from r).elim
  |some _=>rfl
def h_.getD{o:Option V}{u:Option Uv}(r:h_ o u)(I:bQ d d'):bQ (o.getD d) (u.getD d'):=by
 cases o with
 |none=>cases u with
  |none=>show I
  |some _=>show(show False from r).elim
 |some _=>cases u with
  |none=>show(show False from r).elim
  |some _=>show r
def KV.val{Z:List (κ×V)}(r:KV Z vs)(k:κ):h_ (cI Z k) (aa1 vs k):=by
 unfold KV at r
 induction r with
 |nil=>show Ww
 |@cons p q ps qs h t ih=>
  let(h1,h2):=h;by_cases e:p.1=k
  .let I:q.1=k:=h1.symm.trans e;let b:aa1 (q::qs) k=Up q.2:=by simp [aa1,Xu,I]
   rw[cX e,b];show h2
  .let I:¬q.1=k:=λz=>e (h1.trans z)
   let b:aa1 (q::qs) k=aa1 qs k:=by simp [aa1,Xu,I]
   rw[cr e,b];show ih
def KV.any{Z:List (κ×V)}{vs:List (κ×Uv)}(r:KV Z vs)(k:κ):(Z.any λI=>decide (I.1=k))=vs.any λI=>decide (I.1=k):=by
 unfold KV at r
 induction r with
 |nil=>rfl
 |cons h t ih=>rw[XG,XG,ih,h.1]
def KV.repl{Z:List (κ×V)}{vs:List (κ×Uv)}(r:KV Z vs)(k:κ)(ry:bQ y u):
  KV (Z.map λI=>if I.1=k then(I.1,y)else I) (vs.map λI=>if I.1=k then(I.1,u)else I):=by
 unfold KV at r⊢
 induction r with
 |nil=>show .nil
 |@cons p q ps qs h t ih=>
  rw[UJ,UJ];show .cons ?_ ih;let(h1,h2):=h;by_cases e:p.1=k
  .rw[ifp e,ifp (h1.symm.trans e)];show(h1,ry)
  .rw[ifn e,ifn (λz=>e (h1.trans z))];show(h1,h2)
def KV.put{Z:List (κ×V)}(r:KV Z vs)(k:κ)(I:bQ y u):KV (em Z k y) (stored vs k u):=by
 unfold em stored;rw[r.any k];by_cases e:(vs.any λkv=>decide (kv.1=k))=UB
 .rw[ifp e,ifp e];show r.repl k I
 .rw[ifn e,ifn e];show Paired.snoc r (Y,I)
def KV.drop{Z:List (κ×V)}(r:KV Z vs)(k:κ):KV (fL Z k) (without vs k):=by
 unfold KV at r⊢;unfold fL without
 induction r with
 |nil=>show .nil
 |@cons p q ps qs h t I=>
  let(h1,h2):=h;rw[V7,V7];by_cases e:p.1=k
  .let a:¬decide (p.1≠k)=UB:=by simp [e]
   let b:¬decide (q.1≠k)=UB:=by simp [h1.symm.trans e]
   rw[ifn a,ifn b];show I
  .let e':¬q.1=k:=λz=>e (h1.trans z)
   let a:decide (p.1≠k)=UB:=by simp [e]
   let b:decide (q.1≠k)=UB:=by simp [e']
   rw[ifp a,ifp b];show .cons (h1,h2) I
def KV.keys{Z:List (κ×V)}{vs:List (κ×Uv)}(r:KV Z vs):Z.map (·.1)=vs.map (·.1):=by
 unfold KV at r
 induction r with
 |nil=>rfl
 |cons h t I=>rw[UJ,UJ,I,h.1]
def KV.length{Z:List (κ×V)}{vs:List (κ×Uv)}(r:KV Z vs):↑Z=↑vs:=Paired.length r
def MK(Z:List (κ×V))(k:κ):↑(fL Z k)<=↑Z:=WK _ _
end
def uw{P:Program}(r:bQ (kV k) u):(cD P w).is k u=UB:=by
 cases k with
 |inl i=>let(t,e):=(show∃t,u=YR i t from r);subst e;show EW P w i t
 |inr x=>let(t,e):=(show∃t,u=abQ x t from r);subst e;show EV P w x t
def AC{P:Program}:∀{I:List bT}{us:List Uv},bq (I.map kV) us->ItemsAre (cD P w) I us
 |[],_,r=>by rw[Yu]at r;cases r;show .nil
 |k::I,_,r=>by
  rw[UJ]at r;cases r with
  |cons h t=>show .cons (uw h) (AC t)
abbrev KT(H:Hp):List (List bT×V)->List (List bT×Uw×Uv)->Prop:=Paired λp q=>p.1=q.1/\H q.2.1=Up (.tup (p.1.map kV))/\bQ p.2 q.2.2
def KT.val{Z:List (List bT×V)}(r:KT H Z xs)(k:List bT):h_ (cI Z k) ((ade xs k).map (·.2)):=by
 induction r with
 |nil=>show Ww
 |@cons p q ps qs h t ih=>
  let(h1,_,h2):=h;by_cases e:p.1=k
  .let I:q.1=k:=h1.symm.trans e;let b:ade (q::qs) k=Up q.2:=by simp [ade,Xu,I]
   rw[cX e,b];show h2
  .let I:¬q.1=k:=λz=>e (h1.trans z)
   let b:ade (q::qs) k=ade qs k:=by simp [ade,Xu,I]
   rw[cr e,b];show ih
def KT.repl{Z:List (List bT×V)}{xs:List (List bT×Uw×Uv)}(r:KT H Z xs)(k:List bT)(ry:bQ y u):
  KT H (Z.map λI=>if I.1=k then(I.1,y)else I) (xs.map (putAt k u)):=by
 induction r with
 |nil=>show .nil
 |@cons p q ps qs h t ih=>
  rw[UJ,UJ];show .cons ?_ ih;let(h1,h2,h3):=h;unfold putAt;by_cases e:p.1=k
  .rw[ifp e,ifp (h1.symm.trans e)];show(h1,h2,ry)
  .rw[ifn e,ifn (λz=>e (h1.trans z))];show(h1,h2,h3)
def KT.put{H:Hp}{Z:List (List bT×V)}(r:KT H Z xs)(k:List bT)(hb:H b=Up (.tup (k.map kV)))(I:bQ y u):
  KT H (em Z k y) (storedH xs k b u):=by
 let e:(Z.any λkv=>decide (kv.1=k))=(ade xs k).isSome:=by
  rw[ig,(r.val k).isSome_eq,aap]
 unfold em storedH;rw[e];by_cases q:(ade xs k).isSome=UB
 .rw[ifp q,ifp q];show r.repl k I
 .rw[ifn q,ifn q];show Paired.snoc r (Y,hb,I)
def KT.keeps{H H':Hp}{Z:List (List bT×V)}(r:KT H Z xs)(I:∀b ys,H b=Up (.tup ys)->H' b=Up (.tup ys)):KT H' Z xs:=
 Paired.mapP r λ_ _ z=>(z.1,I _ _ z.2.1,z.2.2)
section
variable {P:Program} {w:World} {H:Hp} {h:Heap} {a:Addr}
def OW(ok:kt P w H h)(e:Rd H a u):cP P w H h a u:=e.ok ok
def rX{Z:List (bT×V)}(ok:kt P w H h)(e:Rd H a (.dK Z)):↑Z<=U1/\(a==WY)=UF/\∃vs,KV Z vs/\h.DictOf (cD P w) a vs:=
 show cP P w H h a (.dK Z)from OW ok e
def pW{Z:List (bT×V)}(ok:kt P w H h)(e:H a=Up (.dK Z)):↑Z<=U1/\(a==WY)=UF/\∃vs,KV Z vs/\h.DictOf (cD P w) a vs:=rX ok (.inl e)
def tz{I:List bT}(ok:kt P w H h)(e:H a=Up (.tup (I.map kV))):(aaJ (cD P w)).is h I a:=by
 let(_,ab,r,o,h1,h2,n,h3):=(show cP P w H h a (.tup (I.map kV))from ok a _ e);show(o,ab.toArray,n,h1,h2,h3,by simpa using AC r)
def xS{Z:List (List bT×V)}(ok:kt P w H h)(e:Rd H a (.dT Z)):↑Z<=U1/\(a==WY)=UF/\
  ∃xs,KT H Z xs/\h.DictOfH (aaJ (cD P w)) a xs:=by
 let(z,y,xs,r,o,es,ep,h1,h2,h3,h4,h5):=(show cP P w H h a (.dT Z)from OW ok e);show(z,y,xs,r,o,es,ep,h1,h2,h3,h4,λx I=>?_,h5);let all:∀{l:List (List bT×V)}{m:List (List bT×Uw×Uv)},KT H l m->∀x∈m,(aaJ (cD P w)).is h x.1 x.2.1:=by
  intro l m q
  induction q with
  |nil=>intro x I;show nomatch I
  |@cons p q ps qs hq t ih=>
   intro x I;rcases UP.mp I with e|I
   .subst e;show tz ok (by rw[<-hq.1];show hq.2.1)
   .show ih x I
 show all r x I
def Sf{Z:List (List bT×V)}(ok:kt P w H h)(e:H a=Up (.dT Z)):↑Z<=U1/\(a==WY)=UF/\
  ∃xs,KT H Z xs/\h.DictOfH (aaJ (cD P w)) a xs:=xS ok (.inl e)
end
def fP(H:Hp)(a:Uw)(y:V)(r:Option V):Prop:=
 (∃Z k,Rd H a (.dK Z)/\y=kV k/\r=cI Z k)\/∃Z k b,Rd H a (.dT Z)/\y=.ref b/\H b=Up (.tup (k.map kV))/\r=cI Z k
def so(H:Hp)(a:Uw)(y v:V)(H':Hp):Prop:=
 (∃Z k,H a=Up (.dK Z)/\y=kV k/\↑Z<U1/\H'=aw H a (.dK (em Z k v)))\/
 ∃Z k b,H a=Up (.dT Z)/\y=.ref b/\H b=Up (.tup (k.map kV))/\↑Z<U1/\H'=aw H a (.dT (em Z k v))
def fP.k{H:Hp}{a:Uw}{Z:List (bT×V)}{k:bT}(e:H a=Up (.dK Z)):fP H a (kV k) (cI Z k):=.inl (Z,k,.inl e,Y,Y)
def so.k{H:Hp}{a:Uw}{Z:List (bT×V)}{k:bT}{v:V}(e:H a=Up (.dK Z))(I:↑Z<U1):so H a (kV k) v (aw H a (.dK (em Z k v))):=.inl (Z,k,e,Y,I,Y)
section
variable {X:Cx} {O:List (Addr×Obj)} {D:St} {H:Hp} {s:Shared} {a:Addr} {y v:V} {u r:Value} {o:Option V} {A:Around} {E:Value->Shared->Prop}
def aZ.big(I:aZ X O D H s):WY<s.heap.objs.size:=by
 let h:Wg<s.heap.objs.size:=(I.mod.glob.keeps I.bk).lt;show acM () h
def KD{Q:Uv->UE->Prop}(hu:A.units+1<Zh)(ab:aZ X O D H s)(g:fP H a y (Up v))(ry:bQ y u)(h:∀I s',aZ X O D H s'->bQ v I->Q I s'):
  Vi (U_ X.prog X.w) A (acz (.ref a) u) Q E s:=by
 rcases g with⟨Z,k,e,ey,l⟩|⟨Z,k,b,e,ey,eb,l⟩
 .subst ey;let(z,hd,vs,an,dd):=rX ab.hok e;let(I,hw,ap):=h_.some_of (v:=v) (o:=aa1 vs k) (by rw[l];show an.val k);show wpAny_getItem_of (uw ry) dd.mapOf hw (h I _ (ab.tok _) ap)
 .subst ey;cases(show u=Vd b from ry);let(z,hd,xs,an,dd):=xS ab.hok e;let(I,hw,ap):=h_.some_of (v:=v) (o:=(ade xs k).map (·.2)) (by rw[l];show an.val k);let(p,hp,ar):=X2.mp hw;show wpAny_getItem_heap (XV hu) (tz ab.hok eb) dd hp ?_;rw[ar];show h I _ (ab.tok _) ap
def TC{Q:Uv->UE->Prop}(hu:A.units+1<Zh)(I:aZ X O D H s)(g:fP H a y o)(ry:bQ y u)(h:∀s',aZ X O D H s'->Q (.bool o.isSome) s'):
  Vi (U_ X.prog X.w) A (V0 .In u (.ref a)) Q E s:=by
 rcases g with⟨Z,k,e,ey,l⟩|⟨Z,k,b,e,ey,eb,l⟩
 .subst ey;let(z,hd,vs,ab,dd):=rX I.hok e;show wpAny_in_of (uw ry) hd dd.mapOf ?_;rw[<-(ab.val k).isSome_eq,<-l];show h _ (I.tok _)
 .subst ey;cases(show u=Vd b from ry);let(z,hd,xs,ab,dd):=xS I.hok e;show wpAny_in_heap (XV hu) (tz I.hok eb) hd dd ?_;let q:=(ab.val k).isSome_eq;rw[aap]at q;rw[<-q,<-l];show h _ (I.tok _)
def OC{Q:Uv->UE->Prop}(hu:A.units+1<Zh)(I:aZ X O D H s)(g:fP H a y o)(ry:bQ y u)(h:∀s',aZ X O D H s'->Q (.bool (!o.isSome)) s'):
  Vi (U_ X.prog X.w) A (V0 .NotIn u (.ref a)) Q E s:=by
 rcases g with⟨Z,k,e,ey,l⟩|⟨Z,k,b,e,ey,eb,l⟩
 .subst ey;let(z,hd,vs,ab,dd):=rX I.hok e;show wpAny_notIn_of (uw ry) hd dd.mapOf ?_;rw[<-(ab.val k).isSome_eq,<-l];show h _ (I.tok _)
 .subst ey;cases(show u=Vd b from ry);let(z,hd,xs,ab,dd):=xS I.hok e;show wpAny_notIn_heap (XV hu) (tz I.hok eb) hd dd ?_;let q:=(ab.val k).isSome_eq;rw[aap]at q;rw[<-q,<-l];show h _ (I.tok _)
def rY{h':Heap}{t':Nat}(ab:aZ X O D H s)(mu:OK (H a))(hs:Ys a s.heap h')(he:∃q,h'.get? a=Up q)(an:cP X.prog X.w (aw H a I) h' a I):
  aZ X O D (aw H a I) {s with heap:=h',toks:=t'}:=
 ab.write (x:=a) (e:=a) mu (.inl rfl) (λb q hb z=>(hs.2 b hb).trans z) he an
def xV{P:Program}{h':Heap}{Z:List (bT×V)}(z:↑Z<=U1)(I:(a==WY)=UF)(ab:KV Z vs)(dd:h'.DictOf (cD P w) a vs):
  cP P w H' h' a (.dK Z):=(z,I,vs,ab,dd)
def KC{Q:Unit->UE->Prop}(hu:A.units+1<Zh)(I:aZ X O D H s)(g:so H a y v H')(ry:bQ y u)(rv:bQ v r)(h:∀s',aZ X O D H' s'->Q ⟨⟩ s'):
  Vi (U_ X.prog X.w) A (setItem (.ref a) u r) Q E s:=by
 rcases g with⟨Z,k,e,ey,l,eH⟩|⟨Z,k,b,e,ey,eb,l,eH⟩
 .subst ey eH;let(z,hd,vs,ab,dd):=pW I.hok e;let hz:↑vs<=U1:=by rw[<-↑ab];show z
  let hl:↑(em Z k v)<=U1:=by have:=gm Z k v;lia
  show wpAny_setItem_pairs (hsz:=hz) (uw ry) dd λh' an hs=>h _ ?_
  let he:∃q,h'.get? a=Up q:=let(q,_,_,hq,_):=an;(q,hq);show rY I (by rw[e];show Ww) hs he (xV hl hd (ab.put k rv) an)
 .subst ey eH;cases(show u=Vd b from ry);let(z,hd,xs,ab,dd):=Sf I.hok e;let hz:↑xs<=U1:=by rw[<-Paired.length ab];show z
  let hl:↑(em Z k v)<=U1:=by have:=gm Z k v;lia
  show wpAny_setItem_heap (hsz:=hz) (XV hu) (tz I.hok eb) dd λh' an hs=>h _ ?_
  let(q,es,ep,hq,h2,h3,h4,_,h5):=an;show rY I (by rw[e];show Ww) hs (q,hq) (hl,hd,_,(ab.put k eb rv).keeps λc ys ec=>?_,q,es,ep,hq,h2,h3,h4,h5);rw[ah (aV ec e (λz=>nomatch z))];show ec
end
section
variable {X:Cx} {O:List (Addr×Obj)} {D:St} {H:Hp} {s:Shared} {a:Addr} {Z:List (bT×V)} {k:bT} {u:Value} {A:Around} {E:Value->Shared->Prop}
def Sg{Q:Uv->UE->Prop}(an:aZ X O D H s)(e:H a=Up (.dK Z))(ry:bQ (kV k) u)(l:cI Z k=Up v)(hm:I=[]\/∃x,I=[x])(h:∀w' s',aZ X O D (aw H a (.dK (fL Z k))) s'->bQ v w'->Q w' s'):Vi (U_ X.prog X.w) A (Z9 (.builtin "dict.pop") (.ref a::u::I)) Q E s:=by
 let(z,hd,vs,ab,dd):=pW an.hok e;let(w',hw,ar):=h_.some_of (v:=v) (o:=aa1 vs k) (by rw[<-l];show ab.val k);let hp:(keyPart u).isSome=UB:=by
  cases k with
  |inl i=>let(t,q):=(show∃t,u=YR i t from ry);subst q;rfl
  |inr x=>let(t,q):=(show∃t,u=abQ x t from ry);subst q;rfl
 let ha:argsOk "dict.pop" (.ref a::u::I,[]):=by
  rcases hm with q|⟨x,q⟩
  .subst q;show PySem.F.args_dict_pop_2 _ _
  .subst q;show PySem.F.args_dict_pop_3 _ _ _
 show call_meetsIn abn dd.typeIs PySem.F.entry_dict_pop ha (meets_dict_pop_there (cD X.prog X.w) a (uw ry) I hm hp)
  (vs,w',dd,by rw[<-↑ab];show z,hw,λh' ap hs=>h w' _ ?_ ar)
 let he:∃q,h'.get? a=Up q:=let(q,_,_,hq,_):=ap;(q,hq);show rY an (by rw[e];show Ww) hs he (xV (Vm (MK Z k) z) hd (ab.drop k) ap)
def Sh{Q:Uv->UE->Prop}(I:aZ X O D H s)(e:Rd H a (.dK Z))(h:∀t s',aZ X O D H s'->Q (.int ↑Z t) s'):Vi (U_ X.prog X.w) A (Z9 (.builtin "len") [.ref a]) Q E s:=by
 let(z,hd,vs,ab,dd):=rX I.hok e;show call_len_dict hd dd (by rw[<-↑ab];rw[Ux]at z;lia) ?_;rw[<-↑ab];show h _ _ (I.tok _)
end
def So(i:Expr):Prop:=∀ov I,abC i UF ov I=operate [ov,I] (acz ov I)
def Nw{T id:String}(hl:Z8 (.type T) "__getitem__"=pure (Up (.builtin id)))(hs:So I)(h:Vi (U_ prog w) A (Xq value ab) (λo s₁=>Vi (U_ prog w) A (Xq I ab) (λi s₂=>s₂.TypeIs o T/\Vi (U_ prog w) A (acz o i) Q E s₂) E s₁) E s):
  Vi (U_ prog w) A (Xq (.Subscript value I G) ab) Q E s:=by
 show Subscript_ (V9 h (λo s₁ h₁=>V9 h₁ (λi s₂ h₂=>?_) λ_ _ x=>x) λ_ _ x=>x);let(hT,h₂):=h₂;unfold ab_;show wpAny_bind ?_;rw[getitemInPython_of_ne hT.not_modules];show wpAny_bind (wpAny_specialOf hT hl ?_);let an:Vi (U_ prog w) A (abC I UF o i) (λr s₃=>Vi (U_ prog w) A (letTemporaryGo value o r>>=λ_=>pure r) Q E s₃) E s₂:=by
  rw[hs o i];show wpAny_operating (V9 h₂ (λr s₃ h₃=>wpAny_bind (wpAny_letTemporaryGo (wpAny_pure h₃))) λ_ _ x=>x)
 first
  |show wpAny_pure (wpAny_bind an)
  |show wpAny_bind (wpAny_pure (wpAny_bind an))
  |show wpAny_bind an
def FH{X:Cx}{s:UE}(I:aZ X O D H s)(g:fP H a y o):s.TypeIs (.ref a) "dict":=by
 rcases g with⟨Z,k,e,_,_⟩|⟨Z,k,b,e,_,_,_⟩
 .let(_,_,vs,_,dd):=rX I.hok e;show dd.typeIs
 .let(_,_,xs,_,dd):=xS I.hok e;show dd.typeIs
inductive PM(Q:VK)(x y:V)(b:Hp):Prop|mk(a v:_)(_:x=.ref a)(_:fP b a y (some v))(_:Q v b)
def Iu(td ty:TE):TE:=λD H Q=>td D H λx H1=>ty D H1 (PM Q x)
inductive Rm(Q:VK)(y x:V)(b:Hp):Prop|mk(a o:_)(_:x=.ref a)(_:fP b a y o)(_:Q (.bl o.isSome) b)
def Rn(ty td:TE):TE:=λD H Q=>ty D H λy H1=>td D H1 (Rm Q y)
inductive Lk(Q:VK)(y x:V)(b:Hp):Prop|mk(a o:_)(_:x=.ref a)(_:fP b a y o)(_:Q (.bl (!o.isSome)) b)
def Ir(ty td:TE):TE:=λD H Q=>ty D H λy H1=>td D H1 (Lk Q y)
inductive Qi(D:mz)(c:St)(v x y:V)(d:Hp):Prop|mk(a b:_)(_:x=.ref a)(_:so d a y v b)(_:D.nx c b)
def Rv(td ty tv:TE):TS:=λI D H=>tv D H λv H1=>td D H1 λx H2=>ty D H2 (Qi I D v x)
section
variable {X:Cx} {o i e value:Expr} {G pos' tpos:Pos} {td ty tv:TE}
def iO(hu:X.A.units+1<Zh)(ho:PE X o td)(hi:PE X i ty)(hs:So i):PE X (.Subscript o i G) (Iu td ty):=by
 intro O s D H Q ab h;show Nw PySem.F.slot_dict_getitem.lookup hs (cW (ho O s D H _ ab h) λu s1 (x,H1,I1,rx,q1)=>cW (hi O s1 D H1 _ I1 q1) λiv s2 (y,H2,I,ry,a,v,ex,g,q2)=>?_);subst ex;obtain rfl:u=Vd a:=rx;show(FH I g,KD hu I g ry λw' s3 I3 an=>(v,H2,I3,an,q2))
def B8(hu:X.A.units+1<Zh)(hi:PE X i ty)(ho:PE X o td):PC X .In i o (Rn ty td):=by
 intro O s D H Q I h;show cW (hi O s D H _ I h) λiv s1 (y,H1,I1,ry,q1)=>cW (ho O s1 D H1 _ I1 q1) λu s2 (x,H2,I2,rx,a,ov,ex,g,q2)=>?_
 subst ex;obtain rfl:u=Vd a:=rx;show TC hu I2 g ry λs3 I3=>(.bl ov.isSome,H2,I3,Y,q2)
def kJ(hu:X.A.units+1<Zh)(hi:PE X i ty)(ho:PE X o td):PC X .NotIn i o (Ir ty td):=by
 intro O s D H Q I h;show cW (hi O s D H _ I h) λiv s1 (y,H1,I1,ry,q1)=>cW (ho O s1 D H1 _ I1 q1) λu s2 (x,H2,I2,rx,a,ov,ex,g,q2)=>?_
 subst ex;obtain rfl:u=Vd a:=rx;show OC hu I2 g ry λs3 I3=>(.bl (!ov.isSome),H2,I3,Y,q2)
def gx(hu:X.A.units+1<Zh)(ho:PE X o td)(hi:PE X i ty)(hv:PE X value tv)(hs:aaK value (Up (.Subscript o i pos')) G.line X.env=pure UF):
  PS X (.Assign [.Subscript o i pos'] value G) (Rv td ty tv):=by
 intro O s D H an ab h;show wpAny_Assign_Subscript (cW (hv O s D H _ ab h) λr s1 (v,H1,I1,rv,q1)=>cW (ho O s1 D H1 _ I1 q1) λu s2 (x,H2,I2,rx,q2)=>cW (hi O s2 D H2 _ I2 q2) λiv s3 (y,H3,I3,ry,a,I,ex,g,q3)=>?_) hs;subst ex;obtain rfl:u=Vd a:=rx;show KC hu I3 g ry rv λs4 I4=>(D,I,I4,q3)
end
def FG{P:Program}(h:Heap)(I:WY<h.objs.size):cP P w H (h.push {cls:=.type "dict",data:=.dict #[]}) h.objs.size (.dK []):=
 (VN _,beq_eq_false_iff_ne.mpr (WX (Vl I)),[],.nil,Heap.DictOf.new h)
def PH:TE:=λ_ H Q=>∀p,H p=UH->Q (.ref p) (aw H p (.dK []))
section
variable {X:Cx} {G:Pos}
def kI:PE X (.Dict [] [] G) PH:=λO s D H Q I h=>
 wpAny_Dict_empty (.ref s.heap.objs.size,_,I.laid (a:=s.heap.objs.size) (o:=.dK []) (t':=s.toks) (λ_ _ q=>UG _ q) (UD _) (FG s.heap I.big),Y,h _ (I.hok.fresh (UD _)))
end
def Go:List (TE×TE)->St->Hp->(List (V×V)->Hp->Prop)->Prop
 |[],_,H,Q=>Q [] H
 |(tk,tv)::r,D,H,Q=>tk D H λx H1=>tv D H1 λy H2=>Go r D H2 λps I=>Q ((x,y)::ps) I
abbrev VV:List (V×V)->List (Uv×Uv)->Prop:=Paired λp q=>bQ p.1 q.1/\bQ p.2 q.2
def SM(X:Cx)(G:Pos)(I:List (Option Expr))(an:List Expr)(ab:List (TE×TE)):Prop:=
 ∀(O:List (Uw×W2))(s:UE)(D:St)(H:Hp)(Q:List (V×V)->Hp->Prop),aZ X O D H s->Go ab D H Q->
  Vi (U_ X.prog X.w) X.A (evalPairs (pairTrees I an X.env G)) (λvs s'=>∃ps H',aZ X O D H' s'/\VV ps vs/\Q ps H') X.xe s
def NX{X:Cx}{G:Pos}:SM X G [] [] []:=λO s D H Q I h=>pairTrees_nil_walk ([],H,I,.nil,h)
def Ex{X:Cx}(hk:PE X k tk)(hv:PE X v tv)(hr:SM X G I vs ab):
  SM X G (some k::I) (v::vs) ((tk,tv)::ab):=λO s D H Q an h=>
 pairTrees_cons_walk (cW (hk O s D H _ an h) λu s1 (x,H1,I1,rx,q1)=>cW (hv O s1 D H1 _ I1 q1) λw2 s2 (y,H2,I2,ry,q2)=>
  cW (hr O s2 D H2 _ I2 q2) λws s3 (ps,H3,I3,ap,q3)=>((x,y)::ps,H3,I3,.cons (rx,ry) ap,q3))
def lJ(Z ab:List (bT×V)):List (bT×V):=ab.foldl (λacc I=>em acc I.1 I.2) Z
def KV.merge:∀{I:List (bT×V)}{rs:List (bT×Uv)}{Z:List (bT×V)}{vs:List (bT×Uv)},KV I rs->KV Z vs->KV (lJ Z I) (merged vs rs):=by
 intro I rs Z vs r;unfold KV at r
 induction r generalizing Z vs with
 |nil=>intro q;show q
 |@cons p q ps qs h t ih=>
  intro r0;let e:KV (em Z p.1 p.2) (stored vs q.1 q.2):=by
   have:=r0.put p.1 h.2;rw[<-h.1];show this
  show ih e
def jT:∀(I Z:List (bT×V)),↑(lJ Z I)<=↑Z+↑I
 |[],Z=>by change ↑Z<=↑Z+0;lia
 |p::r,Z=>by
  let h1:=jT r (em Z p.1 p.2);let h2:=gm Z p.1 p.2;change↑(lJ (em Z p.1 p.2) r)<=_;rw[Ut];lia
def ya{P:Program}:∀{Z:List (bT×V)}{ws:List (Uv×Uv)},VV (Z.map λkv=>(kV kv.1,kv.2)) ws->∃I,Carries (cD P w) ws I/\KV Z I
 |[],_,r=>by rw[Yu]at r;cases r;show([],Ww,.nil)
 |p::Z,_,r=>by
  rw[UJ]at r;cases r with
  |@cons a b as bs h t=>
   let(I,c,q):=ya (P:=P) (w:=w) t;let(b1,b2):=b;show((p.1,b2)::I,(uw h.1,Y,c),.cons (Y,h.2) q)
def Rl(ab:List (TE×TE)):TE:=λD H Q=>∀p,H p=UH->Go ab D (aw H p (.dK [])) λps H2=>H2 p=Up (.dK [])/\∃Z:List (bT×V),ps=Z.map (λI=>(kV I.1,I.2))/\↑Z<=15/\Q (.ref p) (aw H2 p (.dK (lJ [] Z)))
def N2{X:Cx}{I:List (Option Expr)}{an:List Expr}(h:SM X G I an ar)(a0:I.all (·.isSome)=UB)(hl:↑I=↑an)(h0:I≠[])(av:↑I<=15):PE X (.Dict I an G) (Rl ar):=by
 intro O s D H Q ab q;let hn:=ab.hok.fresh (UD s.heap.objs.size);let I1:=ab.laid (a:=s.heap.objs.size) (o:=.dK []) (h':=s.heap.push {cls:=.type "dict",data:=.dict #[]}) (t':=s.toks) (λ_ _ q=>UG _ q) (UD _) (FG s.heap ab.big);show wpAny_Dict_walk (knd:=cD X.prog X.w) a0 hl h0 av (cW (h O _ D _ _ I1 (q _ hn)) λws s2 (ps,H2,I2,a1,e,Z,ep,lk,q2)=>?_);subst ep;let(rs,c,rk):=ya (P:=X.prog) (w:=X.w) a1;let(z,hd,a2,r0,dd):=pW I2.hok e;cases r0;show(rs,c,dd,λh' ap hs=>(.ref s.heap.objs.size,_,?_,Y,q2));let hz:↑(lJ [] Z)<=U1:=by
  let h1:=jT Z [];rw[Vr]at h1;rw[Ux];lia
 let he:∃q,h'.get? s.heap.objs.size=Up q:=let(q,_,_,hq,_):=ap;(q,hq);show rY I2 (by rw[e];show Ww) hs he (xV hz hd (rk.merge .nil) ap)
structure M1 (X:Cx) (o:Expr) (m:Str) (apos:Pos) (e:Expr) (cpos:Pos):Prop where
 base:attributeBase o m X.env (eval o X.env)=eval o X.env
 few:((backTo cpos (starEach [e] X.env)).all (fun x=>!x.1)&&(backToKw cpos (keywordEach [] X.env)).all (fun x=>x.1.isSome)
  &&decide (([e]:List Expr).length+([]:List Keyword).length+(if([]:List Keyword).isEmpty then 0 else 1)<30))=true
 line:(apos.endLine==cpos.line)=true
 trees:backTo cpos (starEach [e] X.env)=[(false,eval e X.env)]
structure M2 (X:Cx) (o:Expr) (m:Str) (apos:Pos) (e f:Expr) (cpos:Pos):Prop where
 base:attributeBase o m X.env (eval o X.env)=eval o X.env
 few:((backTo cpos (starEach [e,f] X.env)).all (fun x=>!x.1)&&(backToKw cpos (keywordEach [] X.env)).all (fun x=>x.1.isSome)
  &&decide (([e,f]:List Expr).length+([]:List Keyword).length+(if([]:List Keyword).isEmpty then 0 else 1)<30))=true
 line:(apos.endLine==cpos.line)=true
 trees:backTo cpos (starEach [e,f] X.env)=[(false,eval e X.env),(false,eval f X.env)]
def T0(H:Hp)(a:Uw):Prop:=(∃Z,Rd H a (.dK Z))\/∃Z,Rd H a (.dT Z)
def Mv{X:Cx}{s:UE}(ab:aZ X O D H s)(d:T0 H a):
  s.TypeIs (.ref a) "dict"/\(∀b,Vd a=.ref b->∃I,s.heap.get? b=Up I/\I.dict=UH)/\(a==WY)=UF:=by
 rcases d with⟨Z,e⟩|⟨Z,e⟩
 .let(_,hd,vs,_,dd):=rX ab.hok e;show(dd.typeIs,λb q=>?_,hd);cases q;let(I,_,_,h1,h2,_):=dd;show(I,h1,h2.2.1)
 .let(_,hd,xs,_,dd):=xS ab.hok e;show(dd.typeIs,λb q=>?_,hd);cases q;let(I,_,_,h1,h2,_):=dd;show(I,h1,h2.2.1)
section
variable {X:Cx} {O:List (Addr×Obj)} {D:St} {H:Hp} {s:Shared} {a:Addr} {y d:V} {u r:Value} {o:Option V} {A:Around} {E:Value->Shared->Prop}
def QT{Q:Uv->UE->Prop}(hu:A.units+1<Zh)(I:aZ X O D H s)(g:fP H a y o)(ry:bQ y u)(rd:bQ d r)(h:∀w' s',aZ X O D H s'->bQ (o.getD d) w'->Q w' s'):
  Vi (U_ X.prog X.w) A (Z9 (.builtin "dict.get") [.ref a,u,r]) Q E s:=by
 rcases g with⟨Z,k,e,ey,l⟩|⟨Z,k,b,e,ey,eb,l⟩
 .subst ey;let(z,hd,vs,ab,dd):=rX I.hok e;show call_meetsIn Zj dd.typeIs aa5 (aaR _ _ _) (meets_dict_get_default (cD X.prog X.w) a (uw ry) hd r) (_,dd.mapOf,h _ _ (I.tok _) ?_);rw[l];show(ab.val k).getD rd
 .subst ey;cases(show u=Vd b from ry);let(z,hd,xs,ab,dd):=xS I.hok e;show call_meetsIn Zj dd.typeIs aa5 (aaR _ _ _) (meetsH_dict_get_default (aaJ (cD X.prog X.w)) a b hd r) (XV hu,k,xs,tz I.hok eb,dd,h _ _ (I.tok _) ?_);rw[l];show(ab.val k).getD rd
end
inductive Nt(d e:TE)(b:St)(Q:VK)(x:V)(c:Hp):Prop|mk(a:_)(_:x=.ref a)(_:T0 c a)(_:d b c fun y H2=>e b H2 fun z H3=> ∃o,fP H3 a y o/\Q (o.getD z) H3)
def PJ(td ty tx:TE):TE:=λD H Q=>td D H (Nt ty tx D Q)
inductive Nr(c:TE)(d:St)(Q:VK)(x:V)(b:Hp):Prop|mk(a:_)(_:x=.ref a)(_:T0 b a)(_:c d b fun y H2=> ∃kvs k v,H2 a=some (.dK kvs)/\y=kV k/\cI kvs k=some v/\Q v (aw H2 a (.dK (fL kvs k))))
def PF(td ty:TE):TE:=λD H Q=>td D H (Nr ty D Q)
section
variable {X:Cx} {o e f:Expr} {apos cpos:Pos} {td ty tx:TE}
def L5(hu:X.A.units+1<Zh)(ho:PE X o td)(he:PE X e ty)(hf:PE X f tx)(m:M2 X o "get" apos e f cpos):PE X (.Call (.Attribute o "get" apos) [e,f] [] cpos) (PJ td ty tx):=by
 intro O s D H Q ab h;show wpAny_Call_method m.base m.few m.line XM Zj PySem.F.type_dict_get (cW (ho O s D H _ ab h) λu s1 (x,H1,I,rx,a,ex,d,q1)=>?_);subst ex;obtain rfl:u=Vd a:=rx;let(t1,t2,_):=Mv I d;show(t1,t2,?_);rw[m.trees];show W_ rfl (Yo (XZ (cW (he O s1 D H1 _ I q1) λiv s2 (y,H2,I2,ry,q2)=>
  XZ (cW (hf O s2 D H2 _ I2 q2) λfv s3 (z,H3,I3,rz,ov,g,q3)=>Y8 ?_))))
 show QT hu I3 g ry rz λw' s4 I4 an=>(_,H3,I4,an,q3)
def rm(ho:PE X o td)(he:PE X e ty)(m:M1 X o "pop" apos e cpos):PE X (.Call (.Attribute o "pop" apos) [e] [] cpos) (PF td ty):=by
 intro O s D H Q ab h;show wpAny_Call_method m.base m.few m.line XM abn PySem.F.type_dict_pop (cW (ho O s D H _ ab h) λu s1 (x,H1,I,rx,a,ex,d,q1)=>?_);subst ex;obtain rfl:u=Vd a:=rx;let(t1,t2,_):=Mv I d;show(t1,t2,?_);rw[m.trees];show W_ rfl (Yo (XZ (cW (he O s1 D H1 _ I q1) λiv s2 (y,H2,I2,ry,Z,k,v,ea,ey,l,q2)=>Y8 ?_)));subst ey;show Sg I2 ea ry l (.inl rfl) λw' s3 I3 an=>(v,_,I3,an,q2)
end
section
variable {X:Cx} {O:List (Addr×Obj)} {D:St} {H:Hp} {s:Shared} {a:Addr} {Z:List (bT×V)} {A:Around} {E:Value->Shared->Prop}
def MM{Q:Uv->UE->Prop}(I:aZ X O D H s)(e:Rd H a (.dK Z))(h:∀p s',H p=UH->aZ X O D (aw H p (.dK Z)) s'->Q (.ref p) s'):Vi (U_ X.prog X.w) A (Z9 (.type "dict") [.ref a]) Q E s:=by
 let(z,hd,vs,ab,dd):=rX I.hok e;show kt_call_dict hd dd (by rw[<-↑ab];show z) λh' an hs=>?_
 show h _ _ (I.hok.fresh (UD _)) (I.laid (a:=s.heap.objs.size) (o:=.dK Z) (t':=s.toks) (λb q hq=>?_) (UD _) (xV z (beq_eq_false_iff_ne.mpr (WX (Vl I.big))) ab an));show(hs.2 b (Vl (U4 hq))).trans (UG _ hq)
end
section
variable {X:Cx} {O:List (Addr×Obj)} {D:St} {H:Hp} {s:Shared} {h':Heap}
def aZ.lock(ab:aZ X O D H s)(h:H d=Up u)(φ:OK (Up u)):∃I,aZ X O D (aw H d (.frz I u)) s:=by
 let x:=ab.hok d u h;let ex:∃I,s.heap.get? d=Up I:=by
  cases u with
  |lst xs=>let(_,_,_,_,e):=x;show(_,e)
  |dK Z=>let(_,_,_,_,o,_,_,e,_):=x;show(o,e)
  |dT Z=>let(_,_,_,_,o,_,_,e,_):=x;show(o,e)
  |set S n=>let(o,_,_,_,e,_):=x;show(o,e)
  |ins C dx fs=>let(_,_,_,e,_):=x;show(_,e)
  |ext ap=>let(_,(_,e),_):=x;show(_,e)
  |_=>show VI φ
 let(I,e):=ex;let an:cP X.prog X.w (aw H d (.frz I u)) s.heap d (.frz I u):=by
  show(e,x.stay (λb v _ q=>q) (λb q=>?_) λb xs q=>?_)
  .rw[ah (λz=>by rw[z,h]at q;cases q;show φ)];show q
  .rw[ah (λz=>by rw[z,h]at q;cases q;show φ)];show q
 show(I,ab.write (x:=d) (e:=d) (t':=s.toks) (h':=s.heap) (by rw[h];show φ) (.inl rfl) (λb v _ q=>q) (I,e) an)
def aZ.nofrz(ab:aZ X O D H s)(h:H d=Up u)(mu:OK (Up u)):∀o' I,X.H_0 d≠Up (.frz o' I):=λo' I e=>by
 let q:=ab.base.frzs d o' I e;rw[h]at q;cases q;show mu
def aZ.unlock(I:aZ X O D H s)(h:H d=Up (.frz od u))(hn:∀o' u',X.H_0 d≠Up (.frz o' u')):aZ X O D (aw H d u) s:=by
 let ab:∀b o,H b=Up o->(∀o' u',o≠.frz o' u')->b≠d:=λb o e an z=>by
  rw[z,h]at e;cases e;show an _ _ rfl
 let neN:∀b,H b=UH->b≠d:=λb e z=>by rw[z,h]at e;cases e
 show(I.ok,I.os,I.bare,(I.base.keep,I.base.slot,λb o e n hx=>?_,I.base.there,λb xs e=>?_,λb o x e=>?_,λb ps e=>?_),I.loc,I.cell,?_,λx c e=>?_,λp hp=>?_,λb o e=>?_,I.len)
 .rw[ah (neN b (I.base.free b o e n hx))];show I.base.free b o e n hx
 .let q:=I.base.tups b xs e;rw[ah (ab b _ q (λ_ _ z=>nomatch z))];show q
 .let q:=I.base.frzs b o x e;rw[ah (λz=>by rw[z]at e;show hn _ _ e)];show q
 .let(m,q):=I.base.tbls b ps e;show(m,by rw[ah (ab b _ q (λ_ _ z=>nomatch z))];show q)
 .rw[ah (neN _ I.free)];show I.free
 .rw[ah (neN c (I.freeC x c e))];show I.freeC x c e
 .let(e,n,r):=I.pin p hp;show(e,by rw[ah (neN _ n)];show n,r)
 .by_cases hb:b=d
  .rw[hb,ae]at e;cases e;rw[hb];let(_,x):=I.hok d _ h;show x.stay (λc v _ q=>q) (λc q=>by rw[ah (ab c _ q (λ_ _ z=>nomatch z))];show q) λc xs q=>by rw[ah (ab c _ q (λ_ _ z=>nomatch z))];show q
  .rw[ah hb]at e;show(I.hok b o e).stay (λc v _ q=>q) (λc q=>by rw[ah (ab c _ q (λ_ _ z=>nomatch z))];show q) λc xs q=>by rw[ah (ab c _ q (λ_ _ z=>nomatch z))];show q
end
inductive OQ(t:TS)(D:mz)(a:St)(H:Hp):Prop|mk(d u:_)(_:H d=some u)(_:OK (some u))(_:∀od,t ⟨fun σ' H'=>H' d=some (.frz od u)/\D.nx σ' (aw H' d u),fun v H'=>H' d=some (.frz od u)/\D.rt v (aw H' d u),fun σ' H'=>H' d=some (.frz od u)/\D.bk σ' (aw H' d u),fun σ' H'=>H' d=some (.frz od u)/\D.ct σ' (aw H' d u)⟩ a (aw H d (.frz od u)))
inductive Lj(t:TE)(a:St)(H:Hp)(Q:VK):Prop|mk(d u:_)(_:H d=some u)(_:OK (some u))(_:∀od,t a (aw H d (.frz od u)) fun v H'=>H' d=some (.frz od u)/\Q v (aw H' d u))
section
variable {X:Cx}
def IG{st:Vs}(h:PS X st t):PS X st (OQ t):=by
 intro O s D H an ab hw;let(d,u,hd,mu,hw):=hw;let(od,I1):=ab.lock hd mu;show cW (h O s D _ _ I1 (hw od)) λf s1 q=>?_
 cases f with
 |next=>let(σ',H',I,e,q):=q;show(σ',_,I.unlock e (ab.nofrz hd mu),q)
 |brk=>let(σ',H',I,e,q):=q;show(σ',_,I.unlock e (ab.nofrz hd mu),q)
 |cont=>let(σ',H',I,e,q):=q;show(σ',_,I.unlock e (ab.nofrz hd mu),q)
 |ret v=>let(x,σ',H',I,r,e,q):=q;show(x,σ',_,I.unlock e (ab.nofrz hd mu),r,q)
def N0(h:PE X e t):PE X e (Lj t):=by
 intro O s D H Q ab I;let(d,u,hd,mu,I):=I;let(od,I1):=ab.lock hd mu;show cW (h O s D _ _ I1 (I od)) λv s1 (x,H1,I2,r,e2,q)=>?_
 show(x,_,I2.unlock e2 (ab.nofrz hd mu),r,q)
def wT{s:UE}{R:It->Hp->Prop}{J:It}{tn:Nat->Heap->Prop}{tk:Nat}(I:aZ X O D H s)(o:W2)(T:DF X.prog X.w X.K tg J [s.heap.objs.size] s.heap.objs.size tn)(st:tn 0 (s.heap.push o))(q:R J H):TW X O D tg R (.ref s.heap.objs.size) {s with heap:=s.heap.push o,toks:=tk}:=by
 show(s.heap.objs.size,[s.heap.objs.size],tn,J,H,Y,I.kept λb ob e=>UG _ e,T,st,λb hb=>?_,q);let e:b=s.heap.objs.size:=by simpa using hb
 subst e;show I.fpOk (UD _) (I.hok.fresh (UD _))
end
def Su(lo c:Int)(n:Nat):It:=(λi _=>i<n,λi H x H'=>H'=H/\x=.int (lo+(i:Nat)*c),λi _=>n<=i)
def DU{P:Program}{K:UN}(it:Uw)(lo c:Int)(n:Nat):DF P w K tg (Su lo c n) [it] it (λi h=>abG h it (lo+(i:Nat)*c) ((n:Int)-(i:Nat)) c) where
 mem:=by simp
 obj:=λi h st b hb=>by
  let e:b=it:=by simpa using hb
  subst e;show(_,st,λv z=>nomatch z)
 keep:=λi h h' st k=>k it (by simp) _ st
 item:=by
  intro X hP hw hK hc i O s D H E I hf st hg;subst hP hw hK;let(f0,f1,f2,f3,f4,f5):=hf it (by simp);let W:=Walks.range (prog:=X.prog) (w:=X.w) (I.ok.hd hc) it lo c n;show W.item i s _ _ hg st λv h' tk hv st' kk=>?_
  let(t,rfl):=hv;let I1:aZ X O D H {s with heap:=h',toks:=tk}:=I.turned (λb o hb e=>kk b o (by simpa using hb) e) f0 f1 f3 f4 f5;show(_,Y,xE (s:={s with heap:=h',toks:=tk}) (n:="range_iterator") st' rfl rfl () (.int (lo+(i:Nat)*c),H,I1,(t,Y),(Y,Y),st',λb hb=>(hf b hb).1))
 done:=by
  intro X hP hw hK hc i O s D H E I hf st hg;subst hP hw hK;let(f0,f1,f2,f3,f4,f5):=hf it (by simp);show aaZ (I.ok.hd hc) st (by have:n<=i:=hg;lia) λh' eb=>(Y,I.turned (t':=s.toks) (λb o hb e=>eb b o hb e) f0 f1 f3 f4 f5)
 self:=λA i s Q E st h=>aa0 st h
def T_(i j c:Int)(n:Nat):Prop:=c≠0/\c.natAbs<1073741824/\abY i j c=UB/\WW i j c=n
inductive QI(R:It->Hp->Prop)(a:List V)(b:Hp):Prop|mk(i j c:Int)(n:Nat)(_:a=[.int i,.int j,.int c])(_:T_ i j c n)(_:R (Su i c n) b)
def Sc(ta:TA):TI:=λD H R=>ta D H (QI R)
section
variable {X:Cx} {tg:Expr}
def JW{p G:Pos}(hg:Gl X "range")(hm:X.mg "range"=UH)(ha:PA X [a,b,c] ta)(hs:Vt [a,b,c] X.env=(UF,Xq a X.env)::Vt [b,c] X.env:=by rfl)(an:(Yk G (Vt [b,c] X.env)).any (·.1)=UF:=by rfl):
  PI X tg (.Call (.Name "range" p) [a,b,c] [] G) (Sc ta):=by
 intro O s D H R ab h;show Call_ (Cy ab hg hm boot_range (Yf (cW (ha G O s D H _ ab h) λus s1 (vs,H1,I1,r1,q1)=>?_) hs an));let(i,j,k,n,e,(c0,c1,c2,c3),q):=q1;subst e;cases r1 with
 |cons r I=>
  cases I with
  |cons r' I=>
   cases I with
   |cons ap I=>
    cases I;let(t,rfl):=r;let(t',rfl):=r';let(ar,rfl):=ap;show call_range_3 c0 ?_ (.inl (aa6 c1));show wpAny_pyIter_range (agq ..) c2 ?_;let I2:aZ X O D H1 {s1 with heap:=s1.heap.push {cls:=.type "range",data:=.fields #[.int i t,.int j t',.int k ar]}}:=I1.kept (t':=s1.toks) λb o e=>UG _ e
    show wT (tk:=s1.toks) I2 _ (DU _ i k n) ?_ q;let e1:i+((0:Nat):Int)*k=i:=by simp
    let e2:(n:Int)-((0:Nat):Int)=WW i j k:=by rw[c3];simp
    change abG _ _ (i+((0:Nat):Int)*k) ((n:Int)-((0:Nat):Int)) k;rw[e1,e2];show U5 _ rfl
end
def HL{lo c:Int}{n:Nat}{g:TG}{tb:TS}{I:mz}{D:St}{H:Hp}(Pv:Nat->St->Hp->Prop)(h0:Pv 0 D H)(hs:∀i D H,i<n->Pv i D H->g (.int (lo+(i:Nat)*c)) D H λσ2 H2=>tb {I with nx:=Pv (i+1),ct:=Pv (i+1),bk:=I.nx} σ2 H2)(hd:∀D H,Pv n D H->I.nx D H):
  ∃W:Nat->Nat->St->Hp->Prop,(∃m,W 0 m D H)/\∀i m D H,W i m D H->
   ((Su lo c n).stop i H/\I.nx D H)\/((Su lo c n).go i H/\∃N:St->Hp->Prop,(∀σ' H',N σ' H'->∃m',m'<m/\W (i+1) m' σ' H')/\∀x H',(Su lo c n).yld i H x H'->g x D H' λσ2 H2=>tb {I with nx:=N,ct:=N,bk:=I.nx} σ2 H2):=by
 show(λi m D H=>m=n-i/\i<=n/\Pv i D H,(n,by simp,VN _,h0),?_);rintro i m D H ⟨rfl,hi,p⟩;by_cases ab:i<n
 .show .inr (ab,Pv (i+1),λσ' H' p'=>(n-(i+1),⋯,Y,ab,p'),λx H' y=>?_);let(e,y):=y;subst e y;show hs i D _ ab p
 .let e:i=n:=⋯
  subst e;show .inl (UD _,hd D H p)
def Sr(x:Vp):It:=(λi _=>i<x.cps.size,λi H v H'=>H'=H/\∃c,x.cps[i]?=Up c/\v=.str ⟨#[c]⟩,λi _=>x.cps.size<=i)
def DT{P:Program}{K:UN}(it:Uw)(x:Vp)(t:Tok)(ty:String)(hty:ty="str_ascii_iterator"\/ty="str_iterator"):
  DF P w K tg (Sr x) [it] it (λi h=>h.IsStrIter it ty x t i) where
 mem:=by simp
 obj:=λi h st b hb=>by
  let e:b=it:=by simpa using hb
  subst e;let(o,e,c,d):=st;show(o,e,λv z=>by rw[d]at z;cases z)
 keep:=λi h h' st k=>let(o,ho,r):=st;(o,k it (by simp) o ho,r)
 item:=by
  intro X hP hw hK hc i O s D H E I hf st hg;subst hP hw hK;let(f0,f1,f2,f3,f4,f5):=hf it (by simp);let W:Walks X.prog X.w X.A it [it] [it] x.cps.size (SignAt x) (λi h=>h.IsStrIter it ty x t i):=by
   rcases hty with e|e
   .rw[e];show Walks.strAscii (I.ok.hd hc) it x t
   .rw[e];show Walks.strWide (I.ok.hd hc) it x t
  let hno:["enumerate","zip","dict_itemiterator","dict_reverseitemiterator","odict_iterator","itertools.zip_longest","itertools.pairwise"].contains ty=UF:=by
   rcases hty with e|e
   .rw[e];decide
   .rw[e];decide
  show W.item i s _ _ hg st λv h' tk hv st' kk=>?_
  let(c,u,hcx,rfl):=hv;let I1:aZ X O D H {s with heap:=h',toks:=tk}:=I.turned (λb o hb e=>kk b o (by simpa using hb) e) f0 f1 f3 f4 f5;let(oi,e,cc,dd):=id st';show(_,Y,xE (s:={s with heap:=h',toks:=tk}) e cc dd hno (.str ⟨#[c]⟩,H,I1,(u,Y),(Y,c,hcx,Y),st',λb hb=>(hf b hb).1))
 done:=by
  intro X hP hw hK hc i O s D H E I hf st hg;subst hP hw hK;let(f0,f1,f2,f3,f4,f5):=hf it (by simp);let hx:x.cps[i]?=UH:=abb hg;rcases hty with e|e
  .rw[e]at st;show wpAny_pyNext_ascii_end (I.ok.hd hc) st hx λh' eb=>(Y,I.turned (t':=s.toks) (λb o hb e=>eb b o hb e) f0 f1 f3 f4 f5)
  .rw[e]at st;show wpAny_pyNext_wide_end (I.ok.hd hc) st hx λh' eb=>(Y,I.turned (t':=s.toks) (λb o hb e=>eb b o hb e) f0 f1 f3 f4 f5)
 self:=λA i s Q E st h=>by
  rcases hty with e|e
  .rw[e]at st;show wpAny_pyIter_striter_ascii st h
  .rw[e]at st;show wpAny_pyIter_striter_wide st h
inductive Sa(R:It->Hp->Prop)(v:V)(a:Hp):Prop|mk(x:_)(_:v=.str x)(_:R (Sr x) a)
def Sb(te:TE):TI:=λD H R=>te D H (Sa R)
def LY{X:Cx}(he:PE X e te):PI X tg e (Sb te):=by
 intro O s D H R ab h;show cW (he O s D H _ ab h) λv s1 (y,H1,I,r1,x,ex,q)=>?_
 subst ex;let(t,rfl):=r1;cases ha:x.cps.all (· <128)
 .show wpAny_pyIter_wide ha (wT (tk:=s1.toks) I _ (DT _ x t "str_iterator" (.inr rfl)) (_,U5 _ rfl,Y,Y) q)
 .show wpAny_pyIter_ascii ha (wT (tk:=s1.toks) I _ (DT _ x t "str_ascii_iterator" (.inl rfl)) (_,U5 _ rfl,Y,Y) q)
section
variable {prog:Program} {w:World} {A:Around} {E:Value->Shared->Prop} {s:Shared}
def AB{o:W2}{Q:Uv->UE->Prop}(hd:(d==WY)=UF)(ho:s.heap.get? d=Up o)(hc:o.ExactDict)(ab:o.data=.dict es ep)(hQ:Q (.ref s.heap.objs.size) {s with heap:=s.heap.push {cls:=.type "dict_keyiterator",data:=.fields #[.ref d,.int 0 0,.int es.size 0,.int ep 0]}}):
  Vi (U_ prog w) A (pyIter (.ref d)) Q E s:=by
 let I:s.TypeIs (.ref d) "dict":=(o,ho,hc.1);show wpAny_pyIter_slot I F.slot_dict_iter (Yr F.slot_dict_iter I F.entry_dict_iter ?_ (F.args_dict_iter_1 _));unfold Builtin.«dict.__iter__»;show UL ?_;unfold Builtin.Dict.dictSlotNone;show UL (wpAny_notOrdered_dict I ?_);change Vi _ _ (pure (Vd d)) _ _ s;show Vq ?_;change Vi _ _ (abo d>>=_) _ _ s;unfold abo;rw[ifn (by rw[hd];show Ur)];show UL (Vq ?_);show UL (aam ho ab ?_);show UL (abe ho ab ?_);show UL (aal (Vq (_,Y,"dict_keyiterator",_,(_,U5 _ rfl,Y),V3.lookup,?_)));simpa [rawInt]using hQ
def zt{od:W2}{es:Array YS}{en:YS}{Q:Option Uv->UE->Prop}(I:s.heap.IsKeyIter it d i n ep)(ap:s.heap.get? d=Up od)(ab:od.data=.dict es ep)(hsz:es.size=n)(hx:es[i]?=Up en)(hQ:∀h',h'.IsKeyIter it d (i+1) n ep->Ys it s.heap h'->Q (Up en.key) {s with heap:=h'}):wpAny (U_ prog w) A (pyNext (.ref it)) Q E s:=by
 let(o,ho,hc,hd):=id I;unfold pyNext;show wpAny_bind (ab4 (aaI (name:=Uy "__next__") I.typeIs V3
  (Yr V3 I.typeIs ZF ?_ (Zr _))))
 show wpAny_bind (wpAny_pure ?_);show wpAny_bind ?_;show wpAny_bind ?_
 first|show wpAny_bind (wpAny_typeNameOfWhole_keyiter I.typeIs (wpAny_pure ?_))|show wpAny_bind (wpAny_typeNameOf_keyiter I.typeIs (wpAny_pure ?_))
 show wpAny_bind (wpAny_fieldsOf ho hd ?_);let a0:ZM "dict_keyiterator"=false:=()
 simp only[a0,UA,if_false];change wpAny _ _ (if(Vd d==WL)=UB then _ else _) _ _ s;rw[ifn (show¬((Vd d==WL)=UB)from Ur)];show wpAny_bind (wpAny_pure ?_);show wpAny_bind (aam ap ab ?_);rw[ifn (by rw[hsz];simp)];show wpAny_bind (wpAny_pure ?_);show wpAny_bind (abe ap ab ?_);rw[ifn (by simp)];show wpAny_pure ?_;let(av,ar):=WB.mp hx;simp only[show¬((i:Int)<0)from ⋯,if_false,Int.toNat_natCast,Array.getElem?_eq_getElem av];show wpAny_bind ?_
 first|show wpAny_bind (wpAny_typeNameOfWhole_keyiter I.typeIs (wpAny_pure ?_))|show wpAny_bind (wpAny_typeNameOf_keyiter I.typeIs (wpAny_pure ?_))
 show wpAny_bind (wpAny_isOneOf_keyiter I.typeIs ?_);change wpAny _ _ (setField (.ref it) 1 (rawInt ((i:Int)+1))>>=_) _ _ s;show wpAny_bind (abz ho hd (by simp) ?_);let an:(s.heap.update it (YB (·.setIfInBounds 1 (rawInt ((i:Int)+1))))).IsKeyIter it d (i+1) n ep:=
  (_,Xm _ ho (Zi (XX hd _)),(acF ..).trans hc,by rw[XX hd];simp [rawInt])
 show wpAny_bind (aaw ?_);show wpAny_bind (wpAny_isOneOf_keyiter (s:={s with heap:=s.heap.update it (YB (·.setIfInBounds 1 (rawInt ((i:Int)+1))))}) an.typeIs ?_);change wpAny _ _ (pure es[i].key) _ _ _;rw[ar];show wpAny_pure (wpAny_pure (_,rfl,wpAny_pure (hQ _ an (abU ..))))
def rE{od:W2}{es:Array YS}(hh:A.handled=none)(I:s.heap.IsKeyIter it d i n ep)(an:s.heap.get? d=Up od)(ab:od.data=.dict es ep)(hsz:es.size=n)(ap:n<=i)(hQ:∀h',Heap.ExtBut it s.heap h'->Q none {s with heap:=h'}):wpAny (U_ prog w) A (pyNext (.ref it)) Q E s:=by
 let(o,ho,hc,hd):=id I;unfold pyNext;show wpAny_bind (ab4 (aaI (name:=Uy "__next__") I.typeIs V3
  (Yr V3 I.typeIs ZF ?_ (Zr _))))
 show wpAny_bind (wpAny_pure ?_);show wpAny_bind ?_;show wpAny_bind ?_
 first|show wpAny_bind (wpAny_typeNameOfWhole_keyiter I.typeIs (wpAny_pure ?_))|show wpAny_bind (wpAny_typeNameOf_keyiter I.typeIs (wpAny_pure ?_))
 show wpAny_bind (wpAny_fieldsOf ho hd ?_);let av:ZM "dict_keyiterator"=false:=()
 simp only[av,UA,if_false];change wpAny _ _ (if(Vd d==WL)=UB then _ else _) _ _ s;rw[ifn (show¬((Vd d==WL)=UB)from Ur)];show wpAny_bind (wpAny_pure ?_);show wpAny_bind (aam an ab ?_);rw[ifn (by rw[hsz];simp)];show wpAny_bind (wpAny_pure ?_);show wpAny_bind (abe an ab ?_);rw[ifn (by simp)];show wpAny_pure ?_;let ar:es.size<=i:=by rw[hsz];show ap
 simp only[show¬((i:Int)<0)from ⋯,if_false,Zf,abb ar];show wpAny_bind ?_
 first|show wpAny_bind (wpAny_typeNameOfWhole_keyiter I.typeIs (wpAny_pure ?_))|show wpAny_bind (wpAny_typeNameOf_keyiter I.typeIs (wpAny_pure ?_))
 change wpAny _ _ (setField (.ref it) 0 .none>>=_) _ _ s;show wpAny_bind (wpAny_setField ho hd (by simp) ?_);change wpAny _ _ (newExc (.type "StopIteration") []>>=_) _ _ _;show wpAny_bind ?_;simp only[newExc,newTuple];show wpAny_bind (wpAny_newObj_type ?_ (by size_fits));show wpAny_bind (m:=firstArgMember _ _) (wpAny_of_eq (a:=WL) (by first|rfl|(simp only[firstArgMember];rfl)) ?_);show wpAny_newObj_type ?_ (by size_fits);simp only[raiseNew];show wpAny_bind (wpAny_handled ?_);rw[show A.in1.handled=none from hh];show wpAny_bind (wpAny_pure (wpAny_throw ?_));show wpAny_bind (wpAny_isInstance (T:="StopIteration") (b:=UB) (_,U5 _ rfl,rfl) isSubtype_stop ?_);show wpAny_pure (hQ _ (((abU ..).extBut.push _).push _))
end
def Qz{κ:Type}{Z:List (κ×V)}{vs:List (κ×Uv)}(h:KV Z vs):∀{i:Nat}{k:κ}{v:V},Z[i]?=Up (k,v)->∃u,vs[i]?=Up (k,u)/\bQ v u:=by
 unfold KV at h
 induction h with
 |nil=>intro i k v e;simp at e
 |@cons a b l₁ l₂ r t I=>
  intro i k v e;cases i with
  |zero=>
   simp only[YW,acL]at e;subst e;show(b.2,?_,r.2);simp only[YW];show congrArg Up (Prod.ext r.1.symm rfl)
  |succ j=>
   simp only[aaW]at e⊢;show I e
def Hl{β an:Type}{ab:β->an->Prop}{I:List β}{α:List an}(h:Paired ab I α):∀{i:Nat}{a:β},I[i]?=Up a->∃b,α[i]?=Up b/\ab a b:=by
 induction h with
 |nil=>intro i a e;simp at e
 |@cons a b I α r t ih=>
  intro i a' e;cases i with
  |zero=>
   simp only[YW,acL]at e;subst e;show(b,Y,r)
  |succ j=>
   simp only[aaW]at e⊢;show ih e
def LN(h:uv k u=UB):bQ (kV k) u:=by
 rcases dc h with⟨i,t,rfl,rfl⟩|⟨x,t,rfl,rfl⟩
 .show(t,Y)
 .show(t,Y)
section
variable {X:Cx} {O:List (Addr×Obj)} {D:St} {H:Hp} {s:Shared} {d:Addr} {o:Obj}
def aZ.frzK{Z:List (bT×V)}(an:aZ X O D H s)(h:H d=Up (.frz o (.dK Z))):
  (d==WY)=UF/\s.heap.get? d=Up o/\o.ExactDict/\∃(es:Array YS)(ep:Nat)(vs:List (bT×Uv)),o.data=.dict es ep/\es.size=↑Z/\KV Z vs/\s.heap.DictAt (cD X.prog X.w) d vs ep:=by
 let(I,z,hs,vs,kv,o',es,ep,ho,hx,ab,r):=an.hok d _ h;rw[I]at ho;cases ho;show(hs,I,hx,es,ep,vs,ab,?_,kv,o,es,I,hx,ab,r);let l1:=↑r.2.1;let l2:↑Z=↑vs:=Paired.length kv;rw[V8]at l1;lia
def aZ.frzT{Z:List (List bT×V)}(ab:aZ X O D H s)(h:H d=Up (.frz o (.dT Z))):
  (d==WY)=UF/\s.heap.get? d=Up o/\o.ExactDict/\∃(es:Array YS)(ep:Nat),o.data=.dict es ep/\es.size=↑Z/\
   ∀(i:Nat)(k:List bT)(v:V),Z[i]?=Up (k,v)->∃(I:YS)(q:Uw),es[i]?=Up I/\I.key=.ref q/\H q=Up (.tup (k.map kV)):=by
 let(hd,z,hs,xs,pr,o',es,ep,ho,hx,an,he,_):=ab.hok d _ h;rw[hd]at ho;cases ho;show(hs,hd,hx,es,ep,an,?_,λi k v e=>?_)
 .let l1:es.size=↑xs:=size_of_entries he;let l2:↑Z=↑xs:=Paired.length pr;lia
 .let(b,hb,e1,e2,_):=Hl pr e;let q:=entry_at he i;rw[hb]at q;show(_,b.2.1,q,Y,e2)
end
def Ra(d:Uw)(o:W2)(Z:List (bT×V)):It:=
 (λi H=>H d=Up (.frz o (.dK Z))/\i<↑Z,λi H x H'=>H'=H/\∃k v,Z[i]?=Up (k,v)/\x=kV k,λi H=>H d=Up (.frz o (.dK Z))/\↑Z<=i)
def Ss(d:Uw)(o:W2)(Z:List (List bT×V)):It:=
 (λi H=>H d=Up (.frz o (.dT Z))/\i<↑Z,λi H x H'=>H'=H/\∃(k:List bT)(v:V)(q:Uw),Z[i]?=Up (k,v)/\x=.ref q/\H q=Up (.tup (k.map kV)),λi H=>H d=Up (.frz o (.dT Z))/\↑Z<=i)
def vU{o:W2}(h:o.data=.dict es ep)(h':o.data=.dict ab I):ab=es/\I=ep:=by
 rw[h]at h';cases h';show(Y,Y)
section
variable {P:Program} {w:World} {K:PySem.W.Frag} {tg:Expr} {d:Addr} {o:Obj} {es:Array DictEntry} {ep:Nat}
def Jp{Z:List (bT×V)}(it:Uw)(hod:o.data=.dict es ep):DF P w K tg (Ra d o Z) [it] it (λi h=>h.IsKeyIter it d i ↑Z ep) where
 mem:=by simp
 obj:=λi h st b hb=>by
  let e:b=it:=by simpa using hb
  subst e;let(oi,e,c,dd):=st;show(oi,e,λv z=>by rw[dd]at z;cases z)
 keep:=λi h h' st k=>st.at λoi e=>k it (by simp) oi e
 item:=by
  intro X hP hw hK hc i O s D H E I hf st hg;subst hP hw hK;let(hd,hi):=hg;let(f0,f1,f2,f3,f4,f5):=hf it (by simp);let(hs,hgd,hx,es',ep',vs,hdt,hsz,kv,hm):=I.frzK hd;let(rfl,rfl):=vU hod hdt;obtain⟨⟨k,v⟩,hkv⟩:∃p,Z[i]?=Up p:=(Z[i],UC hi);let(u,hu,ru):=Qz kv hkv;let hl:↑Z=↑vs:=Paired.length kv;rw[hl]at st;show wpAny_pyNext_dict_item st hm hu λkey h' hkey st' sb=>?_
  let I1:aZ X O D H {s with heap:=h'}:=I.turned (t':=s.toks) (λb ob hb e=>(sb.2 b hb).trans e) f0 f1 f3 f4 f5;let(oi,e,c,dd):=id st';show(key,Y,xE (s:={s with heap:=h'}) e c dd () (kV k,H,I1,LN (show uv k key=UB from hkey),(Y,k,v,hkv,Y),?_,λb hb=>(hf b hb).1));change h'.IsKeyIter it d (i+1) ↑Z _;rw[hl];show st'
 done:=by
  intro X hP hw hK hc i O s D H E I hf st hg;subst hP hw hK;let(hd,hi):=hg;let(f0,f1,f2,f3,f4,f5):=hf it (by simp);let(hs,hgd,hx,es',ep',vs,hdt,hsz,kv,hm):=I.frzK hd;let(rfl,rfl):=vU hod hdt;show rE (I.ok.hd hc) st hgd hdt hsz hi λh' eb=>(Y,I.turned (t':=s.toks) (λb ob hb e=>eb b ob hb e) f0 f1 f3 f4 f5)
 self:=λA i s Q E st h=>wpAny_pyIter_keyiter st h
def Gj{Z:List (List bT×V)}(it:Uw)(hod:o.data=.dict es ep):DF P w K tg (Ss d o Z) [it] it (λi h=>h.IsKeyIter it d i ↑Z ep) where
 mem:=by simp
 obj:=λi h st b hb=>by
  let e:b=it:=by simpa using hb
  subst e;let(oi,e,c,dd):=st;show(oi,e,λv z=>by rw[dd]at z;cases z)
 keep:=λi h h' st k=>st.at λoi e=>k it (by simp) oi e
 item:=by
  intro X hP hw hK hc i O s D H E I hf st hg;subst hP hw hK;let(hd,hi):=hg;let(f0,f1,f2,f3,f4,f5):=hf it (by simp);let(hs,hgd,hx,es',ep',hdt,hsz,ent):=I.frzT hd;let(rfl,rfl):=vU hod hdt;obtain⟨⟨k,v⟩,hkv⟩:∃p,Z[i]?=Up p:=(Z[i],UC hi);let(en,q,hen,hkey,hq):=ent i k v hkv;show zt st hgd hdt hsz hen λh' st' sb=>?_
  let I1:aZ X O D H {s with heap:=h'}:=I.turned (t':=s.toks) (λb ob hb e=>(sb.2 b hb).trans e) f0 f1 f3 f4 f5;let(oi,e,c,dd):=id st';show(en.key,Y,xE (s:={s with heap:=h'}) e c dd () (.ref q,H,I1,hkey,(Y,k,v,q,hkv,Y,hq),st',λb hb=>(hf b hb).1))
 done:=by
  intro X hP hw hK hc i O s D H E I hf st hg;subst hP hw hK;let(hd,hi):=hg;let(f0,f1,f2,f3,f4,f5):=hf it (by simp);let(hs,hgd,hx,es',ep',hdt,hsz,ent):=I.frzT hd;let(rfl,rfl):=vU hod hdt;show rE (I.ok.hd hc) st hgd hdt hsz hi λh' eb=>(Y,I.turned (t':=s.toks) (λb ob hb e=>eb b ob hb e) f0 f1 f3 f4 f5)
 self:=λA i s Q E st h=>by
  show wpAny_pyIter_slot st.typeIs ZL (Yr ZL st.typeIs F.entry_dict_keyiterator_iter ?_ (F.args_dict_keyiterator_iter_1 _));change Vi _ _ (ret (.ref it)) _ _ s;show Vq (_,Y,"dict_keyiterator",_,st.typeIs,V3.lookup,h)
end
inductive QL(R:It->Hp->Prop)(x:V)(a:Hp):Prop|mk(d o:_)(_:x=.ref d)(_:(∃kvs,a d=some (.frz o (.dK kvs))/\R (Ra d o kvs) a)\/ ∃kvs,a d=some (.frz o (.dT kvs))/\R (Ss d o kvs) a)
def MB(td:TE):TI:=λD H R=>td D H (QL R)
section
variable {X:Cx} {tg e:Expr} {td:TE} {apos cpos:Pos}
def B6(he:PE X e td):PI X tg e (MB td):=by
 intro O s D H R an h;show cW (he O s D H _ an h) λu s1 (x,H1,I1,rx,d,o,ex,q)=>?_
 subst ex;obtain rfl:u=Vd d:=rx;rcases q with⟨Z,hd,q⟩|⟨Z,hd,q⟩
 .let(hs,ab,hx,es,ep,vs,I,hsz,kv,hm):=I1.frzK hd;show AB hs ab hx I (wT (tk:=s1.toks) I1 _ (Jp _ I) (_,U5 _ rfl,Y,?_) q);rw[hsz]<;>rfl
 .let(hs,ab,hx,es,ep,I,hsz,ap):=I1.frzT hd;show AB hs ab hx I (wT (tk:=s1.toks) I1 _ (Gj _ I) (_,U5 _ rfl,Y,?_) q);rw[hsz]<;>rfl
end
def li:∀{ys:List Vp}{us:List Uv},bq (ys.map V.str) us->StrsAre us ys
 |[],_,.nil=>.nil
 |y::ys,_,.cons r t=>by
  let(k,rfl):=r;show .cons y k (li t)
section
variable {X:Cx}
def Od:OL X "str.join" (λx xs H Q=>∃a p,∃ys:List Vp,x=.str a/\xs=[.ref p]/\(bx X.K H p (ys.map V.str)\/gK X.K H p (ys.map V.str))/\
  (ys.map (·.length)).sum+↑ys*↑a<=16777216/\Q (.str (aaQ a ys)) H):=by
 intro O s D H x xs v us Q ab rx rs h;let(a,p,ys,rfl,rfl,I,hz,h):=h;let(t,rfl):=rx;cases rs with
 |cons r1 rs=>
  cases rs;cases r1;rcases I with I|I
  .let(an,r,(o,n,ho,hc,_,hd),_):=ab.list I;show PyProof.Rows.join_list (items:=an.toArray) (o,ho,hc,n,hd) (by rw[abZ];show li r) hz λt' k=>(.str _,H,ab.tok k,(t',Y),h)
  .let(an,r,ht,_):=ab.tuple I;show PyProof.Rows.join_tuple (items:=an.toArray) ht (by rw[abZ];show li r) hz λt' k=>(.str _,H,ab.tok k,(t',Y),h)
end
section
variable {X:Cx} {o e:Expr} {to te:TE}
inductive SV(r:V->List V->Hp->VK->Prop)(b:TE)(c:St)(Q:VK)(x:V)(d:Hp):Prop|mk(_:∃a,x=.str a)(_:b c d fun y H2=>r x [y] H2 Q)
def Rh(r:V->List V->Hp->VK->Prop)(to te:TE):TE:=λD H Q=>to D H (SV r te D Q)
def RH{id:String}{apos G:Pos}(ar:Slot "str" name id)(ty:typeOf (.builtin id)=pure (.type "method_descriptor"))(rule:OL X id r)(ho:PE X o to)(he:PE X e te)(hs:Vt [e] X.env=[(UF,Xq e X.env)]:=by rfl)(an:X9 o name X.env (Xq o X.env)=Xq o X.env:=by rfl)(ap:(apos.endLine==G.line)=UB:=by rfl):
  PE X (.Call (.Attribute o name apos) [e] [] G) (Rh r to te):=by
 intro O s D H Q ab h;show PySem.Call_method1 an hs ap (cW (ho O s D H _ ab h) λv s1 (x,H1,I1,r1,I)=>?_);let((a,rfl),I):=I;let(t,rfl):=_root_.id r1;show("str",_,abV,ar,ty,acf _ _ _,(λ_ e=>nomatch e),W_ rfl (Yo (XZ ?_)));show cW (he O s1 D H1 _ I1 I) λu s2 (y,H2,I2,r2,q2)=>Y8 (rule O s2 D H2 _ [y] _ [u] Q I2 r1 (.cons r2 .nil) q2)
def jy{apos G:Pos}(ho:PE X o to)(he:PE X e te)(hs:Vt [e] X.env=[(UF,Xq e X.env)]:=by rfl)(I:X9 o "join" X.env (Xq o X.env)=Xq o X.env:=by rfl)(ab:(apos.endLine==G.line)=UB:=by rfl):
  PE X (.Call (.Attribute o "join" apos) [e] [] G) (Rh (λx xs H Q=>∃a p,∃ys:List Vp,x=.str a/\xs=[.ref p]/\(bx X.K H p (ys.map V.str)\/gK X.K H p (ys.map V.str))/\
   (ys.map (·.length)).sum+↑ys*↑a<=16777216/\Q (.str (aaQ a ys)) H) to te):=
 RH F.slot_str_join F.type_str_join Od ho he hs I ab
end
section
variable {X:Cx}
def i7:pX X (V0 .In) (λx y H Q=>∃(c:Nat)(z:Vp),x=.str ⟨#[c]⟩/\y=.str z/\Q (.bl (decide (c∈z.cps.toList))) H):=by
 intro O s D H x y v u Q I rx ry h;let(c,z,rfl,rfl,q):=h;let(t,rfl):=rx;let(t',rfl):=ry;show PyProof.Rows.in_str (cj I q (PySem.StrLaws.found_one z c).symm)
end
def IsPart.raw(p:IsPart v o):∃l:Option (Int×Tok),v=partValue l/\l.map (·.1)=o:=by
 cases p with
 |none=>show(UH,Y,Y)
 |int i t=>show(Up (i,t),Y,Y)
def FM(n d:Nat):Option Int->Int
 |none=>(d:Int)
 |some i=>max 0 (min (if i<0 then i+(n:Int)else i) (n:Int))
def FL(n d:Nat)(o:Option Int):FM n d o=((HT.sIx n d o:Nat):Int):=by
 cases o with
 |none=>rfl
 |some v=>
  change max (0:Int) (min (if v<0 then v+(n:Int)else v) (n:Int))=(((if v<0 then(v+(n:Int)).toNat else min v.toNat n):Nat):Int);by_cases I:v<0
  .simp only[ifp I];lia
  .simp only[ifn I];lia
def JM(a b:Option Int)(n:Nat):VG a b 1 n=sliceRange (FM n 0 a) (FM n n b) 1:=by
 let h1:((1:Int)>0)=True:=by simp
 cases a<;>cases b<;>first
  |rfl
  |(simp only[VG,FM,h1,if_true];rfl)
  |simp [VG,FM]
def Tc(a b:Option Int)(n:Nat):VG a b 1 n=(W0 (HT.sIx n n b-HT.sIx n 0 a)).map (λk=>HT.sIx n 0 a+k):=by
 rw[JM,FL,FL];generalize HT.sIx n 0 a=p;generalize HT.sIx n n b=q;simp only[sliceRange,show((1:Int)>0)=True from by simp,if_true];by_cases I:(p:Int)<q
 .let e3:(((q:Int)-p+1-1)/1).toNat=q-p:=by rw[Int.ediv_one,Int.add_sub_cancel,Int.toNat_sub]
  simp only[I,if_true,e3];show WD λk _=>?_
  rw[Int.one_mul];rfl
 .have:q-p=0:=Nat.sub_eq_zero_of_le (Int.ofNat_le.mp (Int.not_lt.mp I))
  simp [I,this]
def KE(z:Vp)(lo hi:Option Int):Vp:=
 ⟨((z.cps.toList.drop (HT.sIx ↑z 0 lo)).take (HT.sIx ↑z ↑z hi-HT.sIx ↑z 0 lo)).toArray⟩
def pJ(z:Vp)(lo hi:Option Int):Wq z lo hi=KE z lo hi:=by
 let h1:HT.sIx ↑z 0 lo<=↑z:=HT.sIx_le _ _ (VN _) _;let h2:HT.sIx ↑z ↑z hi<=↑z:=HT.sIx_le _ _ (UD _) _;let hp:HT.sIx ↑z 0 lo<=max (HT.sIx ↑z 0 lo) (HT.sIx ↑z ↑z hi):=Nat.le_max_left _ _;let hq:max (HT.sIx ↑z 0 lo) (HT.sIx ↑z ↑z hi)<=↑z:=Nat.max_le.mpr (h1,h2);let I:max (HT.sIx ↑z 0 lo) (HT.sIx ↑z ↑z hi)-HT.sIx ↑z 0 lo=HT.sIx ↑z ↑z hi-HT.sIx ↑z 0 lo:=(Nat.le_total (HT.sIx ↑z 0 lo) (HT.sIx ↑z ↑z hi)).elim (λc=>by rw[Nat.max_eq_right c]) λc=>by rw[Nat.max_eq_left c,Nat.sub_self,Nat.sub_eq_zero_of_le c]
 let e:VG lo hi 1 ↑z=
   VG (Up ((HT.sIx ↑z 0 lo:Nat):Int)) (Up ((max (HT.sIx ↑z 0 lo) (HT.sIx ↑z ↑z hi):Nat):Int)) 1 ↑z:=by
  rw[PySem.StrLaws.strSliceIndices_plain hp hq,I,Tc]
 let e2:Wq z lo hi=
   Wq z (Up ((HT.sIx ↑z 0 lo:Nat):Int)) (Up ((max (HT.sIx ↑z 0 lo) (HT.sIx ↑z ↑z hi):Nat):Int)):=by
  unfold Wq;rw[e]
 rw[e2,PySem.StrLaws.sliceText_nat z hp hq,I]
 rfl
def FJ(z:Vp)(lo hi:Option Int):↑(KE z lo hi)<=↑z:=by
 change(((z.cps.toList.drop (HT.sIx ↑z 0 lo)).take (HT.sIx ↑z ↑z hi-HT.sIx ↑z 0 lo)).toArray).size<=z.cps.size;rw[UX,VL,Vx,V8];show Nat.le_trans (Nat.min_le_right _ _) (Nat.sub_le _ _)
inductive Ti(x:V)(a b:Option Int)(H:Hp)(Q:VK):Prop|mk(z:_)(_:x=.str z)(_:z.length<=sizeLine)(_:Q (.str (KE z a b)) H)
def By{X:Cx}:TR X Ti:=by
 intro O s D H x v vl vu lo hi sl Q ab rx hs pl pu h;let(z,rfl,hz,q):=h;let(t,rfl):=rx;let(os,ar,an,ap):=hs;let(l,rfl,rfl):=IsPart.raw pl;let(u,rfl,rfl):=IsPart.raw pu;show("str",_,F.slot_str_getitem.lookup,acf _ _ _,?_);show wpAny_getItem_str_slice (l:=l) (u:=u) (st:=UH) (os,ar,an,ap) rfl ?_;let I:↑(Wq z (l.map (·.1)) (u.map (·.1)))<=U1:=by
  rw[pJ];show Vm (FJ z _ _) hz
 rw[<-pJ]at q;unfold Wq at q I;change Made.post (if((1:Int)==1&&↑(VG (l.map (·.1)) (u.map (·.1)) 1 ↑z)==↑z)=UB then Made.val (.str z t)
  else Made.str ⟨((VG (l.map (·.1)) (u.map (·.1)) 1 ↑z).filterMap (z.cps[·]?)).toArray⟩) (EP X O D Q) s
 by_cases c:((1:Int)==1&&↑(VG (l.map (·.1)) (u.map (·.1)) 1 ↑z)==↑z)=UB
 .rw[ifp c]at q⊢;show(.str z,H,ab,(t,Y),q)
 .rw[ifn c]at q I⊢;show(I,.str _,H,ab.tok _,(_,Y),q)
abbrev cH:F6:=λ_ _ _ _ _ _=>False
abbrev E0:XK:=λ_ _ _=>False
def aq{X:Cx}:gf cH X E0:=λ_ _ _ _ _ _ _ h=>h.elim
section
variable {P:Program} {w:World} {K:PySem.W.Frag} {U:Str->Option Value} {W:Heap}
def ON.ok{st:Vs}{N ps:List Vp}{sp:Sp}(F:ON K x ap st f fd)(S:fJ N ps (aP st))(len:∀vs H Q E,sp vs H Q E->↑vs=↑ps)(ar:∀(I:Uv)(A:VU)(ab:List Env)(s:UE)(H:Hp)(vs:List V)(Q:VK)(E:XK),Room k (A.deeper (YK ap (aP st) s.heap.objs.size f I))->sp vs H Q E->
   ∃t,yw (jt cH P w K U W N ap (aP st) f I A ab s H E).nox (dY st) t/\t {nx:=λ_ H'=>Q .non H',rt:=Q} (start N vs) H):ku P w K U W cH (k+1) f fd ps sp:=by
 let(oc,od,kV,a1,pm,an,I,ct,a2,rfl,lk,av):=F.ex;show MI lk av S len λA ab s H vs Q E hr a0=>?_
 let(t,h,q):=ar I A ab s H vs Q E hr a0;show(t,h.nox,q)
end
def fw{A:VU}(I:Room k A):A.units+1<Zh:=aae (Nat.add_le_add_left (by decide:1<=64) _) I.units
section
variable {X:Cx}
def pv(i:Nat){G:Pos}(I:X.N[i]?=Up x:=by rfl)(hv:Q9 X.env.scope x:=by first|show UT rfl|show adV (UT rfl)|show adV (adV rfl))(hd:(x==("__debug__":Str))=false:=by decide)(ab:(x==("__classdict__":Str))=false:=by decide):PE X (.Name x G) (bJ i):=Qs I hv hd ab
def KJ:iL X (.builtin "len") (λxs H Q=>∃a Z,xs=[V.ref a]/\H a=Up (.dK Z)/\Q (.int ↑Z) H):=by
 intro O s D H xs us Q I r h;let(a,Z,rfl,ha,q):=h;let(u,rfl,ru):=Ae r;cases ru;show Sh I (.inl ha) λt s' I'=>(.int ↑Z,H,I',(t,Y),q)
end
def be{A B:Prop}(h:B):if UF=UB then A else B:=by
 rw[ifn Ur];show h
def bf{A B:Prop}(h:A):if UB=UB then A else B:=by
 rw[ifp rfl];show h
def fi(H H':Hp):Prop:=∀b o,H b=Up o->H' b=Up o
def fi.free{H H':Hp}(e:fi H H')(h:H' l=UH):H l=UH:=by
 cases q:H l with
 |none=>rfl
 |some o=>
  rw[e l o q]at h;cases h
def fi.seq{K:UN}(e:fi H H')(h:bx K H a xs):bx K H' a xs:=by
 rcases h with(h|⟨o,h⟩)|h
 .show .inl (.inl (e _ _ h))
 .show .inl (.inr (o,e _ _ h))
 .show .inr h
section
variable {κ:Type} [DecidableEq κ]
def Nb{Z:List (κ×V)}(h:cI Z k=Up v):k∈Z.map (·.1):=by
 let q:(Z.any λkv=>decide (kv.1=k))=UB:=by
  rw[ig,h]
  all_goals rfl
 let(p,I,e):=Zu.mp q;show U6.mpr (p,I,of_decide_eq_true e)
def Kz{p:κ×V}(e:p.1=k):fL (p::r) k=fL r k:=by
 unfold fL;rw[V7,ifn (by simp [e])]
def KA{p:κ×V}(e:¬p.1=k):fL (p::r) k=p::fL r k:=by
 unfold fL;rw[V7,ifp (by simp [e])]
end
def OY{I:Type}{l:List I}(hN:l.Nodup){i j:Nat}{x:I}(a:l[i]?=Up x)(b:l[j]?=Up x):i=j:=by
 let(h1,α):=UO.mp a;let(h2,e2):=UO.mp b;show(ac9 hN).mp (α.trans e2.symm)
end L2
section
namespace L2
open PySem PySem.Spec PyProof.Rows
open PySem.W (WData Codec OpenSpec Well WellAll ReadsW ReadsAllW)
mutual
inductive Dw (K:PySem.W.Frag) (H:Hp):V->WData->Prop
 |non:Dw K H .non .none
 |bl (b:Bool):Dw K H (.bl b) (.bool b)
 |int (i:Int):Dw K H (.int i) (.int i)
 |str (x:Str):Dw K H (.str x) (.str x)
 |byt (b:Array UInt8):Dw K H (.byt b) (.bytes b.toList)
 |lst {a:Addr} {xs:List V} {ds:List WData}:bx K H a xs->mT K H xs ds->Dw K H (.ref a) (.list ds)
 |tup {a:Addr} {xs:List V} {ds:List WData}:gK K H a xs->mT K H xs ds->Dw K H (.ref a) (.tuple ds)
inductive mT (K:PySem.W.Frag) (H:Hp):List V->List WData->Prop
 |nil:mT K H [] []
 |cons {v:V} {vs:List V} {d:WData} {ds:List WData}:Dw K H v d->mT K H vs ds->mT K H (v::vs) (d::ds)
end
def OB{K:UN}:∀D:List Int,mT K H (D.map V.int) (D.map WData.int)
 |[]=>.nil
 |n::r=>.cons (.int n) (OB r)
def Ou{K:UN}:∀(D:List Int)(xs:List V),mT K H xs (D.map WData.int)->xs=D.map V.int
 |[],xs,h=>by
  cases h
  rfl
 |n::r,xs,h=>by
  cases h with
  |cons E h2=>
   cases E;rw[Ou r _ h2]<;>rfl
section
variable {P:Program} {w:World} {K:PySem.W.Frag} {H:Hp} {h:Heap} {R:PySem.W.WRecords} {cl:Str->Option Addr}
def PQ(U:kt P w H h)(G:K.In h)(q:bx K H a xs):∃(D:List Uv)(o:W2)(n:Nat),bq xs D/\h.get? a=Up o/\o.cls=.type "list"/\o.data=.seq D.toArray n:=by
 rcases q with q|⟨o,D,n,e,I,_,O,_,E⟩
 .let(_,D,n,E,e):=(show cP P w H h a (.lst xs)from q.ok U);show(D,_,n,E,e,Y,Y)
 .show(D.toList,o,n,E,G _ _ e,I,by simp [O])
def PP(U:kt P w H h)(O:K.In h)(q:gK K H a xs):∃(D:List Uv)(o:W2)(n:Nat),bq xs D/\h.get? a=Up o/\o.cls=.type "tuple"/\o.data=.seq D.toArray n:=by
 rcases q with q|⟨o,D,n,e,E,G,_,I⟩
 .let(_,D,I,o,e,E,n,G):=(show cP P w H h a (.tup xs)from q.ok U);show(D,o,n,I,e,E,G)
 .show(D.toList,o,n,I,O _ _ e,E,by simp [G])
mutual
theorem Dw.reads (hok:kt P w H h) (KX:K.In h): ∀(d:WData) (v:V) (u:Value),Dw K H v d->bQ v u-> ∃as,ReadsW R cl h u d as
 |.none,_,_,x,r=>by
  cases x;cases r;exact⟨_,ReadsW.none⟩
 |.bool b,_,_,x,r=>by
  cases x;cases r;exact⟨_,ReadsW.bool b⟩
 |.int i,_,_,x,r=>by
  cases x;obtain⟨t,rfl⟩:=r;exact⟨_,ReadsW.int i t⟩
 |.str s,_,_,x,r=>by
  cases x;obtain⟨t,rfl⟩:=r;exact⟨_,ReadsW.str s t⟩
 |.bytes b,_,_,x,r=>by
  cases x;obtain⟨t,rfl⟩:=r;exact⟨_,ReadsW.bytes _ t⟩
 |.list ds,_,_,x,r=>by
  cases x with
  |lst hs ha=>
   cases r;obtain⟨its,o,n,rv,ho,hc,hd⟩:=PQ hok KX hs;obtain⟨as,hr⟩:=Dw.readsAll hok KX ds _ its ha rv;exact⟨_,ReadsW.list ho hc hd hr⟩
 |.tuple ds,_,_,x,r=>by
  cases x with
  |tup hs ha=>
   cases r;obtain⟨its,o,n,rv,ho,hc,hd⟩:=PP hok KX hs;obtain⟨as,hr⟩:=Dw.readsAll hok KX ds _ its ha rv;exact⟨_,ReadsW.tuple ho hc hd hr⟩
 |.float _,_,_,x,_=>by cases x
 |.dict _,_,_,x,_=>by cases x
 |.bytearray _,_,_,x,_=>by cases x
 |.set _,_,_,x,_=>by cases x
 |.frozenset _,_,_,x,_=>by cases x
 |.obj _ _,_,_,x,_=>by cases x
theorem Dw.readsAll (hok:kt P w H h) (KX:K.In h): ∀(ds:List WData) (vs:List V) (us:List Value),mT K H vs ds->bq vs us-> ∃as,ReadsAllW R cl h us ds as
 |[],_,_,x,r=>by
  cases x;cases r;exact⟨_,ReadsAllW.nil⟩
 |d::ds,_,_,x,r=>by
  cases x with
  |cons h1 h2=>
   cases r with
   |cons r1 r2=>
    obtain⟨as,q1⟩:=Dw.reads hok KX d _ _ h1 r1;obtain⟨bs,q2⟩:=Dw.readsAll hok KX ds _ _ h2 r2;exact⟨_,ReadsAllW.cons q1 q2⟩
end
end
mutual
def IH:WData->Bool
 |.none=>true
 |.bool _=>true
 |.int _=>true
 |.str _=>true
 |.bytes _=>true
 |.list xs=>uR xs
 |.tuple xs=>uR xs
 |_=>false
def uR:List WData->Bool
 |[]=>true
 |x::r=>IH x&&uR r
end
def Ez{f:D->WData}(h:∀a,IH (f a)=UB):∀l:List D,uR (l.map f)=UB
 |[]=>rfl
 |x::r=>by
  change(IH (f x)&&uR (r.map f))=UB;rw[h x,Ez h r]<;>rfl
def nJ:∀(c:Codec)(a:c.denote),IH (c.enc a)=UB
 |.unit,_=>rfl
 |.bool,_=>rfl
 |.int _ _,_=>rfl
 |.nat _ _,_=>rfl
 |.u8,_=>rfl
 |.bytes _ _,_=>rfl
 |.text _ _ _ _,_=>rfl
 |.list _ _ c,a=>Ez (λx=>nJ c x) a
 |.pair c d,a=>by
  change(IH (c.enc a.1)&&(IH (d.enc a.2)&&UB))=UB;rw[nJ c a.1,nJ d a.2]<;>rfl
 |.triple c d e,a=>by
  change(IH (c.enc a.1)&&(IH (d.enc a.2.1)&&(IH (e.enc a.2.2)&&UB)))=UB;rw[nJ c a.1,nJ d a.2.1,nJ e a.2.2]<;>rfl
 |.option c,none=>rfl
 |.option c,some x=>nJ c x
def Am:∀(D:List Codec)(a:Codec.denoteAll D),uR (Codec.encAll D a)=UB
 |[],_=>rfl
 |c::D,a=>by
  change(IH (c.enc a.1)&&uR (Codec.encAll D a.2))=UB;rw[nJ c a.1,Am D a.2]<;>rfl
def p_:∀{xs:List WData}{d:WData},d∈xs->d.weight<=WData.weightAll xs
 |[],d,h=>absurd h (by simp)
 |x::r,d,h=>by
  change d.weight<=x.weight+1+WData.weightAll r;rcases UP.mp h with e|m
  .rw[e];lia
  .let z:=p_ m;lia
def DY:Uv->V
 |.none=>.non
 |.bool b=>.bl b
 |.int i _=>.int i
 |.str x _=>.str x
 |.bytes b _=>.byt b
 |.ref a=>.ref a
 |_=>.non
def KY(A:List Uw):Uv->Prop
 |.none=>True
 |.bool _=>True
 |.int _ _=>True
 |.str _ _=>True
 |.bytes _ _=>True
 |.ref a=>a∈A
 |_=>False
def KY.mono(h:∀a∈A,a∈B):∀{u:Uv},KY A u->KY B u:=λ{u}x=>by
 cases u with
 |ref a=>show h a x
 |none=>trivial
 |bool b=>trivial
 |int i t=>trivial
 |str s t=>trivial
 |bytes b t=>trivial
 |_=>show VI x
def LL(x:KY A u):bQ (DY u) u:=by
 cases u with
 |ref a=>rfl
 |none=>rfl
 |bool b=>rfl
 |int i t=>show(t,Y)
 |str s t=>show(t,Y)
 |bytes b t=>show(t,Y)
 |_=>show VI x
def kx:∀{vs:List Uv},(∀u∈vs,KY A u)->bq (vs.map DY) vs
 |[],_=>.nil
 |u::r,h=>.cons (LL (h u (UU ..))) (kx λx D=>h x (UR _ D))
def mU(h:Heap)(A:List Uw)(a:Uw):Prop:=∃vs:List Uv,↑vs<=U1/\(∀u∈vs,KY A u)/\
 (h.get? a=Up {cls:=.type "list",data:=.seq vs.toArray}\/h.get? a=Up {cls:=.type "tuple",data:=.seq vs.toArray})
def mU.mono(k:∀a∈A,a∈B)(x:mU h A a):mU h B a:=by
 let(vs,D,h2,E):=x;show(vs,D,λu G=>(h2 u G).mono k,E)
def ju{P:Params}:∀{vs:List Uv}{D:List WData},WellAll P h vs D->↑vs=↑D
 |_,_,.nil=>rfl
 |_,_,.cons _ b=>by
  change _+1=_+1;rw[ju b]
def Ab{P:Params}{h:Heap}(x:Well P h v (.list D)):∃(a:Uw)(vs:List Uv),v=.ref a/\h.get? a=Up {cls:=.type "list",data:=.seq vs.toArray}/\WellAll P h vs D:=by
 cases x with
 |list G E=>show(_,_,Y,G,E)
def v0{P:Params}{h:Heap}(x:Well P h v (.tuple D)):∃(a:Uw)(vs:List Uv),v=.ref a/\h.get? a=Up {cls:=.type "tuple",data:=.seq vs.toArray}/\WellAll P h vs D:=by
 cases x with
 |tuple G E=>show(_,_,Y,G,E)
def Ac{P:Params}(x:WellAll P h us (d::D)):∃(v:Uv)(vs:List Uv),us=v::vs/\Well P h v d/\WellAll P h vs D:=by
 cases x with
 |cons a b=>show(_,_,Y,a,b)
def IR(h:n<=1048576):n<=U1:=Vm h ()
section
variable {P:Params} {h:Heap}
mutual
theorem MX: ∀(d:WData) (v:Value),Well P h v d->IH d=true->d.weight<=1048576-> ∃A:List Addr,KY A v/\ ∀a∈A,mU h A a
 |.none,_,x,_,_=>by
  cases x;exact⟨[],trivial,fun a m=>absurd m (by simp)⟩
 |.bool b,_,x,_,_=>by
  cases x;exact⟨[],trivial,fun a m=>absurd m (by simp)⟩
 |.int i,_,x,_,_=>by
  cases x;exact⟨[],trivial,fun a m=>absurd m (by simp)⟩
 |.str s,_,x,_,_=>by
  cases x;exact⟨[],trivial,fun a m=>absurd m (by simp)⟩
 |.bytes b,_,x,_,_=>by
  cases x;exact⟨[],trivial,fun a m=>absurd m (by simp)⟩
 |.list ds,_,x,p,z=>by
  obtain⟨a,vs,rfl,ho,hall⟩:=Ab x;have z2:WData.weightAll ds<=1048576:=z;obtain⟨A,h1,h2⟩:=si ds _ hall p fun d hd=>Nat.le_trans (p_ hd) z2
  have k: ∀b∈A,b∈a::A:=fun b hb=>List.mem_cons_of_mem _ hb
  refine⟨a::A,List.mem_cons_self ..,fun b hb=>?_⟩;rcases List.mem_cons.mp hb with e|m
  ·rw[e];exact⟨vs,IR (by rw[ju hall];exact Nat.le_trans (PySem.W.length_le_weightAllW ds) z2),fun u hu=>(h1 u hu).mono k,.inl ho⟩
  ·exact(h2 b m).mono k
 |.tuple ds,_,x,p,z=>by
  obtain⟨a,vs,rfl,ho,hall⟩:=v0 x;have z2:WData.weightAll ds<=1048576:=z;obtain⟨A,h1,h2⟩:=si ds _ hall p fun d hd=>Nat.le_trans (p_ hd) z2
  have k: ∀b∈A,b∈a::A:=fun b hb=>List.mem_cons_of_mem _ hb
  refine⟨a::A,List.mem_cons_self ..,fun b hb=>?_⟩;rcases List.mem_cons.mp hb with e|m
  ·rw[e];exact⟨vs,IR (by rw[ju hall];exact Nat.le_trans (PySem.W.length_le_weightAllW ds) z2),fun u hu=>(h1 u hu).mono k,.inr ho⟩
  ·exact(h2 b m).mono k
 |.float _,_,_,p,_=>Bool.noConfusion (show false=true from p)
 |.dict _,_,_,p,_=>Bool.noConfusion (show false=true from p)
 |.bytearray _,_,_,p,_=>Bool.noConfusion (show false=true from p)
 |.set _,_,_,p,_=>Bool.noConfusion (show false=true from p)
 |.frozenset _,_,_,p,_=>Bool.noConfusion (show false=true from p)
 |.obj _ _,_,_,p,_=>Bool.noConfusion (show false=true from p)
theorem si: ∀(ds:List WData) (vs:List Value),WellAll P h vs ds->uR ds=true->(∀d∈ds,d.weight<=1048576)-> ∃A:List Addr,(∀u∈vs,KY A u)/\ ∀a∈A,mU h A a
 |[],_,x,_,_=>by
  cases x;exact⟨[],fun u m=>absurd m (by simp),fun a m=>absurd m (by simp)⟩
 |d::ds,_,x,p,z=>by
  obtain⟨v,vs,rfl,x1,x2⟩:=Ac x;have q:IH d=true/\uR ds=true:=Bool.and_eq_true_iff.mp p;obtain⟨A,a1,a2⟩:=MX d v x1 q.1 (z d (List.mem_cons_self ..));obtain⟨B,b1,b2⟩:=si ds vs x2 q.2 fun e he=>z e (List.mem_cons_of_mem _ he)
  have kA: ∀b∈A,b∈A++B:=fun b hb=>List.mem_append.mpr (.inl hb)
  have kB: ∀b∈B,b∈A++B:=fun b hb=>List.mem_append.mpr (.inr hb)
  refine⟨A++B,fun u hu=>?_,fun b hb=>?_⟩
  ·rcases List.mem_cons.mp hu with e|m
   ·rw[e];exact a1.mono kA
   ·exact(b1 u m).mono kB
  ·rcases List.mem_append.mp hb with m|m
   ·exact(a2 b m).mono kA
   ·exact(b2 b m).mono kB
end
end
def Oy(o:W2):Option HO:=match o.data with
 |.seq vs _=>if(o.cls==Yn "list")=UB then Up (.frz o (.lst (vs.toList.map DY)))else Up (.frz o (.tup (vs.toList.map DY)))
 |_=>UH
def my(K:UN)(h:Heap)(A:List Uw):Hp:=λb=>if b∈A then(if(K.lookup b).isNone=UB then(h.get? b).bind Oy else UH)else UH
def A0(H:Hp):Prop:=∀b,H b=UH\/∃o u,H b=Up (.frz o u)
def Ft(vs:List Uv):Oy {cls:=.type "list",data:=.seq vs.toArray}=Up (.frz {cls:=.type "list",data:=.seq vs.toArray} (.lst (vs.map DY))):=by
 change(if(Yn "list"==Yn "list")=UB then Up (HO.frz {cls:=.type "list",data:=.seq vs.toArray} (.lst (vs.toArray.toList.map DY)))else Up (HO.frz {cls:=.type "list",data:=.seq vs.toArray} (.tup (vs.toArray.toList.map DY))))=_;rw[ifp (beq_self_eq_true _)]
def Fs(vs:List Uv):Oy {cls:=.type "tuple",data:=.seq vs.toArray}=Up (.frz {cls:=.type "tuple",data:=.seq vs.toArray} (.tup (vs.map DY))):=by
 change(if(Yn "tuple"==Yn "list")=UB then Up (HO.frz {cls:=.type "tuple",data:=.seq vs.toArray} (.lst (vs.toArray.toList.map DY)))else Up (HO.frz {cls:=.type "tuple",data:=.seq vs.toArray} (.tup (vs.toArray.toList.map DY))))=_;rw[ifn ()]
section
variable {P:Program} {w:World} {K:PySem.W.Frag} {h:Heap} {A:List Addr}
def vX(D:b∈A)(E:K.lookup b=none)(e:h.get? b=Up o):my K h A b=Oy o:=by
 unfold my;rw[ifp D,E,ifp (show(none:Option W2).isNone=UB from rfl),e]<;>rfl
def Oc(q:my K h A b=Up u):b∈A/\K.lookup b=UH:=by
 unfold my at q;by_cases D:b∈A
 .rw[ifp D]at q;cases E:K.lookup b with
  |none=>show(D,Y)
  |some o=>
   rw[E,ifn (by simp)]at q;cases q
 .rw[ifn D]at q;cases q
def vW(G:∀a∈A,mU h A a)(q:my K h A b=Up u):K.lookup b=UH/\∃vs:List Uv,↑vs<=U1/\(∀u∈vs,KY A u)/\
  ((h.get? b=Up {cls:=.type "list",data:=.seq vs.toArray}/\u=.frz {cls:=.type "list",data:=.seq vs.toArray} (.lst (vs.map DY)))\/
   (h.get? b=Up {cls:=.type "tuple",data:=.seq vs.toArray}/\u=.frz {cls:=.type "tuple",data:=.seq vs.toArray} (.tup (vs.map DY)))):=by
 let(D,E):=Oc q;let(vs,I,h2,O):=G b D;show(E,vs,I,h2,?_);rcases O with e|e
 .rw[vX D E e,Ft]at q;show .inl (e,(UI q).symm)
 .rw[vX D E e,Fs]at q;show .inr (e,(UI q).symm)
def KS(D:∀a∈A,mU h A a):A0 (my K h A):=λb=>by
 cases q:my K h A b with
 |none=>show .inl rfl
 |some u=>
  obtain⟨_,vs,_,_,⟨_,e⟩|⟨_,e⟩⟩:=vW D q
  .show .inr (_,_,by rw[e])
  .show .inr (_,_,by rw[e])
def OG(E:∀a∈A,mU h A a):kt P w (my K h A) h:=λb u q=>by
 obtain⟨_,vs,D,h2,⟨e,rfl⟩|⟨e,rfl⟩⟩:=vW E q
 .show(e,by rw[Uq];show D,vs,_,kx h2,e)
 .show(e,by rw[Uq];show D,vs,kx h2,_,e,Y,_,Y)
def vD{c D:Uv}{vs us:List Uv}(e:(Up {cls:=c,data:=.seq vs.toArray}:Option W2)=Up {cls:=D,data:=.seq us.toArray}):c=D/\vs=us:=by
 let E:=UI e;let G:c=D:=congrArg Obj.cls E;let I:adP vs.toArray=adP us.toArray:=congrArg Obj.data E;injection I with O;show(G,?_);let U:=congrArg Z1 O;simpa using U
def TJ(I:K.In h)(O:∀a∈A,mU h A a){vs:List Uv}(G:a∈A)(e:h.get? a=Up {cls:=.type "list",data:=.seq vs.toArray}):(∀u∈vs,KY A u)/\bx K (my K h A) a (vs.map DY):=by
 let(us,U,h2,V):=O a G;let W:us=vs:=by
  rcases V with q|q
  .rw[e]at q;show(vD q).2.symm
  .rw[e]at q;show absurd (adI (vD q).1) ()
 subst W;show(h2,?_);cases D:K.lookup a with
 |none=>show .inl (.inr (_,by rw[vX G D e,Ft]))
 |some o=>
  let E:=I a o D;rw[e]at E;obtain rfl:=UI E;show .inr (_,us.toArray,_,D,Y,Y,Y,by rw[UX];show U,by simpa using kx h2)
def TH(I:K.In h)(O:∀a∈A,mU h A a){vs:List Uv}(G:a∈A)(e:h.get? a=Up {cls:=.type "tuple",data:=.seq vs.toArray}):(∀u∈vs,KY A u)/\gK K (my K h A) a (vs.map DY):=by
 let(us,U,h2,V):=O a G;let W:us=vs:=by
  rcases V with q|q
  .rw[e]at q;show absurd (adI (vD q).1) ()
  .rw[e]at q;show(vD q).2.symm
 subst W;show(h2,?_);cases D:K.lookup a with
 |none=>show .inl (.inr (_,by rw[vX G D e,Fs]))
 |some o=>
  let E:=I a o D;rw[e]at E;obtain rfl:=UI E;show .inr (_,us.toArray,_,D,Y,Y,by rw[UX];show U,by simpa using kx h2)
mutual
theorem QS {Pm:Params} (KX:K.In h) (ar: ∀a∈A,mU h A a): ∀(d:WData) (v:Value),Well Pm h v d->IH d=true->KY A v->Dw K (my K h A) (DY v) d
 |.none,_,x,_,_=>by
  cases x;exact .non
 |.bool b,_,x,_,_=>by
  cases x;exact .bl b
 |.int i,_,x,_,_=>by
  cases x;exact .int i
 |.str s,_,x,_,_=>by
  cases x;exact .str s
 |.bytes b,_,x,_,_=>by
  cases x;have z:=Dw.byt (K:=K) (H:=my K h A) b.toArray;exact z
 |.list ds,_,x,p,hu=>by
  obtain⟨a,vs,rfl,ho,hall⟩:=Ab x;obtain⟨h2,hs⟩:=TJ KX ar hu ho;exact .lst hs (Db KX ar ds _ hall p h2)
 |.tuple ds,_,x,p,hu=>by
  obtain⟨a,vs,rfl,ho,hall⟩:=v0 x;obtain⟨h2,hs⟩:=TH KX ar hu ho;exact .tup hs (Db KX ar ds _ hall p h2)
 |.float _,_,_,p,_=>Bool.noConfusion (show false=true from p)
 |.dict _,_,_,p,_=>Bool.noConfusion (show false=true from p)
 |.bytearray _,_,_,p,_=>Bool.noConfusion (show false=true from p)
 |.set _,_,_,p,_=>Bool.noConfusion (show false=true from p)
 |.frozenset _,_,_,p,_=>Bool.noConfusion (show false=true from p)
 |.obj _ _,_,_,p,_=>Bool.noConfusion (show false=true from p)
theorem Db {Pm:Params} (KX:K.In h) (ar: ∀a∈A,mU h A a): ∀(ds:List WData) (vs:List Value),WellAll Pm h vs ds->uR ds=true->(∀u∈vs,KY A u)->mT K (my K h A) (vs.map DY) ds
 |[],_,x,_,_=>by
  cases x;exact .nil
 |d::ds,_,x,p,hu=>by
  obtain⟨v,vs,rfl,x1,x2⟩:=Ac x;have q:IH d=true/\uR ds=true:=Bool.and_eq_true_iff.mp p;exact .cons (QS KX ar d v x1 q.1 (hu _ (List.mem_cons_self ..))) (Db KX ar ds vs x2 q.2 fun u m=>hu u (List.mem_cons_of_mem _ m))
end
end
def Jx{P:Program}{w:We}{K:UN}{U mb:Vp->Option Uv}{CX:F6}{Z:List Vp}{sp:Sp}{D:UE}{E:List WData}{R:PySem.W.WRecords}(KX:K.In D.heap)(a1:D.heap.Ns Wg U)(hb:D.heap.Ns builtinsNs mb)(bl:∀x:Vp,x≠"__name__"->mb x=aa2 x)(bt:D.heap.NoLimit)(hg:D.gens=#[])(ap:WellAll w.params D.heap vals E)(a3:uR E=UB)(b1:∀d∈E,d.weight<=1048576)(hr:Room k acB)(F:∀W:Heap,K.In W->W.Ns Wg U->ku P w K U W CX k fa fd Z sp)(bm:∀(s:UE)(us:List Uv),↑us=↑Z->ads s fd (us,[]) (Z.zip us))(bs:↑E=↑Z)(b0:∀(H:Hp)(xs:List V),A0 H->mT K H xs E->sp xs H (λv H'=>Dw K H' v d0) λ_ _ _=>False)(bk:∀H e s',CX [] H D (λ_ _ _=>False) e s'->False):
  Zw (U_ P w) acB (.call (.ref fa) (vals,[])) (λr s'=>∃u as,r=.ok (.ret u)/\ReadsW R cl s'.heap u d0 as/\OldK D.heap s'.heap/\s'.os=D.os/\acK s'.gens) D:=by
 let(A,ho,I):=si E vals ap a3 b1;let hO:A0 (my K D.heap A):=KS I;let an:kt P w (my K D.heap A) D.heap:=OG I;let hS:=Db KX I E vals ap a3 ho;let hV:=kx ho;let hK:∀b u,my K D.heap A b=Up u->K.lookup b=UH:=λb u q=>(vW I q).1
 let a5:∀{b:Uw}{o:W2}{G:Array YS}{ep:Nat},D.heap.get? b=Up o->o.data=.dict G ep->my K D.heap A b=UH:=λ{b o G ep}e d=>by
  cases q:my K D.heap A b with
  |none=>rfl
  |some u=>
   obtain⟨_,vs,_,_,⟨O,_⟩|⟨O,_⟩⟩:=vW I q
   .rw[O]at e;cases e;let d':adP vs.toArray _=Data.dict G ep:=d;cases d'
   .rw[O]at e;cases e;let d':adP vs.toArray _=Data.dict G ep:=d;cases d'
 generalize my K D.heap A=H at hO an hS hK a5;let av:∀{b:Uw}{o:W2},D.heap.get? b=Up o->H b=UH->(CS D.heap H).get? b=Up o:=λe n=>MC e n
 let ab:∀{b:Uw}{m:Vp->Option Uv},D.heap.Ns b m->(CS D.heap H).Ns b m:=λ{b m}(o,G,ep,e,d,r)=>(o,G,ep,av e (a5 e d),d,r)
 let nK:∀b o,K.lookup b=Up o->H b=UH:=λb o e=>by
  cases q:H b with
  |none=>rfl
  |some u=>
   rw[hK b u q]at e;cases e
 let a0:K.In (CS D.heap H):=λb o e=>av (KX b o e) (nK b o e)
 let hM:Mod K U (CS D.heap H):=(a0,ab a1,(mb,ab hb,bl),let(mc,h1,h2):=bt;(mc,ab h1,h2));let e0:DH P w K U (CS D.heap H) acB [] D H:=(Y,hM,λb o e=>Ob e,ZZ (Kp _ _),trivial,λb hb=>absurd (show b∈([]:List Uw)from hb) (by simp),an,.of_eq hg);let hl:↑vals=↑Z:=by rw[ju ap];show bs
 show Y3 ((F _ a0 (ab a1)).run acB [] D H (vals,[]) vals (vals.map DY) _ _ hr e0 (bm D vals hl) hV (b0 H _ hO hS)) λr s' x=>?_
 cases r with
 |error e=>show(bk H e s' x).elim
 |ok fl=>
  cases fl with
  |next=>show VI x
  |brk=>show VI x
  |cont=>show VI x
  |ret u=>
   let(v,H',os,bd,un,a2,r',q):=x;let a4:∀b o,D.heap.get? b=Up o->s'.heap.get? b=Up o:=λb o e=>by
    cases q2:H b with
    |none=>show un.keep b o e q2 (by intro z;show absurd (show b∈([]:List Uw)from z) (by simp)) (by simp)
    |some u2=>
     rcases hO b with z|⟨ob,u3,z⟩
     .rw[q2]at z;cases z
     .let z2:=un.frzs b ob _ z;let(e1,_):=an b _ z;let(O,_):=a2 b _ z2;rw[e]at e1;cases e1;show O
   let a6:K.In s'.heap:=λb o e=>a4 b o (KX b o e)
   let(as,bF):=Dw.reads (R:=R) (cl:=cl) a2 a6 d0 v u q r';show(u,as,Y,bF,OldK.of_keep a4,os,bd)
def xq(h:WData.layableAll D=UB):∀d∈D,d.weight<=1048576:=λd E=>
 (PySem.W.layableW_iff.mp (XN.mp h d E)).2.2
def xR:∀(D:List Codec)(a:Codec.denoteAll D),↑(Codec.encAll D a)=↑D
 |[],_=>rfl
 |c::D,a=>by
  change↑(Codec.encAll D a.2)+1=↑D+1;rw[xR D a.2]
def Ji{r:OpenSpec}{I:We->Heap->Prop}{d:DefRec}{K:Params->UN}{CX:We->F6}{G:List Vp}{sp:We->Sp}(a4:r.wellSaid=UB)(bm:d.params.defaults=[])(a0:↑r.args=↑G)(hr:Room k acB)(hY:∀(w:We)(h:Heap),I w h->(K w.params).In h)(F:∀(w:We)(U:Vp->Option Uv)(E:Uw)(h:Heap),I w h->(K w.params).In h->h.Ns Wg U->U d.name=Up (.ref E)->
   ∃O:YD,(∀(s:UE)(us:List Uv),↑us=↑G->ads s O (us,[]) (G.zip us))/\
    ∀W:Heap,(K w.params).In W->W.Ns Wg U->ku r.prog w (K w.params) U W (CX w) k E O G (sp w))(a3:∀(w:We)(H:Hp)(xs:List V)(a:Codec.denoteAll r.args),A0 H->Codec.withinAll r.args a=UB->Codec.app r.args r.asked a=UB->mT (K w.params) H xs (Codec.encAll r.args a)->
   sp w xs H (λv H'=>Dw (K w.params) H' v (r.ret.enc (Codec.app r.args r.f a))) λ_ _ _=>False)(ar:∀(w:We)(H:Hp)(s:UE)(e:Uv)(s':UE),CX w [] H s (λ_ _ _=>False) e s'->False):
  adH q a6 XP I r d [] (λf vs=>Z9 f vs):=by
 intro w bd s₁ U mb D Y E o pm cd bk dV kV ho hd bl hD a1 hg an vals as a2 av bt a5 bs;let(a,e1,e2):=PySem.W.os_pre_some a2;let(e3,ab):=Codec.encAll_of_decAll r.args an a e1;subst e3;let Z:=hY w _ Y;let(O,hb,hF):=F w U E _ Y Z D.T.g a1;show PySem.W.enter_call (Y3 (Jx (R:=[]) (cl:=classAt bd.heap) (d0:=r.ret.enc (Codec.app r.args r.f a)) Z D.T.g D.T.b D.T.builtins D.T.nolimit hg a5 (Am _ _) (xq av) hr hF hb (by rw[xR];show a0)
  (λH xs hO hS=>a3 w H xs a hO ab e2 hS) λH e s'=>ar w H s₁ e s') λr' s' hq=>?_)
 let(u,ap,rfl,h1,h2,h3,h4):=hq;show(.inl (u,_,ap,rfl,λ_=>rfl,h1,(OpenSpec.post_iff a4 ab _ _).mpr rfl,λz=>Bool.noConfusion (show UF=UB from z)),h2,h3,h4)
def Po{r:OpenSpec}{YP:We->Heap->Prop}{d:DefRec}{K:Params->UN}{CX:F6}{ps:List Vp}{sp:UN->Sp}(hwell:r.wellSaid=UB)(hdf:d.params.defaults=[])(hlen:↑r.args=↑ps)(hr:Room k acB)(hY:∀(w:We)(h:Heap),YP w h->(K w.params).In h)(F:∀(w:We)(U:Vp->Option Uv)(fa:Uw)(h:Heap),YP w h->(K w.params).In h->h.Ns Wg U->U d.name=Up (.ref fa)->
   ∃fd:YD,(∀(s:UE)(us:List Uv),↑us=↑ps->ads s fd (us,[]) (ps.zip us))/\
    ∀W:Heap,(K w.params).In W->W.Ns Wg U->ku r.prog w (K w.params) U W CX k fa fd ps (sp (K w.params)))(hsp:∀(K:UN)(H:Hp)(xs:List V)(a:Codec.denoteAll r.args),A0 H->Codec.withinAll r.args a=UB->Codec.app r.args r.asked a=UB->mT K H xs (Codec.encAll r.args a)->
   sp K xs H (λv H'=>Dw K H' v (r.ret.enc (Codec.app r.args r.f a))) λ_ _ _=>False)(hCX:∀(H:Hp)(s:UE)(e:Uv)(s':UE),CX [] H s (λ_ _ _=>False) e s'->False):
  adH q loose XP YP r d [] (λf vs=>Z9 f vs):=
 Ji (K:=K) (CX:=λ_=>CX) (sp:=λw=>sp (K w.params)) hwell hdf hlen hr hY F (λw H xs a h1 h2 h3 h4=>hsp (K w.params) H xs a h1 h2 h3 h4) λ_ H s e s'=>hCX H s e s'
end L2
end
namespace L2
open PySem PySem.Spec PyProof.Rows
structure pY (h:Heap) (e C:Addr) (dx:Option Addr) (tr:Option (Addr×Value)):Prop where
 at_: ∃oe vs,h.get? e=some oe/\oe.cls=.ref C/\oe.dict=dx/\oe.data=.fields vs/\(tr=none->vs[1]?=some .none)/\
  ∀T x,tr=some (T,x)->vs[1]?=some (.ref T)/\T≠e/\ ∃oT ts,h.get? T=some oT/\oT.data=.fields ts/\ts[3]?=some x
structure jK (F:List Addr) (e:Addr) (tr:Option (Addr×Value)) (h h':Heap):Prop where
 keep: ∀b o,h.get? b=some o->b∉F->b≠e->(∀T x,tr=some (T,x)->b≠T)->h'.get? b=some o
 slot: ∀b o,h.get? b=some o->(∀vs,o.data≠.fields vs)-> ∃sl,h'.get? b=some {o with slots:=sl}
 size:h.objs.size<=h'.objs.size
def jK.trans{F:List Uw}{h h1 h2:Heap}(a:jK F e tr h h1)(b:jK F e tr' h1 h2)(hn:∀T x,tr'=Up (T,x)->h.objs.size<=T\/∃y,tr=Up (T,y)):jK F e tr h h2 where
 keep:=λc o q hc he ht=>b.keep c o (a.keep c o q hc he ht) hc he λT x z=>by
  rcases hn T x z with k|⟨y,k⟩
  .show Vl (U9 (U4 q) k)
  .show ht T y k
 slot:=λc o q hd=>by
  let(sl,e1):=a.slot c o q hd;let(sl',e2):=b.slot c _ e1 hd;show(sl',e2)
 size:=Vm a.size b.size
def jK.mono{F D:List Uw}(a:jK F e I h G)(O:∀b∈F,b∈D):jK D e I h G:=
 (λb o q n U V=>a.keep b o q (λz=>n (O b z)) U V,a.slot,a.size)
def xW(o:W2)(f:Array Uv->Array Uv):(o.mapFields f).dict=o.dict:=by
 let(c,d,D,s):=o;cases D<;>rfl
section
variable {M:Model} {A:Around} {E:Value->Shared->Prop} {s:Shared}
def AL{W:Heap}{G:Env}{O:W2}{vs:Array Uv}{V:Uv}{a5:Bool}{Q:Unit->UE->Prop}(bl:A.frames=some (G::ab))(hl:s.heap.FunFrames W (G::ab))(hf:G.frame=some L)(he:s.heap.get? e=some O)(hc:O.cls=.ref C)(a6:O.dict=dx)(U:O.data=.fields vs)(hsz:1<vs.size)(h:∀h' T,s.heap.objs.size<=T->pY h' e C dx (some (T,rawInt L))->jK (DI (G::ab)) e none s.heap h'->Q ⟨⟩ {s with heap:=h'}):
  Vi M A (do let a<-frameOf G;let pl<-entryPlaceOf L a5;let b<-abX V a .none (rawInt L) .none pl;setField (.ref e) 1 b) Q E s:=by
 let bk:e∉(G::ab).filterMap (·.frame):=λhm=>by
  let(_,o,Z,ap):=hl.mem hm;rw[he]at Z;injection Z with Z;subst Z;show ap vs U
 show UL (wpAny_frameOf_fun bl hl hf λD I=>?_);show UL (wpAny_entryPlaceOf λpl a2=>?_);unfold abX newFields;show UL (aal ?_ (a2.sizeOk5 _ _ _ _ _));let a0:D.get? e=some O:=(I.2.1 e bk).trans he;let a1:=UG (h:=D) {cls:=.type "traceback",dict:=none,data:=.fields ([V,.ref L,.none,rawInt L,.none]++(if pl.isEmpty then VX 6 WL else pl)).toArray} a0;show abz a1 U hsz (h _ D.objs.size (ZZ I.1.symm) ?_ ?_)
 .let ar:D.objs.size≠e:=Nat.ne_of_gt (U4 a0);let av:=XX U (·.setIfInBounds 1 (Vd D.objs.size));let bd:=Xm (YB (·.setIfInBounds 1 (Vd D.objs.size))) a1 (Zi av);let a4:=(W9 (D.push {cls:=.type "traceback",dict:=none,data:=.fields ([V,.ref L,.none,rawInt L,.none]++(if pl.isEmpty then VX 6 WL else pl)).toArray})
   (YB (·.setIfInBounds 1 (Vd D.objs.size))) (WX ar)).trans (U5 D rfl)
  show(_,_,bd,(acF _ _).trans hc,(xW _ _).trans a6,av,λz=>(by cases z),λT x z=>?_);cases z;show(by simp [hsz],ar,_,_,a4,Y,by first|(simp;done)|(rcases a2 with rfl|⟨_,_,_,_,_,_,_,rfl⟩<;>simp))
 .let a3:∀b o,b≠e->D.get? b=some o->
    ((D.push {cls:=.type "traceback",dict:=none,data:=.fields ([V,.ref L,.none,rawInt L,.none]++(if pl.isEmpty then VX 6 WL else pl)).toArray}).update e (YB (·.setIfInBounds 1 (Vd D.objs.size)))).get? b=some o:=λb o an hb=>by
   rw[W9 _ _ (WX an)];show UG _ hb
  show(λb o q hb an _=>a3 b o an ((I.2.1 b hb).trans q),λb o q ap=>?_,?_)
  .let(sl,e1):=I.2.2 b o q;show(sl,a3 b _ (λz=>?_) e1);subst z;rw[he]at q;injection q with q;subst q;show ap vs U
  .rw[XY,VT,I.1];show XS _
def fk{h:Heap}(D:b≠T):(h.update T (YB f)).get? b=h.get? b:=W9 _ _ (WX D)
def EO{W:Heap}{I:Env}{Q:Unit->UE->Prop}(ar:A.frames=Up (I::an))(hl:s.heap.FunFrames W (I::an))(hf:I.frame=Up L)(x:pY s.heap e C dx tr)(h:∀h' T,(s.heap.objs.size<=T\/∃y,tr=Up (T,y))->pY h' e C dx (Up (T,rawInt L))->jK (DI (I::an)) e tr s.heap h'->Q ⟨⟩ {s with heap:=h'}):
  Vi M A (acZ (.ref e) I) Q E s:=by
 let(oe,vs,Z,hc,ap,V,hn,ht):=x.at_;unfold acZ;simp only[hf];cases tr with
 |none=>
  let O:=hn rfl;show UL (abB Z V O ?_);rw[ifn ()];show AL ar hl hf Z hc ap V (WB.mp O).1 λh' T a b c=>h h' T (.inl a) b c
 |some p=>
  let(T,y):=p;let(O,a0,oT,ts,hT,ab,h3):=ht T y rfl;show UL (abB Z V O ?_);rw[ifp (show(Vd T !=WL)=UB from by simp)];show UL (abB hT ab h3 ?_);by_cases hy:(y==rawInt L)=UB
  .rw[ifp hy];let a1:y=rawInt L:=beq_iff_eq.mp hy;subst a1;show Vq (h s.heap T (.inr (_,Y)) x (λb o q _ _ _=>q,λb o q _=>(o.slots,q),UD _))
  .rw[ifn hy];show UL (abz hT ab (WB.mp h3).1 ?_);let av:∀b o,s.heap.get? b=Up o->(∀vs,o.data≠.fields vs)->b≠T:=λb o D G q=>by
    rw[q,hT]at D;injection D with D;subst D;show G ts ab
   show AL ar (hl.of_keeps λb o D G=>(o,(fk (av b o D G)).trans D,Y)) hf ((fk (WX a0)).trans Z) hc ap V (WB.mp O).1
    λh' T' a b c=>h h' T' (.inl (by rw[XY]at a;show a)) b (λU o q n1 n2 n3=>c.keep U o ((fk (n3 T y rfl)).trans q) n1 n2 (λ_ _ z=>by cases z),λU o q G=>c.slot U o ((fk (av U o q G)).trans q) G,by have:=c.size;rw[XY]at this;show this)
def qz{Q:Unit->UE->Prop}(x:pY s.heap e C I (Up (T,y)))(h:∀h',pY h' e C I (Up (T,.none))->jK [] e (Up (T,y)) s.heap h'->Q ⟨⟩ {s with heap:=h'}):Vi M A (setFlight (.ref e) UH) Q E s:=by
 let(oe,vs,W,hc,ab,V,hn,ht):=x.at_;let(O,U,oT,ts,G,D,Z):=ht T y rfl;let hsz:3<ts.size:=(WB.mp Z).1;show wpAny_setFlight_none W V O G D hsz (h _ ?_ ?_)
 .show(oe,vs,(fk (WX U)).trans W,hc,ab,V,λz=>(by cases z),λT' x' z=>?_);cases z;show(O,U,_,_,Xm _ G (Zi (XX D _)),XX D _,by simp [hsz])
 .show(λb o q _ _ n=>(fk (n T y rfl)).trans q,λb o q an=>(o.slots,(fk λz=>?_).trans q),by rw[XY];show UD _);rw[z,G]at q;injection q with q;subst q;show an ts D
def Ki{W:Heap}{D:Env}{Q:Unit->UE->Prop}(ab:A.frames=Up (D::G))(hl:s.heap.FunFrames W (D::G))(Z:D.frame=Up L)(x:pY s.heap e C O I)(h:∀h' T,(s.heap.objs.size<=T\/∃y,I=Up (T,y))->pY h' e C O (Up (T,.none))->jK (DI (D::G)) e I s.heap h'->Q ⟨⟩ {s with heap:=h'}):
  Vi M A (leaving D (.ref e)) Q E s:=by
 unfold leaving;show UL (EO ab hl Z x λV T U x1 r1=>?_);show qz (s:={s with heap:=V}) x1 λh2 x2 r2=>?_
 show h h2 T U x2 (r1.trans (r2.mono λb z=>absurd z (by simp)) λT' y z=>by cases z;show U)
end
section
variable {prog:Program} {w:World} {A:Around} {h:Heap} {g:Array GenState} {d:Drawn} {t:Nat} {os:OsState} {R:Result->Shared->Prop}
variable {nm q:Str} {C N x:Addr} {bs bm:List Value} {sn:List Str} {sub:List Value} {ab:Bool} {col:Option Bool} {dd:Option Addr} {k0 k1 k2 k3 k5:Option Value} {B newId sa owner:String} {name:Str} {v:Value}
def K1{ox:W2}(D:StoreFacts B bm sa owner)(I:h.get? C=Up (YQ nm q C N bs bm UB sn sub ab col dd k0 k1 k2 k3 k5 newId))(U:h.get? x=Up ox)(O:ox.cls=.ref C)(L:Wd (U_ prog w) h (Z8 (.ref C) name) UH)(W:∀b,Vi (U_ prog w) A.in1 (Wu (.ref x) (.ref C) (.str name tk) name v b)
   (λV s'=>match V with|.done f=>R (.ok f) s'|.again G=>G.quiet=UB/\Zw (U_ prog w) A G R s') (λe s'=>R (.error e) s') (h,g,d,t,os)):
  Zw (U_ prog w) A (.call (.builtin sa) ([.ref x,.str name tk,v],[])) R (h,g,d,t,os):=by
 let T:Wd (U_ prog w) h (typeOf (.ref x)) (.ref C):=O▸(aaP U).andThen .now;show abD D.slot.plain D.entry (wpAny_check_sa D I U O ?_);rw[PySem.W.osa_eq,refuse_eq];show UL (UL (T.at (UL (wpAny_mroOf_exc I ?_))));rw[refuseLoop_ref,D.passes];show Vq (UL (T.at (UL (L.at ?_))));show UL ((show Wd (U_ prog w) h (ac4 UH) UH from .now).at (W _))
end
section
variable {prog:Program} {w:World} {A:Around} {E:Value->Shared->Prop} {s:Shared} {K:PySem.W.Frag} {x C:Addr} {ox:Obj} {od:Option Obj} {name:Str} {v:Value}
def Aa{Q:Unit->UE->Prop}(X:K.In s.heap)(D:Ym s.heap x ox C od)(c:XC K C)(O:VS K (.ref C) name=Up UH)(h:∀b,Vi (U_ prog w) A.in1 (Wu (.ref x) (.ref C) (.str name s.toks) name v b)
   (λG s'=>match G with|.done (.ret _)=>Q ⟨⟩ s'|_=>False) (λe s'=>E e s') {s with toks:=s.toks+1}):
  Vi (U_ prog w) A (setAttr (.ref x) name v) Q E s:=by
 let(nm,q,N,bs,sn,sub,ab,col,dd,k0,k1,k2,k3,k5,U):=c.cls;let I:=X _ _ U;show acD X D c.sa ?_;let(V,g,d,t,os):=s;show K1 PySem.F.store_Exception I D.at_ D.cls (Xy X O) λb=>?_
 show V9 (h b) (λG s' z=>?_) λ_ _ z=>z
 rcases G with(_|_|_|_)|_<;>first|show z|show z.elim
def M9{o:W2}{b:Bool}{tk:Tok}{Q:Fin->UE->Prop}(X:K.In s.heap)(c:XC K C)(G:s.heap.get? x=Up o)(I:o.cls=.ref C)(O:o.dict=UH)(U:o.data=.fields vs)(h:∀h' t',h'.Ns1 s.heap.objs.size (λy=>if y=name then Up v else UH)->h'.get? x=Up {o with dict:=Up s.heap.objs.size}->(∀b u,b≠x->s.heap.get? b=Up u->h'.get? b=Up u)->
   Q (.done (.ret .none)) {s with heap:=h',toks:=t'}):
  Vi (U_ prog w) A (Wu (.ref x) (.ref C) (.str name tk) name v b) Q E s:=by
 let(nm,q,N,bs,sn,sub,ab,col,dd,k0,k1,k2,k3,k5,lc):=c.cls;let hC:=X _ _ lc;let(D,g,d,t,os):=s;let(oc,bd,a6,a3):=o;dsimp only at I O U;subst I O U;show UL (Vq (UL (UL (abA G (UL ((ZR (cd:=_) X (by unfold ab7;rw[lc])).here ?_))))));let an:(D.push {cls:=.type "dict",data:=.dict #[]}).get? x=Up (.ref C,UH,.fields vs,a3):=UG _ G;let ap:x≠D.objs.size:=Vl (U4 G);simp only[Bool.not_true,UA,if_false,Wm,typeHasDict];show UL (wpAny_alloc' ?_);show UL (wpAny_update' an ?_);show Vq ?_;let a0:((D.push {cls:=.type "dict",data:=.dict #[]}).update x λo=>{cls:=o.cls,dict:=Up D.objs.size,data:=o.data,slots:=o.slots}).get? D.objs.size
   =Up {cls:=.type "dict",data:=.dict #[]}:=
  (abT _ _ _ _ ap.symm).trans (Heap.get?_push_at rfl rfl)
 let a1:((D.push {cls:=.type "dict",data:=.dict #[]}).update x λo=>{cls:=o.cls,dict:=Up D.objs.size,data:=o.data,slots:=o.slots}).Ns D.objs.size (λ_=>UH):=
  (_,#[],_,a0,Y,λe he=>absurd he (by simp),λ_=>rfl)
 change Vi _ _ (WN D.objs.size (.str name tk) name v) _ _ _;unfold WN Zs;show UL (Vq (UL (acv (acG a1) λh' V W=>?_)));let(oD,a5,a4,a2,av,ar):=V.count (ab5 name v Within.nil);show UL (aaH a2 (by rw[av];show aaL (Vm ar (by rw[Ut,Vr,Ux];lia))) ?_);show Vq (h h' _ V ?_ ?_)
 .show(W.2 x ap).trans (Xm _ an rfl)
 .intro b u hb Z;show(W.2 b (Vl (U4 Z))).trans ((abT _ _ _ _ hb).trans (UG _ Z))
def M8{o:W2}{Z:List Vp}{b:Bool}{tk:Tok}{Q:Fin->UE->Prop}(X:K.In s.heap)(c:XC K C)(hx:s.heap.get? x=Up o)(I:o.cls=.ref C)(O:o.dict=Up D)(U:o.data=.fields vs)(ar:s.heap.Ns1 D G)(hw:Within G Z)(hsz:↑Z<=1000)(h:∀h' t',h'.Ns1 D (λy=>if y=name then Up v else G y)->Ys D s.heap h'->Q (.done (.ret .none)) {s with heap:=h',toks:=t'}):
  Vi (U_ prog w) A (Wu (.ref x) (.ref C) (.str name tk) name v b) Q E s:=by
 let(nm,q,N,bs,sn,sub,ab,col,dd,k0,k1,k2,k3,k5,W):=c.cls;let hC:=X _ _ W;let(hp,g,d,t,os):=s;let(oc,a3,a2,a4):=o;dsimp only at I O U;subst I O U;show UL (Vq (UL (UL (abA hx (UL ((ZR (cd:=_) X (by unfold ab7;rw[W])).here ?_))))));simp only[Bool.not_true,UA,if_false];show Vq ?_;change Vi _ _ (WN D (.str name tk) name v) _ _ _;unfold WN Zs;show UL (Vq (UL (acv ar λh' V hs=>?_)));let(oD,a1,a0,av,ap,an):=V.count (ab5 name v hw);show UL (aaH av (by rw[ap];show aaL (Vm an (by rw[Ut,Ux];lia))) ?_);show Vq (h h' _ V hs)
end
section
variable {prog:Program} {w:World} {A:Around} {E:Value->Shared->Prop} {h:Heap} {g:Array GenState} {d:Drawn} {t:Nat} {os:OsState}
variable {nm q:Str} {C N x:Addr} {bs bm:List Value} {hdct:Bool} {sn:List Str} {sub:List Value} {ab:Bool} {col:Option Bool} {dd:Option Addr} {k0 k1 k2 k3 k5:Option Value} {B newId:String} {name:Str} {v:Value}
def K3{R:Result->UE->Prop}{ox:W2}(FB:ExcAttrBase B bm)(I:h.get? C=Up (YQ nm q C N bs bm hdct sn sub ab col dd k0 k1 k2 k3 k5 newId))(G:h.get? x=Up ox)(D:ox.cls=.ref C)(L:Wd (U_ prog w) h (aaS (.ref x) (.ref C) name) (.value v))(O:R (.ok (.ret v)) (h,g,d,t,os)):
  Zw (U_ prog w) A (.call (.builtin "BaseException.__getattribute__") ([.ref x,.str name tk],[])) R (h,g,d,t,os):=by
 let T:Wd (U_ prog w) h (typeOf (.ref x)) (.ref C):=D▸(aaP G).andThen .now;show abD FB.ga.plain F.entry_bexc_ga (wpAny_check_ga_own FB I .base G D ?_);unfold Builtin.«object.__getattribute__»;show UL (Vq (UL (Vq (UL (T.at (UL (L.at ?_)))))));show Vq O
def Jh{Q:Uv->UE->Prop}{ox:W2}(FB:ExcAttrBase B bm)(V:h.get? C=Up (YQ nm q C N bs bm hdct sn sub ab col dd k0 k1 k2 k3 k5 newId))(I:h.get? x=Up ox)(G:ox.cls=.ref C)(L:Wd (U_ prog w) h (aaS (.ref x) (.ref C) name) (.value v))(O:Wd (U_ prog w) h (Z8 (.ref C) "__getattribute__") (Up (.builtin "BaseException.__getattribute__")))(LT:Wd (U_ prog w) h (Z8 (.ref C) "__getattr__") UH)(W:handedOut v=pure v)(Z:Q v (h,g,d,t+1,os)):
  Vi (U_ prog w) A (acA (.ref x) name D) Q E (h,g,d,t,os):=by
 let T:Wd (U_ prog w) h (typeOf (.ref x)) (.ref C):=G▸(aaP I).andThen .now;let U:=FB.ga.bind (.ref x);let an:(D&&onTheHeap (Zx "BaseException.__getattribute__"))=UF:=by cases D<;>rfl
 let ar:(Zx "BaseException.__getattribute__"==Zx "object.__getattribute__")=UF:=()
 let ap:(onTheHeap (Vd C)&&Zx "BaseException.__getattribute__"==Zx "object.__getattribute__")=UF:=by rw[ar];rfl
 unfold acA getAttrBy;show UL (wpAny_mkText (aaw (UL (T.at (UL (O.at ?_))))));simp only[ap,UA,if_false];unfold getAttrByItsOwn hookBefore;show UL ?_;simp only[onTheHeap,if_true];show LT.at ?_;unfold callGetattribute;simp only[an,UA,if_false];unfold boundAndCalled;show UL (ab4 (aaw ?_));rw[U];show UL (Vq ?_);show Z7 (K3 FB V I G L ?_);change Vi _ _ (handedOut v) _ _ _;rw[W];show Vq Z
end
section
variable {prog:Program} {w:World} {A:Around} {E:Value->Shared->Prop} {s:Shared} {K:PySem.W.Frag} {x C:Addr} {ox:Obj} {od:Obj} {name:Str} {v:Value}
def XC.hd{K:UN}(c:XC K C):Y5 K C=UB:=by
 let(nm,q,N,bs,sn,sub,ab,col,dd,k0,k1,k2,k3,k5,D):=c.cls;unfold Y5 ab7;rw[D]
 rfl
def SQ{G:Bool}{Q:Uv->UE->Prop}(X:K.In s.heap)(D:Ym s.heap x ox C (Up od))(c:XC K C)(U:VS K (.ref C) name=Up UH)(O:Y4 name od=Up (Up v))(I:aaO v=UB)(h:Q v {s with toks:=s.toks+1}):Vi (U_ prog w) A (acA (.ref x) name G) Q E s:=by
 let(nm,q,N,bs,sn,sub,ab,col,dd,k0,k1,k2,k3,k5,V):=c.cls;let(W,g,d,t,os):=s;show Jh PySem.F.attrBase_Exception (X _ _ V) D.at_ D.cls (PySem.W.looks_find X D (abR c.hd U rfl O)) (Xy X c.ga) (Xy X c.gt) (PySem.W.handedOut_of I) h
end
def F7(x C:Uw)(dx:Option Uw):HO:=.ext λh=>∃E vs,h.get? x=Up E/\E.cls=.ref C/\E.dict=dx/\E.data=.fields vs/\vs[1]?=Up .none
def OP(x C dx:Uw):HO:=.ext λh=>∃E vs,h.get? x=Up E/\E.cls=.ref C/\E.dict=Up dx/\E.data=.fields vs
def M_(d:Uw)(fs:List (Vp×V)):HO:=.ext λh=>∃E,h.Ns1 d E/\∀f,h_ (fs.lookup f) (E f)
def mR(H:Hp)(x:Uw):Hp:=λb=>if b=x then UH else H b
def qG:mR H x x=UH:=by unfold mR;rw[ifp rfl]
def oJ{H:Hp}(h:b≠x):mR H x b=H b:=by unfold mR;rw[ifn h]
def L9{H:Hp}(h:mR H x b=Up o):b≠x/\H b=Up o:=by
 by_cases e:b=x
 .subst e;rw[qG]at h;cases h
 .rw[oJ e]at h;show(e,h)
section
variable {P:Program} {w:World} {H:Hp} {h:Heap} {x C d:Addr} {dx:Option Addr} {fs:List (Str×V)}
def K2{E:W2}{vs:Array Uv}(e:h.get? x=Up E)(U:E.cls=.ref C)(W:E.dict=dx)(Z:E.data=.fields vs)(I:vs[1]?=Up .none):cP P w H h x (F7 x C dx):=
 ((E,vs,e,U,W,Z,I),(E,e),λI h2 (E,vs,e,r) k=>(E,vs,k E e,r))
def Pl{dx:Uw}{E:W2}{vs:Array Uv}(e:h.get? x=Up E)(I:E.cls=.ref C)(U:E.dict=Up dx)(W:E.data=.fields vs):cP P w H h x (OP x C dx):=
 ((E,vs,e,I,U,W),(E,e),λZ h2 (E,vs,e,r) k=>(E,vs,k E e,r))
def K4{E:Vp->Option Uv}(n:h.Ns1 d E)(r:∀f,h_ (fs.lookup f) (E f)):cP P w H h d (M_ d fs):=
 ((E,n,r),(let(o,_,_,e,_):=n;(o,e)),λU h2 (E,(o,I,ep,e,q),r) k=>(E,(o,I,ep,k o e,q),r))
def Ga(ok:kt P w H h)(e:H x=Up (F7 x C dx)):∃E vs,h.get? x=Up E/\E.cls=.ref C/\E.dict=dx/\E.data=.fields vs/\vs[1]?=Up .none:=(show cP P w H h x (F7 x C dx)from ok x _ e).1
def Pn{dx:Uw}(ok:kt P w H h)(e:H x=Up (OP x C dx)):∃E vs,h.get? x=Up E/\E.cls=.ref C/\E.dict=Up dx/\E.data=.fields vs:=(show cP P w H h x (OP x C dx)from ok x _ e).1
def K5(ok:kt P w H h)(e:H d=Up (M_ d fs)):∃E,h.Ns1 d E/\∀f,h_ (fs.lookup f) (E f):=(show cP P w H h d (M_ d fs)from ok d _ e).1
def Gb{E:Vp->Option Uv}(r:∀f,h_ (fs.lookup f) (E f)):aa3 E (fs.map (·.1)):=λf I=>by
 let q:=r f;cases e:fs.lookup f with
 |none=>rw[e]at q;show absurd (h_.none_of q) I
 |some v=>
  have:(f,v)∈fs:=Vw e;show U6.mpr ((f,v),this,Y)
end
section
variable {X:Cx} {O:List (Addr×Obj)} {D:St} {H:Hp} {s:Shared} {h':Heap} {x d:Addr} {o o1 o2:HO} {φ:Heap->Prop}
def aZ.xlaid{t':Nat}(W:aZ X O D H s)(U:H x=Up (.ext φ))(hd:s.heap.objs.size<=d)(k:∀b u,b≠x->s.heap.get? b=Up u->h'.get? b=Up u)(an:∃u,h'.get? x=Up u)(ox:cP X.prog X.w (aw (aw H d o1) x o2) h' x o2)(od:cP X.prog X.w (aw (aw H d o1) x o2) h' d o1):aZ X O D (aw (aw H d o1) x o2) {s with heap:=h',toks:=t'}:=by
 let ψ:H d=UH:=W.hok.fresh hd;let ar:d≠x:=λe=>by rw[e,U]at ψ;cases ψ
 let nx:∀b,H b=UH->b≠x:=λb e z=>by rw[z,U]at e;cases e
 let nd:∀b u,s.heap.get? b=Up u->b≠d:=λb u e=>Vl (U9 (U4 e) hd)
 let I:∀b u,H b=Up u->(∀ap,u≠.ext ap)->aw (aw H d o1) x o2 b=Up u:=λb u e hu=>by
  rw[ah (λz=>by rw[z,U]at e;cases e;show hu φ rfl),ah (ak e ψ)];show e
 show W.un (λb u e n _ _=>k b u (nx b n) e,λb u e n _ _=>(u.slots,k b u (nx b n) e),λb u e n _=>by rw[ah (nx b n),ah (nd b u e)];show n,λb u e _=>?_,
  λb xs e=>I b _ e (λ_ z=>by cases z),λb u xs e=>I b _ e (λ_ z=>by cases z),λb ps e=>(#[],by rw[I b _ e (λ_ z=>by cases z)];simp)) λa u e=>?_
 .by_cases E:b=x
  .rw[E];show an
  .show(u,k b u E e)
 .by_cases Z:a=x
  .subst Z;rw[ae]at e;cases e;show ox
  .rw[ah Z]at e;by_cases E:a=d
   .subst E;rw[ae]at e;cases e;show od
   .rw[ah E]at e;show(W.hok a u e).stay (λb v ab q=>k b v ?_ q) (λb q=>I b _ q (λ_ z=>by cases z)) λb xs q=>I b _ q (λ_ z=>by cases z)
    rcases ab with z|z
    .rw[z];show Z
    .intro z';rw[z',U]at z;cases z
def aZ.forget(E:aZ X O D H s)(hx:H x=Up (.ext φ)):aZ X O D (mR H x) s:=by
 let I:∀b u,H b=Up u->(∀ab,u≠.ext ab)->mR H x b=Up u:=λb u e hu=>by
  rw[oJ (λz=>by rw[z,hx]at e;cases e;show hu φ rfl)];show e
 let U:∀b,H b=UH->mR H x b=UH:=λb e=>by
  by_cases z:b=x
  .rw[z,qG]
  .rw[oJ z];show e
 show(E.ok,E.os,E.bare,(E.base.keep,E.base.slot,λb o e n Z=>U b (E.base.free b o e n Z),E.base.there,λb xs e=>I b _ (E.base.tups b xs e) (λ_ z=>by cases z),λb o u e=>I b _ (E.base.frzs b o u e) (λ_ z=>by cases z),λb ps e=>?_),
  E.loc,E.cell,U _ E.free,λy c e=>U _ (E.freeC y c e),λp ψ=>?_,λa u e=>?_,E.len)
 .let(m,q):=E.base.tbls b ps e;show(m,I b _ q (λ_ z=>by cases z))
 .let(a,b,c):=E.pin p ψ;show(a,U _ b,c)
 .let(_,W):=L9 e;show(E.hok a u W).stay (λ_ _ _ q=>q) (λb q=>I b _ q (λ_ z=>by cases z)) λb xs q=>I b _ q (λ_ z=>by cases z)
def aZ.track{oe:W2}(E:aZ X O D H s)(hn:H x=UH)(hf:X.s_0.heap.objs.size<=x)(ab:s.heap.get? x=Up oe)(Z:oe.data=.fields vs)(an:∀p∈X.pn++O,p.1≠x)(ok:cP X.prog X.w (aw H x o) s.heap x o):aZ X O D (aw H x o) s:=by
 let W:∀b u,H b=Up u->aw H x o b=Up u:=λb u e=>by rw[ah (ak e hn)];show e
 show(E.ok,E.os,E.bare,(E.base.keep,E.base.slot,λb u e n hb=>?_,E.base.there,λb xs e=>W b _ (E.base.tups b xs e),λb u xs e=>W b _ (E.base.frzs b u xs e),λb ps e=>?_),
  E.loc,E.cell,?_,λy c e=>?_,λp hp=>?_,λa u e=>?_,E.len)
 .rw[ah (Vl (U9 (U4 e) hf))];show E.base.free b u e n hb
 .let(m,q):=E.base.tbls b ps e;show(m,W b _ q)
 .rw[ah ?_];show E.free;intro z;let(m,(o',es,ep,U,I,_),_):=E.loc;rw[z,ab]at U;cases U;rw[Z]at I;cases I
 .rw[ah ?_];show E.freeC y c e;intro z;let(v,o',U,I):=E.cell y c e;rw[z,ab]at U;cases U;rw[Z]at I;cases I
 .let(a,b,c):=E.pin p hp;show(a,by rw[ah (an p hp)];show b,c)
 .by_cases z:a=x
  .subst z;rw[ae]at e;cases e;show ok
  .rw[ah z]at e;show(E.hok a u e).stay (λ_ _ _ q=>q) (λb q=>W b _ q) λb xs q=>W b _ q
end
inductive Qe(K:PySem.W.Frag)(f:Str)(D:mz)(c:St)(y x:V)(b:Hp):Prop|mk(a C:_)(_:x=.ref a)(_:XC K C)(_:bA K C f)(_:(b a=some (F7 a C none)/\ ∀d,b d=none->D.nx c (aw (aw b d (M_ d [(f,y)])) a (F7 a C (some d))))\/ ∃d fs,b a=some (F7 a C (some d))/\b d=some (M_ d fs)/\d≠a/\fs.length<1000/\D.nx c (aw b d (M_ d (ck f y fs))))
def Rt(K:UN)(ta tv:TE)(f:Vp):TS:=λE D H=>tv D H λy I=>ta D I (Qe K f E D y)
inductive Px(K:PySem.W.Frag)(f:Str)(Q:VK)(x:V)(b:Hp):Prop|mk(a C d c v:_)(_:x=.ref a)(_:b a=some (OP a C d))(_:b d=some (M_ d c))(_:XC K C)(_:bA K C f)(_:c.lookup f=some v)(_:Q v b)
def D0(K:UN)(ta:TE)(f:Vp):TE:=λD H Q=>ta D H (Px K f Q)
section
variable {X:Cx} {o e value:Expr} {f:Str} {G pos' tpos:Pos} {ta tv:TE}
def IF(ha:PE X o ta)(hv:PE X value tv)(hs:aaK value (Up (.Attribute o f pos')) G.line X.env=pure UF):PS X (.Assign [.Attribute o f pos'] value G) (Rt X.K ta tv f):=by
 intro O s D H ar an h;show plainObj_wpAny_Assign_Attribute (cW (hv O s D H _ an h) λu s1 (y,H1,I1,ry,q)=>cW (ha O s1 D H1 _ I1 q) λov I (x,H2,E,rx,a,C,ex,c,n,q2)=>?_) hs;subst ex;obtain rfl:ov=Vd a:=rx;rcases q2 with⟨ea,q2⟩|⟨d,fs,ea,ed,av,hl,q2⟩
 .let(oe,vs,ho,U,Z,W,h1):=Ga E.hok ea;let IA:Ym I.heap a oe C UH:=(ho,U,by unfold abE;rw[W],by rw[Z];trivial);show Aa E.kIn IA c n λb=>?_
  show M9 (s:={I with toks:=I.toks+1}) E.kIn c ho U Z W λh' t' hN hx k=>?_
  let hn:H2 I.heap.objs.size=UH:=E.hok.fresh (UD _);show(D,_,E.xlaid (x:=a) (d:=I.heap.objs.size) (t':=t') ea (UD _) k (_,hx) (K2 hx U rfl W h1) (K4 hN λg=>?_),q2 _ hn);by_cases hg:g=f
  .subst hg;simp only[Xz,beq_self_eq_true,if_true];show ry
  .let hb:(g==f)=UF:=beq_eq_false_iff_ne.mpr hg;simp only[Xz,hb,ifn hg]
   trivial
 .let(oe,vs,ho,U,Z,W,h1):=Ga E.hok ea;let(mA,hN,r):=K5 E.hok ed;let(od,es,ep,ap,_):=id hN;let IA:Ym I.heap a oe C (Up od):=(ho,U,by unfold abE;rw[W],by rw[Z];show ap);show Aa E.kIn IA c n λb=>?_
  show M8 (s:={I with toks:=I.toks+1}) E.kIn c ho U Z W hN (Gb r) (by rw[Uq];lia) λh' t' ab sb=>?_
  show(D,_,E.write (x:=d) (e:=d) (t':=t') (by rw[ed];show Ww) (.inl rfl) (λb u hb z=>(sb.2 b hb).trans z) (let(o,_,_,e,_):=ab;(o,e)) (K4 ab λg=>?_),q2);rw[n_];by_cases q:g=f
  .rw[ifp q,ifp q];show ry
  .rw[ifn q,ifn q];show r g
def vH(he:PE X e ta)(hb:X9 e f X.env (Xq e X.env)=Xq e X.env):PE X (.Attribute e f G) (D0 X.K ta f):=by
 intro O s D H Q W h;show Jd hb (cW (he O s D H _ W h) λu s1 (x,U,E,rx,a,C,d,fs,v,ex,ea,ed,c,n,l,q)=>?_);subst ex;obtain rfl:u=Vd a:=rx;let(oe,vs,ho,hc,hd,ab):=Pn E.hok ea;let(mA,hN,r):=K5 E.hok ed;let(od,ap,an):=Ay hN;let(u,hu,I):=h_.some_of (v:=v) (o:=mA f) (by rw[<-l];show r f);let Z:Ym s1.heap a oe C (Up od):=(ho,hc,by unfold abE;rw[ab],by rw[hd];show ap);show SQ E.kIn Z c n ((an f).trans (congrArg Up hu)) (AE I) (v,U,E.tok _,I,q)
end
abbrev oH(us:List Uv):W2:={cls:=.type "tuple",data:=.seq us.toArray}
abbrev ki(C t:Uw):W2:={cls:=.ref C,data:=.fields #[.ref t,.none,.none,.none,.bool UF,.none]}
section
variable {prog:Program} {w:World} {A:Around} {E:Value->Shared->Prop} {h:Heap} {g:Array GenState} {d:Drawn} {t:Nat} {os:OsState}
variable {nm q:Str} {C N:Addr} {bs bm:List Value} {hdct:Bool} {sn:List Str} {sub:List Value} {ab:Bool} {col:Option Bool} {dd:Option Addr} {k0 k1 k2 k3 k5:Option Value} {B newId initId:String}
def F_(F:ExcBaseFacts B newId initId bm){rest:List Uv}{Q:Fin->UE->Prop}(D:h.get? C=Up (YQ nm q C N bs bm hdct sn sub ab col dd k0 k1 k2 k3 k5 newId))(V:Wd (U_ prog w) h (typeLookup (.ref C) "__init__") (Up (.ref G)))(U:∀O,Wd (U_ prog w) h (bindSpecial (.ref G) O) (.ref G,[O]))(hq:wpAny (U_ prog w) A (Z9 (.ref G) (.ref (h.objs.size+1)::rest)) (λr s'=>r=.none/\Q (.done (.ret (.ref (h.objs.size+1)))) s') E ((h.push (oH rest)).push (ki C h.objs.size),g,d,t,os))(ar:↑rest<=U1):
  wpAny (U_ prog w) A (Builtin.«type.__call__» (.ref C::rest,[])) Q E (h,g,d,t,os):=by
 repeat (first|with_reducible show wpAny_loadPart_at D ?_|with_reducible show wpAny_madeBy_exc D ?_|wp_step)
 show codeAny_call_builtin_code (ack _ F.quiet) (wpAny_check_new_sub F D ?_);show codeAny_exc_new_sub F D ?_ ar;change wpAny _ _ _ _ _ _;let I:∀b o,h.get? b=Up o->((h.push (oH rest)).push (ki C h.objs.size)).get? b=Up o:=λb o e=>UG _ (UG _ e)
 let W:=I _ _ D;let ap:((h.push (oH rest)).push (ki C h.objs.size)).get? (h.objs.size+1)=Up (ki C h.objs.size):=by heap_get
 let an:(Vd C::bm).contains (.ref C)=UB:=by simp
 unfold isInstance
 repeat (first|with_reducible show wpAny_loadPart_at ap ?_|(with_reducible show wpAny_isSubtype_exc W ?_;rw[an])|wp_step)
 change wpAny _ _ (typeLookup (.ref C) _) _ _ _;show V _ _ _ _ I ?_;show wpAny_holding (wpAny_bind (U _ _ _ _ _ I ?_));show wpAny_bind (V9 hq (λr s' hr=>?_) λ_ _ x=>x);let(rfl,Z):=hr
 wp_walk
 show Z
def Rb(F:ExcBaseFacts B newId initId bm){rest:List Uv}{Q:Uv->UE->Prop}(G:h.get? C=Up (YQ nm q C N bs bm hdct sn sub ab col dd k0 k1 k2 k3 k5 newId))(U:Wd (U_ prog w) h (Z8 (.ref C) "__init__") (Up (.ref D)))(O:∀I,Wd (U_ prog w) h (bindSpecial (.ref D) I) (.ref D,[I]))(V:Vi (U_ prog w) (A.under (.builtin "type.__call__" (.ref C::rest,[]))) (Z9 (.ref D) (.ref (h.objs.size+1)::rest)) (λr s'=>r=.none/\Q (.ref (h.objs.size+1)) s') E ((h.push (oH rest)).push (ki C h.objs.size),g,d,t,os))(W:↑rest<=U1):
  Vi (U_ prog w) A (Z9 (.ref C) rest) Q E (h,g,d,t,os):=by
 let Z:=tc_lookup;let f2:=tc_bind (.ref C);let hT:((h,g,d,t,os):UE).TypeIs (.ref C) "type":=(_,G,Y);show Z7 (codeAny_of_tree ?_);change Vi _ _ (callAny (.ref C) _) _ _ _
 repeat (any_goals (first|assumption|with_reducible show wpAny_loadPart_at G ?_|wp_step))
 show(Y,?_);show codeAny_call_builtin_at (ack _ ()) entry_typeCall (wpAny_check_type_call_sub G (F_ F G U O V W))
def Pj(ap:bm.contains (.type "BaseException")=UB)(hh:A.handled=UH)(h:Vi (U_ prog w) A x (λv G=>∃e D vs,v=.ref e/\G.heap.get? C=Up (YQ nm q C N bs bm hdct sn sub ab col dd k0 k1 k2 k3 k5 newId)/\
   G.heap.get? e=Up D/\D.cls=.ref C/\D.data=.fields vs/\vs[1]?=Up .none/\E (.ref e) G) E s):
  Vi (U_ prog w) A (raiseStmt an (Up x) UH) Q E s:=by
 let ar:(Vd C::bm).contains (.type "BaseException")=UB:=by rw[VE,ap,acS]
 unfold raiseStmt;show UL (V9 h (λv G I=>?_) λ_ _ x=>x);let(e,D,vs,rfl,O,W,U,V,I,hE):=I;let(Z,g,d,tk,os):=G;let(oc,a0,av,a1):=D;dsimp only at U V;subst U V;let hf:∀{Q:Uv->UE->Prop},Q .none (Z,g,d,tk,os)->Vi (U_ prog w) A (field (.ref e) 1) Q E (Z,g,d,tk,os):=λq=>abB W rfl I q
 repeat (first|with_reducible show wpAny_loadPart_at W ?_|with_reducible show wpAny_loadPart_at O ?_|(with_reducible show wpAny_isSubtype_exc O ?_;rw[ar])|with_reducible show hf ?_|wp_step)
 show wpAny_raiseNew_none hh hE
end
def jL(P:Program)(w:We):F6:=λZ H s E e s'=>∃U C W T I,e=.ref U/\s'.os=s.os/\acK s'.gens/\Un (DI Z) [] H I s.heap s'.heap/\kt P w I s'.heap/\
 s.heap.objs.size<=U/\s.heap.objs.size<=T/\I U=UH/\I T=UH/\pY s'.heap U C (Up W) (Up (T,.none))/\E (.ref C) (Up W) I
def vz(X:Cx)(x:Uw):Prop:=X.s_0.heap.objs.size<=x/\∀p∈X.pn,p.1≠x
def vz.of{X:Cx}{s:UE}(I:aZ X O D H s)(h:s.heap.objs.size<=x):vz X x:=
 (Vm I.sz h,λp U=>Vl (U9 (U4 (I.pin p (Ws _ U)).1) h))
def M7(X:Cx)(E:XK)(e:Uv)(s':UE):Prop:=∃U C W Z D I,e=.ref U/\aZ X [] D I s'/\pY s'.heap U C (Up W) Z/\vz X U/\
 (∀T x,Z=Up (T,x)->vz X T/\I T=UH)/\I U=UH/\E (.ref C) (Up W) I
def aZ.unpin{X:Cx}(I:aZ X O D H s):aZ X [] D H s:=I.pins_of λp U=>absurd U (by simp)
section
variable {X:Cx} {O:List (Addr×Obj)} {D:St} {H:Hp} {s:Shared} {E:XK}
def kt.noted{W:Option (Uw×Uv)}{F:List Uw}(Z:aZ X O D H s)(r:jK F U W s.heap h')(hF:∀b∈F,H b=UH)(he:H U=UH)(ht:∀T x,W=Up (T,x)->H T=UH):kt X.prog X.w H h':=
 λa o e=>(Z.hok a o e).stay (λb u hb q=>by
  let hs:∃v,H b=Up v:=by
   rcases hb with z|z
   .show(o,by rw[z];show e)
   .show(_,z)
  let(v,I):=hs;show r.keep b u q (λz=>by rw[hF b z]at I;cases I) (λz=>by rw[z,he]at I;cases I) λT x z z'=>by rw[z',ht T x z]at I;cases I) (λ_ q=>q) λ_ _ q=>q
def J9{Z:Uw}(I:aZ X O D H s)(r:jK (DI X.stack) Z tr s.heap h')(a0:X.ex=[])(av:X.s_0.heap.objs.size<=Z)(ht:∀T x,tr=some (T,x)->X.s_0.heap.objs.size<=T):
  Un X.fs [] X.H_0 H X.s_0.heap h':=by
 let W:∀b o,X.s_0.heap.get? b=some o->b∉X.ex:=λb o _=>by rw[a0];simp
 let lt:∀b o,X.s_0.heap.get? b=some o->b<X.s_0.heap.objs.size:=λb o e=>U4 e
 let fr:∀b o,X.s_0.heap.get? b=some o->b∉X.fs->b∉DI X.stack:=λb o e U hm=>by
  rcases UP.mp (I.stkSub b hm)with z|z
  .show absurd (lt b o e) (by rw[z];show acl.mpr I.ok.above)
  .show U z
 let ap:∀b o,X.s_0.heap.get? b=some o->b≠Z:=λb o e=>Vl (U9 (lt b o e) av)
 let ar:∀b o,X.s_0.heap.get? b=some o->∀T x,tr=some (T,x)->b≠T:=λb o e T x z=>Vl (U9 (lt b o e) (ht T x z))
 show(λb o e n U _=>r.keep b o (I.base.keep b o e n U (W b o e)) (fr b o e U) (ap b o e) (ar b o e),λb o e n U _=>?_,λb o e n _=>I.base.free b o e n (W b o e),λb o e _=>?_,I.base.tups,I.base.frzs,I.base.tbls)
 .let(sl,q):=I.base.slot b o e n U (W b o e);let(_,o',an,ab):=I.funs.mem U;rw[q]at an;cases an;let(a2,q'):=r.slot b _ q ab;show(a2,q')
 .let(o',q):=I.base.there b o e (W b o e);by_cases U:b∈X.fs
  .let(_,o2,a1,ab):=I.funs.mem U;let(sl,q'):=r.slot b o2 a1 ab;show(_,q')
  .show(o',r.keep b o' q (fr b o e U) (ap b o e) (ar b o e))
def M7.leave(x:M7 X E e s)(W:X.stack=X.env::X.outer)(ap:X.env.frame=Up X.env.locals)(an:X.ex=[]):
  Vi (U_ X.prog X.w) X.A (leaving X.env e) (λ_ ar=>jL X.prog X.w X.outer X.H_0 X.s_0 E e ar) E1 s:=by
 let(ea,C,dx,tr,D,H,rfl,I,xa,(ab,_),U,hn,hE):=x;let hs:=I.stack;rw[W]at hs;show Ki (by rw[I.ok.frames,W]) hs ap xa λh' T Z av r=>?_
 rw[<-W]at r;show(ea,C,dx,T,H,Y,I.os,I.bare,J9 I r an ab λT x z=>(U T x z).1.1,kt.noted I r I.stkFree hn λT x z=>(U T x z).2,ab,?_,hn,?_,av,hE)
 .rcases Z with z|⟨y,z⟩
  .show Vm I.sz z
  .show(U T y z).1.1
 .rcases Z with z|⟨y,z⟩
  .show I.hok.fresh z
  .show(U T y z).2
def M7.of(I:aZ X O D H s)(h:jL X.prog X.w X.stack H s E e s'):M7 X E e s':=by
 let(ea,C,Z,T,U,rfl,os,W,un,ab,h1,h2,n1,n2,xa,hE):=h;show(ea,C,Z,_,D,U,Y,(I.call' os un ab W (ch:=[]) (λb z=>absurd z (by simp))).unpin,xa,vz.of I h1,λT' x z=>?_,n1,hE);cases z;show(vz.of I h2,n2)
end
section
variable {X:Cx} {CX:F6} {k:Nat} {f C:Addr} {fd:FuncData} {ps:List Str} {sp:Sp} {dvs:List V} {ds:List Value} {E:XK} {x m:Str} {p G apos:Pos} {e o:Expr} {es:List Expr} {ta:TE} {t:TA}
inductive Nm(c:Addr->Prop)(C:Addr)(d:Sp)(Q:VK)(a:List V)(b:Hp):Prop|mk(_:a.length<=1000)(_:∀x,b x=none->c x->d (.ref x::a) (aw b x (F7 x C none)) (fun v H2=>v=.non/\Q (.ref x) H2) E0)
def Pw(I:Uw->Prop)(C:Uw)(sp:Sp)(t:TA):TE:=λD H Q=>t D H (Nm I C sp Q)
def JQ{H:Hp}{Q:VK}{vs:List V}(c:XC X.K C)(hi:VS X.K (.ref C) "__init__"=Up (Up (.ref f)))(hf:aa4 X.K (.ref f)=UB)(F:ku X.prog X.w X.K X.mg X.base cH k f fd ps sp)(hr:Room (k+1) X.A)(hb:gM X.K fd ps [])(I:aZ X O D H s)(r:bq vs us)(hz:↑vs<=1000)(h:∀x,H x=UH->vz X x->sp (.ref x::vs) (aw H x (F7 x C UH)) (λv H2=>v=.non/\Q (.ref x) H2) E0):
  Vi (U_ X.prog X.w) X.A (Z9 (.ref C) us) (EP X O D Q) X.xe s:=by
 let hq:=h (s.heap.objs.size+1) (I.hok.fresh (XS _)) (vz.of I (XS _));let(nm,q,N,bs,sn,sub,ab,col,dd,k0,k1,k2,k3,k5,lc):=c.cls;let hC:=I.kIn _ _ lc;let ap:((s.heap.push (oH us)).push (ki C s.heap.objs.size)).get? (s.heap.objs.size+1)=Up (ki C s.heap.objs.size):=by
  have:=U5 (s.heap.push (oH us)) (o:=ki C s.heap.objs.size) rfl;rwa [VT]at this
 let W:aZ X O D (aw H (s.heap.objs.size+1) (F7 (s.heap.objs.size+1) C UH)) {s with heap:=(s.heap.push (oH us)).push (ki C s.heap.objs.size),toks:=s.toks}:=
  I.laid (a:=s.heap.objs.size+1) (λb u e=>UG _ (UG _ e)) (XS _) (K2 ap rfl rfl rfl rfl)
 let r2:bq (V.ref (s.heap.objs.size+1)::vs) (Vd (s.heap.objs.size+1)::us):=.cons rfl r;let hl:↑(Vd (s.heap.objs.size+1)::us++[])=↑ps:=by
  let e:=↑r2;rw[F.len _ _ _ _ hq]at e;rw[VB];show e.symm
 let ar:↑us<=U1:=by rw[<-↑r,Ux];lia
 let Z:=hb {s with heap:=(s.heap.push (oH us)).push (ki C s.heap.objs.size)} (Vd (s.heap.objs.size+1)::us) W.kIn hl;rw[VB]at Z;let av:=F.run _ X.stack _ _ (Vd (s.heap.objs.size+1)::us,[]) (Vd (s.heap.objs.size+1)::us) _ _ E0 (hr.make C us []) (W.env0.make C us []) Z r2 hq;let L1:=Xy (M:=U_ X.prog X.w) I.kIn hi;let an:=λa0=>adk (M:=U_ X.prog X.w) I.kIn a0 (beq_iff_eq.mp hf)
 let(hp,g,d,tk,os):=s;show Rb PySem.F.excBase_Exception hC L1 an (Z7 (Y3 av λr s' U=>?_)) ar;cases r with
 |error e=>show VI U
 |ok fl=>
  cases fl with
  |ret u=>
   let(v,H',I3,rv,ev,q3):=W.after U;subst ev;show(rv,(V.ref (hp.objs.size+1),H',I3,Y,q3))
  |next=>show VI U
  |brk=>show VI U
  |cont=>show VI U
def LZ(c:XC X.K C)(hi:VS X.K (.ref C) "__init__"=Up (Up (.ref f)))(hf:aa4 X.K (.ref f)=UB)(F:ku X.prog X.w X.K X.mg X.base cH k f fd ps sp)(hr:Room (k+1) X.A)(hg:Gl X x)(hm:X.mg x=Up (.ref C))(Z:gM X.K fd ps [])(W:PA X (e::es) t)(ab:(x==("__debug__":Vp))=UF:=by decide)(he:Vt (e::es) X.env=(UF,Xq e X.env)::Vt es X.env:=by rfl)(an:(Yk G (Vt es X.env)).any (·.1)=UF:=by rfl):
  PE X (.Call (.Name x p) (e::es) [] G) (Pw (vz X) C sp t):=by
 intro O s D H Q I h;show wpAny_Call_Name_kw (lN I hg hm ?_ ab);show XW (h₀:=X.base) I.ok.mod.kin c.kp (cW (W G O s D H _ I h) λus s1 (vs,H1,U,r,q)=>(U.kIn,?_)) he an;show JQ c hi hf F hr Z U r q.1 q.2
inductive NK(C:Addr)(c:Sp)(E:XK)(a:List V)(b:Hp):Prop|mk(_:a.length<=1000)(_:∀x,b x=none->c (.ref x::a) (aw b x (F7 x C none)) (fun v H2=>v=.non/\ ∃d,H2 x=some (F7 x C (some d))/\E (.ref C) (some d) (mR H2 x)) E0)
def Qg(C:Uw)(sp:Sp)(E:XK)(t:TA):TS:=λI D H=>t D H (NK C sp E)
def kH(hX:∀e s',M7 X E e s'->X.xe e s')(ar:X.calm=UB)(c:XC X.K C)(hi:VS X.K (.ref C) "__init__"=Up (Up (.ref f)))(hf:aa4 X.K (.ref f)=UB)(F:ku X.prog X.w X.K X.mg X.base cH k f fd ps sp)(hr:Room (k+1) X.A)(hg:Gl X x)(hm:X.mg x=Up (.ref C))(hb:gM X.K fd ps [])(ha:PA X (e::es) t)(a1:∀vs H Q U E,sp vs H Q E->(∀v I,Q v I->U v I)->sp vs H U E)(a2:∀D H Q U,t D H Q->(∀vs I,Q vs I->U vs I)->t D H U)(av:(x==("__debug__":Vp))=UF:=by decide)(he:Vt (e::es) X.env=(UF,Xq e X.env)::Vt es X.env:=by rfl)(a0:(Yk apos (Vt es X.env)).any (·.1)=UF:=by rfl):
  PS X (.Raise (Up (.Call (.Name x p) (e::es) [] apos)) UH G) (Qg C sp E t):=by
 intro O s D H a4 an h;let(nm,q,N,bs,sn,sub,ab,col,dd,k0,k1,k2,k3,k5,lc):=c.cls;rw[arm_exec_Raise];show UL (aav (Pj (C:=C) (nm:=nm) (q:=q) (N:=N) (bs:=bs) (bm:=TD) (hdct:=UB) (sn:=sn) (sub:=sub) (ab:=ab) (col:=col) (dd:=dd) (k0:=k0) (k1:=k1) (k2:=k2) (k3:=k3) (k5:=k5) (newId:="Exception.__new__") () (an.ok.hd ar) ?_));let a3:=LZ (G:=apos) (p:=p) c hi hf F hr hg hm hb ha av he a0 O s D H
  (λv W=>∃y d,v=.ref y/\vz X y/\W y=Up (F7 y C (Up d))/\E (.ref C) (Up d) (mR W y)) an
  (a2 D H _ _ h λvs H1 (z,q)=>(z,λy hn hy=>a1 _ _ _ _ _ (q y hn) λv W (ev,d,q1,q2)=>(ev,y,d,Y,hy,q1,q2)))
 show UL (cW a3 λu s1 (v,H1,Z,rv,y,d,ev,hy,ey,hE)=>UL (aav (Vq ?_)));subst ev;obtain rfl:u=Vd y:=rv;let(oe,vs,ho,hc,hd,ap,h1):=Ga Z.hok ey;show(y,oe,vs,Y,Z.kIn _ _ lc,ho,hc,ap,h1,hX _ _ ?_);show(y,C,d,UH,D,mR H1 y,Y,(Z.forget ey).unpin,(oe,vs,ho,hc,hd,ap,λ_=>h1,λT x z=>by cases z),hy,λT x z=>(by cases z),qG,hE)
end
section
variable {P:Program} {w:World} {K:PySem.W.Frag} {U:Str->Option Value} {W:Heap}
def Pk{V:XQ}:
  ∀e s',M7 (jt (jL P w) P w K U W N I V f cd A G s H E) E e s'->(jt (jL P w) P w K U W N I V f cd A G s H E).xe e s':=
 λe s' x=>x.leave rfl rfl rfl
def bw{V:Vp}{Z:XQ}:
  gf (jL P w) (jt (jL P w) P w K U W N V Z f cd A I s H E) E:=λO D H' s1 e s' G h=>Pk e s' (M7.of G h)
def N5{V:XQ}{A:VU}:
  PassesOwn (U_ (jt (jL P w) P w K U W N I V f cd A G s H E).prog (jt (jL P w) P w K U W N I V f cd A G s H E).w) (jt (jL P w) P w K U W N I V f cd A G s H E).A
   (jt (jL P w) P w K U W N I V f cd A G s H E).env (jt (jL P w) P w K U W N I V f cd A G s H E).xe:=PassesOwn.leaving
def ON.okX{st:Vs}{N Z:List Vp}{sp:Sp}(F:ON K x ab st f fd)(S:fJ N Z (aP st))(len:∀vs H Q E,sp vs H Q E->↑vs=↑Z)(ap:∀(G:Uv)(A:VU)(I:List Env)(s:UE)(H:Hp)(vs:List V)(Q:VK)(E:XK),Room k (A.deeper (YK ab (aP st) s.heap.objs.size f G))->sp vs H Q E->
   ∃t,yw (jt (jL P w) P w K U W N ab (aP st) f G A I s H E) (dY st) t/\t {nx:=λ_ H'=>Q .non H',rt:=Q} (start N vs) H):ku P w K U W (jL P w) (k+1) f fd Z sp:=by
 let(oc,od,kV,a0,pm,an,G,ct,a1,rfl,lk,ar):=F.ex;show MI lk ar S len λA I s H vs Q E hr av=>ap G A I s H vs Q E hr av
end
section
variable {X:Cx} {O:List (Addr×Obj)} {D:St} {H:Hp} {s:Shared}
def aZ.recast{A':VU}{xe:Uv->UE->Prop}(E:aZ X O D H s)(G:A'.frames=X.A.frames)(I:cl=UB->A'.handled=UH)(V:∀p∈pn++pins',p∈X.pn++O):
  aZ {X with pn:=pn,A:=A',calm:=cl,xe:=xe} pins' D H s:=
 ((E.ok.mod,E.ok.kind,E.ok.glob,E.ok.blt,E.ok.above,E.ok.inj,E.ok.has,E.ok.cab,I,G.trans E.ok.frames,E.ok.stk,E.ok.exf,E.ok.bs,E.ok.bsz,E.ok.noex,E.ok.exfs,E.ok.funs,E.ok.frf),E.os,E.bare,E.base,E.loc,E.cell,E.free,E.freeC,
  λp z=>E.pin p (V p z),E.hok,E.len)
def B3{oe:W2}(I:aZ X O D H s)(Z:s.heap.get? e=Up oe)(V:oe.data=.fields vs):e≠X.env.locals/\(∀x c,X.env.cells.lookup x=Up c->c≠e):=by
 show(λz=>?_,λx c hc z=>?_)
 .let(m,(o',es,ep,G,E,_),_):=I.loc;rw[<-z,Z]at G;cases G;rw[V]at E;cases E
 .let(v,o',G,E):=I.cell x c hc;rw[z,Z]at G;cases G;rw[V]at E;cases E
def aZ.noted{F:List Uw}(E:aZ X O D H s)(r:jK F G I s.heap h')(hF:∀b∈F,b∈DI X.stack)(xa:pY s.heap G C dx I)(a0:X.s_0.heap.objs.size<=G)(ht:∀T x,I=Up (T,x)->X.s_0.heap.objs.size<=T/\H T=none)(hn:H G=none)(a1:∀p∈X.pn++O,p.1≠G)(a2:∀T x,I=Up (T,x)->∀p∈X.pn++O,p.1≠T):aZ X O D H {s with heap:=h'}:=by
 let(oe,vs,he,hc,a5,hd,_,a4):=xa.at_;let hk:=kt.noted E (r.mono hF) E.stkFree hn λT x z=>(ht T x z).2
 let a3:∀b∈G::(I.map (·.1)).toList,b=G\/∃x,I=Up (b,x):=λb V=>by
  rcases UP.mp V with z|z
  .show .inl z
  .cases I with
   |none=>simp at z
   |some p=>let(T,y):=p;simp at z;subst z;show .inr (y,Y)
 let av:∀b,b∉G::(I.map (·.1)).toList->b≠G/\∀T x,I=Up (T,x)->b≠T:=λb V=>by
  show(λz=>V (by rw[z];show UU),λT x z Z=>V ?_);rw[z,Z];show UR _ (by simp)
 show E.step (g':=s.gens) (d':=s.drawn) (t':=s.toks) (ch:=G::(I.map (·.1)).toList) (λb V=>?_) (λb o n1 n2 n3 e n=>?_) (λb o n1 n2 n3 e n=>?_) (λb o _ e n=>n) (λb o n3 e=>?_) (λ_ _ q=>q) (λ_ _ _ q=>q) (λb ps q=>(#[],by rw[q];simp)) (λm hm=>?_) hk E.bare
 .rcases a3 b V with z|⟨y,z⟩
  .subst z;show(.inr a0,(B3 E he hd).1,(B3 E he hd).2,a1)
  .let(_,_,oT,ts,hT,ap,_):=a4 b y z;show(.inr (ht b y z).1,(B3 E hT ap).1,(B3 E hT ap).2,a2 b y z)
 .let(q1,q2):=av b n3;show r.keep b o e (λz=>by
   rcases UP.mp (E.stkSub b (hF b z))with Z|Z
   .show n1 Z
   .show n2 Z) q1 q2
 .let(_,o',ab,an):=E.funs.mem n2;rw[e]at ab;cases ab;show r.slot b o e an
 .by_cases V:b∈F
  .let(_,o',ab,an):=E.stack.mem (hF b V);let(sl,q):=r.slot b o' ab an;show(_,q)
  .let(q1,q2):=av b n3;show(o,r.keep b o e V q1 q2)
 .let(o,es,ep,ho,ar,rr):=hm;let(sl,q):=r.slot _ o ho λvs z=>by rw[ar]at z;cases z
  show(_,es,ep,q,ar,rr)
end
section
variable {X:Cx} {O:List (Addr×Obj)} {D:St} {H:Hp} {s:Shared}
def aZ.reframe{h':Heap}{t':Nat}(E:aZ X O D H s)(hn:h'.Ns X.env.locals m')(U:Ys X.env.locals s.heap h'):aZ X O (VX ↑D UH) H {s with heap:=h',toks:=t'}:=by
 let an:=E.cne;let(m,(oL,es,ep,ap,r),hl):=id E.loc;show(E.ok,E.os,E.bare,(λb o e n hb V=>?_,λb o e n hb V=>?_,E.base.free,λb o e V=>?_,E.base.tups,E.base.frzs,E.base.tbls),(_,hn,λj y v' W Z e3=>?_),λy c e=>?_,E.free,E.freeC,λp hp=>?_,λa o e=>?_,by rw[Zk];show E.len)
 .show(U.2 b (Vl (U9 (U4 e) E.ok.above))).trans (E.base.keep b o e n hb V)
 .let(sl,W):=E.base.slot b o e n hb V;show(sl,(U.2 b (Vl (U9 (U4 e) E.ok.above))).trans W)
 .let(o',W):=E.base.there b o e V;show(o',(U.2 b (Vl (U9 (U4 e) E.ok.above))).trans W)
 .rw[YV]at Z;split at Z<;>cases Z
 .let(w',z):=E.cell y c e;show(w',z.sameBut U (an y c e))
 .let(e,n,ne,nf,d):=E.pin p hp;show((U.2 p.1 ne).trans e,n,ne,nf,d)
 .show(E.hok a o e).stay (λc w' I q=>(U.2 c ?_).trans q) (λ_ q=>q) λ_ _ q=>q
  rintro rfl;let ab:=E.free;rcases I with I|I
  .rw[<-I,ab]at e;cases e
  .rw[ab]at I;cases I
end
inductive Pe(C:Addr)(i n:Nat)(c:TS)(D:mz)(a:Value)(e:Option Addr)(b:Hp):Prop|mk(d:_)(_:a=.ref C)(_:e=some d)(_:∀ea,b ea=none->c {nx:=fun _ _=>False,rt:=D.rt} ((List.replicate n none).set i (some (.ref ea))) (aw b ea (OP ea C d)))
def Td(C:Uw)(i n:Nat)(tb:XK->TS)(ts:TS):TS:=λE D H=>tb (Pe C i n ts E) E D H
section
variable {X:Cx} {i:Nat} {n cx:Str} {C:Addr} {cp hpos G:Pos} {body suite:List Stmt} {b0:Stmt} {tb:XK->TS} {ts:TS}
abbrev Cx.bodyOf(X:Cx)(pn:List (Uw×W2))(xe:Uv->UE->Prop):Cx:={X with pn:=pn,xe:=xe}
abbrev Cx.suiteOf(X:Cx)(pn:List (Uw×W2))(E:Uw):Cx:={X with pn:=pn,A:=X.A.mark (Up (.ref E)),calm:=UF,xe:=λ_ _=>False}
def LV(cc:X.calm=UB)(a2:X.stack=X.env::X.outer)(bk:X.env.frame=Up X.env.locals)(hN:X.N.Nodup)(hi:X.N[i]?=Up n)(hk:X.env.scope.names.lookup n=Up .local)(hg:Gl X cx)(hm:X.mg cx=Up (.ref C))(c:XC X.K C)(hb:∀Eb pn xe,(∀e s',M7 (X.bodyOf pn X.xe) Eb e s'->xe e s')->yw (X.bodyOf pn xe) body (tb Eb))(hs:∀pn I,yw (X.suiteOf pn I) (b0::suite) ts)(bd:(cx==("__debug__":Vp))=UF:=by decide):
  PS X (.Try body [.ExceptHandler (Up (.Name cx cp)) (Up n) (b0::suite) hpos] [] [] G) (Td C i ↑X.N tb ts):=by
 intro O s D H a0 an h;let(nm,q,Nn,bs,sn,sub,ab,col,dd,k0,k1,k2,k3,k5,lc):=c.cls;show wpAny_Try_except ?_;let ap:∀{xe:Uv->UE->Prop}{σ':St}{U:Hp}{s':UE},aZ (X.bodyOf (X.pn++O) xe) [] σ' U s'->aZ X O σ' U s':=λJ=>
  J.recast (pn:=X.pn) (A':=X.A) (cl:=X.calm) (xe:=X.xe) (pins':=O) rfl an.ok.hd (λp E=>by simpa using E)
 show V9 (hb (Pe C i ↑X.N ts a0) (X.pn++O) (λe V=>Vi (U_ X.prog X.w) X.A (acZ e X.env) (λ_ s2=>Vi (U_ X.prog X.w) X.A (setFlight e UH) (λ_ s3=>
   Vi (U_ X.prog X.w) X.A (handleBy e X.env [.ExceptHandler (Up (.Name cx cp)) (Up n) (b0::suite) hpos]) (SP X O a0) X.xe s3) X.xe s2) X.xe V) ?hx [] s D H a0
   (an.recast (pn:=X.pn++O) (A':=X.A) (cl:=X.calm) (pins':=[]) rfl an.ok.hd (λp E=>by simpa using E)) h) (λf V Z=>?hf) λe V Z=>Z
 case hf=>
  cases f with
  |next=>
   let(σ',U,J,d):=Z;show ZJ (σ',U,ap J,d)
  |brk=>let(σ',U,J,d):=Z;show(σ',U,ap J,d)
  |cont=>let(σ',U,J,d):=Z;show(σ',U,ap J,d)
  |ret u=>let(v,σ',U,J,rv,d):=Z;show(v,σ',U,ap J,rv,d)
 case hx=>
  rintro e V ⟨I,C',dx,tr,σ1,H1,rfl,J,xa,⟨ar,av⟩,ht,hn,d,eC,a6,hE⟩;cases eC;cases a6;let b1:=J.stack;let b2:V.heap.FunFrames X.base (X.env::X.outer):=by rw[<-a2];show b1
  show EO (by rw[J.ok.frames];show congrArg Up a2) b2 bk xa λh1 T hT a5 r1=>?_
  rw[<-a2]at r1;let W:vz (X.bodyOf (X.pn++O) X.xe) T/\H1 T=UH:=by
   rcases hT with z|⟨y,z⟩
   .show(vz.of J z,J.hok.fresh z)
   .show ht T y z
  let J1:=J.noted r1 (λb z=>z) xa ar (λT x z=>((ht T x z).1.1,(ht T x z).2)) hn (λp E=>av p (by simpa using E)) (λT x z p E=>(ht T x z).1.2 p (by simpa using E));show qz (s:={V with heap:=h1}) a5 λh2 a3 r2=>?_
  let J2:=J1.noted (F:=[]) r2 (λb z=>absurd z (by simp)) a5 ar (λT x z=>by cases z;show(W.1.1,W.2)) hn (λp E=>av p (by simpa using E)) (λT x z p E=>by cases z;show W.1.2 p (by simpa using E));let bm:(X.suiteOf (X.pn++O) I).mg cx=Up (.ref C):=hm;let J3:aZ (X.suiteOf (X.pn++O) I) [] σ1 H1 {V with heap:=h2}:=J2.recast (pn:=X.pn++O) (A':=X.A.mark (Up (.ref I))) (cl:=UF) (xe:=λ_ _=>False) (pins':=[]) rfl (λz=>by cases z) (λp E=>E);show wpAny_handleBy_cons (codeAny_handlers_test (lN (X:=X.suiteOf (X.pn++O) I) J3 hg bm ?_ bd)) (by intro q;cases q);let hC:=J3.kIn _ _ lc;let(oe,vs,he,hc,a4,a1,_):=a3.at_;show wpAny_excMatches_sub_self (h:=h2) hC he hc () ?_;change Zw _ _ _ _ _;show codeAny_handlers_suite_as (qz (s:={V with heap:=h2}) a3 λh3 b4 r3=>?_);let J4:=J3.noted (F:=[]) r3 (λb z=>absurd z (by simp)) a3 ar (λT x z=>by cases z;show(W.1.1,W.2)) hn (λp E=>av p (by simpa using E)) (λT x z p E=>by cases z;show W.1.2 p (by simpa using E));let(oe,vs,he,hc,a4,a1,_):=b4.at_;let J5:=(J4.track (o:=OP I C dx) hn ar he a1 (λp E=>av p (by simpa using E)) (Pl he hc a4 a1)).weak (σ':=VX ↑σ1 UH) (by rw[Zk]) (λj v z=>by
   rw[YV]at z;split at z<;>cases z)
  show qW (X:=X.suiteOf (X.pn++O) I) (v:=.ref I) J5 hN hi (UT hk) rfl (λs6 J6=>?_) (adV hk);let bl:↑σ1=↑X.N:=J.len;rw[bl]at J6;show V9 (hs (X.pn++O) I [] s6 _ _ _ J6 (hE I hn)) (λf s7 q7=>?_) λ_ _ z=>z.elim
  cases f with
  |next=>let(_,_,_,z):=q7;show z.elim
  |brk=>let(_,_,_,z):=q7;show z.elim
  |cont=>let(_,_,_,z):=q7;show z.elim
  |ret u=>
   let(v,σ7,H7,J7,rv,d7):=q7;let(m7,bt,_):=id J7.loc;let J8:aZ X O σ7 H7 s7:=J7.recast (pn:=X.pn) (A':=X.A) (cl:=X.calm) (xe:=X.xe) (pins':=O) rfl an.ok.hd (λp E=>by simpa using E);show wpAny_nameGoes hk bt (by rw[an.ok.kind];rfl) λh9 m9 bF b3=>?_
   show(v,_,H7,J8.reframe bF b3,rv,d7)
end
end L2
namespace L2
inductive Um(a b:Prop):Prop|mk(_:a)(_:b)
inductive Uo(a b c:Prop):Prop|mk(_:a)(_:b)(_:c)
inductive Sw(a b c d:Prop):Prop|mk(_:a)(_:b)(_:c)(_:d)
inductive T1(a b c d e:Prop):Prop|mk(_:a)(_:b)(_:c)(_:d)(_:e)
inductive SO(a b c d e f:Prop):Prop|mk(_:a)(_:b)(_:c)(_:d)(_:e)(_:f)
inductive Ub(a b c d e f g:Prop):Prop|mk(_:a)(_:b)(_:c)(_:d)(_:e)(_:f)(_:g)
inductive Ul(a b c d e f g h:Prop):Prop|mk(_:a)(_:b)(_:c)(_:d)(_:e)(_:f)(_:g)(_:h)
inductive Uk(a b c d e f g h i:Prop):Prop|mk(_:a)(_:b)(_:c)(_:d)(_:e)(_:f)(_:g)(_:h)(_:i)
inductive Sx(a b c d e f g h i j:Prop):Prop|mk(_:a)(_:b)(_:c)(_:d)(_:e)(_:f)(_:g)(_:h)(_:i)(_:j)
inductive TN {a0:Type} (p:a0->Prop):Prop
 |mk (x0:a0) (_:p x0)
inductive Q8 {a0 a1:Type} (p:a0->a1->Prop):Prop
 |mk (x0:a0) (x1:a1) (_:p x0 x1)
inductive Sj {a0 a1 a2:Type} (p:a0->a1->a2->Prop):Prop
 |mk (x0:a0) (x1:a1) (x2:a2) (_:p x0 x1 x2)
inductive Uj {a0 a1 a2 a3:Type} (p:a0->a1->a2->a3->Prop):Prop
 |mk (x0:a0) (x1:a1) (x2:a2) (x3:a3) (_:p x0 x1 x2 x3)
inductive SJ {a0 a1 a2 a3 a4 a5:Type} (p:a0->a1->a2->a3->a4->a5->Prop):Prop
 |mk (x0:a0) (x1:a1) (x2:a2) (x3:a3) (x4:a4) (x5:a5) (_:p x0 x1 x2 x3 x4 x5)
open PySem PySem.Spec PyProof.Rows
abbrev TU(N P:List Vp)(D:XQ):Prop:=D.kind=.function/\D.isCoroutine=UF/\D.isGenerator=UF/\N.Nodup/\N.take ↑P=P/\(∀x∈P,D.names.lookup x=Up .local\/D.names.lookup x=Up .cell)/\∀y∈D.names,y.2≠.free
def Qd{N P:List Vp}(h:TU N P D):fJ N P D:=let(a,b,c,d,e,f,g):=h;(a,b,c,d,e,f,g)
def K0{N:List Vp}{I D:XQ}{own:List (Vp×Nat)}(h:D.kind=.function/\(∀y∈D.names,D.names.lookup y.1=Up y.2)/\(∀p∈own,N[p.2]?=Up p.1)/\(∀y∈D.names,y.2=.free->I.names.lookup y.1=Up .cell\/I.names.lookup y.1=Up .free)/\∀y∈D.names,y.2=.local\/y.2=.cell->y.1∈own.map (·.1)\/y.1∉N):il N I D own:=let(a,b,c,d,e):=h;(a,b,c,d,e)
def zl(h:Nat.ble n 1000=UB:=by rfl):n<=U1:=Vm (abr h) ()
def zk(h:Nat.ble n 999=UB:=by rfl):n<1000:=Nat.lt_succ_of_le (abr h)
def cf(P:Program)(w:We)(K:UN)(U:Vp->Option Uv)(W:Heap)(CX:F6)(k:Nat)(f:Uw)(ps:List Vp)(dvs:List V)(sp:Sp):Prop:=
 ∃I D,ku P w K U W CX k f I ps sp/\gM K I ps D/\bq dvs D/\Yl K (.ref f)=UB
section
variable {P:Program} {w:World} {K:PySem.W.Frag} {U:Str->Option Value} {W:Heap}
def bb.ok{st:Vs}{N ps:List Vp}{sp:Sp}(F:bb K x D st f ps)(S:fJ N ps (aP st))(len:∀vs H Q E,sp vs H Q E->↑vs=↑ps)(ab:∀(I:Uv)(A:VU)(an:List Env)(s:UE)(H:Hp)(vs:List V)(Q:VK)(E:XK),Room k (A.deeper (YK D (aP st) s.heap.objs.size f I))->sp vs H Q E->
   ∃t,yw (jt cH P w K U W N D (aP st) f I A an s H E).nox (dY st) t/\t {nx:=λ_ O=>Q .non O,rt:=Q} (start N vs) H):cf P w K U W cH (k+1) f ps [] sp:=by
 let(Z,F,b):=F.ex;show(Z,[],F.ok S len ab,b,.nil,F.kp)
def bb.okX{st:Vs}{N ps:List Vp}{sp:Sp}(F:bb K x D st f ps)(S:fJ N ps (aP st))(len:∀vs H Q E,sp vs H Q E->↑vs=↑ps)(ab:∀(I:Uv)(A:VU)(an:List Env)(s:UE)(H:Hp)(vs:List V)(Q:VK)(E:XK),Room k (A.deeper (YK D (aP st) s.heap.objs.size f I))->sp vs H Q E->
   ∃t,yw (jt (jL P w) P w K U W N D (aP st) f I A an s H E) (dY st) t/\t {nx:=λ_ O=>Q .non O,rt:=Q} (start N vs) H):cf P w K U W (jL P w) (k+1) f ps [] sp:=by
 let(Z,F,b):=F.ex;show(Z,[],F.okX S len ab,b,.nil,F.kp)
def cf.imp{sp D:Sp}(F:cf P w K U W CX k f ps dvs sp)(h:∀vs H Q E,D vs H Q E->sp vs H Q E):cf P w K U W CX k f ps dvs D:=by
 let(O,I,F,b,d,Z):=F;show(O,I,F.imp h,b,d,Z)
def bb.o2{st:Vs}{ps:List Vp}{sp:Sp}(F:bb K x O st f ps)(N:List Vp)(Z:∀(vs:List V)(H:Hp)(Q:VK)(E:XK),sp vs H Q E->↑vs=↑ps/\(N.Nodup->∀(D:Uv)(A:VU)(I:List Env)(s:UE),Room k (A.deeper (YK O (aP st) s.heap.objs.size f D))->
   ∃t,yw (jt cH P w K U W N O (aP st) f D A I s H E).nox (dY st) t/\t {nx:=λ_ H'=>Q .non H',rt:=Q} (start N vs) H))(h:TU N ps (aP st):=by decide+kernel):cf P w K U W cH (k+1) f ps [] sp:=
 F.ok (Qd h) (λvs H Q E q=>(Z vs H Q E q).1) λD A I s H vs Q E hr q=>(Z vs H Q E q).2 (Qd h).nd D A I s hr
def bb.oX2{st:Vs}{ps:List Vp}{sp:Sp}(F:bb K x O st f ps)(N:List Vp)(Z:∀(vs:List V)(H:Hp)(Q:VK)(E:XK),sp vs H Q E->↑vs=↑ps/\(N.Nodup->∀(D:Uv)(A:VU)(I:List Env)(s:UE),Room k (A.deeper (YK O (aP st) s.heap.objs.size f D))->
   ∃t,yw (jt (jL P w) P w K U W N O (aP st) f D A I s H E) (dY st) t/\t {nx:=λ_ H'=>Q .non H',rt:=Q} (start N vs) H))(h:TU N ps (aP st):=by decide+kernel):cf P w K U W (jL P w) (k+1) f ps [] sp:=
 F.okX (Qd h) (λvs H Q E q=>(Z vs H Q E q).1) λD A I s H vs Q E hr q=>(Z vs H Q E q).2 (Qd h).nd D A I s hr
end
def OM.ok{P:Program}{K:UN}{W:Heap}{st:Vs}{N ps:List Vp}{sp:Sp}(F:OM K x O st f ps dvs)(S:fJ N ps (aP st))(len:∀vs H Q E,sp vs H Q E->↑vs=↑ps)(ab:∀(D:Uv)(A:VU)(I:List Env)(s:UE)(H:Hp)(vs:List V)(Q:VK)(E:XK),Room k (A.deeper (YK O (aP st) s.heap.objs.size f D))->sp vs H Q E->
   ∃t,yw (jt cH P w K U W N O (aP st) f D A I s H E).nox (dY st) t/\t {nx:=λ_ Z=>Q .non Z,rt:=Q} (start N vs) H)(j:Nat)(hj:j<=↑dvs):cf P w K U W cH (k+1) f ps (dvs.drop j) sp:=by
 let(oc,od,dV,kV,av,pm,an,D,ct,a0,ds,lk,ap,r,hb):=F.ex;show(_,ds.drop j,MI lk ap S len λA I s H vs Q E hr ar=>?_,hb j (by rw[<-↑r];show hj),r.drop j,F.kp);let(t,h,q):=ab D A I s H vs Q E hr ar;show(t,h.nox,q)
section
variable {X:Cx} {CX:F6} {k:Nat} {f C:Addr} {ps:List Str} {sp:Sp} {dvs:List V} {E:XK} {x m:Str} {v:V} {p G apos:Pos} {e o:Expr} {es:List Expr} {ta:TE} {t:TA}
def pg(h:fE X.mg x v)(I:Gl X x:=by show rfl)(D:(x==("__debug__":Vp))=UF:=by decide):PE X (.Name x G) (tC v):=by
 let(u,O,r):=h;show N1 I O r D
def aX(F:cf X.prog X.w X.K X.mg X.base CX k f ps dvs sp)(hm:X.mg x=Up (.ref f))(hr:Room k X.A)(hx:gf CX X E)(D:PA X (e::es) t)(Z:Gl X x:=by show rfl)(I:(x==("__debug__":Vp))=UF:=by decide)(O:Vt (e::es) X.env=(UF,Xq e X.env)::Vt es X.env:=by rfl)(ab:(Yk G (Vt es X.env)).any (·.1)=UF:=by rfl):
  PE X (.Call (.Name x p) (e::es) [] G) (mD sp dvs E t):=by
 let(fd,ds,F,b,d,kp):=F;show N3 F hr Z hm kp b d hx D I O ab
def dS(M:Mk X.K C f)(F:cf X.prog X.w X.K X.mg X.base CX k f ps dvs sp)(hm:X.mg x=Up (.ref C))(hr:Room (k+1) X.A)(hx:gf CX X E)(D:PA X (e::es) t)(Z:Gl X x:=by show rfl)(I:(x==("__debug__":Vp))=UF:=by decide)(O:Vt (e::es) X.env=(UF,Xq e X.env)::Vt es X.env:=by rfl)(ab:(Yk G (Vt es X.env)).any (·.1)=UF:=by rfl):
  PE X (.Call (.Name x p) (e::es) [] G) (qV C sp dvs E t):=by
 let(fd,ds,F,b,d,kp):=F;show NZ M F hr Z hm b d hx D I O ab
def Qp(M:Mk X.K C f)(F:cf X.prog X.w X.K X.mg X.base CX k f ps dvs sp)(O:X.mg x=Up (.ref C))(Z:Room (k+1) X.A)(hx:gf CX X E)(I:Gl X x:=by show rfl)(D:(x==("__debug__":Vp))=UF:=by decide):PE X (.Call (.Name x p) [] [] G) (qV C sp dvs E b8):=by
 let(fd,ds,F,b,d,kp):=F;show L3 M F Z I O b d hx D
def bg{pl:Sem Bool}(O:PE X o ta)(c:vY X.K C)(Z:dN X.K C m f)(F:cf X.prog X.w X.K X.mg X.base CX k f ps dvs sp)(hr:Room k X.A)(hx:gf CX X E)(I:PA X (e::es) t)(an:Vt (e::es) X.env=(UF,eval e X.env)::Vt es X.env:=by rfl)(ab:(Yk G (Vt es X.env)).any (·.1)=UF:=by rfl)(ht:eval (.Call (.Attribute o m apos) (e::es) [] G) X.env=(do
   let D<-eval o X.env
   standAt apos.atName
   let(f,first)<-holding [D] (aaM D m pl)
   callWith G f first (Yk G (Vt (e::es) X.env)) (acC G (aan [] X.env))):=by rfl):
  PE X (.Call (.Attribute o m apos) (e::es) [] G) (iZ C m sp dvs E ta t):=by
 let(fd,ds,F,b,d,kp):=F;show NY (pl:=pl) O c Z F hr b d hx I an ab ht
def bu(I:PE X o ta)(c:vY X.K C)(O:dN X.K C m f)(F:cf X.prog X.w X.K X.mg X.base CX k f ps dvs sp)(Z:Room k X.A)(hx:gf CX X E)(ht:eval (.Call (.Attribute o m apos) [] [] G) X.env=(do
   let D<-eval o X.env
   standAt apos.atName
   let(f,first)<-holding [D] (aaM D m pl)
   callWith G f first (Yk G (Vt [] X.env)) (acC G (aan [] X.env))):=by rfl):
  PE X (.Call (.Attribute o m apos) [] [] G) (iZ C m sp dvs E ta b8):=by
 let(fd,ds,F,b,d,kp):=F;show L0 (pl:=pl) I c O F Z b d hx ht
end
end L2
namespace HX
open PySem PySem.Spec PyProof.Rows L2
def Je(K:UN)(H:Hp)(l:Uw)(xs:List V):Prop:=(∃o,H l=Up (.frz o (.lst xs)))\/
 ∃(o:W2)(D:Array Uv)(n:Nat),K.lookup l=Up o/\o.cls=.type "list"/\o.dict=UH/\o.data=.seq D n/\D.size<=U1/\bq xs D.toList
inductive JJ(K:PySem.W.Frag)(b:List V)(H:Hp)(Q:VK)(c:XK):Prop|mk(l a:_)(_:b=[.ref l])(_:Je K H l (a.map V.int))(_:PyVasepa.answers_asked a=true)(_:∀H' p,H' p=some (.lst ((PyVasepa.answers a).map V.int))->Q (.ref p) H')
structure Th where
 (tP:Program) (tw:World) (tK:PySem.W.Frag) (tm:Str->Option Value) (tb:Heap) (ta:Ad)
def Bad (t:Th):Prop:=TX t.tK t.tm t.ta/\ ¬ ∀fd,ON t.tK "answers" "answers" sE t.ta.o_ fd->ku t.tP t.tw t.tK t.tm t.tb cH 14 t.ta.o_ fd ["calls"] (JJ t.tK)
theorem th_ne:Nonempty Th:=⟨⟨PySem.Challenge.rw_heappieces_s01_answers.prog,PySem.W.aWorld 1,[],fun _=>none,default,default⟩⟩
def th:Th:=@Classical.epsilon Th th_ne Bad
@[irreducible]def P:Program:=th.tP
@[irreducible]def w:World:=th.tw
@[irreducible]def K:PySem.W.Frag:=th.tK
@[irreducible]def U:Str->Option Value:=th.tm
@[irreducible]def W:Heap:=th.tb
@[irreducible]def a:Ad:=th.ta
def S(l:List Nat):Vp:=⟨l.toArray⟩
def k9{a b:List Nat}(h:S a=S b):a=b:=by
 unfold S at h;injection h with h;have:=congrArg Z1 h;simpa using this
def a9(l:List Nat):↑(S l)=↑l:=by simp [S,Str.length]
def F5(l:List Nat):(S l).cps.toList=l:=by simp [S]
section
def tf(t p f:V):List (Vp×V):=[("text",t),("place",p),("fault",f)]
inductive ny(C:Addr)(c:List V)(H:Hp)(Q:VK)(d:XK):Prop|mk(p a t b f:_)(_:c=[.ref p,t,b,f])(_:H p=some (.ins C a []))(_:Q .non (aw H p (.ins C a (tf t b f))))
def jR(T:TX K U a):cf P w K U W cH 1 a.ma ["self","text","place","fault"] [] (ny a.cF):=by
 show T.Dr.o2 ["self","text","place","fault"] λvs H Q G h=>?_
 let(p,D,t,pl,f,rfl,E,k):=h;show(Y,λV I A Z s O=>?_);show(_,ac (br (pv 0) (pv 1) rfl) (ac (br (pv 0) (pv 2) rfl) (ag (br (pv 0) (pv 3) rfl))),?_)
 iterate 3 skip
 show(_,Y,_,Y,p,_,D,_,Y,E,T.bZ,T.cu,zk,?_);show(_,Y,_,Y,p,_,D,_,Y,ae,T.bZ,T.dI,zk,?_);show(_,Y,_,Y,p,_,D,_,Y,ae,T.bZ,T.eI,zk,?_);rw[b_,b_];show k
end
section
variable {X:Cx}
def Mc:OL X "str.find" (λx xs H Q=>∃a b i,x=.str a/\xs=[.str b,.int i]/\Q (.int (ac1 a b i)) H):=by
 intro O s D H x xs v us Q G Z E h;let(a,b,i,rfl,rfl,h):=h;let(t,rfl):=Z;cases E with
 |cons I E=>
  cases E with
  |cons V E=>
   cases E;let(u,rfl):=I;let(u',rfl):=V;show PySem.SC.find3 (.int (ac1 a b i),H,G.tok _,(_,Y),h)
end
def yp{s:List Nat}(h:s.drop n=c::r):MW s (n:Int)=Up c:=by
 apply b5;have:(s.drop n)[0]?=Up c:=by rw[h];rfl
 rw[WP,Wy]at this;show this
def vT{s:List Nat}(h:s.drop n=c::r):n<↑s:=by
 have:=congrArg Xc h;rw[Vx,Ut]at this;lia
def AM{s:List Nat}(h:s.drop n=c::r):s.drop (n+1)=r:=by
 have:(s.drop n).drop 1=r:=by rw[h];rfl
 rw[V6]at this;show this
section
inductive yI(a:List V)(H:Hp)(Q:VK)(b:XK):Prop|mk(s:List Nat)(n:Nat)(m:Str)(p:Nat->Bool)(_:a=[.str (S s),.int n,.str m])(_:s.length<=100000)(_:n<=s.length)(_:∀c,decide (c∈m.cps.toList)=p c)(_:Q (.int ((n+((s.drop n).takeWhile p).length:Nat):Int)) H)
def uV(T:TX K U a):cf P w K U W cH 1 a.jh ["signs","at","members"] [] yI:=by
 show T.yg.o2 ["signs","at","members"] λvs H Q ab h=>?_
 let(s,n,m,p,rfl,hz,μ,hp,k):=h;show(Y,λnd ap A av s0 hr=>?_);show(_,ac (dF Vz (PW.pt (jP (au nN (pv 1) (aW eX (by rfl) T.cO U2 (aa (pv 0) af)) (aB _))
   (iM (au i7 (c9 xA (pv 0) (pv 1) (λ_ _=>rfl)) (pv 2) (by with_unfolding_all rfl)))))
   (ag (qm (i:=1) nd rfl (UT rfl) aF qy)))
  (ag (am (pv 1))),?_)
 iterate 2 skip
 show(λZ D I=>Q8 λ(j:Nat)(r:List Nat)=>SO (D=[Up (.str (S s)),Up (.int ((n+j:Nat):Int)),Up (.str m)]) (I=H) (Z=↑r) (r=s.drop (n+j)) (n+j<=↑s) (j+↑(r.takeWhile p)=↑((s.drop n).takeWhile p)),
  (_,0,s.drop n,Y,Y,Y,by rw[Nat.add_zero],μ,⋯),?_)
 rintro Z D I ⟨j,r,rfl,rfl,rfl,G,hj,E⟩;show(_,Y,(_,Y,_,Y,(by rw[a9,sizeLine_eq];lia),_,_,Y,Y,_,Y,?_));rw[a9];cases r with
 |nil=>
  let hl:↑s<=n+j:=by
   have:=congrArg List.length G;rw[List.length_drop,List.length_nil]at this;lia
  rw[decide_eq_false ⋯];rw[ifn Ur];simp only[List.takeWhile_nil,List.length_nil]at E;show(_,Y,?_);change Q (.int ((n+j:Nat):Int)) I;have:j=↑((s.drop n).takeWhile p):=⋯
  rw[this];show k
 |cons c r=>
  let ar:=vT G.symm;rw[decide_eq_true ⋯];rw[ifp rfl];show(_,Y,_,Y,S s,_,c,Y,Y,(by rw[a9,sizeLine_eq];lia),(by rw[F5];show yp G.symm),_,Y,c,m,Y,Y,_,Y,?_);rw[hp c];cases O:p c with
  |true=>
   rw[ifp rfl];show(λσ' an=>∃μ',μ'<↑(c::r)/\_,λ_ _ z=>z,_,Y,_,_,Y,Y,?_);show(↑r,by simp,j+1,r,?_,Y,Y,?_,⋯,?_)
   .change [Up (V.str (S s)),Up (V.int (((n+j:Nat):Int)+1)),Up (V.str m)]=_;have:((n+j:Nat):Int)+1=((n+(j+1):Nat):Int):=⋯
    rw[this]
   .rw[<-AM G.symm];rfl
   .rw[List.takeWhile_cons,O]at E;simp only[if_true,List.length_cons]at E;lia
  |false=>
   rw[ifn Ur];rw[List.takeWhile_cons,O]at E;simp only[UA,if_false,List.length_nil]at E;show(_,Y,?_);have:j=↑((s.drop n).takeWhile p):=⋯
   rw[this];show k
inductive Ec(a:List V)(H:Hp)(Q:VK)(b:XK):Prop|mk(s:List Nat)(n:Nat)(_:a=[.str (S s),.int n])(_:s.length<=100000)(_:n<=s.length)(_:Q (.int ((s.length-((s.drop n).dropWhile fun x=>x !=10).length:Nat):Int)) H)
def jH{p:I->Bool}:∀{l:List I}{k:Nat},k<↑l->(∀v,v<k->∀x,l[v]?=Up x->p x=UB)->(∀x,l[k]?=Up x->p x=UF)->↑(l.dropWhile p)+k=↑l
 |[],k,D,_,_=>by simp at D
 |a::l,0,D,_,h=>by
  rw[WE,h a rfl];simp
 |a::l,k+1,D,G,h2=>by
  rw[WE,G 0 ⋯ a rfl];simp only[if_true,Ut];have:=jH (l:=l) (k:=k) (p:=p) (by simpa using D) (λv O x E=>G (v+1) ⋯ x (by simpa using E)) (λx E=>h2 x (by simpa using E));lia
def pV{p:D->Bool}:∀{l:List D},(∀x∈l,p x=UB)->l.dropWhile p=[]
 |[],_=>rfl
 |a::l,h=>by
  rw[WE,h a (by simp)];simp only[if_true];show pV λx E=>h x (by simp [E])
def jV(h:n<=l):adj l (n:Int)=n:=by
 unfold adj;rw[ifn (Int.not_lt.mpr (Int.natCast_nonneg n)),Int.max_eq_right (Int.natCast_nonneg n)];rfl
def MJ{s:List Nat}(I:n<=↑s):
  (ac1 (S s) ⟨#[10]⟩ n= -1/\(s.drop n).dropWhile (λx=>x !=10)=[])\/∃k:Nat,ac1 (S s) ⟨#[10]⟩ n=k/\k+↑((s.drop n).dropWhile λx=>x !=10)=↑s:=by
 let E:↑(S s)=↑s:=a9 s;let G:∀v,(S s).cps.getD v 0=s.getD v 0:=λv=>by simp [S,Array.getD_eq_getD_getElem?,Vy]
 rcases PySem.StrLaws.find3_spec (S s) 10 n with⟨e,h⟩|⟨k,e,Z,h2,V,h4⟩
 .left
  show(e,pV λx D=>?_);let(i,hi,O):=List.mem_iff_getElem.mp D;rw[Vx]at hi;have:=h (n+i) (by rw[E,jV I];lia) (by rw[E];lia);rw[G,Vy,UC ⋯]at this;rw[List.getElem_drop]at O;simp only[Option.getD_some]at this;rw[O]at this;simpa using this
 .right
  rw[E,jV I]at Z;rw[E]at h2;show(k,e,?_);have:=jH (l:=s.drop n) (k:=k-n) (p:=λx=>x !=10) (by rw[Vx];lia) (λv hv x D=>?_) (λx D=>?_)
  .rw[Vx]at this;lia
  .rw[WP]at D;let q:=h4 (n+v) (by rw[E,jV I];lia) ⋯;rw[G,Vy,D]at q;simpa using q
  .rw[WP,show n+(k-n)=k by lia]at D;rw[G,Vy,D]at V;simpa using V
def Sk:(Uy "\n")=⟨#[10]⟩:=()
def zd(T:TX K U a):cf P w K U W cH 1 a.lW ["signs","at"] [] Ec:=by
 show T.Dj.o2 ["signs","at","end"] λvs H Q G h=>?_
 let(s,n,rfl,V,D,k):=h;show(Y,λE I A Z s0 O=>?_);show(_,ac (aA (i:=2) E rfl (UT rfl) (ej abV PySem.F.slot_str_find PySem.F.type_str_find Mc (pv 0) (aa aD (aa (pv 1) af))))
  (ag (am (gy (au nN (pv 2) aF (aB _)) (aW eX (by rfl) T.cO U2 (aa (pv 0) af)) (pv 2)))),?_)
 iterate 2 skip
 show(_,Y,Y,_,Y,S s,_,_,Y,Y,?_);change bJ _ _ _ _;show(_,Y,_,_,Y,Y,_,Y,?_);rw[Sk];rcases MJ D with⟨e,d⟩|⟨j,e,d⟩
 .rw[e,decide_eq_true ()];rw[ifp rfl];show(_,Y,_,Y,(by rw[a9,Ux];lia),?_);rw[a9];rw[d,Vr,Nat.sub_zero]at k;show k
 .rw[e,decide_eq_false ⋯];rw[ifn Ur];show(_,Y,?_);have:j=↑s-↑((s.drop n).dropWhile λx=>x !=10):=⋯
  rw[this];show k
end
section
open HM (fb skip)
def OH:(Uy " \n#").cps.toList=[32,10,35]:=()
def Q3:(Uy "#")=⟨#[35]⟩:=()
def Oa:((⟨#[c]⟩:Vp)=⟨#[d]⟩)↔c=d:=by
 constructor
 .intro h;injection h with h;have:=congrArg Z1 h;simpa using this
 .intro h;rw[h]
def nv{s r:List Nat}(D:n<=↑s)(h:r<:+s.drop n):r=s.drop (↑s-↑r)/\↑s-↑r<=↑s/\n<=↑s-↑r:=by
 let h2:r<:+s:=h.trans (ada _ _);let e:=List.suffix_iff_eq_drop.mp h2;let l:=h.length_le;rw[Vx]at l;show(e,⋯,⋯)
section
inductive Bu(a:List V)(H:Hp)(Q:VK)(b:XK):Prop|mk(s:List Nat)(n:Nat)(_:a=[.str (S s),.int n])(_:s.length<=100000)(_:n<=s.length)(_:Q (.int ((s.length-(skip (s.drop n)).length:Nat):Int)) H)
def w6(T:TX K U a):cf P w K U W cH 2 a.j0 ["signs","at"] [] Bu:=by
 let an:=zd T;show T.zO.o2 ["signs","at"] λvs H Q ar h=>?_
 let(s,n,rfl,hz,hn,k):=h;show(Y,λnd a0 A a2 s0 hr=>?_);show(_,ac (dF Vz (PW.pt (jP (au nN (pv 1) (aW eX (by rfl) T.cO U2 (aa (pv 0) af)) (aB _))
   (iM (au i7 (c9 xA (pv 0) (pv 1) (λ_ _=>rfl)) aD (by with_unfolding_all rfl)))))
   (ag (aJ (au bP (c9 xA (pv 0) (pv 1) (λ_ _=>rfl)) aD (aB _))
    (ag (aA (i:=1) nd rfl (UT rfl) (aX an T.CV hr aq (aa (pv 0) (aa (pv 1) af)))))
    (ag (qm (i:=1) nd rfl (UT rfl) aF qy)))))
  (ag (am (pv 1))),?_)
 iterate 2 skip
 show(λab D O=>Q8 λ(m:Nat)(r:List Nat)=>SO (D=[Up (.str (S s)),Up (.int (m:Int))]) (O=H) (ab=↑r) (r=s.drop m) (m<=↑s) (skip r=skip (s.drop n)),
  (_,n,s.drop n,Y,Y,Y,Y,hn,Y),?_)
 rintro ab D O ⟨m,r,rfl,rfl,rfl,E,hm,I⟩;let hsz:↑(S s)<=U1:=by rw[a9,Ux];lia
 show(_,Y,(_,Y,_,Y,hsz,_,_,Y,Y,_,Y,?_));rw[a9];cases r with
 |nil=>
  let hl:↑s<=m:=by
   have:=congrArg List.length E;rw[List.length_drop,List.length_nil]at this;lia
  rw[decide_eq_false ⋯];show be ?_;show(_,Y,?_);rw[<-I,skip,List.length_nil,Nat.sub_zero,show ↑s=m by lia]at k;show k
 |cons c r=>
  let a1:=vT E.symm;let μ:MW (S s).cps.toList (m:Int)=Up c:=by rw[F5];show yp E.symm
  rw[decide_eq_true ⋯];show bf ?_;show(_,Y,_,Y,S s,_,c,Y,Y,hsz,μ,c,_,Y,Y,_,Y,?_);rw[OH];by_cases Z:c=32\/c=10\/c=35
  .rw[decide_eq_true (by simpa using Z)];show bf ?_;show(λσ' av=>∃μ',μ'<↑(c::r)/\_,λ_ _ z=>z,?_);show(_,Y,_,Y,S s,_,c,Y,Y,hsz,μ,Y,_,Y,?_);rw[Q3];by_cases G:c=35
   .rw[decide_eq_true (by rw[G])];show bf ?_;show(_,Y,_,Y,s,m,Y,hz,hm,?_);let hd:(s.drop m).dropWhile (λx=>x !=10)=r.dropWhile λx=>x !=10:=by
     rw[<-E,List.dropWhile_cons,G]
     rfl
    rw[hd];let ap:(r.dropWhile λx=>x !=10)<:+s.drop m:=by rw[<-E];show(List.dropWhile_suffix _).trans (List.suffix_cons _ _)
    let(q1,q2,q3):=nv hm ap;show(_,?_,_,r.dropWhile λx=>x !=10,Y,Y,Y,q1,q2,?_)
    .have:=HM.dropWhile_length (λx:Nat=>x !=10) r;simp only[List.length_cons];lia
    .rw[<-I,skip.eq_def (c::r)];simp only[G,if_true]
   .rw[decide_eq_false (λz=>G (Oa.mp (V.str.inj z)))];show be ?_;show(_,Y,_,_,Y,Y,?_);show(↑r,by simp,m+1,r,?_,Y,Y,(AM E.symm).symm,⋯,?_)
    .change [Up (V.str (S s)),Up (V.int ((m:Int)+1))]=_
     rfl
    .rw[<-I,skip.eq_def (c::r)];simp only[G,if_false];rw[ifp ⋯]
  .rw[decide_eq_false (by simpa using Z)];show be ?_;show(_,Y,?_);let e:skip (c::r)=c::r:=by
    rw[skip.eq_def];simp only;rw[ifn ⋯,ifn ⋯]
   rw[<-I,e]at k;have:↑s-↑(c::r)=m:=by
    have:=congrArg List.length E;rw[List.length_drop]at this;lia
   rw[this]at k;show k
def mS(C:Uw)(H:Hp)(x:Uw)(t:fb):Prop:=∃D,H x=Up (.ins C D (tf (.str (S t.text)) (.int t.place) (.int t.fault)))
def mS.same(h:mS C H x t)(s:fi H D):mS C D x t:=let(E,e):=h;(E,s _ _ e)
def bK{H:Hp}{x D C:Uw}(E:H x=UH)(G:H D=UH):fi H (aw (aw (aw H D (.own x)) x o') x o):=λb u e=>by
 rw[ah (ak e E),ah (ak e E),ah (ak e G)];show e
def nj{H:Hp}{t:fb}{Q:VK}(h:∀E x,fi H E->mS C E x t->Q (.ref x) E)(x D:Uw)(O:H x=UH)(I:H D=UH)(V:D≠x):
  ny C (.ref x::([.str (S t.text),.int t.place,.int t.fault]++[])) (aw (aw H D (.own x)) x (.ins C D [])) (λv G=>v=.non/\Q (.ref x) G) E0:=
 (x,D,_,_,_,Y,ae,Y,h _ x (bK (C:=C) O I) (D,ae))
def Jf:(Uy "")=S []:=()
inductive wu(C:Addr)(a:List V)(H:Hp)(Q:VK)(c:XK):Prop|mk(t:List Nat)(p:Nat)(b:Bool)(_:a=[.str (S t),.int p,.bl b])(_:∀H' x,fi H H'->mS C H' x (if b then⟨t,p,3⟩else⟨[],p,2⟩)->Q (.ref x) H')
def sT(T:TX K U a):cf P w K U W cH 3 a.iB ["text","place","as_told"] [] (wu a.cF):=by
 let O:=jR T;show T.vp.o2 ["text","place","as_told"] λvs H Q Z h=>?_
 let(t,p,b,rfl,k):=h;show(Y,λD ab A an s0 V=>?_);show(_,ac (aJ (cB (pv 2)) (ag (am (dS T.kR O T.kW V aq (aa (pv 0) (aa (pv 1) (aa (pg T.gu) af)))))) ay)
  (ag (am (dS T.kR O T.kW V aq (aa aD (aa (pv 1) (aa (pg T.yC) af)))))),?_)
 iterate 2 skip
 show(_,Y,b,Y,?_);cases b with
 |true=>
  show bf (_,Y,_,Y,λx E I D G=>?_);show nj (t:=(t,p,3)) k x E I D G
 |false=>
  show be (_,Y,λx E I D G=>?_);rw[Jf];show nj (t:=([],p,2)) k x E I D G
end
end
section
open HM (skip cN)
def Aw(c:Nat):decide (c∈(Uy "abcdefghijklmnopqrstuvwxyz").cps.toList)=Vu c:=
 HM.asc (p:=λc=>decide (c∈(Uy "abcdefghijklmnopqrstuvwxyz").cps.toList)) () (λc h=>(by decide+kernel:∀c∈(Uy "abcdefghijklmnopqrstuvwxyz").cps.toList,c<128) c (of_decide_eq_true h)) HM.small_lt c
def Ax(c:Nat):decide (c∈(Uy "0123456789").cps.toList)=VQ c:=
 HM.asc (p:=λc=>decide (c∈(Uy "0123456789").cps.toList)) () (λc h=>(by decide+kernel:∀c∈(Uy "0123456789").cps.toList,c<128) c (of_decide_eq_true h)) HM.digit_lt c
def Kc(c:Nat):decide (c∈(Uy "abcdefghijklmnopqrstuvwxyz0123456789_").cps.toList)=VO c:=
 HM.asc (p:=λc=>decide (c∈(Uy "abcdefghijklmnopqrstuvwxyz0123456789_").cps.toList)) () (λc h=>(by decide+kernel:∀c∈(Uy "abcdefghijklmnopqrstuvwxyz0123456789_").cps.toList,c<128) c (of_decide_eq_true h)) HM.inner_lt c
def Dc(s:List Nat)(D:n<=m)(h2:n<=↑s):KE (S s) (Up (n:Int)) (Up (m:Int))=S ((s.drop n).take (m-n)):=by
 unfold KE;rw[HT.sIx_nat,HT.sIx_nat,a9,F5,WZ h2];unfold S
 congr 2
 by_cases h:m<=↑s
 .rw[WZ h]
 .rw[Nat.min_eq_right ⋯,X4 (by rw[Vx];lia),X4 (by rw[Vx];lia)]
def iY{p:Nat->Bool}:∀l:List Nat,l.take ↑(l.takeWhile p)=l.takeWhile p
 |[]=>rfl
 |a::l=>by
  rw[WC];by_cases h:p a=UB
  .simp only[h,if_true,Ut,ab0,iY l]
  .simp [h]
def vR:∀(l:List Vp),CP (.str x) (l.map V.str)=l.contains x
 |[]=>rfl
 |b::l=>by
  let D:=vR (x:=x) l;unfold CP at D⊢;rw[UJ,XG,D,VE]
  congr 1
  change(b==x)=(x==b);show Bool.beq_comm
def mq(t:List Nat):∀(l:List (List Nat)),(l.map S).contains (S t)=l.contains t
 |[]=>rfl
 |b::l=>by
  rw[UJ,VE,VE,mq t l]
  congr 1
  rw[Vv,beq_iff_eq,beq_iff_eq];show(λh=>k9 h,λh=>by rw[h])
def Ov(t:List Nat):CP (.str (S t)) [V.str "==",V.str "!=",V.str "->"]=W6.contains t:=by
 let e:[V.str "==",V.str "!=",V.str "->"]=(W6.map S).map V.str:=()
 rw[e,vR,mq]
def Mw(c:Nat):CP (.str ⟨#[c]⟩) [V.str "(",V.str ")",V.str "*",V.str ",",V.str ".",V.str ":",V.str ";",V.str "=",V.str "{",V.str "}"]=YG.contains c:=by
 let e:[V.str "(",V.str ")",V.str "*",V.str ",",V.str ".",V.str ":",V.str ";",V.str "=",V.str "{",V.str "}"]=
   ((YG.map λc=>[c]).map S).map V.str:=()
 rw[e,vR,show(⟨#[c]⟩:Vp)=S [c]from rfl,mq];have:∀l:List Nat,(l.map λc=>[c]).contains [c]=l.contains c:=λl=>by
  induction l with
  |nil=>rfl
  |cons b l D=>
   rw[UJ,VE,VE,D]
   congr 1
   simp
 show this _
def yt:(Uy "0")=S [48]:=()
section
inductive JA(C:Addr)(a:List V)(H:Hp)(Q:VK)(b:XK):Prop|mk(s:List Nat)(n c:Nat)(r:List Nat)(_:a=[.str (S s),.int n])(_:s.length<=100000)(_:s.drop n=c::r)(_:∀H' x,fi H H'->mS C H' x (cN n (c::r))->Q (.ref x) H')
def EE(T:TX K U a):cf P w K U W cH 4 a.qA ["signs","at"] [] (JA a.cF):=by
 let an:=jR T;let GC:=sT T;let GM:=uV T;show T.Ib.o2 ["signs","at","sign","word","number"] λvs H Q a3 h=>?_
 let(s,n,c,r,rfl,hz,G,k):=h;show(Y,λE a4 A a5 s0 hr=>?_);let a0:Room 1 _:=hr.mono ();let ap:Room 2 _:=hr.mono ();show(_,ac (aA (i:=2) E rfl (UT rfl) (c9 xA (pv 0) (pv 1) (λ_ _=>rfl)))
  (ac (aJ (au i7 (pv 2) (pg T.mB) (by with_unfolding_all rfl))
   (ac (aA (i:=3) E rfl (UT rfl) (fQ By (pv 0) (eu (pv 1)) (eu (aX GM T.ol a0 aq (aa (pv 0) (aa (pv 1) (aa (pg T.Bg) af)))))))
    (ag (am (aX GC T.mP hr aq (aa (pv 3) (aa (pv 1) (aa (dv ui (aW eX (by rfl) T.cO U2 (aa (pv 3) af)) (pg T.v9) (aB _)) af))))))) ay)
  (ac (aJ (au i7 (pv 2) (pg T.DS) (by with_unfolding_all rfl))
   (ac (aA (i:=4) E rfl (UT rfl) (fQ By (pv 0) (eu (pv 1)) (eu (aX GM T.ol a0 aq (aa (pv 0) (aa (pv 1) (aa (pg T.DS) af)))))))
    (ag (am (aX GC T.mP hr aq (aa (pv 4) (aa (pv 1) (aa (dv bP (pv 4) aD (aB _)) af))))))) ay)
  (ac (aJ (au gi (fQ By (pv 0) (eu (pv 1)) (eu (bI lD (pv 1) aF))) (pg T.Bk) (by with_unfolding_all rfl))
   (ag (am (dS T.kR an T.kW ap aq (aa (fQ By (pv 0) (eu (pv 1)) (eu (bI lD (pv 1) aF))) (aa (pv 1) (aa (pg T.gu) af)))))) ay)
  (ac (aJ (au gi (pv 2) (pg T.yB) (by with_unfolding_all rfl))
   (ag (am (dS T.kR an T.kW ap aq (aa (pv 2) (aa (pv 1) (aa (pg T.gu) af)))))) ay)
  (ag (am (dS T.kR an T.kW ap aq (aa aD (aa (pv 1) (aa (pg T.Gf) af)))))))))),?_)
 iterate 6 skip
 let hsz:↑(S s)<=U1:=by rw[a9,Ux];lia
 let O:=vT G;let a1:MW (S s).cps.toList (n:Int)=Up c:=by rw[F5];show yp G
 show(_,Y,_,Y,S s,_,c,Y,Y,hsz,a1,?_);show(_,Y,c,_,Y,Y,_,Y,?_);rw[Aw];unfold cN at k;cases h1:Vu c with
 |true=>
  simp only[h1,if_true]at k;show bf (_,Y,_,Y,_,Y,_,Y,_,Y,s,n,_,VO,Y,hz,Xb O,Kc,?_);show(_,Y,S s,Y,hsz,?_);let hw:(c::r).takeWhile VO=c::r.takeWhile VO:=by rw[WC,HM.small_inner h1];rfl
  rw[Dc s (ac7 _ _) (Xb O),G,YU,iY,hw];show(_,Y,_,Y,_,Y,_,Y,?_);let a2:↑(S (c::r.takeWhile VO))<=U1:=by
   rw[a9,Ux];let q1:↑(r.takeWhile VO)<=↑r:=(abt _).length_le;let q2:=congrArg Xc G;rw[Vx,Ut]at q2;rw[Ut];lia
  show(a2,_,_,Y,Y,?_);show(c::r.takeWhile VO,n,_,Y,?_);rw[a9];intro H' x hs D;show k H' x hs ?_;by_cases ar:↑(c::r.takeWhile VO)<=12
  .rw[ifp ar];rw[decide_eq_true ⋯]at D;simpa using D
  .rw[ifn ar];rw[decide_eq_false ⋯]at D;simpa using D
 |false=>
  show be (_,Y,c,_,Y,Y,_,Y,?_);rw[Ax];simp only[h1,UA,if_false]at k;cases h2:VQ c with
  |true=>
   simp only[h2,if_true]at k;show bf (_,Y,_,Y,_,Y,_,Y,_,Y,s,n,_,VQ,Y,hz,Xb O,Ax,?_);show(_,Y,S s,Y,hsz,?_);let hw:(c::r).takeWhile VQ=c::r.takeWhile VQ:=by rw[WC,h2];rfl
   rw[Dc s (ac7 _ _) (Xb O),G,YU,iY,hw];show(_,Y,_,Y,_,Y,Y,?_);show(c::r.takeWhile VQ,n,_,Y,?_);rw[yt];intro H' x hs D;show k H' x hs ?_;by_cases ab:c::r.takeWhile VQ=[48]
   .rw[ifp ab];rw[ab,decide_eq_true rfl]at D;simpa using D
   .rw[ifn ab];rw[decide_eq_false (λz=>ab (k9 (V.str.inj z)))]at D;simpa using D
  |false=>
   simp only[h2,UA,if_false]at k;let av:KE (S s) (Up (n:Int)) (Up ((n:Int)+2))=S (c::r.take 1):=by
    have:=Dc s (n:=n) (m:=n+2) ⋯ (Xb O);rw[show((n+2:Nat):Int)=(n:Int)+2 by lia]at this;rw[this,G,show n+2-n=2 by lia]
    rfl
   show be (_,Y,_,Y,_,Y,_,Y,_,_,Y,Y,_,Y,S s,Y,hsz,?_);rw[av];show(_,_,Y,.inr (T.yG _),Y,Y,_,Y,?_);rw[ifn Ur,Ov];cases h3:W6.contains (c::r.take 1)with
   |true=>
    simp only[h3,if_true]at k;show bf (_,Y,_,Y,_,Y,_,Y,_,_,Y,Y,_,Y,S s,Y,hsz,_,Y,?_);rw[av];show λx I nx E Z=>nj (t:=(c::r.take 1,n,3)) k x I nx E Z
   |false=>
    simp only[h3,UA,if_false]at k;show be (_,Y,_,_,Y,.inr (T.wj _),Y,Y,_,Y,?_);rw[ifn Ur,Mw];cases h4:YG.contains c with
    |true=>
     simp only[h4,if_true]at k;show bf (_,Y,_,Y,λx I nx E Z=>nj (t:=([c],n,3)) k x I nx E Z)
    |false=>
     simp only[h4,UA,if_false]at k;show be (_,Y,?_);rw[Jf];show λx I nx E Z=>nj (t:=([],n,1)) k x I nx E Z
end
end
section
open HM (skip signOf eK)
def Kx{x:Vp}{g:TG}{tb:TS}{G:mz}{D:L2.St}{H:Hp}(Pv:Nat->L2.St->Hp->Prop)(h0:Pv 0 D H)(hs:∀i c D H,x.cps.toList[i]?=Up c->Pv i D H->g (.str ⟨#[c]⟩) D H λO I=>tb {G with nx:=Pv (i+1),ct:=Pv (i+1),bk:=G.nx} O I)(hd:∀D H,Pv ↑x.cps.toList D H->G.nx D H):
  ∃W:Nat->Nat->L2.St->Hp->Prop,(∃m,W 0 m D H)/\∀i m D H,W i m D H->
   ((Sr x).stop i H/\G.nx D H)\/((Sr x).go i H/\∃N:L2.St->Hp->Prop,(∀σ' E,N σ' E->∃Z,Z<m/\W (i+1) Z σ' E)/\∀y E,(Sr x).yld i H y E->g y D E λO I=>tb {G with nx:=N,ct:=N,bk:=G.nx} O I):=by
 let hz:↑x.cps.toList=x.cps.size:=V8;show(λi m D H=>m=x.cps.size-i/\i<=x.cps.size/\Pv i D H,(x.cps.size,by simp,VN _,h0),?_);rintro i m D H ⟨rfl,hi,p⟩;by_cases V:i<x.cps.size
 .show .inr (V,Pv (i+1),λσ' E q=>(x.cps.size-(i+1),⋯,Y,⋯,q),?_);rintro y E ⟨rfl,c,hc,rfl⟩;show hs i c D _ (by rw[Xo];show hc) p
 .show .inl (acl.mp V,hd D H ?_);rw[hz,show x.cps.size=i by lia];show p
def RP{l:Uw}{xs:List V}{g:TG}{tt:TT}{te:TE}{vs:List Nat}{D:L2.St}{H1:Hp}{Q:VK}{E:Uw}(Pv:Nat->Hp->Prop)(h0:Pv 0 (aw H1 E (.lst [])))(hl:∀i H,i<=↑xs->Pv i H->bx K H l xs)(hs:∀(i:Nat)x H,xs[i]?=Up x->Pv i H->g x (im D vs) H λI H2=>im I vs=im D vs/\tt I H2 λb O=>
   if b=UB then te I O λy Z=>∃acc,Z E=Up (.lst acc)/\↑acc<U1/\Pv (i+1) (aw Z E (.lst (acc++[y])))else Pv (i+1) O)(hd:∀H,Pv ↑xs H->Q (.ref E) H):
  ∃W:Nat->Nat->Hp->Prop,(∃m,W 0 m (aw H1 E (.lst [])))/\∀i m H,W i m H->
   ((Pg K l).stop i H/\Q (.ref E) H)\/((Pg K l).go i H/\∃Nx:Hp->Prop,(∀G,Nx G->∃m',m'<m/\W (i+1) m' G)/\∀x G,(Pg K l).yld i H x G->g x (im D vs) G λI H2=>im I vs=im D vs/\tt I H2 λb O=>
    if b=UB then te I O λy Z=>∃acc,Z E=Up (.lst acc)/\↑acc<U1/\Nx (aw Z E (.lst (acc++[y])))else Nx O):=by
 show(λi m H=>m=↑xs-i/\i<=↑xs/\Pv i H,(↑xs,by simp,VN _,h0),?_);rintro i m H ⟨rfl,hi,p⟩;let q:=hl i H hi p;by_cases ab:i<↑xs
 .show .inr ((xs,xs[i],q,by simp [ab]),Pv (i+1),λG p'=>(↑xs-(i+1),⋯,Y,ab,p'),λx G y=>?_);let(e,y):=y;subst e;show hs i x _ (y xs q) p
 .let e:i=↑xs:=⋯
  subst e;show .inl ((xs,q,UD _),hd H p)
def Ms{I:TE}{g:TG}{tt:TT}{Q:VK}(ab:∀R R':VK,(∀x H,R x H->R' x H)->I D H R->I D H R')(h:I D H λx G=>∃l xs,x=.ref l/\bx K G l xs/\∀E,G E=UH->∃Pv:Nat->Hp->Prop,Pv 0 (aw G E (.lst []))/\(∀i H,i<=↑xs->Pv i H->bx K H l xs)/\
   (∀(i:Nat)x H,xs[i]?=Up x->Pv i H->g x (im D vs) H λO H2=>im O vs=im D vs/\tt O H2 λb V=>
    if b=UB then te O V λy Z=>∃acc,Z E=Up (.lst acc)/\↑acc<U1/\Pv (i+1) (aw Z E (.lst (acc++[y])))else Pv (i+1) V)/\∀H,Pv ↑xs H->Q (.ref E) H):Nq (MA K I) g tt te vs D H Q:=by
 show ab _ _ (λx G q=>?_) h;let(l,xs,rfl,hl,q):=q;show(l,Y,(_,hl),λE hD=>?_);let(Pv,h0,h1,h2,h3):=q E hD;show RP Pv h0 h1 h2 h3
def ET:∀R E:VK,(∀x H,R x H->E x H)->bJ i D H R->bJ i D H E:=λ_ _ h (v,e,q)=>(v,e,h _ _ q)
def Fl:∀l:List Vp,(abF (Uy "") l).cps.toList=(l.map λx=>x.cps.toList).flatten
 |[]=>()
 |[x]=>by simp [abF]
 |x::y::r=>by
  let E:=Fl (y::r);change(x++Uy ""++abF (Uy "") (y::r)).cps.toList=_;let D:∀p q:Vp,(p++q).cps.toList=p.cps.toList++q.cps.toList:=λp q=>by
   change(p.cps++q.cps).toList=_;simp
  rw[D,D,E];let e:(Uy "").cps.toList=[]:=()
  rw[e,VB]
  rfl
def Oq(l:List Vp):aaQ (Uy "") l=S (l.map λx=>x.cps.toList).flatten:=by
 let h:aaQ (Uy "") l=abF (Uy "") l:=ZX _ _;rw[h];have:=Fl l;unfold S;rw[<-this]
def Jg:(Uy " \nabcdefghijklmnopqrstuvwxyz0123456789_()*,.:;=!->{}#").cps.toList=eK:=()
def Cz:List (bT×V):=lJ [] [(.inl 9,.str " "),(.inl 13,.str " ")]
def jb(l:List Nat):List (bT×V):=l.foldl (λZ (c:Nat)=>em Z (.inl (c:Int)) (.str ⟨#[c]⟩)) Cz
def Fc(l:List Nat)(c:Nat):jb (l++[c])=em (jb l) (.inl (c:Int)) (.str ⟨#[c]⟩):=by
 unfold jb;rw[acO]
 rfl
def AJ:∀(l:List Nat)(Z:List (bT×V)),↑(l.foldl (λZ (c:Nat)=>em Z (.inl (c:Int)) (.str ⟨#[c]⟩)) Z)<=↑Z+↑l
 |[],Z=>by simp
 |c::l,Z=>by
  let D:=AJ l (em Z (.inl (c:Int)) (.str ⟨#[c]⟩));let h2:=gm Z (.inl (c:Int)) (.str ⟨#[c]⟩);rw[abk,Ut];lia
def Hx(l:List Nat):↑(jb l)<=↑l+2:=by
 let h:=AJ l Cz;have:↑Cz=2:=()
 unfold jb;lia
def AI(b:Nat):∀(l:List Nat)(Z:List (bT×V)),cI (l.foldl (λZ (c:Nat)=>em Z (.inl (c:Int)) (.str ⟨#[c]⟩)) Z) (.inl (b:Int))=if b∈l then Up (.str ⟨#[b]⟩)else cI Z (.inl (b:Int))
 |[],Z=>by simp
 |c::l,Z=>by
  rw[abk,AI b l,qQ];by_cases h:b=c
  .subst h;simp
  .rw[ifn (show¬(UW (b:Int):bT)=UW (c:Int) by intro z;injection z with z;lia)];simp [h]
def Hw(b:Nat)(l:List Nat):cI (jb l) (.inl (b:Int))=if b∈l then Up (.str ⟨#[b]⟩)else if b=9\/b=13 then Up (.str ⟨#[32]⟩)else UH:=by
 unfold jb;rw[AI];by_cases h:b∈l
 .rw[ifp h,ifp h]
 .rw[ifn h,ifn h];let e:Cz=[(.inl 9,.str ⟨#[32]⟩),(.inl 13,.str ⟨#[32]⟩)]:=()
  rw[e];by_cases E:b=9
  .subst E;rfl
  .rw[cr (by intro z;injection z with z;lia)];by_cases D:b=13
   .subst D;rfl
   .rw[cr (by intro z;injection z with z;lia),K7,ifn ⋯]
def Kj(b:Nat):(cI (jb eK) (.inl (b:Int))).getD (.str "?")=.str ⟨#[signOf b]⟩:=by
 rw[Hw];unfold signOf;by_cases h:b∈eK
 .rw[ifp h,ifp (UV.mpr h)];rfl
 .rw[ifn h,ifn (λz=>h (UV.mp z))];by_cases g:b=9\/b=13
  .rw[ifp g,ifp g];rfl
  .rw[ifn g,ifn g];change V.str "?"=_
   decide+kernel
section
inductive JC(K:PySem.W.Frag)(a:List V)(H:Hp)(Q:VK)(b:XK):Prop|mk(l:Addr)(t:List Nat)(_:a=[.ref l])(_:bx K H l (t.map fun(c:Nat)=>V.int (c:Int)))(_:t.length<=5000)(_:∀H',fi H H'->Q (.str (S (t.map signOf))) H')
def EF(T:TX K U a):cf P w K U W cH 1 a.qB ["text"] [] (JC K):=by
 show T.Ic.o2 ["text","known","sign","byte"] λvs H Q ap h=>?_
 let(l,t,rfl,hl,hz,k):=h;show(Y,λO ar A av s0 hr=>?_);let hu:=fw hr;show(_,ac (aA (i:=1) O rfl (adV rfl) (N2 (Ex aF aD (Ex aF aD NX)) rfl rfl (by simp) ()))
  (ac (lu Vz rfl (LY (pg T.Nc)) (cQ (i:=2) O rfl (UT rfl))
   (ag (gx hu (pv 1) (aW FP (by rfl) T.OZ abp (aa (pv 2) af)) (pv 2) rfl)))
  (ag (am (jy aD (nL (own:=[("byte",3)]) rfl O (fW (pv 0)) (show il ["text","known","sign","byte"] (aP wC) _ [("byte",3)]from K0 ())
   (λ_ _ _ _ _=>cQ (i:=3) O rfl (UT rfl)) (λ_ _ _ _ _=>gv) (λ_ _ _ _ _=>L5 hu (pv 1) (pv 3) (pg T.Jk) (Y,Y,Y,Y))))))),?_)
 iterate 3 skip
 intro d hd;show(ae,[(.inl 9,.str " "),(.inl 13,.str " ")],Y,(),?_);rw[b_];let s1:∀o,fi H (aw H d o):=λo b u e=>by rw[ah (ak e hd)];show e
 show(_,Y,Kx (λi D E=>∃v,D=[some (.ref l),some (.ref d),v,UH]/\E=aw H d (.dK (jb (eK.take i)))) (_,Y,Y) ?_ ?_)
 .rintro i c D E G ⟨v,rfl,rfl⟩;rw[Jg]at G;show(_,Y,_,Y,_,Y,_,Y,Y,d,_,Y,so.k (k:=UW (c:Int)) ae ?_,?_)
  .let h1:=Hx (eK.take i);let h2:↑(eK.take i)<=↑eK:=by rw[VL];lia
   let h3:↑eK=53:=()
   rw[Ux];lia
  .show(_,Y,?_);rw[b_,<-Fc];have:eK.take (i+1)=eK.take i++[c]:=by rw[Wz,G];rfl
   rw[this]
 .rintro D E ⟨v,rfl,rfl⟩;rw[Jg,WO];show((_,Y),Ms ET (_,Y,l,t.map λ(c:Nat)=>V.int (c:Int),Y,(s1 _).seq hl,λab hD=>
   (λi E=>fi (aw H d (.dK (jb eK))) E/\E ab=some (.lst ((t.take i).map λc=>V.str ⟨#[signOf c]⟩)),(λb u e=>by rw[ah (ak e hD)];show e,ae),
   λi E _ q=>q.1.seq ((s1 _).seq hl),?_,?_)))
  .rintro i y E G ⟨Z,I⟩;obtain⟨c,hc,rfl⟩:∃c,t[i]?=some c/\y=V.int (c:Int):=by
    rw[UM]at G;cases e:t[i]? with
    |none=>rw[e]at G;cases G
    |some c=>rw[e]at G;show(c,Y,(UI G).symm)
   let an:=Z _ _ (ae (H:=H) (a:=d) (o:=.dK (jb eK)));show(Y,?_);simp only[Bm,if_true];show(_,Y,d,Y,.inl (_,.inl an),_,Y,_,fP.k (k:=UW (c:Int)) an,?_);rw[Kj];show(_,I,?_,?_,?_)
   .rw[Uq,VL,Ux];lia
   .show λb u e=>by rw[ah (ak e hD)];show Z b u e
   .rw[ae];have:t.take (i+1)=t.take i++[c]:=by rw[Wz,hc];rfl
    rw[this,Vj]
    rfl
  .rintro E ⟨Z,I⟩;rw[Uq,WO]at I;show(_,ab,t.map λc=>⟨#[signOf c]⟩,Y,Y,.inl (bx.of (by rw[I,VA];rfl)),?_,?_)
   .rw[VA,Uq];let e1:((λx:Vp=>↑x)∘λc=>(⟨#[signOf c]⟩:Vp))=λ_=>1:=by funext c;rfl
    let e2:↑(Uy "")=0:=()
    rw[e1,e2,Nat.mul_zero,Nat.add_zero,List.map_const',List.sum_replicate_nat];lia
   .rw[Oq,VA];let e:(Zb ((λx:Vp=>x.cps.toList)∘λc=>(⟨#[signOf c]⟩:Vp)) t).flatten=t.map signOf:=by
     clear hl hz k I
     induction t with
     |nil=>rfl
     |cons c t ih=>rw[UJ,WA,ih];rfl
    rw[e];show k E λb u e=>Z b u (s1 _ b u e)
end
end
section
open HM (fb skip cN signOf toks)
def Lg(D k:Nat)(s:List Nat):List fb:=match s with
 |[]=>[([],D,4)]
 |c::r=>if(cN (D-(↑r+1)) (c::r)).fault≠3 then [cN (D-(↑r+1)) (c::r)]
   else cN (D-(↑r+1)) (c::r)::toks D k ((c::r).drop (cN (D-(↑r+1)) (c::r)).text.length)
def Ah(w k:Nat)(s:List Nat):toks w (k+1) s=Lg w k (skip s):=rfl
def Js(h:(cN p (c::r)).fault=3):1<=(cN p (c::r)).text.length/\(cN p (c::r)).text.length<=↑(c::r):=by
 let I:↑(r.takeWhile VO)<=↑r:=(abt _).length_le;unfold cN at h⊢;by_cases E:Vu c=UB
 .simp only[ifp E]at h⊢;by_cases h2:↑(c::r.takeWhile VO)<=12
  .rw[ifp h2];simp only[Ut];lia
  .simp only[ifn h2]at h;cases h
 .simp only[ifn E]at h⊢;by_cases h2:VQ c=UB
  .simp only[ifp h2]at h⊢;by_cases D:c::r.takeWhile VQ=[48]
   .simp only[ifp D,Ut,Vr];lia
   .simp only[ifn D]at h;cases h
  .simp only[ifn h2]at h⊢;by_cases D:W6.contains (c::r.take 1)=UB
   .simp only[ifp D,Ut,VL];lia
   .simp only[ifn D]at h⊢;by_cases G:YG.contains c=UB
    .simp only[ifp G,Ut,Vr];lia
    .simp only[ifn G]at h;cases h
def eE(C:Uw)(H:Hp)(as:List Uw)(ts:List fb):Prop:=↑as=↑ts/\∀(i:Nat)x t,as[i]?=Up x->ts[i]?=Up t->mS C H x t
def eE.same{as:List Uw}(h:eE C H as ts)(s:fi H D):eE C D as ts:=(h.1,λi x t a b=>(h.2 i x t a b).same s)
def eE.snoc{as:List Uw}(h:eE C H as ts)(I:mS C H x t):eE C H (as++[x]) (ts++[t]):=by
 show(by rw[Us,Us,h.1];rfl,λi y u D E=>?_);by_cases G:i<↑as
 .rw[UY G]at D;rw[UY (by rw[<-h.1];show G)]at E;show h.2 i y u D E
 .rw[UZ ⋯]at D;rw[UZ (by rw[<-h.1];lia),<-h.1]at E;cases e:i-↑as with
  |zero=>rw[e]at D E;cases D;cases E;show I
  |succ n=>rw[e]at D;simp at D
def SameBut(p:Uw)(H D:Hp):Prop:=∀b o,H b=Up o->b≠p->D b=Up o
def SameBut.tok{H D:Hp}{as:List Uw}(s:SameBut p H D)(G:H p=Up (.lst xs))(h:eE C H as ts):eE C D as ts:=
 (h.1,λi x t a b=>let(E,e):=h.2 i x t a b;(E,s _ _ e (aV e G (by intro z;cases z))))
def Jr{H:Hp}{C x D:Uw}{t:fb}{R:VK}(I:H x=UH)(G:H D=UH)(h:∀E,fi H E->mS C E x t->R .non E):
  ny C (.ref x::([.str (S t.text),.int t.place,.int t.fault]++[])) (aw (aw H D (.own x)) x (.ins C D [])) R E0:=
 (x,D,_,_,_,Y,ae,h _ (bK (C:=C) I G) (D,ae))
section
inductive Bs(K:PySem.W.Frag)(C:Addr)(a:List V)(H:Hp)(Q:VK)(b:XK):Prop|mk(l:Addr)(t:List Nat)(_:a=[.ref l])(_:bx K H l (t.map fun(c:Nat)=>V.int (c:Int)))(_:t.length<=5000)(_:∀H' p as,fi H H'->H p=none->H' p=some (.lst (as.map V.ref))->eE C H' as (toks t.length (t.length+1) (t.map signOf))->Q (.ref p) H')
def nO(T:TX K U a):cf P w K U W cH 5 a.jX ["text"] [] (Bs K a.cF):=by
 let a6:=jR T;let GS:=EF T;let GB:=w6 T;let GA:=EE T;show T.zL.o2 ["text","signs","tokens","at","token"] λvs H Q b2 h=>?_
 let(l,t,rfl,hl,hz,k):=h;show(Y,λμ b4 A cm s0 hr=>?_);let bm:Room 1 _:=hr.mono ();let a0:Room 2 _:=hr.mono ();show(_,ac (aA (i:=1) μ rfl (UT rfl) (aX GS T.HK bm aq (aa (pv 0) af)))
  (ac (aA (i:=2) μ rfl (UT rfl) (aS af))
  (ac (aA (i:=3) μ rfl (UT rfl) (aX GB T.pR a0 aq (aa (pv 1) (aa aF af))))
  (ac (dF Vz (au nN (pv 3) (aW eX (by rfl) T.cO U2 (aa (pv 1) af)) (aB _))
   (ac (aA (i:=4) μ rfl (UT rfl) (aX GA T.HJ hr aq (aa (pv 1) (aa (pv 3) af))))
   (ac (aE (ej UQ U8 Va cn (pv 2) (aa (pv 4) af)))
   (ac (aJ (au wW (ai (pv 4) rfl) (pg T.gu) (aB _)) (ag (am (pv 2))) ay)
   (ag (aA (i:=3) μ rfl (UT rfl) (aX GB T.pR a0 aq (aa (pv 1) (aa (bI lD (pv 3) (aW eX (by rfl) T.cO U2 (aa (ai (pv 4) rfl) af))) af)))))))))
  (ac (aE (ej UQ U8 Va cn (pv 2) (aa (dS T.kR a6 T.kW a0 aq (aa aD (aa (aW eX (by rfl) T.cO U2 (aa (pv 1) af)) (aa (pg T.qT) af)))) af)))
  (ag (am (pv 2))))))),?_)
 iterate 6 skip
 show(_,Y,l,t,Y,hl,hz,λH1 e1=>?_);show(Nat.zero_le _,λp hp=>?_);let Z:H p=UH:=e1.free hp;let E:↑(t.map signOf)=↑t:=List.length_map _;let hsz:↑(S (t.map signOf))<=U1:=by rw[a9,E,Ux];lia
 show(_,Y,t.map signOf,0,Y,by rw[E];lia,Nat.zero_le _,?_);let b0:skip ((t.map signOf).drop 0)<:+(t.map signOf).drop 0:=HM.skip_suffix _ _ (Nat.le_refl _);let(r0,r1,r2):=nv (Nat.zero_le _) b0;show(λa5 D H'=>SJ λ(n j:Nat)(r:List Nat)(acc:List fb)(as:List Addr)(v:Option V)=>Sx (D=[Up (.ref l),Up (.str (S (t.map signOf))),Up (.ref p),Up (.int (n:Int)),v]) (SameBut p (aw H1 p (.lst [])) H') (H' p=Up (.lst (as.map V.ref))) (eE a.cF H' as acc) (a5=↑r) (r=(t.map signOf).drop n) (n<=↑t) (↑r<=j) (↑acc+↑r<=↑t) (acc++Lg ↑t j r=toks ↑t (↑t+1) (t.map signOf)),
  (_,_,↑t,_,[],[],_,Y,λb o e _=>e,ae,(Y,λi x u z=>by simp at z),Y,r0,by rw[<-E];show r1,?_,?_,?_),?_)
 .have:=HM.skip_length ((t.map signOf).drop 0);rw[List.drop_zero,E]at this;rw[List.drop_zero];show this
 .have:=HM.skip_length ((t.map signOf).drop 0);rw[List.drop_zero,E]at this;rw[List.drop_zero,List.length_nil];lia
 .rw[List.nil_append,List.drop_zero,Ah]
 .rintro a5 D H' ⟨n,j,r,acc,as,v,rfl,sb,av,tl,rfl,ap,hn,hj,bk,ab⟩;let cc:↑as=↑acc:=tl.1;show(_,Y,_,Y,_,Y,hsz,_,_,Y,Y,_,Y,?_);rw[a9,E];cases r with
  |nil=>
   let ce:n=↑t:=by
    have:=congrArg List.length ap;rw[List.length_drop,E,List.length_nil]at this;lia
   rw[decide_eq_false ⋯];show be ?_;show(_,Y,.inl (Y,_,bx.of av),?_);rw[Jf];show(_,Y,_,Y,hsz,?_);rw[a9,E];show λx dx nx μ ne=>Jr (C:=a.cF) (t:=([],↑t,4)) nx μ λG I hx=>(Y,?_)
   let O:=I _ _ av;show(p,_,_,Y,Y,O,by rw[List.length_map,Ux];lia,_,Y,?_);let bs:fi H (aw G p (.lst ((as++[x]).map V.ref))):=λb o e=>by
    rw[ah (ak e Z)];show I _ _ (sb _ _ (by rw[ah (ak e Z)];show e1 _ _ e) (ak e Z))
   let an:eE a.cF (aw G p (.lst ((as++[x]).map V.ref))) (as++[x]) (acc++[([],↑t,4)]):=
    SameBut.tok (p:=p) (H:=G) (λb o e hb=>by rw[ah hb];show e) O ((tl.same I).snoc hx)
   rw[show acc++[(([],↑t,4):fb)]=toks ↑t (↑t+1) (t.map signOf)from ab]at an;have:=k _ p (as++[x]) bs Z ae an;rw[List.map_append]at this;show this
  |cons c r=>
   let cd:n<↑t:=by
    have:=vT ap.symm;rw[E]at this;show this
   let ch:n+(↑r+1)=↑t:=by
    have:=congrArg List.length ap;rw[List.length_drop,E,List.length_cons]at this;lia
   let bl:↑t-(↑r+1)=n:=by
    have:=congrArg List.length ap;rw[List.length_drop,E,List.length_cons]at this;lia
   rw[decide_eq_true ⋯];show bf (λσ' b3=>∃μ',μ'<↑(c::r)/\_,λ_ _ z=>z,?_);show(_,Y,_,Y,t.map signOf,n,c,r,Y,by rw[E];lia,ap.symm,λG x I hx=>?_);let O:=I _ _ av;show(_,Y,.inl (Y,_,bx.of O),_,Y,p,_,_,Y,Y,O,by rw[List.length_map,Ux];lia,?_);rw[show as.map V.ref++[V.ref x]=(as++[x]).map V.ref by rw[List.map_append];rfl];let an:eE a.cF (aw G p (.lst ((as++[x]).map V.ref))) (as++[x]) (acc++[cN n (c::r)]):=
    SameBut.tok (p:=p) (H:=G) (λb o e hb=>by rw[ah hb];show e) O ((tl.same I).snoc hx)
   let(dx,a2):=hx;let bF:x≠p:=aV a2 O (by intro z;cases z);let a3:aw G p (.lst ((as++[x]).map V.ref)) x=Up (.ins a.cF dx (tf (.str (S (cN n (c::r)).text)) (.int (cN n (c::r)).place) (.int (cN n (c::r)).fault))):=by rw[ah bF];show a2
   let a4:SameBut p (aw H1 p (.lst [])) (aw G p (.lst ((as++[x]).map V.ref))):=λb o e hb=>by
    rw[ah hb];show I _ _ (sb b o e hb)
   show(_,Y,x,_,dx,_,_,Y,a3,T.bZ,T.eI,Y,Y,_,Y,?_);rw[Lg,bl]at ab;by_cases hf:(cN n (c::r)).fault=3
   .rw[decide_eq_true (by rw[hf];rfl)];show be ?_;rw[ifn (by simpa using hf)]at ab;let(f1,f2):=Js hf;let ar:n+(cN n (c::r)).text.length<=↑(t.map signOf):=by
     rw[E];simp only[List.length_cons]at f2;lia
    let bt:↑(S (cN n (c::r)).text)<=U1:=by
     rw[a9,Ux];rw[E]at ar;lia
    show(_,Y,_,Y,_,Y,x,_,dx,_,_,Y,a3,T.bZ,T.cu,Y,_,Y,bt,_,_,Y,Y,?_);rw[a9];show(t.map signOf,n+(cN n (c::r)).text.length,?_,by rw[E];lia,ar,?_)
    .change [V.str (S (t.map signOf)),V.int ((n:Int)+((cN n (c::r)).text.length:Int))]=_;have:(n:Int)+((cN n (c::r)).text.length:Int)=((n+(cN n (c::r)).text.length:Nat):Int):=⋯
     rw[this]
    .let a1:(t.map signOf).drop (n+(cN n (c::r)).text.length)=(c::r).drop (cN n (c::r)).text.length:=by rw[ap,List.drop_drop]
     let b1:skip ((t.map signOf).drop (n+(cN n (c::r)).text.length))<:+(t.map signOf).drop (n+(cN n (c::r)).text.length):=HM.skip_suffix _ _ (Nat.le_refl _);let(u0,u1,u2):=nv ar b1;let cl:=HM.skip_length ((t.map signOf).drop (n+(cN n (c::r)).text.length));let bd:↑((t.map signOf).drop (n+(cN n (c::r)).text.length))+1<=↑(c::r):=by
      rw[a1,List.length_drop];lia
     obtain⟨j',rfl⟩:∃j',j=j'+1:=(j-1,by simp only[List.length_cons]at hj;lia);show(_,?_,_,j',_,_,_,_,Y,a4,ae,an,Y,u0,by rw[<-E];show u1,?_,?_,?_)
     .omega
     .omega
     .rw[List.length_append];simp only[List.length_cons,List.length_nil]at bk bd⊢;lia
     .rw[<-ab,Ah,a1,List.append_assoc]
      rfl
   .rw[decide_eq_false (λz=>hf (by let z':=V.int.inj z;lia))];show bf (_,Y,?_);rw[ifp hf]at ab;rw[ab]at an;show k _ p (as++[x]) (λb o e=>a4 b o (by rw[ah (ak e Z)];show e1 _ _ e) (ak e Z)) Z ae an
end
end
section
open HM (fb iQ eZ)
open VasepBase (Toks Fault)
def ff(k p:V):List (Vp×V):=[("kind",k),("place",p)]
inductive jx(C:Addr)(a:List V)(H:Hp)(Q:VK)(c:XK):Prop|mk(x k p:_)(_:a=[.ref x,k,p])(_:H x=some (F7 x C none))(_:∀d H',H d=none->H' x=some (F7 x C (some d))->H' d=some (M_ d (ff k p))->(∀b,b≠x->b≠d->H' b=H b)->Q .non H')
inductive XF(C:Addr)(R:Fault->Hp->Prop)(a:Value)(c:Option Addr)(b:Hp):Prop|mk(_:a=.ref C)(d f:_)(_:c=some d)(_:b d=some (M_ d (ff (.int (f.1:Nat)) (.int (f.2:Nat)))))(_:R f b)
section
def dk(T:TX K U a):cf P w K U W cH 1 a.hG ["self","kind","place"] [] (jx a.dC):=by
 show T.tV.o2 ["self","kind","place"] λvs H Q V h=>?_
 let(x,k,p,rfl,G,O):=h;show(Y,λnd Z A ab s0 hr=>?_);show(_,ac (IF (pv 0) (pv 1) rfl) (ag (IF (pv 0) (pv 2) rfl)),?_)
 iterate 2 skip
 show(_,Y,_,Y,x,_,Y,T.bY,T.gB,.inl (G,λd D=>?_));let E:d≠x:=λz=>by rw[z,G]at D;cases D
 show(_,Y,_,Y,x,_,Y,T.bY,T.f8,.inr (d,_,ae,by rw[ah E];show ae,E,zk,?_));show O d _ D ?_ ?_ λb I h2=>?_
 .rw[ah (WX E)];show ae
 .rw[ae];rfl
 .rw[ah h2,ah I,ah h2]
def sI{H:Hp}{R:V1->Hp->Prop}{I:XK}(hE:∀V Z D,XF C R V Z D->I V Z D)(hx:H x=UH)(h:∀D,fi H D->R (k,p) D):
  jx C (.ref x::[.int (k:Nat),.int (p:Nat)]) (aw H x (F7 x C UH)) (λv O=>v=.non/\∃d,O x=Up (F7 x C (Up d))/\I (.ref C) (Up d) (mR O x)) E0:=by
 show(x,_,_,Y,ae,λd D G h1 h2 h3=>(Y,d,h1,hE _ _ _ (Y,d,(k,p),Y,?_,h _ λb o e=>?_)))
 .let an:d≠x:=λz=>by rw[z,ae]at G;cases G
  rw[oJ an];show h2
 .let E:b≠x:=ak e hx;let ab:b≠d:=λz=>by rw[z]at e;rw[z]at E;rw[ah E,e]at G;cases G
  rw[oJ E,h3 b E ab,ah E];show e
def iW:∀vs H Q G E,jx C vs H Q E->(∀v D,Q v D->G v D)->jx C vs H G E:=λvs H Q G E (x,k,p,e,I,q) h=>(x,k,p,e,I,λd D a b c d'=>h _ _ (q d D a b c d'))
def rf(D pn:Uw)(n:Nat):List (Vp×V):=[("tokens",.ref D),("names",.ref pn),("at",.int (n:Nat))]
structure RS (a:Ad) (H:Hp) (r pt pn:Addr) (as:List Addr) (all:Toks) (n:Nat) (names:List (List Nat)):Prop where
 obj: ∃dx,H r=some (.ins a.aQ dx (rf pt pn n))
 toks:H pt=some (.lst (as.map V.ref))
 list:eE a.cF H as (all.map iQ)
 names:H pn=some (.lst (names.map fun x=>V.str (S x)))
 wf:eZ (all.drop n)
 small:all.length<=6000
def az(ts:Vo):fb:=iQ (ts.headD (0,.over))
def RS.head{H:Hp}{r O pn:Uw}{as:List Uw}{all:Vo}{n:Nat}{I:List (List Nat)}(R:RS a H r O pn as all n I):∃x,as[n]?=Up x/\mS a.cF H x (az (all.drop n)):=by
 let G:=R.wf.ne;cases e:all.drop n with
 |nil=>show absurd e G
 |cons t ts=>
  let D:(all.drop n)[0]?=Up t:=by rw[e];rfl
  rw[WP,Wy]at D;let E:(all.map iQ)[n]?=Up (iQ t):=by rw[UM,D];rfl
  let h2:n<↑as:=by rw[R.list.1];show(UO.mp E).1
  show(as[n],UC h2,R.list.2 n _ _ (UC h2) E)
def LK(D pn:Uw)(n m:Nat):ck "at" (.int (m:Nat)) (rf D pn n)=rf D pn m:=by
 unfold rf;rw[ck,ifn (),ck,ifn (),ck,ifp rfl]
def RS.obj_at{H:Hp}{r D pn:Uw}{as:List Uw}{all:Vo}{n:Nat}{I:List (List Nat)}(R:RS a H r D pn as all n I){G:Uw}{m:Nat}(hw:eZ (all.drop m)):
  RS a (aw H r (.ins a.aQ G (rf D pn m))) r D pn as all m I:=by
 let(d,e):=R.obj;let n1:D≠r:=aV R.toks e (by intro z;cases z);let n2:pn≠r:=aV R.names e (by intro z;cases z);show((G,ae),by rw[ah n1];show R.toks,(R.list.1,λi x t Z h2=>?_),by rw[ah n2];show R.names,hw,R.small);let(V,E):=R.list.2 i x t Z h2;show(V,?_);rw[ah ?_]
 .show E
 .intro z;rw[z,e]at E;have:=UI E;injection this with _ _ q;let q':=congrArg Xc q;let O:(rf D pn n)=tf (.str (S t.text)) (.int t.place) (.int t.fault):=q;unfold rf tf at O;injection O with q3 _;injection q3 with q4 _;show absurd q4 ()
def jU(h:eZ ts):((az ts).fault,(az ts).place)=W5 ts:=by
 cases h with
 |over p=>rfl
 |bad p k D=>rfl
 |@cons t r g _=>
  let(p,t):=t;cases t<;>first|rfl|show g.elim
def F4{all:Vo}(h:eZ (all.drop n))(D:(az (all.drop n)).text≠[]):eZ (all.drop (n+1)):=by
 let e:all.drop (n+1)=(all.drop n).drop 1:=by rw[V6]
 rw[e];generalize all.drop n=ts at h D;cases h with
 |over p=>show absurd rfl D
 |bad p k E=>show absurd rfl D
 |cons g r=>show r
inductive P_(a:Ad)(d:List V)(H:Hp)(Q:VK)(h:XK):Prop|mk(r e f g c n b:_)(_:d=[.ref r])(_:RS a H r e f g c n b)(_:∀x,mS a.cF H x (az (c.drop n))->Q (.ref x) H)
def gA(T:TX K U a):cf P w K U W cH 1 a.ic ["self"] [] (P_ a):=by
 show T.zZ.o2 ["self"] λvs H Q V h=>?_
 let(r,G,pn,as,all,n,I,rfl,R,k):=h;show(Y,λnd Z A ab s0 hr=>?_);let(D,e):=R.obj;let(x,E,O):=R.head;show(_,ag (am (c9 cS (ai (pv 0) rfl) (ai (pv 0) rfl) (λ_ _=>rfl))),?_);show(_,Y,r,_,D,_,_,Y,e,T.ao,T.kQ,Y,_,Y,r,_,D,_,_,Y,e,T.ao,T.iP,Y,G,_,_,.ref x,Y,Y,bx.of R.toks,?_,k x O);show b5 (by rw[UM,E];rfl)
inductive PZ(a:Ad)(d:List V)(H:Hp)(Q:VK)(h:XK):Prop|mk(r e f g c n b t:_)(_:d=[.ref r,.str (S t)])(_:RS a H r e f g c n b)(_:Q (.bl (decide ((az (c.drop n)).text=t))) H)
def nV(T:TX K U a):cf P w K U W cH 2 a.ib ["self","text"] [] (PZ a):=by
 let D:=gA T;show T.zX.o2 ["self","text"] λvs H Q ab h=>?_
 let(r,pt,pn,as,all,n,I,t,rfl,R,k):=h;show(Y,λnd an A ap s0 Z=>?_);let(G,e):=R.obj;show(_,ag (am (dv bP (ai (bu (pv 0) T.ao T.d_ D Z aq) rfl) (pv 1) (aB _))),?_);show(_,Y,r,G,_,Y,e,Y,r,pt,pn,as,all,n,I,Y,R,λx (E,tx)=>?_);show(x,_,E,_,_,Y,tx,T.bZ,T.cu,Y,_,Y,Y,?_);let O:decide (V.str (S (az (all.drop n)).text)=V.str (S t))=decide ((az (all.drop n)).text=t):=by
  apply decide_eq_decide.mpr;show(λz=>k9 (V.str.inj z),λz=>by rw[z])
 rw[O];show k
end
end
section
open VasepBase (Toks faultAt)
def iK(t:TE):Prop:=∀D H(R E:VK),t D H R->(∀x H,R x H->E x H)->t D H E
def MZ(t:TA):Prop:=∀D H(R E:List V->Hp->Prop),t D H R->(∀x H,R x H->E x H)->t D H E
def ft:iK (bJ i):=λ_ _ _ _ (v,e,q) h=>(v,e,h _ _ q)
def Oi:iK (tC v):=λ_ _ _ _ q h=>h _ _ q
def gT(m:iK t):iK (Bo K t f):=λD H R Z q h=>m D H _ _ q λx V (a,C,E,O,v,G,I,c,n,l,q)=>(a,C,E,O,v,G,I,c,n,l,h _ _ q)
def tj:MZ b8:=λ_ _ _ _ q h=>h _ _ q
def fX(m:iK t)(n:MZ u):MZ (bG t u):=λD H R V q h=>m D H _ _ q λx E G=>n D E _ _ G λxs O I=>h _ _ I
def OI(a:Ad)(H:Hp)(r E pn:Uw)(as:List Uw)(all:Vo)(n:Nat)(I:List (List Nat))(Q:Hp->Prop):Prop:=∀D,SameBut r H D->RS a D r E pn as all n I->Q D
def KW(a:Ad)(H:Hp)(r:Uw)(f:V1)(I:XK):Prop:=∀E G D,XF a.dC (λg D=>g=f/\SameBut r H D) E G D->I E G D
def kD(s:fi H D):SameBut r H D:=λb o e _=>s b o e
section
def Fp(t:List Nat)(D:List (List Nat)):CP (.str (S t)) (D.map λx=>V.str (S x))=D.contains t:=by
 have:D.map (λx=>V.str (S x))=(D.map S).map V.str:=by rw[VA];rfl
 rw[this,vR,mq]
def HN(D:List (List Nat)):(D.map λx=>V.str (S x)).all kX=UB:=by
 induction D with
 |nil=>rfl
 |cons c D E=>rw[UJ,Zy,E];rfl
inductive nw(K:PySem.W.Frag)(a:Ad)(i:List V)(H:Hp)(Q:VK)(E:XK):Prop|mk(r e f:Addr)(g:List Addr)(b:Toks)(n:Nat)(d:List (List Nat))(h:Addr)(cs:List (List Nat))(_:i=[.ref r,.ref h])(_:RS a H r e f g b n d)(_:gK K H h (cs.map fun x=>V.str (S x)))(_:∀c∈cs,c≠[])(_:cs.contains (az (b.drop n)).text=true->OI a H r e f g b (n+1) d fun H'=>Q (.str (S (az (b.drop n)).text)) H')(_:cs.contains (az (b.drop n)).text=false->KW a H r (faultAt (b.drop n)) E)
def bH(T:TX K U a):cf P w K U W (jL P w) 3 a.j_ ["self","choices"] [] (nw K a):=by
 let ab:=gA T;let GF:=dk T;let(a3,a2,FF,bF,vF,kF):=GF;cases vF;show T.zW.oX2 ["self","choices","token"] λvs H Q a0 h=>?_
 let(r,D,pn,as,all,n,I,pc,cs,rfl,R,hc,an,k1,k2):=h;show(Y,λnd a1 A a4 s0 hr=>?_);let(G,e):=R.obj;let ar:Room 1 _:=hr.mono ();show(_,ac (aA (i:=2) nd rfl (UT rfl) (bu (pv 0) T.ao T.d_ ab ar aq))
  (ac (aJ (au lB (ai (pv 2) rfl) (pv 1) (by with_unfolding_all rfl))
   (ag (kH Pk rfl T.bY T.bE.at_ T.bE.fn FF hr rfl T.dX bF (aa (ai (pv 2) rfl) (aa (ai (pv 2) rfl) af)) iW (fX (gT ft) (fX (gT ft) tj)))) ay)
  (ac (gP (pv 0) aF xC) (ag (am (ai (pv 2) rfl))))),?_)
 iterate 4 skip
 show(_,Y,r,G,_,Y,e,Y,r,D,pn,as,all,n,I,Y,R,λx (O,E)=>?_);show(_,Y,x,_,O,_,_,Y,E,T.bZ,T.cu,Y,_,Y,_,_,Y,.inr hc,Y,HN cs,_,Y,?_);rw[ifp rfl,Fp];cases Z:cs.contains (az (all.drop n)).text with
 |false=>
  show bf ?_;show(_,Y,x,_,O,_,_,Y,E,T.bZ,T.eI,Y,_,Y,x,_,O,_,_,Y,E,T.bZ,T.dI,Y,by change 2<=1000;decide,λy hy=>?_);let hf:=jU R.wf;show sI (R:=λg H'=>g=W5 (all.drop n)/\SameBut r H H') (k2 Z) hy λH' s=>(hf,kD s)
 |true=>
  show be ?_;show(_,Y,r,_,G,_,_,Y,e,T.ao,T.iP,Y,_,_,Y,Y,G,_,e,by change 3<1000;decide,?_);let ap:ck "at" (V.int ((n:Int)+1)) (rf D pn n)=rf D pn (n+1):=LK D pn n (n+1);let ht:(az (all.drop n)).text≠[]:=an _ (UV.mp Z);let av:x≠r:=λz=>by
   rw[z,e]at E;have:=UI E;injection this with _ _ q;unfold rf tf at q;injection q with q3 _;injection q3 with q4 _;show absurd q4 ()
  rw[show aw H r (.ins a.aQ G (ck "at" (V.int ((n:Int)+1)) (rf D pn n)))=aw H r (.ins a.aQ G (rf D pn (n+1))) by rw[ap]];show(_,Y,x,_,O,_,_,Y,by rw[ah av];show E,T.bZ,T.cu,Y,?_);show k1 Z _ (λb o e' hb=>by rw[ah hb];show e') (R.obj_at (F4 R.wf ht))
end
end
section
open HM (fb)
open VasepBase (Toks Fault faultAt)
def gC(t:List Nat):Bool:=match t with
 |[]=>UF
 |c::_=>Vu c&&!VH.contains t
def Fo(t:List Nat):CP (.str (S t)) [V.str "vars",V.str "new",V.str "free",V.str "if",V.str "else",V.str "while",V.str "next",V.str "data",V.str "emp",V.str "cell",V.str "list",V.str "tree",V.str "any",V.str "and"]=VH.contains t:=by
 let e:[V.str "vars",V.str "new",V.str "free",V.str "if",V.str "else",V.str "while",V.str "next",V.str "data",V.str "emp",V.str "cell",V.str "list",V.str "tree",V.str "any",V.str "and"]=
   VH.map λx=>V.str (S x):=()
 rw[e,Fp]
section
inductive Lx(a:List V)(H:Hp)(Q:VK)(b:XK):Prop|mk(t:List Nat)(_:a=[.str (S t)])(_:t.length<=100000)(_:Q (.bl (gC t)) H)
def Hm(T:TX K U a):cf P w K U W cH 1 a.tI ["text"] [] Lx:=by
 show T.KN.o2 ["text"] λvs H Q E h=>?_
 let(t,rfl,O,k):=h;show(Y,λZ G A ab s0 I=>?_);show(_,ag (am (qo (dv wW (pv 0) aD (aB _)) (qo (dv i7 (c9 xA (pv 0) aF (λ_ _=>rfl)) (pg T.mB) (by with_unfolding_all rfl))
  (B7 (dv lB (pv 0) (pg T.Gg) (by with_unfolding_all rfl)))))),?_)
 show(_,Y,Y,_,Y,?_);rw[Jf];cases t with
 |nil=>
  rw[decide_eq_true rfl];show be k
 |cons c r=>
  rw[decide_eq_false (λz=>by have:=k9 (V.str.inj z);cases this)];show bf (_,Y,S (c::r),_,c,Y,Y,by rw[a9,Ux];lia,?_,c,_,Y,Y,_,Y,?_)
  .rw[F5];show b5 (j:=0) rfl
  .rw[Aw];change if Vu c=UB then _ else _
   let k:Q (.bl (Vu c&&!VH.contains (c::r))) H:=k;cases D:Vu c with
   |false=>
    rw[D]at k;show be k
   |true=>
    rw[D]at k;show bf (_,Y,_,_,Y,.inr (T.DV _),Y,Y,?_);rw[ifp rfl,Fo];show k
inductive Gq(a:Ad)(g:List V)(H:Hp)(Q:VK)(E:XK):Prop|mk(r d e:Addr)(f:List Addr)(b:Toks)(n:Nat)(c:List (List Nat))(_:g=[.ref r])(_:RS a H r d e f b n c)(_:(az (b.drop n)).text.length<=100000)(_:gC (az (b.drop n)).text=true->OI a H r d e f b (n+1) c fun H'=> ∀x,mS a.cF H' x (az (b.drop n))->Q (.ref x) H')(_:gC (az (b.drop n)).text=false->KW a H r (faultAt (b.drop n)) E)
def Pu{H:Hp}{t:fb}(e:H r=Up (.ins a.aQ G (rf I pn n)))(D:H x=Up (.ins a.cF E (tf (.str (S t.text)) (.int t.place) (.int t.fault)))):x≠r:=λz=>by
 rw[z,e]at D;have:=UI D;injection this with _ _ q;unfold rf tf at q;injection q with O _;injection O with V _;show absurd V ()
def iH(T:TX K U a):cf P w K U W (jL P w) 3 a.gb ["self"] [] (Gq a):=by
 let an:=gA T;let GN:=Hm T;let GF:=dk T;let(a2,a1,FF,bF,vF,kF):=GF;cases vF;show T.qJ.oX2 ["self","token"] λvs H Q av h=>?_
 let(r,D,pn,as,all,n,I,rfl,R,hz,k1,k2):=h;show(Y,λnd a0 A a3 s0 hr=>?_);let(E,e):=R.obj;let ab:Room 1 _:=hr.mono ();show(_,ac (aA (i:=1) nd rfl (UT rfl) (bu (pv 0) T.ao T.d_ an ab aq))
  (ac (aJ (i6 (cB (aX GN T.Kt ab aq (aa (ai (pv 1) rfl) af))))
   (ag (kH Pk rfl T.bY T.bE.at_ T.bE.fn FF hr rfl T.dX bF (aa (ai (pv 1) rfl) (aa (ai (pv 1) rfl) af)) iW (fX (gT ft) (fX (gT ft) tj)))) ay)
  (ac (gP (pv 0) aF xC) (ag (am (pv 1))))),?_)
 iterate 4 skip
 show(_,Y,r,E,_,Y,e,Y,r,D,pn,as,all,n,I,Y,R,λx (O,G)=>?_);show(_,Y,x,_,O,_,_,Y,G,T.bZ,T.cu,Y,_,Y,hz,_,Y,?_);cases Z:gC (az (all.drop n)).text with
 |false=>
  show bf ?_;show(_,Y,x,_,O,_,_,Y,G,T.bZ,T.eI,Y,_,Y,x,_,O,_,_,Y,G,T.bZ,T.dI,Y,by change 2<=1000;decide,λy hy=>?_);let hf:=jU R.wf;show sI (R:=λg H'=>g=W5 (all.drop n)/\SameBut r H H') (k2 Z) hy λH' s=>(hf,kD s)
 |true=>
  show be ?_;show(_,Y,r,_,E,_,_,Y,e,T.ao,T.iP,Y,_,_,Y,Y,E,_,e,by change 3<1000;decide,?_);let ap:ck "at" (V.int ((n:Int)+1)) (rf D pn n)=rf D pn (n+1):=LK D pn n (n+1);let ht:(az (all.drop n)).text≠[]:=λz=>by rw[z]at Z;cases Z
  let ar:x≠r:=Pu e G;rw[show aw H r (.ins a.aQ E (ck "at" (V.int ((n:Int)+1)) (rf D pn n)))=aw H r (.ins a.aQ E (rf D pn (n+1))) by rw[ap]];show(_,Y,?_);show k1 Z _ (λb o e' hb=>by rw[ah hb];show e') (R.obj_at (F4 R.wf ht)) x (O,by rw[ah ar];show G)
def J_(I:List (List Nat))(ts:Vo):Except V1 (List Nat):=if gC (az ts).text then(if I.contains (az ts).text then .error (6,(az ts).place)else .ok (az ts).text)else .error (W5 ts)
def og(I:List (List Nat))(ts:Vo):Except V1 (List Nat):=if gC (az ts).text then(if I.contains (az ts).text then .ok (az ts).text else .error (7,(az ts).place))else .error (W5 ts)
inductive Gx(a:Ad)(f:List (List Nat)->Toks->Except Fault (List Nat))(i:List V)(H:Hp)(Q:VK)(E:XK):Prop|mk(r d e:Addr)(h:List Addr)(c:Toks)(n:Nat)(b:List (List Nat))(_:i=[.ref r])(_:RS a H r d e h c n b)(_:(az (c.drop n)).text.length<=100000)(_:∀t,f b (c.drop n)=.ok t->OI a H r d e h c (n+1) b fun H'=>Q (.str (S t)) H')(_:∀g,f b (c.drop n)=.error g->KW a H r g E)
def B4(h:KW a H r f D)(s:SameBut r H E):KW a E r f D:=λO V I (e,d,g,Z,e2,e3,e4)=>h O V I (e,d,g,Z,e2,e3,λb o q G=>e4 b o (s b o q G) G)
def fK(T:TX K U a):cf P w K U W (jL P w) 4 a.cT ["self"] [] (Gx a og):=by
 let ab:=iH T;let GF:=dk T;let(a1,a0,FF,bF,vF,kF):=GF;cases vF;show T.km.oX2 ["self","token"] λvs H Q ar h=>?_
 let(r,pt,pn,as,all,n,I,rfl,R,hz,k1,k2):=h;show(Y,λnd av A a2 s0 hr=>?_);let(dx,e):=R.obj;let ap:Room 2 _:=hr.mono ();show(_,ac (aA (i:=1) nd rfl (UT rfl) (bu (pv 0) T.ao T.i8 ab hr bw))
  (ac (aJ (au lB (ai (pv 1) rfl) (ai (pv 0) rfl) (by with_unfolding_all rfl))
   (ag (kH Pk rfl T.bY T.bE.at_ T.bE.fn FF ap rfl T.dX bF (aa (pg T.DQ) (aa (ai (pv 1) rfl) af)) iW (fX Oi (fX (gT ft) tj)))) ay)
  (ag (am (ai (pv 1) rfl)))),?_)
 iterate 3 skip
 unfold og at k1 k2;show(_,Y,r,dx,_,Y,e,Y,r,pt,pn,as,all,n,I,Y,R,hz,λG=>?_,λG=>k2 _ (by rw[G];rfl));rw[ifp G]at k1 k2;intro Z s1 D x (E,O);let(an,e1):=D.obj;show(_,Y,x,_,E,_,_,Y,O,T.bZ,T.cu,Y,_,Y,r,_,an,_,_,Y,e1,T.ao,T.dQ,Y,_,_,Y,.inl (bx.of D.names),Y,HN I,_,Y,?_);rw[ifp rfl,Fp];cases hc:I.contains (az (all.drop n)).text with
 |false=>
  show bf ?_;show(_,Y,x,_,E,_,_,Y,O,T.bZ,T.dI,Y,by change 2<=1000;decide,λy hy=>?_);show sI (k:=7) (R:=λg V=>g=(7,(az (all.drop n)).place)/\SameBut r Z V) (B4 (k2 _ (by rw[hc];rfl)) s1) hy λV s=>(Y,kD s)
 |true=>
  show be ?_;show(_,Y,x,_,E,_,_,Y,O,T.bZ,T.cu,Y,?_);show k1 _ (by rw[hc];rfl) Z s1 D
def kN(T:TX K U a):cf P w K U W (jL P w) 4 a.dw ["self"] [] (Gx a J_):=by
 let ab:=iH T;let GF:=dk T;let(a1,a0,FF,bF,vF,kF):=GF;cases vF;show T.mx.oX2 ["self","token"] λvs H Q ar h=>?_
 let(r,pt,pn,as,all,n,I,rfl,R,hz,k1,k2):=h;show(Y,λnd av A a2 s0 hr=>?_);let(dx,e):=R.obj;let ap:Room 2 _:=hr.mono ();show(_,ac (aA (i:=1) nd rfl (UT rfl) (bu (pv 0) T.ao T.i8 ab hr bw))
  (ac (aJ (au gi (ai (pv 1) rfl) (ai (pv 0) rfl) (by with_unfolding_all rfl))
   (ag (kH Pk rfl T.bY T.bE.at_ T.bE.fn FF ap rfl T.dX bF (aa (pg T.yD) (aa (ai (pv 1) rfl) af)) iW (fX Oi (fX (gT ft) tj)))) ay)
  (ag (am (ai (pv 1) rfl)))),?_)
 iterate 3 skip
 unfold J_ at k1 k2;show(_,Y,r,dx,_,Y,e,Y,r,pt,pn,as,all,n,I,Y,R,hz,λG=>?_,λG=>k2 _ (by rw[G];rfl));rw[ifp G]at k1 k2;intro Z s1 D x (E,O);let(an,e1):=D.obj;show(_,Y,x,_,E,_,_,Y,O,T.bZ,T.cu,Y,_,Y,r,_,an,_,_,Y,e1,T.ao,T.dQ,Y,_,_,Y,.inl (bx.of D.names),Y,HN I,_,Y,?_);rw[ifn Ur,Fp];cases hc:I.contains (az (all.drop n)).text with
 |true=>
  show bf ?_;show(_,Y,x,_,E,_,_,Y,O,T.bZ,T.dI,Y,by change 2<=1000;decide,λy hy=>?_);show sI (k:=6) (R:=λg V=>g=(6,(az (all.drop n)).place)/\SameBut r Z V) (B4 (k2 _ (by rw[hc];rfl)) s1) hy λV s=>(Y,kD s)
 |false=>
  show be ?_;show(_,Y,x,_,E,_,_,Y,O,T.bZ,T.cu,Y,?_);show k1 _ (by rw[hc];rfl) Z s1 D
def RS.same{H D:Hp}{r E pn:Uw}{as:List Uw}{all:Vo}{n:Nat}{I:List (List Nat)}(R:RS a H r E pn as all n I)(s:fi H D):RS a D r E pn as all n I:=
 (let(G,e):=R.obj;(G,s _ _ e),s _ _ R.toks,R.list.same s,s _ _ R.names,R.wf,R.small)
def fo{H:Hp}(h:H p=UH):fi H (aw H p o):=λb u e=>by rw[ah (ak e h)];show e
def SameBut.trans(s:SameBut r H D)(t:SameBut r D E):SameBut r H E:=λb o e G=>t b o (s b o e G) G
def DM{H:Hp}{as:List Uw}{all:Vo}{Q:VK}{Z:XK}(D:List (List Nat))(hx:xs=D.map λx=>V.str (S x))(G:H p=UH)(R:RS a H r O pn as all n I)(ab:∀c∈D,c≠[])(k1:D.contains (az (all.drop n)).text=UB->OI a H r O pn as all (n+1) I λE=>Q (.str (S (az (all.drop n)).text)) E)(k2:D.contains (az (all.drop n)).text=UF->KW a H r (W5 (all.drop n)) Z):nw K a [.ref r,.ref p] (aw H p (.tup xs)) Q Z:=by
 subst hx;show(r,O,pn,as,all,n,I,p,D,Y,R.same (fo G),gK.of ae,ab,λh E s R'=>k1 h E ((kD (fo G)).trans s) R',λh=>B4 (k2 h) (kD (fo G)))
def qa(I:List (List Nat))(ts:Vo):Except V1 (List Nat):=if(az ts).text=[48]then .ok [48]else og I ts
def nU(T:TX K U a):cf P w K U W (jL P w) 5 a.eD ["self"] [] (Gx a qa):=by
 let V:=fK T;let Z:=nV T;let GW:=bH T;show T.pB.oX2 ["self"] λvs H Q ap h=>?_
 let(r,O,pn,as,all,n,I,rfl,R,hz,k1,k2):=h;show(Y,λnd ar A av s0 G=>?_);let(E,e):=R.obj;let ab:Room 2 _:=G.mono ();let an:Room 3 _:=G.mono ();show(_,ac (aJ (cB (bg (pv 0) T.ao T.cw Z ab aq (aa aD af)))
   (ag (am (bg (pv 0) T.ao T.aG GW an bw (aa (cg (aa aD af)) af)))) ay)
  (ag (am (bu (pv 0) T.ao T.d9 V G bw))),?_)
 iterate 2 skip
 unfold qa at k1 k2;show(_,Y,r,E,_,Y,e,Y,r,O,pn,as,all,n,I,[48],by rw[yt];rfl,R,_,Y,?_);by_cases D:(az (all.drop n)).text=[48]
 .rw[decide_eq_true D];rw[ifp D]at k1;show bf (_,Y,r,E,_,Y,e,Y,zl,λp hp=>?_);show DM [[48]] (by rw[yt];rfl) hp R (by simp) (λ_=>?_) (λz=>by rw[D]at z;cases z);rw[D];show k1 _ rfl
 .rw[decide_eq_false D];rw[ifn D]at k1 k2;show be (_,Y,r,E,_,Y,e,Y,r,O,pn,as,all,n,I,Y,R,hz,k1,k2)
end
end
section
open HM (aj aL)
open VasepBase (Field Store valueOf exprText)
def iq:Field->List Nat
 |.next=>Uz "next"
 |.data=>Uz "data"
def fm(c:ZV):List Nat:=if c.same then Uz "==" else Uz "!="
def a8(I:List (List Nat)):aj->Vp×List Nat×List Nat×List Nat×Nat
 |.set x e=>("assign",Vn I x,[],U0 I e,0)
 |.read x y f=>("read",Vn I x,iq f,Vn I y,0)
 |.write x f e=>("write",Vn I x,iq f,U0 I e,0)
 |.new x=>("new",Vn I x,[],[],0)
 |.free x=>("free",Vn I x,[],[],0)
 |.ifl c t=>("if",U0 I c.one,fm c,U0 I c.two,t)
 |.whl c t=>("while",U0 I c.one,fm c,U0 I c.two,t)
 |.els t=>("else",[],[],[],t)
 |.fin t=>("end",[],[],[],t)
def lf(q:Vp×List Nat×List Nat×List Nat×Nat):List (Vp×V):=[("kind",.str q.1),("first",.str (S q.2.1)),("detail",.str (S q.2.2.1)),("second",.str (S q.2.2.2.1)),("target",.int (q.2.2.2.2:Nat))]
def du(a:Ad)(H:Hp)(x:Uw)(I:List (List Nat))(l:aj):Prop:=∃D,H x=Up (.ins a.aI D (lf (a8 I l)))
def bS(n:Nat):WT->Prop
 |.nil=>True
 |.var k=>k<n
def fM(n:Nat):aj->Prop
 |.set x e=>x<n/\bS n e
 |.read x y _=>x<n/\y<n
 |.write x _ e=>x<n/\bS n e
 |.new x=>x<n
 |.free x=>x<n
 |.ifl c _=>bS n c.one/\bS n c.two
 |.whl c _=>bS n c.one/\bS n c.two
 |_=>True
structure bj (names:List (List Nat)):Prop where
 nd:names.Nodup
 wd: ∀x∈names,HM.wordOk x
 few:names.length<=6
 short: ∀x∈names,x.length<=12
 res: ∀x∈names,VasepBase.reserved.contains x=false
def dH(I:List (List Nat))(vals:List Nat):List (bT×V):=(I.zip vals).map λp=>(WV (S p.1),V.int (p.2:Nat))
structure bz (H:Hp) (kvs:List (bT×V)) (h:VasepBase.Heap):Prop where
 keys:(kvs.map (·.1)).Perm (h.map fun c=>(Sum.inl (c.at_:Int):bT))
 vals: ∀c∈h,∃t,cI kvs (Sum.inl (c.at_:Int))=some (.ref t)/\H t=some (.tup [.int (c.next:Nat),.int (c.data:Nat)])
structure jJ (names:List (List Nat)) (s:Store):Prop where
 len:s.vals.length=names.length
 big: ∀v∈s.vals,v<=99
 up:aL s.heap
 bd:HM.Bounds s.heap
structure bv (a:Ad) (H:Hp) (st pn pc:Addr) (names:List (List Nat)) (s:Store):Prop where
 obj: ∃dx,H st=some (.ins a.cV dx [("numbers",.ref pn),("cells",.ref pc)])
 num:H pn=some (.dK (dH names s.vals))
 cel: ∃kvs,H pc=some (.dK kvs)/\bz H kvs s.heap
 ok:jJ names s
def kP{I:List (List Nat)}(h:k<↑I):I[k]?=Up (Vn I k):=by
 unfold Vn;rw[Vy,UC h]
 rfl
def kO:∀{I:List (List Nat)}{vals:List Nat}{k:Nat}{x:List Nat}{v:Nat},I.Nodup->I[k]?=Up x->vals[k]?=Up v->cI (dH I vals) (WV (S x))=Up (.int (v:Nat))
 |[],_,_,_,_,_,h,_=>by simp at h
 |_::_,[],_,_,_,_,_,h=>by simp at h
 |n::I,u::vals,0,x,v,E,D,h2=>by
  cases D;cases h2;unfold dH;rw[Wb,UJ];show cX rfl
 |n::I,u::vals,k+1,x,v,E,D,h2=>by
  unfold dH;rw[Wb,UJ];let G:n≠x:=λz=>by
   let m:x∈I:=U3 (by simpa using D);show(VR.mp E).1 (z▸m)
  rw[cr (λz=>G (k9 (aak z)))];show kO (k:=k) (VR.mp E).2 (by simpa using D) (by simpa using h2)
def As:∀{I:List (List Nat)}{vals:List Nat},↑vals=↑I->(dH I vals).map (·.1)=I.map λx=>(WV (S x):bT)
 |[],_,_=>rfl
 |_::_,[],h=>by simp at h
 |n::I,u::vals,h=>by
  let D:=As (I:=I) (vals:=vals) (by simpa using h);unfold dH at D⊢;rw[Wb,UJ,UJ,D,UJ]
def EM:∀{I:List (List Nat)}{vals:List Nat},x∉I->(dH I vals).map (λD=>if D.1=(WV (S x):bT)then(D.1,v)else D)=dH I vals
 |[],_,_=>rfl
 |_::_,[],_=>rfl
 |n::I,u::vals,h=>by
  let E:=EM (x:=x) (v:=v) (I:=I) (vals:=vals) (λz=>h (UR _ z));let G:n≠x:=λz=>h (by rw[z];show UU)
  unfold dH at E⊢;rw[Wb,UJ,UJ,E,ifn (λz=>G (k9 (aak z)))]
def EN:∀{I:List (List Nat)}{vals:List Nat}{k:Nat}{x:List Nat}{v:Nat},I.Nodup->I[k]?=Up x->
  (dH I vals).map (λG=>if G.1=(WV (S x):bT)then(G.1,V.int (v:Nat))else G)=dH I (vals.set k v)
 |[],_,_,_,_,_,h=>by simp at h
 |_::_,[],_,_,_,_,_=>by simp [dH]
 |n::I,u::vals,0,x,v,E,h=>by
  cases h;let D:=EM (x:=n) (v:=V.int (v:Nat)) (I:=I) (vals:=vals) (VR.mp E).1;unfold dH at D⊢;rw[List.set_cons_zero,Wb,Wb,UJ,UJ,UJ,D,ifp rfl]
 |n::I,u::vals,k+1,x,v,E,h=>by
  let h':I[k]?=Up x:=by simpa using h
  let D:=EN (vals:=vals) (v:=v) (VR.mp E).2 h';let O:n≠x:=λz=>(VR.mp E).1 (z▸U3 h')
  unfold dH at D⊢;rw[List.set_cons_succ,Wb,Wb,UJ,UJ,UJ,D,ifn (λz=>O (k9 (aak z)))]
def L_{I:List (List Nat)}{vals:List Nat}(E:I.Nodup)(D:I[k]?=Up x)(V:↑vals=↑I):em (dH I vals) (WV (S x)) (.int (v:Nat))=dH I (vals.set k v):=by
 let O:k<↑I:=(UO.mp D).1;let G:vals[k]?=Up vals[k]:=UC ⋯;unfold em;rw[ig,kO E D G];simp only[YL,if_true];show EN E D
def rD(I:List (List Nat))(vals:List Nat):↑(dH I vals)<=↑I:=by
 unfold dH;rw[Uq,ZP];lia
def IY{I:List (List Nat)}(N:bj I)(h:k<↑I):Vn I k≠[48]:=λz=>by
 let m:=U3 (kP h);rw[z]at m;let(c,r,e,E):=N.wd _ m;injection e with D _;subst D;revert E
 decide
structure MR where
 at_:Nat
 steps:Nat
 store:Store
 touched:List (Nat×Nat)
 wrong:Option (Nat×Nat)
structure RA where
 pl:Addr
 ls:List Addr
 st:Addr
 pn:Addr
 pc:Addr
 pt:Addr
def vZ:Option (Nat×Nat)->List V
 |none=>[]
 |some (w,x)=>[.int 1,.int (w:Nat),.int (x:Nat)]
def eO(l:List (Nat×Nat)):List V:=l.flatMap λp=>[.int (p.1:Nat),.int (p.2:Nat)]
def gL(A:RA)(D:Uw)(s:MR):List (Vp×V):=[("lines",.ref A.pl),("store",.ref A.st),("at",.int (s.at_:Nat)),("steps",.int (s.steps:Nat)),("touched",.ref A.pt),("wrong",.ref D)]
structure b9 (a:Ad) (H:Hp) (r:Addr) (A:RA) (names:List (List Nat)) (L:List aj) (s:MR):Prop where
 obj:Q8 fun dx pw=>Sw (H r=some (.ins a.cy dx (gL A pw s))) (H pw=some (.lst (vZ s.wrong))) (pw≠A.pt) (pw≠A.pl)
 lst:H A.pl=some (.lst (A.ls.map V.ref))
 lines:A.ls.length=L.length/\ ∀(i:Nat) x l,A.ls[i]?=some x->L[i]?=some l->du a H x names l
 store:bv a H A.st A.pn A.pc names s.store
 tch:H A.pt=some (.lst (eO s.touched))
 nm:bj names
 lok: ∀l∈L,fM names.length l
 few:s.touched.length<=s.steps+1
 most:s.steps<=300
 pt_pl:A.pt≠A.pl
 pn_pc:A.pn≠A.pc
def ge(r:Uw)(A:RA)(b:Uw):Prop:=b=r\/b=A.pn\/b=A.pc\/b=A.pt
def aM(M:Uw->Prop)(H D:Hp):Prop:=∀b o,H b=Up o->¬M b->D b=Up o
section
inductive vB(a:Ad)(d:List V)(H:Hp)(Q:VK)(h:XK):Prop|mk(c f g b s e:_)(_:d=[.ref c,.str (S (exprText b e))])(_:bv a H c f g b s)(_:bj b)(_:bS b.length e)(_:Q (.int (valueOf s e:Nat)) H)
def dG(T:TX K U a):cf P w K U W cH 1 a.j8 ["self","told"] [] (vB a):=by
 show T.zU.o2 ["self","told"] λvs H Q ab h=>?_
 let(st,pn,pc,I,s,e,rfl,R,nm,Z,k):=h;show(Y,λnd an A' ap s0 hr=>?_);let hu:=fw hr;show(_,ag (am (gy (au bP (pv 1) aD (aB _)) aF (iO hu (ai (pv 0) rfl) (pv 1) (λ_ _=>rfl)))),?_);show(_,Y,Y,_,Y,?_);rw[yt];cases e with
 |nil=>
  rw[decide_eq_true (show V.str (S (U0 I .nil))=V.str (S [48])from rfl)];show bf k
 |var j=>
  let D:j<↑I:=Z;rw[decide_eq_false (show¬V.str (S (U0 I (.var j)))=V.str (S [48])from λz=>IY nm D (k9 (V.str.inj z)))];let(G,O):=R.obj;let hv:s.vals[j]?=Up (s.vals.getD j 0):=by
   rw[Vy,UC (by rw[R.ok.len];show D)];rfl
  let E:=fP.k (k:=WV (S (Vn I j))) R.num;rw[kO nm.nd (kP D) hv]at E;show be (_,Y,st,_,G,_,_,Y,O,T.aY,T.bD,Y,_,Y,pn,_,Y,E,k)
def NH(c:ZV):decide (V.str (S (fm c))=V.str "==")=c.same:=by
 unfold fm;cases c.same
 .decide+kernel
 .decide+kernel
inductive P8(a:Ad)(e:List V)(H:Hp)(Q:VK)(h:XK):Prop|mk(d f g b s c:_)(_:e=[.ref d,.str (S (exprText b c.one)),.str (S (fm c)),.str (S (exprText b c.two))])(_:bv a H d f g b s)(_:bj b)(_:bS b.length c.one)(_:bS b.length c.two)(_:Q (.bl (VasepBase.condHolds s c)) H)
def nT(T:TX K U a):cf P w K U W cH 2 a.j9 ["self","first","sign","second"] [] (P8 a):=by
 let D:=dG T;show T.zV.o2 ["self","first","sign","second"] λvs H Q ab h=>?_
 let(st,pn,Z,I,s,c,rfl,R,nm,h1,h2,k):=h;show(Y,λnd an A' ap s0 O=>?_);show(_,ag (am (dv bP (dv bP (bg (pv 0) T.aY T.cC D O aq (aa (pv 1) af)) (bg (pv 0) T.aY T.cC D O aq (aa (pv 3) af)) (aB _)) (dv bP (pv 2) aD (aB _)) (aB _))),?_);let(E,G):=R.obj;show(_,Y,st,E,_,Y,G,Y,_,Y,st,pn,Z,I,s,c.one,Y,R,nm,h1,?_);show(_,Y,st,E,_,Y,G,Y,_,Y,st,pn,Z,I,s,c.two,Y,R,nm,h2,Y,?_);show(_,Y,Y,Y,?_);let hv:decide (V.int ((Vf s c.one:Nat):Int)=V.int ((Vf s c.two:Nat):Int))=(Vf s c.one==Vf s c.two):=by
  rw[Vv];simp;lia
 let hs:decide (V.str (S (fm c))=V.str "==")=c.same:=NH c;change Q (.bl (decide (V.bl (decide (V.int ((Vf s c.one:Nat):Int)=V.int ((Vf s c.two:Nat):Int)))=V.bl (decide (V.str (S (fm c))=V.str "=="))))) H;rw[hv,hs,HU];show k
end
end
section
open HM (eZ)
open VasepBase (Toks Tok Fault nameAt)
def oX(h:HM.signOk s):∃c r,s=c::r/\Vu c=UF/\c≠48:=by
 rcases h with h|⟨c,rfl,h⟩
 .rw[HM.doubled_eq]at h;simp only[UP,Zt,or_false]at h;rcases h with rfl|rfl|rfl
  .show(_,_,Y,(),())
  .show(_,_,Y,(),())
  .show(_,_,Y,(),())
 .show(c,[],Y,?_);let h:=UV.mp h;unfold YG at h;simp only[UP,Zt,or_false]at h;rcases h with rfl|rfl|rfl|rfl|rfl|rfl|rfl|rfl|rfl|rfl<;>show((),())
def SG(w:String):Bool:=match Uz w with
 |c::_=>Vu c
 |[]=>UF
def SH(w:String):Bool:=match Uz w with
 |c::_=>!Vu c&&c !=48
 |[]=>UF
def b6(W:eZ ts)(w:String)(D:SG w=UB):decide ((az ts).text=Uz w)=Wj w ts:=by
 unfold SG at D;cases e:Uz w with
 |nil=>rw[e]at D;cases D
 |cons c r=>
  rw[e]at D;let D:Vu c=UB:=D;cases W with
  |over p=>show decide_eq_false (λz=>by cases z)
  |bad p k h=>show decide_eq_false (λz=>by cases z)
  |@cons t q g _=>
   let(p,t):=t;cases t with
   |word v=>
    change decide (v=c::r)=(v==Uz w);rw[e,V_]
   |zero=>show decide_eq_false (λz=>by
     let z:[48]=c::r:=z;injection z with z _;subst z;revert D;decide)
   |sign s=>
    let(d,u,rfl,G,_):=oX (s:=s) g;show decide_eq_false (λz=>by
     let z:d::u=c::r:=z;injection z with z _;subst z;rw[D]at G;cases G)
   |over=>show g.elim
   |bad k=>show g.elim
def eM(W:eZ ts)(w:String)(D:SH w=UB):decide ((az ts).text=Uz w)=VD w ts:=by
 unfold SH at D;cases e:Uz w with
 |nil=>rw[e]at D;cases D
 |cons c r=>
  rw[e]at D;let D:(!Vu c&&c !=48)=UB:=D;rw[Vb,acT,bne_iff_ne]at D;cases W with
  |over p=>show decide_eq_false (λz=>by cases z)
  |bad p k h=>show decide_eq_false (λz=>by cases z)
  |@cons t q g _=>
   let(p,t):=t;cases t with
   |word v=>
    obtain⟨d,u,rfl,G⟩:HM.wordOk v:=g;show decide_eq_false (λz=>by
     let z:d::u=c::r:=z;injection z with z _;subst z;rw[D.1]at G;cases G)
   |zero=>show decide_eq_false (λz=>by
     let z:[48]=c::r:=z;injection z with z _;show D.2 z.symm)
   |sign s=>
    change decide (s=c::r)=(s==Uz w);rw[e,V_]
   |over=>show g.elim
   |bad k=>show g.elim
def gI(c t:List Nat):[c].contains t=decide (t=c):=by
 rw[VE,XB,XH,V_]
def cb(c d t:List Nat):[c,d].contains t=(decide (t=c)||decide (t=d)):=by
 rw[VE,gI,V_]
def jr(c d e t:List Nat):[c,d,e].contains t=(decide (t=c)||(decide (t=d)||decide (t=e))):=by
 rw[VE,cb,V_]
def HF(W:eZ ts):(az ts).place=abl ts:=by
 cases W with
 |over p=>rfl
 |bad p k h=>rfl
 |@cons t q g _=>let(p,t):=t;cases t<;>rfl
def Kq(W:eZ ts)(D:∀t∈ts,HM.fine t):decide ((az ts).fault=4)=Xh ts:=by
 cases W with
 |over p=>rfl
 |bad p k h=>
  show decide_eq_false (λz=>?_);let z:k=4:=z;subst z;show(D _ UU).2 rfl
 |@cons t q g _=>
  let(p,t):=t;cases t with
  |over=>show g.elim
  |bad k=>show g.elim
  |_=>rfl
def My{I:List (List Nat)}{w:List Nat}(h:I.contains w=UB):∃k,YZ I w=Up k/\nameAt I k=w/\k<↑I:=by
 unfold YZ;cases e:I.findIdx? (λx=>x==w)with
 |none=>
  rw[aai]at e;have:=e w (UV.mp h);simp at this
 |some k=>
  let(D,h2,_):=List.findIdx?_eq_some_iff_getElem.mp e;show(k,Y,?_,D);unfold Vn;rw[Vy,UC D];simpa using h2
def Mz{I:List (List Nat)}{w:List Nat}(h:I.contains w=UF):YZ I w=UH:=by
 unfold YZ;rw[aai];intro x D;cases e:(x==w)with
 |false=>rfl
 |true=>
  have:=eq_of_beq e;subst this;rw[UV.mpr D]at h;cases h
def xr{I:List (List Nat)}{ts:Vo}(W:eZ ts):(∃k,Yd I ts=.ok (k,ts.drop 1)/\og I ts=.ok (nameAt I k)/\k<↑I)\/∃g,Yd I ts=.error g/\og I ts=.error g:=by
 cases W with
 |over p=>show .inr (_,Y,Y)
 |bad p k h=>show .inr (_,Y,Y)
 |@cons t q g _=>
  let(p,t):=t;cases t with
  |word v=>
   obtain⟨d,u,rfl,D⟩:HM.wordOk v:=g;unfold og Yd Z4;change _\/∃g,WG (if VH.contains (d::u)=UB then _ else _) _=_/\(if(Vu d&&!VH.contains (d::u))=UB then _ else _)=_;cases O:VH.contains (d::u)with
   |true=>show .inr ((3,p),by simp [WG],by rw[D];rfl)
   |false=>
    let V:gC (az ((p,abx (d::u))::q)).text=UB:=by
     change(Vu d&&!VH.contains (d::u))=UB;rw[D,O];rfl
    rw[ifp V];cases G:I.contains (d::u)with
    |true=>
     let(k,k1,k2,k3):=My G;show .inl (k,?_,?_,k3)
     .simp only[WG,UA,if_false,O,k1]
      rfl
     .rw[ifp (show I.contains (az ((p,abx (d::u))::q)).text=UB from G),k2]
      rfl
    |false=>
     show .inr ((7,p),?_,?_)
     .simp only[WG,UA,if_false,Mz G]
     .rw[D];simp only[Bool.not_false,Zz,if_true];rw[ifn (show¬I.contains (az ((p,abx (d::u))::q)).text=UB from by
       change¬I.contains (d::u)=UB;rw[G];show Ur)]
      rfl
  |zero=>show .inr ((3,p),Y,Y)
  |sign s=>
   let(d,u,rfl,D,_):=oX (s:=s) g;show .inr ((3,p),Y,?_);unfold og;rw[ifn (show¬gC (az ((p,Tok.sign (d::u))::q)).text=UB from by
    change¬(Vu d&&!VH.contains (d::u))=UB;rw[D];show Ur)]
   rfl
  |over=>show g.elim
  |bad k=>show g.elim
def DO{I:List (List Nat)}{ts:Vo}(W:eZ ts):(∃e,WJ I ts=.ok (e,ts.drop 1)/\qa I ts=.ok (U0 I e)/\bS ↑I e)\/∃g,WJ I ts=.error g/\qa I ts=.error g:=by
 by_cases h:(az ts).text=[48]
 .show .inl (.nil,?_,by unfold qa;rw[ifp h];rfl,trivial);cases W with
  |over p=>cases h
  |bad p k _=>cases h
  |@cons t q g _=>
   let(p,t):=t;cases t with
   |word v=>
    obtain⟨d,u,rfl,D⟩:HM.wordOk v:=g;let h:d::u=[48]:=h;injection h with h _;subst h;show absurd D ()
   |zero=>rfl
   |sign s=>
    let(d,u,rfl,_,D):=oX (s:=s) g;let h:d::u=[48]:=h;injection h with h _;show absurd h D
   |over=>show g.elim
   |bad k=>show g.elim
 .let G:qa I ts=og I ts:=by unfold qa;rw[ifn h]
  let O:WJ I ts=(Yd I ts).map λk=>(.var k.1,k.2):=by
   unfold WJ;split
   .show absurd rfl h
   .rfl
  rw[G,O];rcases xr (I:=I) W with⟨k,k1,k2,k3⟩|⟨g,k1,k2⟩
  .show .inl (.var k,by rw[k1];rfl,by rw[k2];rfl,k3)
  .show .inr (g,by rw[k1];rfl,k2)
structure RX where
 r:Addr
 pt:Addr
 pn:Addr
 as:List Addr
 all:Toks
structure At (a:Ad) (H:Hp) (X:RX) (ts:Toks) (names:List (List Nat)):Prop where
 ex: ∃n,X.all.drop n=ts/\RS a H X.r X.pt X.pn X.as X.all n names
 fine: ∀t∈X.all,HM.fine t
section
variable {H H':Hp} {X:RX} {ts:Toks} {I:List (List Nat)}
def At.wf(A:At a H X ts I):eZ ts:=by let(n,e,R):=A.ex;rw[<-e];show R.wf
def At.fineT(A:At a H X ts I):∀t∈ts,HM.fine t:=by let(n,e,R):=A.ex;rw[<-e];show λt D=>A.fine t (List.mem_of_mem_drop D)
def At.short(A:At a H X ts I):(az ts).text.length<=12:=by
 let W:=A.wf;cases ts with
 |nil=>show absurd rfl W.ne
 |cons t r=>show(A.fineT t UU).1
def At.hz(A:At a H X ts I):(az ts).text.length<=100000:=Vm A.short ()
def At.obj(A:At a H X ts I):∃D n,H X.r=Up (.ins a.aQ D (rf X.pt X.pn n)):=by let(n,e,R):=A.ex;let(D,q):=R.obj;show(D,n,q)
def At.nml(A:At a H X ts I):H X.pn=Up (.lst (I.map λx=>V.str (S x))):=by let(n,e,R):=A.ex;show R.names
def At.same(A:At a H X ts I)(s:fi H H'):At a H' X ts I:=by let(n,e,R):=A.ex;show((n,e,R.same s),A.fine)
def At.len(A:At a H X ts I):↑ts<=↑X.all:=by let(n,e,R):=A.ex;rw[<-e,Vx];lia
end
def b7(a:Ad)(H:Hp)(M:Uw->Prop)(f:V1)(E:XK):Prop:=∀D G H',XF a.dC (λg H'=>g=f/\aM M H H') D G H'->E D G H'
def fT{β:Type}(a:Ad)(X:RX)(I:List (List Nat))(M:Uw->Prop)(H:Hp)(R:Except V1 (β×Vo))(Q:β->Vo->Hp->Prop)(E:XK):Prop:=match R with
 |.ok p=>∀H',aM M H H'->At a H' X p.2 I->Q p.1 p.2 H'
 |.error g=>b7 a H M g E
def k_(a:Ad)(X:RX)(I:List (List Nat))(M:Uw->Prop)(H:Hp)(R:Except V1 Vo)(Q:Vo->Hp->Prop)(E:XK):Prop:=match R with
 |.ok q=>∀H',aM M H H'->At a H' X q I->Q q H'
 |.error g=>b7 a H M g E
def aM.trans(s:aM M H H1)(t:aM M H1 D):aM M H D:=λb o e G=>t b o (s b o e G) G
def aM.mono{M M':Uw->Prop}(s:aM M H H1)(h:∀b,M b->M' b):aM M' H H1:=λb o e D=>s b o e (λz=>D (h b z))
def cY(s:fi H H'):aM M H H':=λb o e _=>s b o e
def b7.on(h:b7 a H M f E)(s:aM M H H1):b7 a H1 M f E:=λD G H' (e,d,g,O,V,Z,e4)=>h D G H' (e,d,g,O,V,Z,s.trans e4)
def b7.mono{M M':Uw->Prop}(h:b7 a H M' f E)(m:∀b,M b->M' b):b7 a H M f E:=λD G H' (e,d,g,O,V,Z,e4)=>h D G H' (e,d,g,O,V,Z,e4.mono m)
section
variable {X:RX} {I:List (List Nat)} {M M':Addr->Prop} {H H1:Hp} {E:XK} {β γ:Type}
def fT.on{R:Except V1 (β×Vo)}(k:fT a X I M H R Q E)(s:aM M H H1):fT a X I M H1 R Q E:=by
 cases R with
 |error g=>show b7.on (show b7 a H M g E from k) s
 |ok p=>show λH' s' A=>(show∀H',aM M H H'->At a H' X p.2 I->Q p.1 p.2 H' from k) H' (s.trans s') A
def fT.mono{R:Except V1 (β×Vo)}(k:fT a X I M' H R Q E)(m:∀b,M b->M' b):fT a X I M H R Q E:=by
 cases R with
 |error g=>show b7.mono (show b7 a H M' g E from k) m
 |ok p=>show λH' s' A=>(show∀H',aM M' H H'->At a H' X p.2 I->Q p.1 p.2 H' from k) H' (s'.mono m) A
def k_.mono{R:Except V1 Vo}(k:k_ a X I M' H R Q E)(m:∀b,M b->M' b):k_ a X I M H R Q E:=by
 cases R with
 |error g=>show b7.mono (show b7 a H M' g E from k) m
 |ok p=>show λH' s' A=>(show∀H',aM M' H H'->At a H' X p I->Q p H' from k) H' (s'.mono m) A
def fT.imp{R:Except V1 (β×Vo)}{Q D:β->Vo->Hp->Prop}(k:fT a X I M H R Q E)(h:∀b q H',R=.ok (b,q)->aM M H H'->At a H' X q I->Q b q H'->D b q H'):fT a X I M H R D E:=by
 cases R with
 |error g=>show k
 |ok p=>show λH' s' A=>h _ _ _ rfl s' A (k H' s' A)
def k_.imp{R:Except V1 Vo}{Q D:Vo->Hp->Prop}(k:k_ a X I M H R Q E)(h:∀q H',R=.ok q->aM M H H'->At a H' X q I->Q q H'->D q H'):k_ a X I M H R D E:=by
 cases R with
 |error g=>show k
 |ok p=>show λH' s' A=>h _ _ rfl s' A (k H' s' A)
def fT.bind{R:Except V1 (β×Vo)}{f:β×Vo->Except V1 (γ×Vo)}(k:fT a X I M H (R.bind f) Q E):fT a X I M H R (λb q H'=>fT a X I M H' (f (b,q)) Q E) E:=by
 cases R with
 |error g=>show k
 |ok p=>
  intro H' s A;show fT.on (show fT a X I M H (f p) Q E from k) s
def fT.map{R:Except V1 (β×Vo)}{f:β×Vo->γ×Vo}(k:fT a X I M H (R.map f) Q E):fT a X I M H R (λb q H'=>fT a X I M H' (.ok (f (b,q))) Q E) E:=by
 cases R with
 |error g=>show k
 |ok p=>
  intro H' s A;show fT.on (show fT a X I M H (.ok (f p)) Q E from k) s
def fT.bindT{R:Except V1 Vo}{f:Vo->Except V1 (γ×Vo)}(k:fT a X I M H (R.bind f) Q E):k_ a X I M H R (λq H'=>fT a X I M H' (f q) Q E) E:=by
 cases R with
 |error g=>show k
 |ok p=>
  intro H' s A;show fT.on (show fT a X I M H (f p) Q E from k) s
def fT.mapT{R:Except V1 Vo}{f:Vo->γ×Vo}(k:fT a X I M H (R.map f) Q E):k_ a X I M H R (λq H'=>fT a X I M H' (.ok (f q)) Q E) E:=by
 cases R with
 |error g=>show k
 |ok p=>
  intro H' s A;show fT.on (show fT a X I M H (.ok (f p)) Q E from k) s
def fT.done{Q:β->Vo->Hp->Prop}(k:fT a X I M H (.ok (b,q)) Q E)(A:At a H X q I):Q b q H:=k H (λ_ _ e _=>e) A
end
def jv{H:Hp}{X:RX}{ts:Vo}{M:Uw->Prop}{Q:VK}(D:List (List Nat))(hx:xs=D.map λx=>V.str (S x))(hp:H p=UH)(A:At a H X ts I)(Z:∀c∈D,c≠[])(G:M X.r)(k1:D.contains (az ts).text=UB->∀H',aM M H H'->At a H' X (ts.drop 1) I->Q (.str (S (az ts).text)) H')(k2:D.contains (az ts).text=UF->b7 a H M (W5 ts) E):nw K a [.ref X.r,.ref p] (aw H p (.tup xs)) Q E:=by
 let(n,rfl,R):=A.ex;show DM D hx hp R Z (λh H' s O=>k1 h H' (aM.mono (M:=(· =X.r)) s λb z=>z▸G) ((n+1,by rw[V6],O),A.fine)) (λh=>(k2 h).mono λb z=>z▸G)
def dj{H:Hp}{X:RX}{M:Uw->Prop}{Q:VK}(s:String)(D:SH s=UB)(hx:xs=[V.str (S (Uz s))])(hp:H p=UH)(A:At a H X ts I)(O:M X.r)(k:k_ a X I M H (Vk s ts) (λq H'=>Q (.str (S (Uz s))) H') E):nw K a [.ref X.r,.ref p] (aw H p (.tup xs)) Q E:=by
 let G:=eM A.wf s D;unfold Vk at k;show jv [Uz s] hx hp A (λc Z z=>?_) O (λh H' sx A'=>?_) (λh=>?_)
 .rw[Vh.mp Z]at z;unfold SH at D;rw[z]at D;cases D
 .rw[gI]at h;rw[G]at h;rw[ifp h]at k;rw[of_decide_eq_true (G.trans h)];show k H' sx A'
 .rw[gI,G]at h;rw[h,ifn Ur]at k;show k
def iV{H:Hp}{X:RX}{M:Uw->Prop}{Q:VK}(s:String)(D:SG s=UB)(hx:xs=[V.str (S (Uz s))])(hp:H p=UH)(A:At a H X ts I)(O:M X.r)(k:k_ a X I M H (Xs s ts) (λq H'=>Q (.str (S (Uz s))) H') E):nw K a [.ref X.r,.ref p] (aw H p (.tup xs)) Q E:=by
 let G:=b6 A.wf s D;unfold Xs at k;show jv [Uz s] hx hp A (λc Z z=>?_) O (λh H' sx A'=>?_) (λh=>?_)
 .rw[Vh.mp Z]at z;unfold SG at D;rw[z]at D;cases D
 .rw[gI]at h;rw[G]at h;rw[ifp h]at k;rw[of_decide_eq_true (G.trans h)];show k H' sx A'
 .rw[gI,G]at h;rw[h,ifn Ur]at k;show k
inductive Iv(a:Ad)(d:List V)(H:Hp)(Q:VK)(e:XK):Prop|mk(X c b:_)(_:d=[.ref X.r])(_:At a H X c b)(_:∀x dt,H x=some (.ins a.cF dt (tf (.str (S (az c).text)) (.int (az c).place) (.int (az c).fault)))->Q (.ref x) H)
inductive vC(a:Ad)(e:List V)(H:Hp)(Q:VK)(f:XK):Prop|mk(X d c y t b:_)(_:e=[.ref X.r,.str y])(_:y=S t)(_:At a H X d c)(_:decide ((az d).text=t)=b)(_:Q (.bl b) H)
inductive wq {β:Type} (a:Ad) (f:List (List Nat)->Toks->Except Fault (β×Toks)) (res:List (List Nat)->β->V->Hp->Hp->Prop) (vs:List V) (H:Hp) (Q:VK) (E:XK):Prop
 |mk (X ts names) (_:vs=[.ref X.r]) (_:At a H X ts names) (_:fT a X names (· =X.r) H (f names ts) (fun b _ H'=> ∀v,res names b v H H'->Q v H') E)
def Rw(I:List (List Nat))(e:WT)(v:V)(_ _:Hp):Prop:=v=.str (S (U0 I e))/\bS ↑I e
def Tf(I:List (List Nat))(k:Nat)(v:V)(_ _:Hp):Prop:=v=.str (S (nameAt I k))/\k<↑I
def AQ(I:List (List Nat))(c:ZV):List V:=[.str (S (U0 I c.one)),.str (S (fm c)),.str (S (U0 I c.two))]
def Rx(I:List (List Nat))(c:ZV)(v:V)(_ H:Hp):Prop:=(∃p,v=.ref p/\H p=Up (.tup (AQ I c)))/\bS ↑I c.one/\bS ↑I c.two
section
def vK(T:TX K U a):cf P w K U W cH 1 a.ic ["self"] [] (Iv a):=by
 show(gA T).imp λvs H Q E (X,ts,I,e,A,k)=>?_
 subst e;let(n,rfl,R):=A.ex;show(X.r,X.pt,X.pn,X.as,X.all,n,I,Y,R,λx (D,G)=>k x D G)
def oY(T:TX K U a):cf P w K U W cH 2 a.ib ["self","text"] [] (vC a):=by
 show(nV T).imp λvs H Q E (X,ts,I,y,t,b,e,G,A,D,k)=>?_
 subst e G D;let(n,rfl,R):=A.ex;show(X.r,X.pt,X.pn,X.as,X.all,n,I,t,Y,R,k)
def kK(T:TX K U a):cf P w K U W (jL P w) 5 a.eD ["self"] [] (wq a WJ Rw):=by
 show(nU T).imp λvs H Q E (X,ts,I,e,A,k)=>?_
 subst e;let(n,rfl,R):=A.ex;show(X.r,X.pt,X.pn,X.as,X.all,n,I,Y,R,A.hz,λt V=>?_,λg O=>?_)
 .rcases DO (I:=I) R.wf with⟨e,G,D,Z⟩|⟨g,G,D⟩
  .rw[G]at k;rw[D]at V;cases V;show λH' s R'=>k H' s ((n+1,by change _=afc 1 _;rw[V6],R'),A.fine) _ (Y,Z)
  .rw[D]at V;cases V
 .rcases DO (I:=I) R.wf with⟨e,G,D,Z⟩|⟨g',G,D⟩
  .rw[D]at O;cases O
  .rw[D]at O;cases O;rw[G]at k;show k
def EG(T:TX K U a):cf P w K U W (jL P w) 4 a.cT ["self"] [] (wq a Yd Tf):=by
 show(fK T).imp λvs H Q E (X,ts,I,e,A,k)=>?_
 subst e;let(n,rfl,R):=A.ex;show(X.r,X.pt,X.pn,X.as,X.all,n,I,Y,R,A.hz,λt V=>?_,λg O=>?_)
 .rcases xr (I:=I) R.wf with⟨e,G,D,Z⟩|⟨g,G,D⟩
  .rw[G]at k;rw[D]at V;cases V;show λH' s R'=>k H' s ((n+1,by change _=afc 1 _;rw[V6],R'),A.fine) _ (Y,Z)
  .rw[D]at V;cases V
 .rcases xr (I:=I) R.wf with⟨e,G,D,Z⟩|⟨g',G,D⟩
  .rw[D]at O;cases O
  .rw[D]at O;cases O;rw[G]at k;show k
end
end
section
open VasepBase (Toks faultAt isOver)
section
def IL(T:TX K U a):cf P w K U W (jL P w) 6 a.eN ["self"] [] (wq a Z5 Rx):=by
 let GV:=kK T;let GW:=bH T;show T.k8.oX2 ["self","first","sign"] λvs H Q Z h=>?_
 let(X,ts,I,rfl,A,k):=h;show(Y,λnd a1 A' a2 s0 hr=>?_);let a0:Room 3 _:=hr.mono ();show(_,ac (aA (i:=1) nd rfl (UT rfl) (bu (pv 0) T.ao T.bX GV hr bw))
  (ac (aA (i:=2) nd rfl (UT rfl) (bg (pv 0) T.ao T.aG GW a0 bw (aa (cg (aa aD (aa aD af))) af)))
  (ag (am (cg (aa (pv 1) (aa (pv 2) (aa (bu (pv 0) T.ao T.bX GV hr bw) af))))))),?_)
 iterate 3 skip
 let(dx,n,e):=A.obj;show(_,Y,X.r,dx,_,Y,e,Y,X,ts,I,Y,A,?_);unfold Z5 at k;show k.bind.imp λO q H1 _ s1 E k v D=>?_
 let(D,ar):=D;subst D;let(an,n1,o1):=E.obj;let k:fT a X I (· =X.r) H1 (if VD "==" q=UB then _ else if VD "!=" q=UB then _ else _) _ Z:=k;show(_,Y,X.r,an,_,Y,o1,Y,zl,λp hp=>?_);let d1:=eM E.wf "==" ();let d2:=eM E.wf "!=" ();dsimp only[b8,US,Ve];show jv (M:=(· =X.r)) [Uz "==",Uz "!="] ?_ hp E () rfl (λh H2 s2 A2=>?_) (λh=>?_)
 .decide+kernel
 .rw[cb,d1,d2]at h;let ab:∀(b:Bool),(az q).text=fm {same:=b,one:=O,two:=O}->fT a X I (· =X.r) H1 ((WJ I (q.drop 1)).map λy=>({same:=b,one:=O,two:=y.1},y.2)) (λb _ G=>∀v,Rx I b v H G->Q v G) Z->
    mV (No (bG (bJ 1) (bG (bJ 2) (bG (iZ a.aQ "want_value" (wq a WJ Rw) [] Z (bJ 0) b8) b8)))) {nx:=λ_ G=>Q .non G,rt:=Q} [Up (.ref X.r),Up (.str (S (U0 I O))),Up (.str (S (az q).text))] H2:=λb hb k=>by
   let(ap,n2,o2):=A2.obj;show(_,Y,_,Y,_,Y,X.r,ap,_,Y,o2,Y,X,q.drop 1,I,Y,A2,?_);show(k.on s2).map.imp λe2 q2 H3 _ s3 A3 k v D=>?_
   let(D,av):=D;subst D;show(zl,λt ht=>?_);show k _ (cY (fo ht)) (A3.same (fo ht)) _ ((t,Y,?_),ar,av);rw[ae,hb]
   rfl
  cases V:VD "==" q with
  |true=>
   rw[ifp V]at k;show ab UB (of_decide_eq_true (d1.trans V)) k
  |false=>
   rw[V,Wm]at h;rw[V,ifn Ur,ifp h]at k;show ab UF (of_decide_eq_true (d2.trans h)) k
 .rw[cb,d1,d2,Wc]at h;rw[h.1,h.2,ifn Ur,ifn Ur]at k;show k
def Og:iK (iZ C m (Iv a) [] E (bJ i) b8):=λD H R R' (v,e,b,O,fs,V,Z,e3,X,ts,I,q1,q2,q3) h=>
 (v,e,b,O,fs,V,Z,e3,X,ts,I,q1,q2,λx G hx=>h _ _ (q3 x G hx))
inductive P0(K:PySem.W.Frag)(a:Ad)(e:List V)(H:Hp)(Q:VK)(E:XK):Prop|mk(X:RX)(d:Toks)(b:List (List Nat))(l:Addr)(c:List V)(m:Nat)(_:e=[.ref X.r,.ref l,.int (m:Int)])(_:At a H X d b)(_:bx K H l c)(_:c.length≠m->Q .non H)(_:c.length=m->b7 a H (· =X.r) (5,VasepBase.here d) E)
def vJ(T:TX K U a):cf P w K U W (jL P w) 3 a.f_ ["self","taken","most"] [] (P0 K a):=by
 let Z:=vK T;let GF:=dk T;let(av,ar,O,bF,vF,kF):=GF;cases vF;show T.qI.oX2 ["self","taken","most"] λvs H Q an h=>?_
 let(X,ts,I,l,ys,m,rfl,A,hl,k1,k2):=h;show(Y,λnd ap A' a0 s0 G=>?_);let ab:Room 1 _:=G.mono ();show(_,ag (aJ (au bP (aW aN (by rfl) T.cO U2 (aa (pv 1) af)) (pv 2) (aB _))
   (ag (kH Pk rfl T.bY T.bE.at_ T.bE.fn O G rfl T.dX bF (aa (pg T.Gc) (aa (ai (bu (pv 0) T.ao T.d_ Z ab aq) rfl) af)) iW (fX Oi (fX (gT Og) tj)))) ay),?_)
 let(dx,n,e):=A.obj;show(_,Y,l,ys,Y,.inl hl,_,Y,Y,_,Y,?_);let hd:decide (V.int (↑ys:Nat)=V.int (m:Int))=decide (↑ys=m):=by
  rw[decide_eq_decide];show(λz=>by injection z with z;lia,λz=>by rw[z])
 change if decide (V.int (↑ys:Nat)=V.int (m:Int))=UB then _ else _
 rw[hd];by_cases D:↑ys=m
 .rw[decide_eq_true D];show bf (_,Y,X.r,dx,_,Y,e,Y,X,ts,I,Y,A,λx dt tx=>?_);show(x,_,dt,_,_,Y,tx,T.bZ,T.dI,Y,by change 2<=1000;decide,λy hy=>?_);rw[HF A.wf];show sI (k:=5) (R:=λg E=>g=(5,abl ts)/\aM (· =X.r) H E) (k2 D) hy λE s=>(Y,cY s)
 .rw[decide_eq_false D];show be (k1 D)
inductive Rr(a:Ad)(d:List V)(H:Hp)(Q:VK)(E:XK):Prop|mk(X c b:_)(_:d=[.ref X.r])(_:At a H X c b)(_:Q (.bl (isOver c)) H)
def Ar(T:TX K U a):cf P w K U W cH 2 a.gd ["self"] [] (Rr a):=by
 let D:=vK T;show T.qK.o2 ["self"] λvs H Q ab h=>?_
 let(X,ts,I,rfl,A,k):=h;show(Y,λnd an A' ap s0 O=>?_);show(_,ag (am (dv bP (ai (bu (pv 0) T.ao T.d_ D O aq) rfl) (pg T.qT) (aB _))),?_);let(G,n,e):=A.obj;show(_,Y,X.r,G,_,Y,e,Y,X,ts,I,Y,A,λx E Z=>?_);show(x,_,E,_,_,Y,Z,T.bZ,T.eI,Y,Y,?_);change Q (.bl (decide (V.int ((az ts).fault:Nat)=V.int 4))) H;rw[show decide (V.int ((az ts).fault:Nat)=V.int 4)=Xh ts by
  rw[<-Kq A.wf A.fineT,decide_eq_decide];show(λz=>by injection z with z;lia,λz=>by rw[z];rfl)]
 show k
inductive Jz(a:Ad)(d:List V)(H:Hp)(Q:VK)(E:XK):Prop|mk(X c b:_)(_:d=[.ref X.r])(_:At a H X c b)(_:isOver c=true->Q .non H)(_:isOver c=false->b7 a H (· =X.r) (faultAt c) E)
def ED(T:TX K U a):cf P w K U W (jL P w) 3 a.gG ["self"] [] (Jz a):=by
 let ab:=vK T;let GE:=Ar T;let GF:=dk T;let(a1,a0,FF,bF,vF,kF):=GF;cases vF;show T.sg.oX2 ["self","token"] λvs H Q ar h=>?_
 let(X,ts,I,rfl,A,k1,k2):=h;show(Y,λnd av A' a2 s0 D=>?_);let an:Room 1 _:=D.mono ();let ap:Room 2 _:=D;show(_,ac (aA (i:=1) nd rfl (UT rfl) (bu (pv 0) T.ao T.d_ ab an aq))
  (ag (aJ (i6 (cB (bu (pv 0) T.ao T.i9 GE ap aq)))
   (ag (kH Pk rfl T.bY T.bE.at_ T.bE.fn FF D rfl T.dX bF (aa (ai (pv 1) rfl) (aa (ai (pv 1) rfl) af)) iW (fX (gT ft) (fX (gT ft) tj)))) ay)),?_)
 iterate 2 skip
 let(O,n,e):=A.obj;show(_,Y,X.r,O,_,Y,e,Y,X,ts,I,Y,A,λx G Z=>?_);show(_,Y,X.r,O,_,Y,e,Y,X,ts,I,Y,A,_,Y,?_);cases V:Xh ts with
 |true=>show be (k1 V)
 |false=>
  show bf (_,Y,x,_,G,_,_,Y,Z,T.bZ,T.eI,Y,_,Y,x,_,G,_,_,Y,Z,T.bZ,T.dI,Y,by change 2<=1000;decide,λy hy=>?_);let hf:=jU A.wf;show sI (R:=λg E=>g=W5 ts/\aM (· =X.r) H E) (k2 V) hy λE s=>(hf,cY s)
inductive Br(C:Addr)(d:List V)(H:Hp)(Q:VK)(e:XK):Prop|mk(p a b c:_)(_:d=[.ref p,.ref b,.ref c])(_:H p=some (.ins C a []))(_:Q .non (aw H p (.ins C a (rf b c 0))))
def nW(T:TX K U a):cf P w K U W cH 1 a.kf ["self","tokens","names"] [] (Br a.aQ):=by
 show T.zY.o2 ["self","tokens","names"] λvs H Q G h=>?_
 let(p,D,n,c,rfl,E,k):=h;show(Y,λV I A Z s O=>?_);show(_,ac (br (pv 0) (pv 1) rfl) (ac (br (pv 0) (pv 2) rfl) (ag (br (pv 0) aF rfl))),?_)
 iterate 3 skip
 show(_,Y,_,Y,p,_,D,_,Y,E,T.ao,T.kQ,zk,?_);show(_,Y,_,Y,p,_,D,_,Y,ae,T.ao,T.dQ,zk,?_);show(_,Y,p,_,D,_,Y,ae,T.ao,T.iP,zk,?_);rw[b_,b_];show k
def F2{H:Hp}{as:List Uw}{t:List Nat}{I:List (List Nat)}(hx:H x=Up (.ins a.aQ E (rf D pn 0)))(Z:H D=Up (.lst (as.map V.ref)))(G:eE a.cF H as (HM.toks ↑t (↑t+1) (t.map HM.signOf)))(O:H pn=Up (.lst (I.map λx=>V.str (S x))))(hz:↑t<=5000):
  At a H (x,D,pn,as,VC t) (VC t) I:=
 ((0,Y,(E,hx),Z,by rw[<-HM.toks_of];show G,O,HM.tokens_wf t,by change↑(VC t)<=6000;have:=HM.tokens_len t;lia),HM.tokens_fine t)
end
end
section
open HM (aj)
def Mp(k f d s:V):List (Vp×V):=[("kind",k),("first",f),("detail",d),("second",s),("target",.int 0)]
inductive d6(C:Addr)(b:List V)(H:Hp)(Q:VK)(c:XK):Prop|mk(p a k f d s:_)(_:b=[.ref p,k,f,d,s])(_:H p=some (.ins C a []))(_:Q .non (aw H p (.ins C a (Mp k f d s))))
section
def BB:fJ ["self","kind","first","detail","second"] ["self","kind","first","detail","second"] (aP gg):=Qd ()
def eQ(T:TX K U a)(j:Nat)(G:j<=3):cf P w K U W cH 1 a.dB ["self","kind","first","detail","second"] (afc j [.str "",.str "",.str ""]) (d6 a.aI):=by
 show T.F0.ok BB (λvs H Q E h=>?_) (λV A ab s H vs Q E Z h=>?_) j G
 .let(p,D,k,f,d,s,rfl,_):=h
  rfl
 .let(p,D,k,f,d,s,rfl,I,O):=h;show(_,ac (br (pv 0) (pv 1) rfl) (ac (br (pv 0) (pv 2) rfl) (ac (br (pv 0) (pv 3) rfl) (ac (br (pv 0) (pv 4) rfl) (ag (br (pv 0) aF rfl))))),?_)
  iterate 5 skip
  show(_,Y,_,Y,p,_,D,_,Y,I,T.ax,T.al,zk,?_);show(_,Y,_,Y,p,_,D,_,Y,ae,T.ax,T.bO,zk,?_);show(_,Y,_,Y,p,_,D,_,Y,ae,T.ax,T.c_,zk,?_);show(_,Y,_,Y,p,_,D,_,Y,ae,T.ax,T.cv,zk,?_);show(_,Y,p,_,D,_,Y,ae,T.ax,T.dJ,zk,?_);rw[b_,b_,b_,b_];show O
def t7(T:TX K U a){X:RX}{M:Uw->Prop}{Q:VK}{Z:XK}(A:At a H X ts I)(hM:M X.r)(k:fT a X I M H (Yp ts) (λf _ D=>Q (.str (S (iq f))) D) Z):nw K a [.ref X.r,.ref a.nt] H Q Z:=by
 let(n,rfl,R):=A.ex;let G:=b6 R.wf "next" ();let O:=b6 R.wf "data" ();unfold Yp at k;show(X.r,X.pt,X.pn,X.as,X.all,n,I,a.nt,[Uz "next",Uz "data"],Y,R,?_,(),λh=>?_,λh=>?_)
 .have:=T.oV H;rw[<-show([Uz "next",Uz "data"].map λx=>V.str (S x))=[V.str "next",V.str "data"] by decide+kernel]at this;show this
 .rw[cb,G,O]at h;intro D s R';let A':At a D X ((X.all.drop n).drop 1) I:=((n+1,by rw[V6],R'),A.fine);let s':aM M H D:=aM.mono (M:=(· =X.r)) s λb z=>z▸hM
  cases E:Wj "next" (X.all.drop n)with
  |true=>
   rw[ifp E]at k;rw[of_decide_eq_true (G.trans E)];show k D s' A'
  |false=>
   rw[E,Wm]at h;rw[E,ifn Ur,ifp h]at k;rw[of_decide_eq_true (O.trans h)];show k D s' A'
 .rw[cb,G,O,Wc]at h;rw[h.1,h.2,ifn Ur,ifn Ur]at k;show b7.mono k λb z=>z▸hM
def y8(a:Ad)(I:List (List Nat))(l:aj)(v:V)(H D:Hp):Prop:=(∃x,v=.ref x/\H x=UH/\du a D x I l)/\fM ↑I l
def gN{H D:Hp}{X:RX}(s:aM (· =X.r) H D)(I:∃o,H X.r=Up o)(G:∃o,D X.r=Up o)(h:D x=UH):H x=UH:=by
 cases e:H x with
 |none=>rfl
 |some o=>
  by_cases q:x=X.r
  .let(o',E):=G;rw[q,E]at h;cases h
  .rw[s _ _ e q]at h;cases h
def At.there{H:Hp}{X:RX}(A:At a H X ts I):∃o,H X.r=Up o:=let(D,n,e):=A.obj;(_,e)
def E3(I:List (List Nat))(ts:Vo):Except V1 (aj×Vo):=(Xs "free" ts).bind λq=>(Yd I q).bind λx=>(Vk ";" x.2).map λr=>(aj.free x.1,r)
def Cb(T:TX K U a):cf P w K U W (jL P w) 5 a.oz ["reader"] [] (wq a E3 (y8 a)):=by
 let GK:=EG T;let GW:=bH T;let GL:cf P w K U W cH 1 a.dB ["self","kind","first","detail","second"] [.str "",.str ""] (d6 a.aI):=eQ T 1 ();show T.FU.oX2 ["reader","name"] λvs H Q a0 h=>?_
 let(X,ts,I,rfl,A,k):=h;show(Y,λnd a1 A' a3 s0 G=>?_);let ab:Room 3 _:=G.mono ();let av:Room 2 _:=G.mono ();show(_,ac (aE (bg (pv 0) T.ao T.aG GW ab bw (aa (cg (aa aD af)) af)))
  (ac (aA (i:=1) nd rfl (UT rfl) (bu (pv 0) T.ao T.d9 GK G bw))
  (ac (aE (bg (pv 0) T.ao T.aG GW ab bw (aa (cg (aa aD af)) af)))
  (ag (am (dS T.jA GL T.jG av aq (aa (pg T.La) (aa (pv 1) af))))))),?_)
 iterate 4 skip
 let(dx,n,e):=A.obj;unfold E3 at k;show(_,Y,X.r,dx,_,Y,e,Y,zl,λp E=>?_);dsimp only[b8,US,Ve];show iV (M:=(· =X.r)) "free" () () E A rfl (k.bindT.imp λq H1 _ s1 V k=>?_);let(an,n1,o1):=V.obj;show(_,Y,X.r,an,_,Y,o1,Y,X,q,I,Y,V,k.bind.imp λx q2 H2 _ s2 Z k v O=>?_);let(O,hx):=O;subst O;let(ap,n2,o2):=Z.obj;show(_,Y,X.r,ap,_,Y,o2,Y,zl,λp E=>?_);dsimp only[b8,US,Ve];show dj (M:=(· =X.r)) ";" () () E Z rfl (k.mapT.imp λq3 H3 _ s3 A3 k=>?_);show(_,Y,λy D hy ar a2=>(y,D,_,_,_,_,Y,ae,Y,?_));let sm:fi H3 (aw (aw (aw H3 D (.own y)) y (.ins a.aI D [])) y (.ins a.aI D (Mp (.str "free") (.str (S (Vn I x))) (.str "") (.str "")))):=bK (C:=a.aI) hy ar;show k _ (cY sm) (A3.same sm) _ ((y,Y,gN (s1.trans (s2.trans s3)) A.there A3.there hy,D,ae),hx)
end
end
section
open HM (aj lL)
section
def Mf(I:List (List Nat))(x:Nat)(ts:Vo):Except V1 (aj×Vo):=(WJ I ts).bind λe=>match e.1 with
  |.nil=>.ok (.set x .nil,e.2)
  |.var y=>if VD "." e.2 then(Yp (e.2.drop 1)).map λf=>(.read x y f.1,f.2)else .ok (.set x (.var y),e.2)
inductive GQ(a:Ad)(e:List V)(H:Hp)(Q:VK)(E:XK):Prop|mk(X d c x:_)(_:e=[.ref X.r,.str (S (VasepBase.nameAt c x))])(_:At a H X d c)(_:bj c)(_:x<c.length)(_:fT a X c (· =X.r) H (Mf c x d) (fun b _ H'=> ∀v,y8 a c b v H H'->Q v H') E)
def HP{I:List (List Nat)}(N:bj I)(D:bS ↑I e):decide (V.str (S (U0 I e))=V.str (S [48]))=decide (e=.nil):=by
 rw[decide_eq_decide];cases e with
 |nil=>show(λ_=>rfl,λ_=>rfl)
 |var j=>show(λz=>absurd (k9 (V.str.inj z)) (IY N D),λz=>by cases z)
def sP(T:TX K U a):cf P w K U W (jL P w) 6 a.iu ["reader","name"] [] (GQ a):=by
 let GV:=kK T;let GW:=bH T;let GS:=oY T;let GL:cf P w K U W cH 1 a.dB ["self","kind","first","detail","second"] [] (d6 a.aI):=eQ T 3 ();show T.vj.oX2 ["reader","name","value"] λvs H Q ap h=>?_
 let(X,ts,I,x,rfl,A,N,hx,k):=h;show(Y,λnd a5 A' a6 s0 hr=>?_);let av:Room 3 _:=hr.mono ();let an:Room 2 _:=hr.mono ();show(_,ac (aA (i:=2) nd rfl (UT rfl) (bu (pv 0) T.ao T.bX GV hr bw))
  (ac (aJ (wO (au bP (pv 2) aD (aB _)) (sJ (i6 (cB (bg (pv 0) T.ao T.cw GS an aq (aa aD af)))))).pt
   (ag (am (dS T.jA GL T.jG an aq (aa (pg T.wb) (aa (pv 1) (aa aD (aa (pv 2) af))))))) ay)
  (ac (aE (bg (pv 0) T.ao T.aG GW av bw (aa (cg (aa aD af)) af)))
  (ag (am (dS T.jA GL T.jG an aq (aa (pg T.Ge) (aa (pv 1) (aa (bg (pv 0) T.ao T.aG GW av bw (aa (pg T.ni) af)) (aa (pv 2) af))))))))),?_)
 iterate 4 skip
 let(dx,n,e):=A.obj;unfold Mf at k;show(_,Y,X.r,dx,_,Y,e,Y,X,ts,I,Y,A,k.bind.imp λex q E _ s1 D k v hv=>?_);let(hv,ab):=hv;subst hv;let(ar,n1,o1):=D.obj;let a0:∀l:aj,a8 I l=(("assign":Vp),Vn I x,[],U0 I ex,0)->fM ↑I l->fT a X I (· =X.r) E (.ok (l,q)) (λb _ Z=>∀v,y8 a I b v H Z->Q v Z) ap->
   mV (qV a.aI (d6 a.aI) [] E0 (bG (tC (.str "assign")) (bG (bJ 1) (bG (tC (.str "")) (bG (bJ 2) b8))))) {nx:=λ_ Z=>Q .non Z,rt:=Q} [Up (.ref X.r),Up (.str (S (Vn I x))),Up (.str (S (U0 I ex)))] E:=λl hl lo k=>by
  show(_,Y,_,Y,λy G hy a2 a4=>(y,G,_,_,_,_,Y,ae,Y,?_));let V:fi E (aw (aw (aw E G (.own y)) y (.ins a.aI G [])) y (.ins a.aI G (Mp (.str "assign") (.str (S (Vn I x))) (.str "") (.str (S (U0 I ex)))))):=bK (C:=a.aI) hy a2;show k _ (cY V) (D.same V) _ ((y,Y,gN s1 A.there D.there hy,G,by rw[hl];show ae),lo)
 show(_,Y,Y,_,Y,?_);rw[yt,HP N ab];cases ex with
 |nil=>show bf (bf (a0 (.set x .nil) rfl (hx,ab) k))
 |var y=>
  let k:fT a X I (· =X.r) E (if VD "." q=UB then _ else _) _ ap:=k;show be (_,Y,X.r,ar,_,Y,o1,Y,X,q,I,_,Uz ".",_,Y,(),D,eM D.wf "." (),_,Y,?_);cases hd:VD "." q with
  |false=>
   rw[hd,ifn Ur]at k;show bf (a0 (.set x (.var y)) rfl (hx,ab) k)
  |true=>
   rw[hd,ifp rfl]at k;show be (_,Y,X.r,ar,_,Y,o1,Y,zl,λp hp=>?_);dsimp only[b8,US,Ve];show dj (M:=(· =X.r)) "." () () hp D rfl ?_;unfold Vk;rw[ifp hd];intro H2 s2 A2;let(a1,n2,o2):=A2.obj;show(_,Y,_,Y,X.r,a1,_,Y,o2,Y,?_);dsimp only[b8,bG,tC,bJ,US,Ve];show t7 T (M:=(· =X.r)) A2 rfl ((k.on s2).map.imp λf q3 H3 _ s3 A3 k=>?_);show(_,Y,λz O hz a3 a4=>(z,O,_,_,_,_,Y,ae,Y,?_));let V:fi H3 (aw (aw (aw H3 O (.own z)) z (.ins a.aI O [])) z (.ins a.aI O (Mp (.str "read") (.str (S (Vn I x))) (.str (S (iq f))) (.str (S (U0 I (.var y))))))):=bK (C:=a.aI) hz a3;show k _ (cY V) (A3.same V) _ ((z,Y,gN (s1.trans (s2.trans s3)) A.there A3.there hz,O,ae),hx,ab)
def rL(I:List (List Nat))(ts:Vo):Except V1 (aj×Vo):=((Yd I ts).bind λx=>if VD "." x.2 then(Yp (x.2.drop 1)).bind λf=>(Vk "=" f.2).bind λq=>(WJ I q).map λe=>(aj.write x.1 f.1 e.1,e.2)else(Vk "=" x.2).bind λq=>lL I x.1 q).bind λs=>(Vk ";" s.2).map λr=>(s.1,r)
def oN(x:Except V1 D)(f:D->Except V1 E)(g:E->Except V1 G):(x.bind f).bind g=x.bind λy=>(f y).bind g:=by cases x<;>rfl
def du.sx{M:Uw->Prop}(h:du a H x I l)(s:aM M H D)(n:¬M x):du a D x I l:=let(d,e):=h;(d,s _ _ e n)
def xp{X:RX}(A:At a H X ts I)(h:du a H x nm l):x≠X.r:=by
 let(O,n,e):=A.obj;let(d,D):=h;intro z;rw[z,e]at D;have:=UI D;injection this with _ _ q;unfold rf lf at q;injection q with E _;injection E with G _;show absurd G ()
def wZ(T:TX K U a):cf P w K U W (jL P w) 7 a.jZ ["reader"] [] (λvs H Q O=>Sj λX ts I=>Sw (vs=[.ref X.r]) (At a H X ts I) (bj I) (fT a X I (· =X.r) H (rL I ts) (λb _ H'=>∀v,y8 a I b v H H'->Q v H') O)):=by
 let GK:=EG T;let GV:=kK T;let GA:=sP T;let GW:=bH T;let GS:=oY T;let GL:cf P w K U W cH 1 a.dB ["self","kind","first","detail","second"] [] (d6 a.aI):=eQ T 3 ();let a3:cf P w K U W cH 1 a.dB ["self","kind","first","detail","second"] [.str "",.str ""] (d6 a.aI):=eQ T 1 ();show T.zN.oX2 ["reader","name","field","line"] λvs H Q O h=>?_
 let(X,ts,I,rfl,A,N,k):=h;show(Y,λnd bs A' bt s0 hr=>?_);let bm:Room 5 _:=hr.mono ();let bl:Room 4 _:=hr.mono ();let ab:Room 3 _:=hr.mono ();let a0:Room 2 _:=hr.mono ();show(_,ac (aA (i:=1) nd rfl (UT rfl) (bu (pv 0) T.ao T.d9 GK bl bw))
  (ac (aJ (au bP (bg (pv 0) T.ao T.aG GW ab bw (aa (cg (aa aD (aa aD af))) af)) aD (aB _))
   (ac (aA (i:=2) nd rfl (UT rfl) (bg (pv 0) T.ao T.aG GW ab bw (aa (pg T.ni) af)))
   (ac (aE (bg (pv 0) T.ao T.aG GW ab bw (aa (cg (aa aD af)) af)))
   (ag (aA (i:=3) nd rfl (UT rfl) (dS T.jA GL T.jG a0 aq (aa (pg T.Bf) (aa (pv 1) (aa (pv 2) (aa (bu (pv 0) T.ao T.bX GV bm bw) af)))))))))
   (ag (aJ (cB (bg (pv 0) T.ao T.cw GS a0 aq (aa aD af)))
    (ac (aE (bg (pv 0) T.ao T.aG GW ab bw (aa (cg (aa aD af)) af)))
    (ag (aA (i:=3) nd rfl (UT rfl) (dS T.jA a3 T.jG a0 aq (aa (pg T.K_) (aa (pv 1) af))))))
    (ag (aA (i:=3) nd rfl (UT rfl) (aX GA T.vd hr bw (aa (pv 0) (aa (pv 1) af))))))))
  (ac (aE (bg (pv 0) T.ao T.aG GW ab bw (aa (cg (aa aD af)) af)))
  (ag (am (pv 3))))),?_)
 iterate 4 skip
 let(dx,n,e):=A.obj;unfold rL at k;rw[oN]at k;show(_,Y,X.r,dx,_,Y,e,Y,X,ts,I,Y,A,k.bind.imp λx q H1 _ s1 A1 k v E=>?_);let(E,hx):=E;subst E;let(a4,n1,o1):=A1.obj;let k:fT a X I (· =X.r) H1 ((if VD "." q=UB then _ else(Vk "=" q).bind _).bind _) _ O:=k;let ar:∀(l:aj)(q4:Vo)(Z:Hp)(y:Uw)(v2:Option V),aM (· =X.r) H1 Z->At a Z X q4 I->H y=UH->du a Z y I l->fM ↑I l->
   fT a X I (· =X.r) Z ((Vk ";" q4).map λr=>(l,r)) (λb _ H'=>∀v,y8 a I b v H H'->Q v H') O->
   uG (nu (iZ a.aQ "want" (nw K a) [] O (bJ 0) (bG (No (bG (tC (.str ";")) b8)) b8))) (mV (bJ 3)) {nx:=λ_ H'=>Q .non H',rt:=Q} [Up (.ref X.r),Up (.str (S (Vn I x))),v2,Up (.ref y)] Z:=λl q4 Z y v2 s4 A4 G hl lo k=>by
  let(ap,n4,o4):=A4.obj;show(_,Y,X.r,ap,_,Y,o4,Y,zl,λp hp=>?_);dsimp only[b8,US,Ve];show dj (M:=(· =X.r)) ";" () () hp A4 rfl (k.mapT.imp λq5 H5 _ s5 A5 k=>?_);show(_,Y,k.done A5 _ ((y,Y,G,hl.sx s5 (xp A4 hl)),lo))
 show(_,Y,X.r,a4,_,Y,o1,Y,zl,λp hp=>?_);let d1:=eM A1.wf "=" ();let d2:=eM A1.wf "." ();dsimp only[b8,US,Ve];show jv (M:=(· =X.r)) [Uz "=",Uz "."] ?_ hp A1 () rfl (λh H2 s2 A2=>?_) (λh=>?_)
 .decide+kernel
 .rw[cb,d1,d2]at h;let(an,n2,o2):=A2.obj;show(Y,_,Y,?_);let bd:V.str "."=V.str (S (Uz ".")):=()
  rw[bd,show decide (V.str (S (az q).text)=V.str (S (Uz ".")))=VD "." q by
   rw[<-d2,decide_eq_decide];show(λz=>k9 (V.str.inj z),λz=>by rw[z])]
  cases hd:VD "." q with
  |true=>
   rw[hd,ifp rfl,oN]at k;show bf (_,Y,X.r,an,_,Y,o2,Y,?_);dsimp only[b8,bG,tC,bJ,US,Ve];show t7 T (M:=(· =X.r)) A2 rfl ((k.on s2).bind.imp λf q3 H3 _ s3 A3 k=>?_);let(a5,n3,o3):=A3.obj;let k:=(oN (Vk "=" q3) _ _)▸k;show(_,Y,X.r,a5,_,Y,o3,Y,zl,λp hp=>?_);dsimp only[b8,US,Ve];show dj (M:=(· =X.r)) "=" () () hp A3 rfl (k.bindT.imp λq4 Z _ s4 A4 k=>?_);let(ap,n4,o4):=A4.obj;let k:fT a X I (· =X.r) Z (((WJ I q4).map _).bind _) _ O:=k;let e5:∀(z:Except V1 (WT×Vo))(f:WT×Vo->aj×Vo)(g:aj×Vo->Except V1 (aj×Vo)),(z.map f).bind g=z.bind λy=>g (f y):=λz f g=>by cases z<;>rfl
   rw[e5]at k;show(_,Y,_,Y,_,Y,X.r,ap,_,Y,o4,Y,X,q4,I,Y,A4,k.bind.imp λex q5 H5 _ s5 A5 k v E=>?_);let(E,a6):=E;subst E;show λy D G av bk=>(y,D,_,_,_,_,Y,ae,Y,?_)
   let sm:fi H5 (aw (aw (aw H5 D (.own y)) y (.ins a.aI D [])) y (.ins a.aI D (Mp (.str "write") (.str (S (Vn I x))) (.str (S (iq f))) (.str (S (U0 I ex)))))):=bK (C:=a.aI) G av;let a2:=s2.trans (s3.trans (s4.trans s5));show ar (.write x f ex) q5 _ y _ (a2.trans (cY sm)) (A5.same sm) (gN (s1.trans a2) A.there A5.there G) (D,ae) (hx,a6) (k.on (cY sm))
  |false=>
   rw[hd,XH]at h;rw[hd,ifn Ur]at k;unfold Vk at k;rw[ifp h]at k;let k:fT a X I (· =X.r) H1 ((lL I x (q.drop 1)).bind _) _ O:=k;unfold lL at k;show be (_,Y,X.r,an,_,Y,o2,Y,X,q.drop 1,I,_,Uz "new",_,Y,(),A2,b6 A2.wf "new" (),_,Y,?_);cases hw:Wj "new" (q.drop 1)with
   |true=>
    rw[hw,ifp rfl]at k;show bf (_,Y,X.r,an,_,Y,o2,Y,zl,λp hp=>?_);dsimp only[b8,US,Ve];show iV (M:=(· =X.r)) "new" () () hp A2 rfl ?_;unfold Xs;rw[ifp hw];intro H3 s3 A3;show(_,Y,λy D G av bk=>(y,D,_,_,_,_,Y,ae,Y,?_));let sm:fi H3 (aw (aw (aw H3 D (.own y)) y (.ins a.aI D [])) y (.ins a.aI D (Mp (.str "new") (.str (S (Vn I x))) (.str "") (.str "")))):=bK (C:=a.aI) G av;let a1:=s2.trans s3;show ar (.new x) _ _ y _ (a1.trans (cY sm)) (A3.same sm) (gN (s1.trans a1) A.there A3.there G) (D,ae) hx (fT.on k (a1.trans (cY sm)))
   |false=>
    rw[hw,ifn Ur]at k;let k:fT a X I (· =X.r) H1 ((Mf I x (q.drop 1)).bind _) _ O:=k;show be (_,Y,_,Y,X,q.drop 1,I,x,Y,A2,N,hx,(k.on s2).bind.imp λl q3 H3 _ s3 A3 k v E=>?_);let((y,E,G,hl),lo):=E;subst E;show ar l q3 H3 y _ (s2.trans s3) A3 (gN (s1.trans s2) A.there A2.there G) hl lo k
 .rw[cb,d1,d2,Wc]at h;unfold Vk at k;rw[h.1,h.2,ifn Ur,ifn Ur]at k;show k
end
end
section
open HM (aj setT)
open VasepBase (Toks)
structure LS (a:Ad) (H:Hp) (X:RX) (names:List (List Nat)) (pl po:Addr) (ls:List Addr) (L:List aj) (op:List Nat):Prop where
 lst:H pl=some (.lst (ls.map V.ref))
 lines:ls.length=L.length/\ ∀(i:Nat) x l,ls[i]?=some x->L[i]?=some l->du a H x names l
 nd:ls.Nodup
 opn:H po=some (.lst (op.reverse.map fun n=>V.int (n:Nat)))
 ne:pl≠po
 ap:(pl≠X.pt/\pl≠X.pn)/\po≠X.pt/\po≠X.pn
 lok: ∀l∈L,fM names.length l
structure iU (L:List aj) (op:List Nat):Prop where
 opk: ∀i∈op,L[i]?.any aj.up=true
 dec:op.Pairwise (· > ·)
def LM(X:RX)(pl po:Uw)(ls:List Uw)(b:Uw):Prop:=b=X.r\/b=pl\/b=po\/b∈ls
section
variable {H H':Hp} {X:RX} {ts:Toks} {I:List (List Nat)} {pl po:Addr} {ls:List Addr} {L:List aj} {op:List Nat} {M:Addr->Prop}
def At.frame(A:At a H X ts I)(s:aM M H H')(O:¬M X.r)(h2:¬M X.pt)(V:¬M X.pn)(Z:∀x D t p f,H x=Up (.ins a.cF D (tf t p f))->¬M x):At a H' X ts I:=by
 let(n,e,R):=A.ex;let(G,o):=R.obj;show((n,e,(G,s _ _ o O),s _ _ R.toks h2,(R.list.1,λi x t q1 q2=>let(D,z):=R.list.2 i x t q1 q2;(D,s _ _ z (Z _ _ _ _ _ z))),s _ _ R.names V,R.wf,R.small),A.fine)
def At.list(A:At a H X ts I)(D:H b=Up (.lst xs))(h2:b≠X.pt)(G:b≠X.pn):At a (aw H b o) X ts I:=by
 show A.frame (M:=(· =b)) (λc u e n=>by rw[ah n];show e) (λz=>?_) (λz=>h2 z.symm) (λz=>G z.symm) (λx O t p f e z=>?_)
 .let(Z,n,e):=A.obj;rw[z,D]at e;cases e
 .let z:x=b:=z;rw[z,D]at e;cases e
def DZ:tf t p f≠lf q:=λz=>by
 unfold tf lf at z;injection z with z _;injection z with z _;show absurd z ()
def wN:rf p q n≠lf u:=λz=>by
 unfold rf lf at z;injection z with z _;injection z with z _;show absurd z ()
def At.line(A:At a H X ts I)(D:H b=Up (.ins a.aI d (lf q))):At a (aw H b o) X ts I:=by
 show A.frame (M:=(· =b)) (λc u e n=>by rw[ah n];show e) (λz=>?_) (λz=>?_) (λz=>?_) (λx G t p f e z=>?_)
 .let(O,n,e):=A.obj;rw[z,D]at e;injection e with e;injection e with _ _ e;show wN e.symm
 .let(n,_,R):=A.ex;let e:=R.toks;rw[z,D]at e;cases e
 .let e:=A.nml;rw[z,D]at e;cases e
 .let z:x=b:=z;rw[z,D]at e;injection e with e;injection e with _ _ e;show DZ e.symm
def LS.frame(S:LS a H X I pl po ls L op)(s:aM M H H')(G:¬M pl)(h2:¬M po)(O:∀x∈ls,¬M x):LS a H' X I pl po ls L op:=
 (s _ _ S.lst G,(S.lines.1,λi x l D V=>(S.lines.2 i x l D V).sx s (O x (U3 D))),S.nd,s _ _ S.opn h2,S.ne,S.ap,S.lok)
def LS.same(S:LS a H X I pl po ls L op)(s:fi H H'):LS a H' X I pl po ls L op:=S.frame (M:=λ_=>False) (cY s) id id λ_ _=>id
def LS.lineAt(S:LS a H X I pl po ls L op)(O:x∈ls):∃d l,H x=Up (.ins a.aI d (lf (a8 I l))):=by
 let(i,D):=Xn.mp O;let G:i<↑L:=by rw[<-S.lines.1];show(UO.mp D).1
 let(d,e):=S.lines.2 i x _ D (UC G);show(d,_,e)
def LS.read(S:LS a H X I pl po ls L op)(A:At a H X ts I)(s:aM (· =X.r) H H'):LS a H' X I pl po ls L op:=by
 let(G,n,e):=A.obj;show S.frame s (λz=>?_) (λz=>?_) (λx D z=>?_)
 .let h:=S.lst;rw[z,e]at h;cases h
 .let h:=S.opn;rw[z,e]at h;cases h
 .let(d,l,h):=S.lineAt D;let z:x=X.r:=z;rw[z,e]at h;injection h with h;injection h with _ _ h;show wN h
def LS.push(S:LS a H X I pl po ls L op)(hx:du a H x I l)(hn:x∉ls)(lo:fM ↑I l):LS a (aw H pl (.lst ((ls++[x]).map V.ref))) X I pl po (ls++[x]) (L++[l]) op:=by
 let ab:∀y m,du a H y I m->du a (aw H pl (.lst ((ls++[x]).map V.ref))) y I m:=λy m (d,e)=>(d,by rw[ah (aV e S.lst (by intro z;cases z))];show e)
 show(ae,(by rw[Us,Us,S.lines.1];rfl,λi y m D G=>ab y m ?_),?_,by rw[ah S.ne.symm];show S.opn,S.ne,S.ap,λm Z=>?_)
 .by_cases h:i<↑ls
  .rw[UY h]at D;rw[UY (by rw[<-S.lines.1];show h)]at G;show S.lines.2 i y m D G
  .rw[UZ ⋯]at D;rw[UZ (by rw[<-S.lines.1];lia),<-S.lines.1]at G;cases h2:i-↑ls with
   |zero=>rw[h2]at D G;cases D;cases G;show hx
   |succ n=>rw[h2]at D;simp at D
 .rw[aar];show(S.nd,by simp,λy hy z O e=>hn (by rw[Vh]at O;subst O;subst e;show hy))
 .rcases VM.mp Z with h|h
  .show S.lok m h
  .rw[Vh]at h;subst h;show lo
def nM{L:List aj}(h:L[i]?.any aj.up=UB):i<↑L:=by
 cases e:L[i]? with
 |none=>rw[e]at h;cases h
 |some m=>show(UO.mp e).1
def LS.pushOp(S:LS a H X I pl po ls L op):LS a (aw H po (.lst (op.reverse.map (λn=>V.int (n:Nat))++[V.int (i:Nat)]))) X I pl po ls L (i::op):=by
 let s:aM (· =po) H (aw H po (.lst (op.reverse.map (λn=>V.int (n:Nat))++[V.int (i:Nat)]))):=λc u e n=>by rw[ah n];show e
 show(s _ _ S.lst S.ne,(S.lines.1,λj x l D G=>(S.lines.2 j x l D G).sx s λz=>?_),S.nd,?_,S.ne,S.ap,S.lok)
 .let(d,e):=S.lines.2 j x l D G;let z:x=po:=z;rw[z,S.opn]at e;cases e
 .rw[ae,aaq,Vj];rfl
def LS.popOp(S:LS a H X I pl po ls L (i::op)):LS a (aw H po (.lst (op.reverse.map λn=>V.int (n:Nat)))) X I pl po ls L op:=by
 let s:aM (· =po) H (aw H po (.lst (op.reverse.map λn=>V.int (n:Nat)))):=λc u e n=>by rw[ah n];show e
 show(s _ _ S.lst S.ne,(S.lines.1,λj x l D G=>(S.lines.2 j x l D G).sx s λz=>?_),S.nd,ae,S.ne,S.ap,S.lok);let(d,e):=S.lines.2 j x l D G;let z:x=po:=z;rw[z,S.opn]at e;cases e
def jD{l:aj}(h:l.up=UB\/(∃t,l=.fin t)):a8 I (l.withT t)=((a8 I l).1,(a8 I l).2.1,(a8 I l).2.2.1,(a8 I l).2.2.2.1,t):=by
 rcases h with h|⟨t,rfl⟩
 .cases l<;>first|rfl|cases h
 .rfl
def K6{l:aj}:(l.withT t).up=l.up:=by cases l<;>rfl
def Cw{l:aj}(h:fM n l):fM n (l.withT t):=by cases l<;>show h
def tq(q:Vp×List Nat×List Nat×List Nat×Nat)(t:Nat):ck "target" (.int (t:Nat)) (lf q)=lf (q.1,q.2.1,q.2.2.1,q.2.2.2.1,t):=by
 unfold lf;rw[ck,ifn (),ck,ifn (),ck,ifn (),ck,ifn (),ck,ifp rfl]
def i0(L:List aj)(i t j:Nat):(setT L i t)[j]?=if i=j then L[j]?.map (aj.withT t)else L[j]?:=by
 unfold setT;rw[List.getElem?_modify];split<;>simp
def wA(L:List aj)(i t:Nat):↑(setT L i t)=↑L:=by unfold setT;rw[List.length_modify]
def Eh(L:List aj)(i t j:Nat):(setT L i t)[j]?.any aj.up=L[j]?.any aj.up:=by
 rw[i0];split
 .cases L[j]? with
  |none=>rfl
  |some l=>show K6
 .rfl
def LS.setT(S:LS a H X I pl po ls L op){l:aj}(V:ls[i]?=Up y)(hl:L[i]?=Up l)(hu:l.up=UB\/(∃t,l=.fin t)):LS a (aw H y (.ins a.aI d (lf (a8 I (l.withT t))))) X I pl po ls (HM.setT L i t) op:=by
 let(dy,Z):=S.lines.2 i y l V hl;let s:aM (· =y) H (aw H y (.ins a.aI d (lf (a8 I (l.withT t))))):=λc u e n=>by rw[ah n];show e
 show(s _ _ S.lst (aV S.lst Z (by intro z;cases z)),(by rw[wA];show S.lines.1,λj x m O G=>?_),S.nd,s _ _ S.opn (aV S.opn Z (by intro z;cases z)),S.ne,S.ap,λm hm=>?_)
 .rw[i0]at G;by_cases h:i=j
  .subst h;rw[ifp rfl,hl]at G;rw[V]at O;cases O;cases G;show(d,ae)
  .rw[ifn h]at G;show(S.lines.2 j x m O G).sx s λz=>h ?_
   let z:x=y:=z;subst z;show OY S.nd V O
 .let(j,D):=Xn.mp hm;rw[i0]at D;split at D
  .cases e:L[j]? with
   |none=>rw[e]at D;cases D
   |some l'=>
    rw[e]at D;let D:Up (l'.withT t)=Up m:=D;cases D;show Cw (S.lok l' (U3 e))
  .show S.lok m (U3 D)
end
def iU.push(o:iU L op):iU (L++[l]) op:=(λi D=>by rw[UY (nM (o.opk i D))];show o.opk i D,o.dec)
def iU.opened{L:List aj}{l:aj}(o:iU L op)(O:l.up=UB):iU (L++[l]) (↑L::op):=
 (λi D=>by
  rcases UP.mp D with h|h
  .subst h;rw[UZ (UD _),Yt];show O
  .show o.push.opk i h,Vg.mpr (λj G=>nM (o.opk j G),o.dec))
def iU.setT(o:iU L op):iU (HM.setT L i t) op:=(λj D=>by rw[Eh];show o.opk j D,o.dec)
def iU.pop(o:iU L (i::op)):iU L op:=(λj D=>o.opk j (UR _ D),(Vg.mp o.dec).2)
def gq(a:Ad)(X:RX)(I:List (List Nat))(M:Uw->Prop)(H:Hp)(R:Except V1 HM.PS)(Q:HM.PS->Hp->Prop)(E:XK):Prop:=match R with
 |.ok st=>∀H',aM M H H'->At a H' X st.ts I->Q st H'
 |.error g=>b7 a H M g E
section
variable {X:RX} {I:List (List Nat)} {M M':Addr->Prop} {H H1:Hp} {E:XK} {β:Type}
def gq.on{R:Except V1 HM.PS}(k:gq a X I M H R Q E)(s:aM M H H1):gq a X I M H1 R Q E:=by
 cases R with
 |error g=>show b7.on (show b7 a H M g E from k) s
 |ok p=>show λH' s' A=>(show∀H',aM M H H'->At a H' X p.ts I->Q p H' from k) H' (s.trans s') A
def gq.bind{R:Except V1 (β×Vo)}{f:β×Vo->Except V1 HM.PS}(k:gq a X I M H (R.bind f) Q E):fT a X I M H R (λb q H'=>gq a X I M H' (f (b,q)) Q E) E:=by
 cases R with
 |error g=>show k
 |ok p=>
  intro H' s A;show gq.on (show gq a X I M H (f p) Q E from k) s
def gq.map{R:Except V1 (β×Vo)}{f:β×Vo->HM.PS}(k:gq a X I M H (R.map f) Q E):fT a X I M H R (λb q H'=>gq a X I M H' (.ok (f (b,q))) Q E) E:=by
 cases R with
 |error g=>show k
 |ok p=>
  intro H' s A;show gq.on (show gq a X I M H (.ok (f p)) Q E from k) s
def gq.mapT{R:Except V1 Vo}{f:Vo->HM.PS}(k:gq a X I M H (R.map f) Q E):k_ a X I M H R (λq H'=>gq a X I M H' (.ok (f q)) Q E) E:=by
 cases R with
 |error g=>show k
 |ok p=>
  intro H' s A;show gq.on (show gq a X I M H (.ok (f p)) Q E from k) s
end
end
section
open HM (aj iI)
open VasepBase (Toks Fault isWord)
inductive JI(K:PySem.W.Frag)(a:Ad)(h:Toks->List Nat->Prop)(f:List (List Nat)->HM.PS->Except Fault HM.PS)(j:List V)(H:Hp)(Q:VK)(E:XK):Prop|mk(X:RX)(c:Toks)(b:List (List Nat))(d e:Addr)(i:List Addr)(L:List aj)(g:List Nat)(_:j=[.ref X.r,.ref d,.ref e])(_:At a H X c b)(_:LS a H X b d e i L g)(_:iU L g)(_:bj b)(_:h c g)(_:L.length+c.length<=6000)(_:gq a X b (LM X d e i) H (f b ⟨c,L,g⟩) (fun st H'=> ∀ls',LS a H' X b d e ls' st.lines st.op->iU st.lines st.op->(∀x∈ls',x∈i\/H x=none)->Q .non H') E)
def Ja{op:List Nat}(h:op.Pairwise (· > ·))(G:∀i∈op,i<n):↑op<=n:=by
 induction op generalizing n with
 |nil=>show VN _
 |cons i op I=>
  let(D,h2):=Vg.mp h;have:=I h2 (n:=i) λj E=>D j E
  have:=G i UU;rw[Ut];lia
section
def zh(T:TX K U a):cf P w K U W (jL P w) 7 a.l8 ["reader","lines","opened"] [] (JI K a (λts _=>(isWord "if" ts||isWord "while" ts)=true) iI):=by
 let GR:=vJ T;let GC:=IL T;let GW:=bH T;let GL:cf P w K U W cH 1 a.dB ["self","kind","first","detail","second"] [] (d6 a.aI):=eQ T 3 ();show T.Dn.oX2 ["reader","lines","opened","kind","condition"] λvs H Q a0 h=>?_
 let(X,ts,I,pl,O,E,L,op,rfl,A,S0,an,N,a4,b2,k):=h;show(Y,λnd b1 A' cc s0 hr=>?_);let av:Room 3 _:=hr.mono ();let bs:Room 2 _:=hr.mono ();show(_,ac (aE (bg (pv 0) T.ao T.eU GR av bw (aa (pv 2) (aa (pg T.uF) af))))
  (ac (aA (i:=3) nd rfl (UT rfl) (bg (pv 0) T.ao T.aG GW av bw (aa (cg (aa (pg T.Nf) (aa (pg T.vA) af))) af)))
  (ac (aA (i:=4) nd rfl (UT rfl) (bu (pv 0) T.ao T.gk GC hr bw))
  (ac (aE (bg (pv 0) T.ao T.aG GW av bw (aa (cg (aa aD af)) af)))
  (ac (aE (ej UQ U8 Va cn (pv 2) (aa (aW aN (by rfl) T.cO U2 (aa (pv 1) af)) af)))
  (ag (aE (ej UQ U8 Va cn (pv 1) (aa (dS T.jA GL T.jG bs aq (aa (pv 3) (aa (c9 lO (pv 4) aF (λ_ _=>rfl)) (aa (c9 lO (pv 4) aF (λ_ _=>rfl)) (aa (c9 lO (pv 4) aF (λ_ _=>rfl)) af))))) af)))))))),?_)
 iterate 6 skip
 let(dx,n,e):=A.obj;unfold iI at k;let k:gq a X I (LM X pl O E) H (if ↑op=6 then .error (5,abl ts)else _) _ a0:=k;let mr:∀b,b=X.r->LM X pl O E b:=λb z=>.inl z
 show(_,Y,X.r,dx,_,Y,e,Y,_,Y,X,ts,I,O,_,6,Y,A,bx.of S0.opn,λh6=>?_,λh6=>?_)
 .rw[Uq,XI]at h6;rw[ifn h6]at k;show(_,Y,X.r,dx,_,Y,e,Y,zl,λp hp=>?_);let d1:=b6 A.wf "if" ();let d2:=b6 A.wf "while" ();dsimp only[b8,US,Ve];show jv (M:=(· =X.r)) [Uz "if",Uz "while"] ?_ hp A () rfl (λh H1 s1 A1=>?_) (λh=>?_)
  .decide+kernel
  .let(a5,n1,o1):=A1.obj;show(_,Y,X.r,a5,_,Y,o1,Y,X,ts.drop 1,I,Y,A1,fT.mono ((k.on (s1.mono mr)).bind) mr|>.imp λc q H2 _ s2 A2 k v hv=>?_);let((pc,hv,ap),a1,a2):=hv;subst hv;let(a6,n2,o2):=A2.obj;show(_,Y,X.r,a6,_,Y,o2,Y,zl,λp hp=>?_);dsimp only[b8,US,Ve];show dj (M:=(· =X.r)) "{" () () hp A2 rfl (k_.mono k.mapT mr|>.imp λq3 Z _ s3 A3 k=>?_);let S1:=S0.read A s1;let S2:=S1.read A1 s2;let G:=S2.read A2 s3;let bF:=s1.trans (s2.trans s3);let a3:Z pc=Up (.tup (AQ I c)):=s3 _ _ ap (λz=>by rw[z,o2]at ap;cases ap);let bd:↑L<=6000:=⋯
   let b4:↑op<=6000:=Vm (Ja an.dec λi hi=>nM (an.opk i hi)) bd;show(_,Y,.inl (Y,_,bx.of G.opn),_,Y,pl,_,Y,.inl (bx.of G.lst),O,_,_,Y,Y,G.opn,by rw[Uq,XI,Ux];lia,?_);rw[Uq,G.lines.1];let S4:=G.pushOp (i:=↑L);let A4:At a _ X q3 I:=A3.list (o:=.lst (op.reverse.map (λn=>V.int (n:Nat))++[V.int (↑L:Nat)])) G.opn G.ap.2.1 G.ap.2.2;generalize ab:aw Z O (.lst (op.reverse.map (λn=>V.int (n:Nat))++[V.int (↑L:Nat)]))=H4 at S4 A4⊢;let s4:aM (LM X pl O E) Z H4:=λb o e hb=>by rw[<-ab,ah (λz=>hb (.inr (.inr (.inl z))))];show e
   let ar:H4 pc=Up (.tup (AQ I c)):=by rw[<-ab,ah (aV a3 G.opn (by intro z;cases z))];show a3
   show(_,Y,.inl (Y,_,bx.of S4.lst),_,Y,_,Y,pc,_,_,_,Y,Y,gK.of ar,b5 (j:=0) rfl,_,Y,pc,_,_,_,Y,Y,gK.of ar,b5 (j:=1) rfl,_,Y,pc,_,_,_,Y,Y,gK.of ar,b5 (j:=2) rfl,λy D hy bk b3=>(y,D,_,_,_,_,Y,ae,Y,?_));let hw:∃l:aj,l=(if isWord "if" ts=true then aj.ifl c 0 else aj.whl c 0)/\l.up=true/\fM ↑I l/\Mp (.str (S (az ts).text)) (.str (S (U0 I c.one))) (.str (S (fm c))) (.str (S (U0 I c.two)))=lf (a8 I l):=by
    rw[cb,d1,d2]at h;cases hi:isWord "if" ts with
    |true=>
     show(.ifl c 0,by rw[ifp rfl],Y,(a1,a2),?_);rw[of_decide_eq_true (d1.trans hi),show S (Uz "if")=("if":Vp) by decide+kernel]
     rfl
    |false=>
     rw[hi,Wm]at h;show(.whl c 0,by rw[ifn Ur],Y,(a1,a2),?_);rw[of_decide_eq_true (d2.trans h),show S (Uz "while")=("while":Vp) by decide+kernel]
     rfl
   let(l,hl,bt,bm,bl):=hw;rw[bl];let sm:fi H4 (aw (aw (aw H4 D (.own y)) y (.ins a.aI D [])) y (.ins a.aI D (lf (a8 I l)))):=bK (C:=a.aI) hy bk;let S5:=S4.same sm;let A5:=A4.same sm;let ly:du a (aw (aw (aw H4 D (.own y)) y (.ins a.aI D [])) y (.ins a.aI D (lf (a8 I l)))) y I l:=(D,ae);generalize aw (aw (aw H4 D (.own y)) y (.ins a.aI D [])) y (.ins a.aI D (lf (a8 I l)))=H5 at sm S5 A5 ly⊢;let yn:y∉E:=λz=>by
    let(d,m,e):=S4.lineAt z;rw[hy]at e;cases e
   let S6:=S5.push ly yn bm;let A6:At a _ X q3 I:=A5.list (o:=.lst ((E++[y]).map V.ref)) S5.lst S5.ap.1.1 S5.ap.1.2;show(pl,_,_,Y,Y,S5.lst,by rw[Uq,S5.lines.1,Ux];lia,?_);rw[show E.map V.ref++[V.ref y]=(E++[y]).map V.ref by rw[Vj];rfl];let b0:aM (LM X pl O E) Z (aw H5 pl (.lst ((E++[y]).map V.ref))):=s4.trans ((cY sm).trans λb o e hb=>by rw[ah (λz=>hb (.inr (.inl z)))];show e);let k:gq a X I (LM X pl O E) Z (.ok (q3,L++[if isWord "if" ts=true then aj.ifl c 0 else aj.whl c 0],↑L::op)) _ a0:=k;rw[<-hl]at k;show k _ b0 A6 (E++[y]) S6 (an.opened bt) λx hx=>?_
   rcases VM.mp hx with z|z
   .show .inl z
   .rw[Vh]at z;subst z;show .inr ?_;let h3:Z x=none:=by
     cases e3:Z x with
     |none=>rfl
     |some o=>
      by_cases zp:x=O
      .rw[<-ab,zp,ae]at hy;cases hy
      .rw[<-ab,ah zp,e3]at hy;cases hy
    show gN bF A.there A3.there h3
  .rw[cb,d1,d2]at h;rw[h]at a4;cases a4
 .rw[Uq,XI]at h6;rw[ifp h6]at k;show b7.mono k mr
end
end
section
open HM (aj setT cE)
def LS.pop{X:RX}{E:List Uw}{L:List aj}(S:LS a H X I pl O E L op):LS a (aw H pl (.lst (E.dropLast.map V.ref))) X I pl O E.dropLast L.dropLast op:=by
 show(ae,(by rw[Wt,Wt,S.lines.1],λi x l D G=>?_),S.nd.sublist (Zm _),by rw[ah S.ne.symm];show S.opn,S.ne,S.ap,λl Z=>S.lok l ((Zm _).subset Z));rw[Zd]at D G;split at D
 .rename_i h;rw[ifp (by rw[<-S.lines.1];show h)]at G;let(d,e):=S.lines.2 i x l D G;show(d,by rw[ah (aV e S.lst (by intro z;cases z))];show e)
 .cases D
def kn(x y:Vp)(h:x≠y):decide (V.str x=V.str y)=UF:=decide_eq_false λz=>h (V.str.inj z)
def ke(x:Vp):decide (V.str x=V.str x)=UB:=decide_eq_true rfl
def Mu(I:List (List Nat))(l:aj):decide (V.str (a8 I l).1=V.str "else")=l.isEls:=by
 cases l
 .show kn "assign" "else" ()
 .show kn "read" "else" ()
 .show kn "write" "else" ()
 .show kn "new" "else" ()
 .show kn "free" "else" ()
 .show kn "if" "else" ()
 .show kn "while" "else" ()
 .show ke "else"
 .show kn "end" "else" ()
def Mt(I:List (List Nat))(l:aj):decide (V.str (a8 I l).1=V.str "while")=l.isWh:=by
 cases l
 .show kn "assign" "while" ()
 .show kn "read" "while" ()
 .show kn "write" "while" ()
 .show kn "new" "while" ()
 .show kn "free" "while" ()
 .show kn "if" "while" ()
 .show ke "while"
 .show kn "else" "while" ()
 .show kn "end" "while" ()
def Op(I:List (List Nat))(l:aj):decide (V.str (a8 I l).1=V.str "if")=l.isIf:=by
 cases l
 .show kn "assign" "if" ()
 .show kn "read" "if" ()
 .show kn "write" "if" ()
 .show kn "new" "if" ()
 .show kn "free" "if" ()
 .show ke "if"
 .show kn "while" "if" ()
 .show kn "else" "if" ()
 .show kn "end" "if" ()
def QR{L:List aj}{start t v:Nat}(h:start<↑L):setT (setT (L++[.fin 0]) start t) ↑L v=setT (L++[.fin v]) start t:=by
 apply acP;intro j;rw[i0,i0,i0];by_cases D:start=j
 .subst D;rw[ifp rfl,ifp rfl,ifn ⋯,UY h,UY h]
 .rw[ifn D,ifn D];by_cases h2:↑L=j
  .subst h2;rw[ifp rfl,UZ (UD _),UZ (UD _),Yt]
   rfl
  .rw[ifn h2];by_cases E:j<↑L
   .rw[UY E,UY E]
   .rw[UZ ⋯,UZ ⋯];cases e:j-↑L with
    |zero=>lia
    |succ n=>rfl
inductive Iw(a:Ad)(i:List V)(H:Hp)(Q:VK)(j:XK):Prop|mk(X:RX)(d:List (List Nat))(e g:Addr)(f:List Addr)(L:List aj)(h:List Nat)(c:Nat)(_:i=[.ref e,.int (c:Int)])(_:LS a H X d e g f L h)(_:L[c]?.any aj.up=true)(_:L.length<=6000)(_:∀H' ls',aM (fun b=>b=e\/b∈f) H H'->LS a H' X d e g ls' (cE L c) h->(∀x∈ls',x∈f\/H x=none)->Q .non H')
section
def sS(T:TX K U a):cf P w K U W cH 3 a.iz ["lines","start"] [] (Iw a):=by
 let GL:cf P w K U W cH 1 a.dB ["self","kind","first","detail","second"] [.str "",.str "",.str ""] (d6 a.aI):=eQ T 0 ();show T.vn.o2 ["lines","start","opener","end"] λvs H Q cl h=>?_
 let(X,I,pl,po,ls,L,op,start,rfl,O,a3,bl,k):=h;show(Y,λnd cm A' cq s0 hr=>?_);show(_,ac (aA (i:=2) nd rfl (UT rfl) (c9 cS (pv 0) (pv 1) (λ_ _=>rfl)))
  (ac (aJ (jP (au bP (ai (pv 2) rfl) (pg T.sy) (aB _)) (iM (au bP (pv 1) (bI L6 (aW aN (by rfl) T.cO U2 (aa (pv 0) af)) aF) (aB _)))).pt
   (ag (aE (wU UQ XD Yb Cm (pv 0)))) ay)
  (ac (aA (i:=3) nd rfl (UT rfl) (dS T.jA GL T.jG hr aq (aa (pg T.Ip) af)))
  (ac (aE (ej UQ U8 Va cn (pv 0) (aa (pv 3) af)))
  (ac (br (pv 2) (aW aN (by rfl) T.cO U2 (aa (pv 0) af)) rfl)
  (ag (br (pv 3) (gy (au bP (ai (pv 2) rfl) (pg T.vA) (aB _)) (pv 1) (aW aN (by rfl) T.cO U2 (aa (pv 0) af))) rfl)))))),?_)
 iterate 6 skip
 let bs:=nM a3;obtain⟨l,hl⟩:∃l,L[start]?=Up l:=(_,UC bs);let a1:l.up=UB:=by rw[hl]at a3;show a3
 obtain⟨y,hy⟩:∃y,ls[start]?=Up y:=(_,UC (by rw[O.lines.1];show bs));let(dy,ey):=O.lines.2 start y l hy hl;let ch:y∈ls:=U3 hy;show(_,Y,_,Y,pl,_,_,.ref y,Y,Y,bx.of O.lst,b5 (by rw[UM,hy];rfl),?_);show(_,Y,y,_,dy,_,_,Y,ey,T.ax,T.al,Y,Y,_,Y,?_);change if decide (V.str (a8 I l).1=V.str "else")=UB then _ else _
 rw[Mu];let rest:∀(H1:Hp)(G:List Uw)(D:List aj),LS a H1 X I pl po G D op->aM (λb=>b=pl\/b∈ls) H H1->(∀x∈G,x∈ls)->H1 y=Up (.ins a.aI dy (lf (a8 I l)))->↑D<=6000->
   (∀b,H1 b=UH->H b=UH)->
   ((G[start]?=Up y/\D[start]?=Up l/\cE L start=setT (D++[.fin (if l.isWh then start else ↑D+1)]) start (↑D+1))\/(y∉G/\cE L start=D++[.fin (if l.isWh then start else ↑D+1)]))->
   uG (Jw (qV a.aI (d6 a.aI) [.str "",.str "",.str ""] E0 (bG (tC (.str "end")) b8)) (mQ 3))
    (uG (nu (SA K "list" rl (bJ 0) (bG (bJ 3) b8)))
    (uG (Qh K (bJ 2) (OR (λxs H Q=>∃p ys,xs=[.ref p]/\(bx K H p ys\/gK K H p ys)/\Q (.int ↑ys) H) (bG (bJ 0) b8)) "target")
    (Qh K (bJ 3) (Sz (ud (F8 SD (Bo K (bJ 2) "kind") (tC (.str "while")))) (bJ 1) (OR (λxs H Q=>∃p ys,xs=[.ref p]/\(bx K H p ys\/gK K H p ys)/\Q (.int ↑ys) H) (bG (bJ 0) b8))) "target")))
    {nx:=λ_ H'=>Q .non H',rt:=Q} [Up (.ref pl),Up (.int (start:Int)),Up (.ref y),UH] H1:=by
  intro H1 G D S1 s1 sub a5 co b3 hc;show λe E he b0 ce=>(e,E,_,_,_,_,Y,ae,Y,?_)
  let cd:Mp (.str "end") (.str "") (.str "") (.str "")=lf (a8 I (.fin 0)):=by
   have:Mp (.str "end") (.str "") (.str "") (.str "")=lf (("end":Vp),[],[],[],0):=()
   show this
  rw[cd];let sm:fi H1 (aw (aw (aw H1 E (.own e)) e (.ins a.aI E [])) e (.ins a.aI E (lf (a8 I (.fin 0))))):=bK (C:=a.aI) he b0;let le:du a (aw (aw (aw H1 E (.own e)) e (.ins a.aI E [])) e (.ins a.aI E (lf (a8 I (.fin 0))))) e I (.fin 0):=(E,ae);let ee:(aw (aw (aw H1 E (.own e)) e (.ins a.aI E [])) e (.ins a.aI E (lf (a8 I (.fin 0))))) e=Up (.ins a.aI E (lf (a8 I (.fin 0)))):=ae;generalize aw (aw (aw H1 E (.own e)) e (.ins a.aI E [])) e (.ins a.aI E (lf (a8 I (.fin 0))))=H2 at sm le ee⊢;let S2:=S1.same sm;let en:e∉G:=λz=>by
   let(d,m,q):=S1.lineAt z;rw[he]at q;cases q
  let bt:y≠e:=ak a5 he;let S3:=S2.push le en trivial;show(_,Y,.inl (Y,_,bx.of S2.lst),_,Y,pl,_,_,Y,Y,S2.lst,by rw[Uq,S2.lines.1,Ux];lia,?_);rw[show G.map V.ref++[V.ref e]=(G++[e]).map V.ref by rw[Vj];rfl];let a6:=sm _ _ a5;let ab:(aw H2 pl (.lst ((G++[e]).map V.ref))) y=Up (.ins a.aI dy (lf (a8 I l))):=by rw[ah (aV a6 S2.lst (by intro z;cases z))];show a6
  let a4:(aw H2 pl (.lst ((G++[e]).map V.ref))) e=Up (.ins a.aI E (lf (a8 I (.fin 0)))):=by rw[ah (aV ee S2.lst (by intro z;cases z))];show ee
  let s3:aM (λb=>b=pl\/b∈ls) H (aw H2 pl (.lst ((G++[e]).map V.ref))):=s1.trans ((cY sm).trans λb o q Z=>by rw[ah (λz=>Z (.inl z))];show q);generalize aw H2 pl (.lst ((G++[e]).map V.ref))=H3 at S3 ab a4 s3⊢;let bm:((↑((G++[e]).map V.ref):Nat):Int)=((↑D+1:Nat):Int):=by rw[Uq,Us,S1.lines.1];rfl
  show(_,Y,pl,_,Y,.inl (bx.of S3.lst),_,Y,y,_,dy,_,Y,ab,T.ax,T.dJ,zk,?_);rw[bm,tq,<-jD (t:=↑D+1) (.inl a1)];let S4:∃L4,LS a (aw H3 y (.ins a.aI dy (lf (a8 I (l.withT (↑D+1)))))) X I pl po (G++[e]) L4 op/\L4[↑D]?=Up (.fin 0)/\∀v,v=(if l.isWh=UB then start else ↑D+1)->setT L4 ↑D v=cE L start:=by
   rcases hc with⟨c1,c2,c3⟩|⟨c1,c2⟩
   .let a2:start<↑D:=(UO.mp c2).1;show(_,S3.setT (i:=start) (t:=↑D+1) (d:=dy) (by rw[UY (by rw[S1.lines.1];show a2)];show c1) (by rw[UY a2];show c2) (.inl a1),?_,λv hv=>?_)
    .rw[i0,ifn ⋯,UZ (UD _),Yt];rfl
    .rw[QR a2,c3,hv]
   .show(D++[.fin 0],S3.frame (M:=(· =y)) (λb o q Z=>by rw[ah Z];show q) (λz=>?_) (λz=>?_) (λx hx z=>?_),?_,λv hv=>?_)
    .let q:=S3.lst;rw[z,ab]at q;cases q
    .let q:=S3.opn;rw[z,ab]at q;cases q
    .let z:x=y:=z;subst z;rcases VM.mp hx with q|q
     .show c1 q
     .show bt (Vh.mp q)
    .rw[UZ (UD _),Yt];rfl
    .rw[c2,<-hv];show HM.setT_at D [] (.fin 0) v
  let(L4,S4,bF,b2):=S4;let bd:(aw H3 y (.ins a.aI dy (lf (a8 I (l.withT (↑D+1)))))) y=Up (.ins a.aI dy (lf (a8 I (l.withT (↑D+1))))):=ae;let av:(aw H3 y (.ins a.aI dy (lf (a8 I (l.withT (↑D+1)))))) e=Up (.ins a.aI E (lf (a8 I (.fin 0)))):=by rw[ah bt.symm];show a4
  let s4:aM (λb=>b=pl\/b∈ls) H (aw H3 y (.ins a.aI dy (lf (a8 I (l.withT (↑D+1)))))):=s3.trans λb o q Z=>by rw[ah (λz=>Z (.inr (by rw[z];show ch)))];show q
  generalize aw H3 y (.ins a.aI dy (lf (a8 I (l.withT (↑D+1)))))=H4 at S4 bd av s4⊢;let b4:(a8 I (l.withT (↑D+1))).1=(a8 I l).1:=by rw[jD (.inl a1)]
  let bk:H e=UH:=b3 e he;let an:∀v:Nat,v=(if l.isWh=UB then start else ↑D+1)->Q .non (aw H4 e (.ins a.aI E (ck "target" (.int (v:Nat)) (lf (a8 I (.fin 0)))))):=λv hv=>by
   rw[tq,<-jD (t:=v) (l:=.fin 0) (.inr (0,Y))];let b1:(G++[e])[↑D]?=Up e:=by rw[UZ (by rw[S1.lines.1];show UD _),S1.lines.1,Yt];rfl
   let S5:=S4.setT (i:=↑D) (t:=v) (d:=E) b1 bF (.inr (0,Y));rw[b2 v hv]at S5;show k _ (G++[e]) (λb o q Z=>by rw[ah (λz=>by rw[z,bk]at q;cases q)];show s4 b o q Z) S5 λx hx=>?_
   rcases VM.mp hx with q|q
   .show .inl (sub x q)
   .rw[Vh.mp q];show .inr bk
  show(_,Y,y,_,dy,_,_,Y,bd,T.ax,T.al,Y,Y,_,Y,?_);change if decide (V.str (a8 I (l.withT (↑D+1))).1=V.str "while")=UB then _ else _
  rw[b4,Mt];cases ar:l.isWh with
  |true=>
   rw[ar,ifp rfl]at an;show bf (_,Y,_,Y,e,_,E,_,Y,av,T.ax,T.dJ,zk,an start rfl)
  |false=>
   rw[ar,ifn Ur]at an;show be (_,Y,pl,_,Y,.inl (bx.of S4.lst),_,Y,e,_,E,_,Y,av,T.ax,T.dJ,zk,?_);rw[bm];show an _ rfl
 cases ap:l.isEls with
 |false=>
  show be (be ?_);show rest H ls L O (λ_ _ e _=>e) (λ_ h=>h) ey bl (λ_ h=>h) (.inl (hy,hl,?_));unfold cE;simp only[hl,V4,ap,Xk,UA,if_false]
 |true=>
  show bf (_,Y,_,Y,pl,_,Y,.inl (bx.of O.lst),_,_,Y,Y,Y,_,Y,?_);rw[Uq,O.lines.1];let ar:l.isWh=UF:=by cases l<;>first|rfl|cases ap
  let hd:decide (V.int (start:Int)=V.int ((↑L:Int)-1))=(start+1==↑L):=by
   rw[V_,decide_eq_decide];show(λz=>by injection z with z;lia,λz=>by rw[<-z];simp)
  change if decide (V.int (start:Int)=V.int ((↑L:Int)-1))=UB then _ else _
  rw[hd];cases a0:(start+1==↑L)with
  |false=>
   show be ?_;show rest H ls L O (λ_ _ e _=>e) (λ_ h=>h) ey bl (λ_ h=>h) (.inl (hy,hl,?_));unfold cE;simp only[hl,V4,ap,a0,Xl,UA,if_false]
  |true=>
   let cc:start+1=↑L:=by simpa using a0
   let ce:ls≠[]:=λz=>by rw[z]at hy;cases hy
   show bf (_,Y,.inl (Y,_,bx.of O.lst),pl,_,.ref y,Y,Y,O.lst,?_,?_)
   .rw[Uq,O.lines.1,<-cc,X3,UM,hy];rfl
   .rw[<-List.map_dropLast];let S1:=O.pop;let dl:↑ls.dropLast=start:=by rw[Wt,O.lines.1];lia
    let dL:↑L.dropLast=start:=by rw[Wt];lia
    show rest _ ls.dropLast L.dropLast S1 (λb o e Z=>by rw[ah (λz=>Z (.inl z))];show e) (λx hx=>(Zm _).subset hx) (by rw[ah (aV ey O.lst (by intro z;cases z))];show ey) (by rw[dL];lia) (λb Z=>?_) (.inr (λz=>?_,?_))
    .by_cases q:b=pl
     .rw[q,ae]at Z;cases Z
     .rw[ah q]at Z;show Z
    .let(j,hj):=Xn.mp z;let cp:j<start:=by have:=(UO.mp hj).1;lia
     rw[Zd,ifp (by rw[O.lines.1];lia)]at hj;have:=OY O.nd hy hj;lia
    .unfold cE;simp only[hl,V4,ap,a0,ar,Zz,if_true,UA,if_false];have:=HM.setT_at L.dropLast [] (.fin (↑L.dropLast+1)) (↑L.dropLast+1);rw[dL]at this⊢;show this
end
end
section
open HM (aj setT)
open VasepBase (Toks isWord)
def At.lines{X:RX}(A:At a H X ts I)(S:LS a H X I pl O G L op)(s:aM (λb=>b=pl\/b∈G) H D):At a D X ts I:=by
 let(Z,n,e):=A.obj;let(n',_,R):=A.ex;show A.frame s (λz=>?_) (λz=>?_) (λz=>?_) (λx V t p f E z=>?_)
 .rcases z with z|z
  .let h:=S.lst;rw[<-z,e]at h;cases h
  .let(d,l,h):=S.lineAt z;rw[e]at h;injection h with h;injection h with _ _ h;show wN h
 .rcases z with z|z
  .show S.ap.1.1 z.symm
  .let(d,l,h):=S.lineAt z;let q:=R.toks;rw[h]at q;cases q
 .rcases z with z|z
  .show S.ap.1.2 z.symm
  .let(d,l,h):=S.lineAt z;let q:=A.nml;rw[h]at q;cases q
 .rcases z with z|z
  .let h:=S.lst;rw[<-z,E]at h;cases h
  .let(d,l,h):=S.lineAt z;rw[E]at h;injection h with h;injection h with _ _ h;show DZ h
section
def vN(L:List aj)(start:Nat)(op:List Nat)(ts:Vo):Except V1 HM.PS:=(Vk "{" (ts.drop 1)).map λq=>(q,setT (L++[.els 0]) start (↑L+1),↑L::op)
inductive Lr(K:PySem.W.Frag)(a:Ad)(i:List V)(H:Hp)(Q:VK)(E:XK):Prop|mk(X:RX)(f:Toks)(b:List (List Nat))(d e:Addr)(g:List Addr)(L:List aj)(h:List Nat)(c:Nat)(_:i=[.ref X.r,.ref d,.ref e,.int (c:Int)])(_:At a H X f b)(_:LS a H X b d e g L h)(_:iU L h)(_:L[c]?.any aj.up=true)(_:isWord "else" f=true)(_:L.length<=6000)(_:gq a X b (LM X d e g) H (vN L c h f) (fun st H'=> ∀ls',LS a H' X b d e ls' st.lines st.op->iU st.lines st.op->(∀x∈ls',x∈g\/H x=none)->Q .non H') E)
def nP(T:TX K U a):cf P w K U W (jL P w) 4 a.fN ["reader","lines","opened","start"] [] (Lr K a):=by
 let GW:=bH T;let GL:cf P w K U W cH 1 a.dB ["self","kind","first","detail","second"] [.str "",.str "",.str ""] (d6 a.aI):=eQ T 0 ();show T.pA.oX2 ["reader","lines","opened","start"] λvs H Q bs h=>?_
 let(X,ts,I,pl,po,D,L,op,start,rfl,A,S0,an,ar,a5,a6,k):=h;show(Y,λnd bt A' b1 s0 hr=>?_);let bl:Room 2 _:=hr.mono ();show(_,ac (aE (bg (pv 0) T.ao T.aG GW hr bw (aa (cg (aa aD af)) af)))
  (ac (aE (bg (pv 0) T.ao T.aG GW hr bw (aa (cg (aa aD af)) af)))
  (ac (aE (ej UQ U8 Va cn (pv 2) (aa (aW aN (by rfl) T.cO U2 (aa (pv 1) af)) af)))
  (ac (aE (ej UQ U8 Va cn (pv 1) (aa (dS T.jA GL T.jG bl aq (aa (pg T.sy) af)) af)))
  (ag (br (c9 cS (pv 1) (pv 3) (λ_ _=>rfl)) (aW aN (by rfl) T.cO U2 (aa (pv 1) af)) rfl))))),?_)
 iterate 5 skip
 let(dx,n,e):=A.obj;unfold vN at k;let mr:∀b,b=X.r->LM X pl po D b:=λb z=>.inl z
 show(_,Y,X.r,dx,_,Y,e,Y,zl,λp hp=>?_);dsimp only[b8,US,Ve];show iV (M:=(· =X.r)) "else" () () hp A rfl ?_;unfold Xs;rw[ifp a5];intro H1 s1 A1;let(a3,n1,o1):=A1.obj;show(_,Y,X.r,a3,_,Y,o1,Y,zl,λp hp=>?_);dsimp only[b8,US,Ve];show dj (M:=(· =X.r)) "{" () () hp A1 rfl (k_.mono (k.on (s1.mono mr)).mapT mr|>.imp λq3 H3 _ s2 A3 k=>?_);let S1:=S0.read A s1;let G:=S1.read A1 s2;let bm:=s1.trans s2;let b0:↑op<=6000:=Vm (Ja an.dec λi hi=>nM (an.opk i hi)) a6;show(_,Y,.inl (Y,_,bx.of G.opn),_,Y,pl,_,Y,.inl (bx.of G.lst),po,_,_,Y,Y,G.opn,by rw[Uq,XI,Ux];lia,?_);rw[Uq,G.lines.1];let S4:=G.pushOp (i:=↑L);let A4:At a _ X q3 I:=A3.list (o:=.lst (op.reverse.map (λn=>V.int (n:Nat))++[V.int (↑L:Nat)])) G.opn G.ap.2.1 G.ap.2.2;generalize ap:aw H3 po (.lst (op.reverse.map (λn=>V.int (n:Nat))++[V.int (↑L:Nat)]))=H4 at S4 A4⊢;let s4:aM (LM X pl po D) H3 H4:=λb o e hb=>by rw[<-ap,ah (λz=>hb (.inr (.inr (.inl z))))];show e
 show(_,Y,.inl (Y,_,bx.of S4.lst),λy E Z a4 bF=>(y,E,_,_,_,_,Y,ae,Y,?_));let bk:Mp (.str "else") (.str "") (.str "") (.str "")=lf (a8 I (.els 0)):=by
  have:Mp (.str "else") (.str "") (.str "") (.str "")=lf (("else":Vp),[],[],[],0):=()
  show this
 rw[bk];let sm:fi H4 (aw (aw (aw H4 E (.own y)) y (.ins a.aI E [])) y (.ins a.aI E (lf (a8 I (.els 0))))):=bK (C:=a.aI) Z a4;let O:=S4.same sm;let A5:=A4.same sm;let ly:du a (aw (aw (aw H4 E (.own y)) y (.ins a.aI E [])) y (.ins a.aI E (lf (a8 I (.els 0))))) y I (.els 0):=(E,ae);generalize aw (aw (aw H4 E (.own y)) y (.ins a.aI E [])) y (.ins a.aI E (lf (a8 I (.els 0))))=H5 at sm O A5 ly⊢;let yn:y∉D:=λz=>by
  let(d,m,e):=S4.lineAt z;rw[Z]at e;cases e
 let S6:=O.push ly yn trivial;let A6:At a _ X q3 I:=A5.list (o:=.lst ((D++[y]).map V.ref)) O.lst O.ap.1.1 O.ap.1.2;show(pl,_,_,Y,Y,O.lst,by rw[Uq,O.lines.1,Ux];lia,?_);rw[show D.map V.ref++[V.ref y]=(D++[y]).map V.ref by rw[Vj];rfl];let a2:aM (LM X pl po D) H3 (aw H5 pl (.lst ((D++[y]).map V.ref))):=s4.trans ((cY sm).trans λb o e hb=>by rw[ah (λz=>hb (.inr (.inl z)))];show e);generalize aw H5 pl (.lst ((D++[y]).map V.ref))=H6 at S6 A6 a2⊢;let ab:=nM ar;obtain⟨l,hl⟩:∃l,L[start]?=Up l:=(_,UC ab);let a1:l.up=UB:=by rw[hl]at ar;show ar
 obtain⟨z,hz⟩:∃z,D[start]?=Up z:=(_,UC (by rw[S0.lines.1];show ab));let av:(D++[y])[start]?=Up z:=by rw[UY (by rw[S0.lines.1];show ab)];show hz
 let a0:(L++[aj.els 0])[start]?=Up l:=by rw[UY ab];show hl
 let(dz,ez):=S6.lines.2 start z l av a0;let bd:((↑((D++[y]).map V.ref):Nat):Int)=((↑L+1:Nat):Int):=by rw[Uq,Us,S0.lines.1];rfl
 show(_,Y,pl,_,Y,.inl (bx.of S6.lst),_,Y,_,Y,pl,_,_,.ref z,Y,Y,bx.of S6.lst,b5 (by rw[UM,av];rfl),z,_,dz,_,Y,ez,T.ax,T.dJ,zk,?_);rw[bd,tq,<-jD (t:=↑L+1) (.inl a1)];let S7:=S6.setT (i:=start) (t:=↑L+1) (d:=dz) av a0 (.inl a1);let A7:At a _ X q3 I:=A6.line (o:=.ins a.aI dz (lf (a8 I (l.withT (↑L+1))))) ez;show k _ (a2.trans λb o e hb=>by rw[ah (λq=>hb (.inr (.inr (.inr (by rw[q];show U3 hz)))))];show e) A7 (D++[y]) S7 ((an.opened rfl).setT) λx hx=>?_
 rcases VM.mp hx with q|q
 .show .inl q
 .rw[Vh]at q;subst q;show .inr ?_;let h3:H3 x=none:=by
   cases e3:H3 x with
   |none=>rfl
   |some o=>
    by_cases zp:x=po
    .rw[<-ap,zp,ae]at Z;cases Z
    .rw[<-ap,ah zp,e3]at Z;cases Z
  show gN bm A.there A3.there h3
end
end
end HX
namespace L2
open PySem PySem.Spec PyProof.Rows
def xT{K:UN}:∀l:List Int,yx K H (l.map V.int) (l.map WM)
 |[]=>.nil
 |_::r=>.cons (.int _) (xT r)
def fG{K:UN}{l:List Int}(h:bx K H p (l.map V.int)):Dp K H (.ref p) (.list (l.map WM)):=.lst h (xT l)
def jq{K:UN}{H:Hp}(h:H p=Up (.lst [])):Dp K H (.ref p) (.list []):=.lst (bx.of h) .nil
def uB:∀xs ys:List Int,aev (xs.map WM) (ys.map WM)=decide (xs=ys)
 |[],[]=>rfl
 |[],_::_=>rfl
 |_::_,[]=>rfl
 |x::xs,y::ys=>by
  change(x==y&&aev (xs.map WM) (ys.map WM))=_;rw[uB xs ys,Vv];simp
def FE(xs ys:List Int):aaa (.list (xs.map WM)) (.list (ys.map WM))=decide (xs=ys):=uB xs ys
def C9(D:List PyData):aaa (.list D) (.list [])=D.isEmpty:=by cases D<;>rfl
def eF(l:List Int):SeqAt.shaped (.list (l.map WM))=UB:=PySem.W.shaped_ints l
section
variable {X:Cx}
inductive DG (K:PySem.W.Frag) (H:Hp) (kb:List (bT×V)):List (bT×V)->Bool->Prop
 |nil:DG K H kb [] true
 |miss {k:bT} {v:V} {r:List (bT×V)}:cI kb k=none->DG K H kb ((k,v)::r) false
 |hit {k:bT} {v y:V} {d e:PyData} {r:List (bT×V)} {b:Bool}:cI kb k=some y->Dp K H v d->Dp K H y e->SeqAt.shaped d=true->SeqAt.shaped e=true->DG K H kb r b->DG K H kb ((k,v)::r) (PyData.eqv d e&&b)
def DG.at_(W:aZ X O D H s)(Z:KV kb vb)(hu:X.A.units+65<Zh):∀{I:List (bT×V)}{G:List (bT×Uv)}{r:Bool},DG X.K H kb I r->KV I G->PySem.W.KeqHits X.A.in1 s vb G r:=by
 intro I G r h
 induction h generalizing G with
 |nil=>intro E;cases E;show .nil
 |miss hn=>
  intro E;cases E with
  |@cons _ q _ _ z t=>
   let(U,qv):=q;let(e,_):=z;let e:_=U:=e;subst e;show .miss (h_.none_of (by rw[<-hn];show Z.val _))
 |hit hy hd he sd se _ ih=>
  intro E;cases E with
  |@cons _ q _ _ z t=>
   let(U,qv):=q;let(e,rv):=z;let e:_=U:=e;subst e;let(w',hw,ab):=h_.some_of (by rw[<-hy];show Z.val _);let(as,r1):=Dp.reads W _ _ _ hd rv;let(bs,r2):=Dp.reads W _ _ _ he ab;show .hit hw (PySem.W.keq_at r1 r2 sd se (by change X.A.units+1+64<Zh;lia)) (ih t)
inductive NT(K:PySem.W.Frag)(x y:V)(H:Hp)(Q:VK):Prop|mk(a b c d r:_)(_:x=.ref a)(_:y=.ref b)(_:H a=some (.dK c))(_:H b=some (.dK d))(_:c.length=d.length->DG K H d c r)(_:Q (.bl (c.length==d.length&&r)) H)
def sM(hu:X.A.units+65<Zh):pX X (V0 .Eq) (NT X.K):=by
 intro O s D H x y v u Q E rx ry h;let(a,b,ka,kb,r,rfl,rfl,W,Z,hh,q):=h;cases rx;cases ry;let(_,sa,va,G,U):=pW E.hok W;let(_,sb,vb,I,V):=pW E.hok Z;show PySem.W.keq_eq sa sb U V (r:=r) ⋯ (λe=>(hh (by rw[↑G,↑I];show e)).at_ E I hu G) ?_;rw[<-↑G,<-↑I];show(.bl _,H,E,Y,q)
end
end L2
namespace HX
open PySem PySem.Spec PyProof.Rows L2
section
open HM (aj cE fu iI cG)
open VasepBase (isWord)
def HR{start:Nat}(o:iU L (start::op)):iU (cE L start) op:=by
 let(G,I):=Vg.mp o.dec;show(λi E=>?_,I);let D:=o.opk i (UR _ E);let h2:i<start:=G i E;let O:=nM (o.opk start UU);unfold cE;dsimp only;rw[Eh];split
 .rw[UY (by rw[Wt];lia),Zd,ifp ⋯];show D
 .rw[UY ⋯];show D
def Tq(_:List (List Nat))(st:HM.PS):Except V1 HM.PS:=match st.op with
 |i::op=>fu st.lines i op (st.ts.drop 1)
 |[]=>.error (0,0)
def EC(op:List Nat):(op.reverse.map λn=>V.int (n:Nat))=(op.reverse.map λn=>((n:Nat):Int)).map V.int:=by rw[VA];rfl
def Hk(h:Wj "free" ts=UB):HM.mPlain I ts=E3 I ts:=by
 unfold HM.mPlain E3 Xs;rw[ifp h,ifp h];change WG (Wp _ (Yd I (ts.drop 1))) _=WG (Yd I (ts.drop 1)) _;cases Yd I (ts.drop 1)<;>rfl
def B5(h:Wj "free" ts=UF):HM.mPlain I ts=rL I ts:=by
 unfold HM.mPlain rL;rw[h,ifn Ur]
section
def w8(T:TX K U a):cf P w K U W (jL P w) 5 a.j6 ["reader","lines","opened"] [] (JI K a (λts op=>VD "}" ts=UB/\op≠[]) Tq):=by
 let GW:=bH T;let GS:=oY T;let G2:=nP T;let GE:=sS T;show T.zS.oX2 ["reader","lines","opened","start"] λvs H Q ap h=>?_
 let(X,ts,I,pl,D,E,L,op,rfl,A,S0,an,N,(bk,bl),b0,k):=h;show(Y,λnd bF A' b1 s0 hr=>?_);let a4:Room 3 _:=hr.mono ();let bm:Room 2 _:=hr.mono ();show(_,ac (aE (bg (pv 0) T.ao T.aG GW a4 bw (aa (cg (aa aD af)) af)))
  (ac (aA (i:=3) nd rfl (UT rfl) (wU UQ XD Yb Cm (pv 2)))
  (ag (aJ (jP (au bP (ai (c9 cS (pv 1) (pv 3) (λ_ _=>rfl)) rfl) (pg T.Nf) (aB _)) (iM (cB (bg (pv 0) T.ao T.cw GS bm aq (aa aD af))))).pt
   (ag (aE (aX G2 T.pz hr bw (aa (pv 0) (aa (pv 1) (aa (pv 2) (aa (pv 3) af)))))))
   (ag (aE (aX GE T.vg a4 aq (aa (pv 1) (aa (pv 3) af)))))))),?_)
 iterate 3 skip
 cases op with
 |nil=>show absurd rfl bl
 |cons start op=>
  let(dx,n,e):=A.obj;let k:gq a X I (LM X pl D E) H (fu L start op (ts.drop 1)) _ ap:=k;let mr:∀b,b=X.r->LM X pl D E b:=λb z=>.inl z
  show(_,Y,X.r,dx,_,Y,e,Y,zl,λp hp=>?_);dsimp only[b8,US,Ve];show dj (M:=(· =X.r)) "}" () () hp A rfl ?_;unfold Vk;rw[ifp bk];intro H1 s1 A1;let S1:=S0.read A s1;let bs:((start::op).reverse.map λn=>V.int (n:Nat))=(op.reverse.map λn=>V.int (n:Nat))++[V.int (start:Nat)]:=by rw[aaq,Vj];rfl
  let a0:=S1.opn;rw[bs]at a0;show(_,Y,.inl (Y,_,bx.of a0),D,_,V.int (start:Nat),Y,Y,a0,?_,?_)
  .rw[Us,VF,X3,UZ (UD _),Yt];rfl
  .rw[abL];let S2:=S1.popOp;let O:At a _ X (ts.drop 1) I:=A1.list (o:=.lst (op.reverse.map λn=>V.int (n:Nat))) S1.opn S1.ap.2.1 S1.ap.2.2;let s2:aM (LM X pl D E) H1 (aw H1 D (.lst (op.reverse.map λn=>V.int (n:Nat)))):=λb o e G=>by rw[ah (λz=>G (.inr (.inr (.inl z))))];show e
   let ar:∀b,(aw H1 D (.lst (op.reverse.map λn=>V.int (n:Nat)))) b=UH->H b=UH:=λb G=>by
    show gN s1 A.there A1.there ?_;by_cases z:b=D
    .rw[z,ae]at G;cases G
    .rw[ah z]at G;show G
   generalize aw H1 D (.lst (op.reverse.map λn=>V.int (n:Nat)))=H2 at S2 O s2 ar⊢;let a1:=an.opk start UU;let a5:=nM a1;obtain⟨l,hl⟩:∃l,L[start]?=Up l:=(_,UC a5);obtain⟨z,hz⟩:∃z,E[start]?=Up z:=(_,UC (by rw[S0.lines.1];show a5));let(dz,ez):=S2.lines.2 start z l hz hl;let(bd,n2,o2):=O.obj;let a6:=(s1.mono mr).trans s2;let hL:↑L<=6000:=⋯
   show(_,Y,_,Y,pl,_,_,.ref z,Y,Y,bx.of S2.lst,b5 (by rw[UM,hz];rfl),z,_,dz,_,_,Y,ez,T.ax,T.al,Y,Y,_,Y,?_);change if decide (V.str (a8 I l).1=V.str "if")=UB then _ else _
   rw[Op];unfold fu at k;rw[hl]at k;let k:gq a X I (LM X pl D E) H (if(l.isIf&&Wj "else" (ts.drop 1))=UB then vN L start op (ts.drop 1)else .ok (ts.drop 1,cE L start,op)) _ ap:=k;let a2:gq a X I (LM X pl D E) H (.ok (ts.drop 1,cE L start,op)) (λst Z=>∀ab,LS a Z X I pl D ab st.lines st.op->iU st.lines st.op->(∀x∈ab,x∈E\/H x=UH)->Q .non Z) ap->
     nu (mD (Iw a) [] E0 (bG (bJ 1) (bG (bJ 3) b8))) {nx:=λ_ Z=>Q .non Z,rt:=Q} [Up (.ref X.r),Up (.ref pl),Up (.ref D),Up (.int (start:Int))] H2:=λk=>by
    show(_,Y,_,Y,X,I,pl,D,E,L,op,start,Y,S2,a1,hL,λH3 ab s3 S3 fr=>?_);let bt:aM (LM X pl D E) H2 H3:=s3.mono λb G=>G.elim (λz=>.inr (.inl z)) (λz=>.inr (.inr (.inr z)))
    show k H3 (a6.trans bt) (O.lines S2 s3) ab S3 (HR an) λx hx=>(fr x hx).elim .inl λq=>.inr (ar x q)
   cases a3:l.isIf with
   |false=>
    rw[a3,Xk,ifn Ur]at k;show be (be (a2 k))
   |true=>
    rw[a3,aaF]at k;show bf (_,Y,X.r,bd,_,Y,o2,Y,X,ts.drop 1,I,_,Uz "else",_,Y,(),O,b6 O.wf "else" (),_,Y,?_);cases av:Wj "else" (ts.drop 1)with
    |false=>
     rw[av,ifn Ur]at k;show be (a2 k)
    |true=>
     rw[av,ifp rfl]at k;show bf (_,Y,_,Y,_,Y,_,Y,X,ts.drop 1,I,pl,D,E,L,op,start,Y,O,S2,an.pop,a1,av,hL,?_);let k2:=k.on a6;cases hm:vN L start op (ts.drop 1)with
     |error g=>rw[hm]at k2;show k2
     |ok st=>
      rw[hm]at k2;show λZ s A ab S an fr=>k2 Z s A ab S an λx hx=>(fr x hx).elim .inl λq=>.inr (ar x q)
def Ca(T:TX K U a):cf P w K U W (jL P w) 8 a.oy ["reader","lines","opened"] [] (JI K a (λ_ _=>True) cG):=by
 let GS:=oY T;let GC:=w8 T;let GO:=zh T;let GF:=Cb T;let GH:=wZ T;show T.FT.oX2 ["reader","lines","opened"] λvs H Q ab h=>?_
 let(X,ts,I,pl,po,G,L,op,rfl,A,S0,an,N,_,av,k):=h;show(Y,λnd a6 A' bd s0 hr=>?_);let a2:Room 5 _:=hr.mono ();let ar:Room 2 _:=hr.mono ();let a3:Room 7 _:=hr;show(_,ag (aJ (jP (cB (bg (pv 0) T.ao T.cw GS ar aq (aa aD af))) (iM (au (jQ hr.units) (pv 2) (aS af) (aB _)))).pt
   (ag (aE (aX GC T.zH a2 bw (aa (pv 0) (aa (pv 1) (aa (pv 2) af))))))
  (ag (aJ (wO (cB (bg (pv 0) T.ao T.cw GS ar aq (aa aD af))) (sJ (cB (bg (pv 0) T.ao T.cw GS ar aq (aa aD af))))).pt
   (ag (aE (aX GO T.CZ a3 bw (aa (pv 0) (aa (pv 1) (aa (pv 2) af))))))
  (ag (aJ (cB (bg (pv 0) T.ao T.cw GS ar aq (aa aD af)))
   (ag (aE (ej UQ U8 Va cn (pv 1) (aa (aX GF T.Fy a2 bw (aa (pv 0) af)) af))))
   (ag (aE (ej UQ U8 Va cn (pv 1) (aa (aX GH T.zG a3 bw (aa (pv 0) af)) af))))))))),?_)
 let(dx,n,e):=A.obj;let mr:∀b,b=X.r->LM X pl po G b:=λb z=>.inl z
 let plain:∀(l:aj)(q:Vo)(O:Hp)(v:V),aM (· =X.r) H O->At a O X q I->y8 a I l v H O->gq a X I (LM X pl po G) O (.ok (q,L++[l],op)) (λst D=>∀Z,LS a D X I pl po Z st.lines st.op->iU st.lines st.op->(∀x∈Z,x∈G\/H x=UH)->Q .non D) ab->
   rl (.ref pl) [v] O (λ_ D=>Q .non D):=λl q O v E A1 ((y,hv,hy,hl),lo) k=>by
  subst hv;let S1:=S0.read A E;let yn:y∉G:=λz=>by
   let(d,m,e):=S0.lineAt z;rw[hy]at e;cases e
  let S2:=S1.push hl yn lo;let A2:At a _ X q I:=A1.list (o:=.lst ((G++[y]).map V.ref)) S1.lst S1.ap.1.1 S1.ap.1.2;show(pl,_,_,Y,Y,S1.lst,by rw[Uq,S1.lines.1,Ux];lia,?_);rw[show G.map V.ref++[V.ref y]=(G++[y]).map V.ref by rw[Vj];rfl];show k _ (λb o e hb=>by rw[ah (λz=>hb (.inr (.inl z)))];show e) A2 (G++[y]) S2 an.push λx hx=>?_
  rcases VM.mp hx with z|z
  .show .inl z
  .rw[Vh.mp z];show .inr hy
 let rest:∀O,fi H O->gq a X I (LM X pl po G) H (if(isWord "if" ts||isWord "while" ts)=true then iI I (ts,L,op)else(HM.mPlain I ts).map λl=>(l.2,L++[l.1],op)) (λst D=>∀Z,LS a D X I pl po Z st.lines st.op->iU st.lines st.op->(∀x∈Z,x∈G\/H x=UH)->Q .non D) ab->
   Jv (T4 (tB (iZ a.aQ "sees" (vC a) [] E0 (bJ 0) (bG (tC (.str "if")) b8))) (tB (iZ a.aQ "sees" (vC a) [] E0 (bJ 0) (bG (tC (.str "while")) b8))))
    (nu (mD (JI K a (λts _=>(isWord "if" ts||isWord "while" ts)=true) iI) [] ab (bG (bJ 0) (bG (bJ 1) (bG (bJ 2) b8)))))
    (Jv (tB (iZ a.aQ "sees" (vC a) [] E0 (bJ 0) (bG (tC (.str "free")) b8)))
     (nu (SA K "list" rl (bJ 1) (bG (mD (wq a E3 (y8 a)) [] ab (bG (bJ 0) b8)) b8)))
     (nu (SA K "list" rl (bJ 1) (bG (mD (λvs H Q ab=>Sj λX ts I=>Sw (vs=[.ref X.r]) (At a H X ts I) (bj I) (fT a X I (· =X.r) H (rL I ts) (λb _ D=>∀v,y8 a I b v H D->Q v D) ab)) [] ab (bG (bJ 0) b8)) b8))))
    {nx:=λ_ D=>Q .non D,rt:=Q} [Up (.ref X.r),Up (.ref pl),Up (.ref po)] O:=λO E k=>by
  let A1:=A.same E;let S1:=S0.same E;let e1:=E _ _ e;let fr:∀x,O x=UH->H x=UH:=λx hx=>E.free hx
  let a5:(isWord "if" ts||isWord "while" ts)=true->nu (mD (JI K a (λts _=>(isWord "if" ts||isWord "while" ts)=true) iI) [] ab (bG (bJ 0) (bG (bJ 1) (bG (bJ 2) b8)))) {nx:=λ_ D=>Q .non D,rt:=Q} [Up (.ref X.r),Up (.ref pl),Up (.ref po)] O:=λho=>by
   rw[ifp ho]at k;show(_,Y,_,Y,_,Y,X,ts,I,pl,po,G,L,op,Y,A1,S1,an,N,ho,av,?_);let k2:=k.on (cY E);cases hm:iI I (ts,L,op)with
   |error g=>rw[hm]at k2;show k2
   |ok st=>
    rw[hm]at k2;show λD s A Z S an f=>k2 D s A Z S an λx hx=>(f x hx).elim .inl λq=>.inr (fr x q)
  show(_,Y,X.r,dx,_,Y,e1,Y,X,ts,I,_,Uz "if",_,Y,(),A1,b6 A1.wf "if" (),_,Y,?_);cases a1:isWord "if" ts with
  |true=>show bf (bf (a5 (by rw[a1];rfl)))
  |false=>
   show be (_,Y,X.r,dx,_,Y,e1,Y,X,ts,I,_,Uz "while",_,Y,(),A1,b6 A1.wf "while" (),_,Y,?_);cases a4:isWord "while" ts with
   |true=>show bf (a5 (by rw[a4,acS]))
   |false=>
    rw[a1,a4,aba,ifn Ur]at k;show be (_,Y,X.r,dx,_,Y,e1,Y,X,ts,I,_,Uz "free",_,Y,(),A1,b6 A1.wf "free" (),_,Y,?_);let up:∀{l:aj}{v:V}{H2:Hp},y8 a I l v O H2->y8 a I l v H H2:=λ((y,h1,h2,h3),h4)=>((y,h1,fr y h2,h3),h4)
    cases a0:isWord "free" ts with
    |true=>
     rw[Hk a0]at k;show bf (_,Y,.inl (Y,_,bx.of S1.lst),_,Y,X,ts,I,Y,A1,fT.mono (k.on (cY E)).map mr|>.imp λl q H2 _ s2 A2 k v hv=>?_);show plain l q H2 v ((cY E).trans s2) A2 (up hv) k
    |false=>
     rw[B5 a0]at k;show be (_,Y,.inl (Y,_,bx.of S1.lst),_,Y,X,ts,I,Y,A1,N,fT.mono (k.on (cY E)).map mr|>.imp λl q H2 _ s2 A2 k v hv=>?_);show plain l q H2 v ((cY E).trans s2) A2 (up hv) k
 show(_,Y,X.r,dx,_,Y,e,Y,X,ts,I,_,Uz "}",_,Y,(),A,eM A.wf "}" (),_,Y,?_);unfold cG at k;cases ap:VD "}" ts with
 |false=>
  simp only[ap]at k;show be (be (rest H (λ_ _ e=>e) k))
 |true=>
  show bf (_,Y,zl,λp hp=>?_);let E:fi H (aw H p (.lst [])):=fo hp;let h1:=E _ _ S0.opn;rw[EC]at h1;show(_,_,fG (bx.of h1),jq ae,eF _,Y,_,Y,?_);rw[C9];cases op with
  |nil=>
   simp only[ap]at k;show be (rest _ E k)
  |cons i op=>
   simp only[ap]at k;let e2:(!(Zb WM ((i::op).reverse.map λn=>((n:Nat):Int))).isEmpty)=true:=by simp
   rw[e2];show bf (_,Y,_,Y,_,Y,X,ts,I,pl,po,G,L,i::op,Y,A.same E,S0.same E,an,N,(ap,by simp),av,?_);let k2:gq a X I (LM X pl po G) (aw H p (.lst [])) (Tq I (ts,L,i::op)) (λst D=>∀Z,LS a D X I pl po Z st.lines st.op->iU st.lines st.op->(∀x∈Z,x∈G\/H x=UH)->Q .non D) ab:=gq.on k (cY E);cases hm:Tq I (ts,L,i::op)with
   |error g=>rw[hm]at k2;show k2
   |ok st=>
    rw[hm]at k2;show λD s A Z S an f=>k2 D s A Z S an λx hx=>(f x hx).elim .inl λq=>.inr (E.free q)
end
end
section
open HM (eZ)
open VasepBase (Tok wantWord readName readNames ascii)
def Mb{ts r:Vo}{p:Nat}{w:List Nat}(h:readName ts=.ok ((p,w),r)):VH.contains w=UF:=by
 unfold Z4 at h;split at h
 .split at h
  .cases h
  .rename_i q;cases h;show aau.mpr q
 .cases h
def Ma{I:List (List Nat)}{ts:Vo}(W:eZ ts):(∃p,readName ts=.ok ((p,(az ts).text),ts.drop 1)/\HM.wordOk (az ts).text/\J_ I ts=if I.contains (az ts).text then .error (6,p)else .ok (az ts).text)\/∃g,readName ts=.error g/\J_ I ts=.error g:=by
 cases W with
 |over p=>show .inr (_,Y,Y)
 |bad p k h=>show .inr (_,Y,Y)
 |@cons t q g _=>
  let(p,t):=t;cases t with
  |word v=>
   let G:HM.wordOk v:=g;obtain⟨d,u,rfl,D⟩:HM.wordOk v:=g;unfold J_ Z4;cases E:VH.contains (d::u)with
   |true=>
    show .inr ((3,p),by simp only[E,if_true],?_);rw[ifn (show¬gC (az ((p,abx (d::u))::q)).text=UB from by
     change¬(Vu d&&!VH.contains (d::u))=UB;rw[D,E];show Ur)]
    rfl
   |false=>
    show .inl (p,?_,G,?_)
    .simp only[E,UA,if_false];rfl
    .rw[ifp (show gC (az ((p,abx (d::u))::q)).text=UB from by
      change(Vu d&&!VH.contains (d::u))=UB;rw[D,E];rfl)]
     rfl
  |zero=>show .inr ((3,p),Y,Y)
  |sign s=>
   let(d,u,rfl,D,_):=oX (s:=s) g;show .inr ((3,p),Y,?_);unfold J_;rw[ifn (show¬gC (az ((p,Tok.sign (d::u))::q)).text=UB from by
    change¬(Vu d&&!VH.contains (d::u))=UB;rw[D];show Ur)]
   rfl
  |over=>show g.elim
  |bad k=>show g.elim
inductive Rq(a:Ad)(d:List V)(H:Hp)(Q:VK)(E:XK):Prop|mk(X c b:_)(_:d=[.ref X.r])(_:At a H X c b)(_:∀p,readName c=.ok ((p,(az c).text),c.drop 1)->HM.wordOk (az c).text->b.contains (az c).text=false-> ∀H',aM (· =X.r) H H'->At a H' X (c.drop 1) b->Q (.str (S (az c).text)) H')(_:∀p,readName c=.ok ((p,(az c).text),c.drop 1)->b.contains (az c).text=true->b7 a H (· =X.r) (6,p) E)(_:∀g,readName c=.error g->b7 a H (· =X.r) g E)
def At.push{X:RX}(A:At a H X ts I)(G:X.pn≠X.pt)(t:List Nat):At a (aw H X.pn (.lst ((I++[t]).map λx=>V.str (S x)))) X ts (I++[t]):=by
 let(n,e,R):=A.ex;let(E,o):=R.obj;show((n,e,(E,by rw[ah (aV o R.names (by intro z;cases z))];show o),by rw[ah G.symm];show R.toks,(R.list.1,λi x t O Z=>?_),ae,R.wf,R.small),A.fine);let(D,z):=R.list.2 i x t O Z;show(D,by rw[ah (aV z R.names (by intro z;cases z))];show z)
section
def Qw(T:TX K U a):cf P w K U W (jL P w) 4 a.dw ["self"] [] (Rq a):=by
 show(kN T).imp λvs H Q ab (X,ts,I,e,A,k1,k2,k3)=>?_
 subst e;let(n,rfl,R):=A.ex;show(X.r,X.pt,X.pn,X.as,X.all,n,I,Y,R,A.hz,λt G=>?_,λg E=>?_)
 .rcases Ma (I:=I) R.wf with⟨p,O,V,Z⟩|⟨g,O,V⟩
  .rw[Z]at G;cases D:I.contains (az (X.all.drop n)).text with
   |true=>rw[D,ifp rfl]at G;cases G
   |false=>
    rw[D,ifn Ur]at G;cases G;show λH' s R'=>k1 p O V D H' s ((n+1,by rw[V6],R'),A.fine)
  .rw[V]at G;cases G
 .rcases Ma (I:=I) R.wf with⟨p,O,V,Z⟩|⟨g',O,V⟩
  .rw[Z]at E;cases D:I.contains (az (X.all.drop n)).text with
   |true=>rw[D,ifp rfl]at E;cases E;show k2 p O D
   |false=>rw[D,ifn Ur]at E;cases E
  .rw[V]at E;cases E;show k3 g O
def NM(X:RX)(b:Uw):Prop:=b=X.r\/b=X.pn
inductive NC(a:Ad)(c:List V)(H:Hp)(Q:VK)(E:XK):Prop|mk(X b:_)(_:c=[.ref X.r])(_:At a H X b [])(_:X.pn≠X.pt)(_:∀names q,((wantWord "vars" b).bind fun v=>readNames VasepBase.NAMES [] v)=.ok (names,q)-> ∀H',aM (NM X) H H'->At a H' X q names->bj names->Q .non H')(_:∀g,((wantWord "vars" b).bind fun v=>readNames VasepBase.NAMES [] v)=.error g->b7 a H (NM X) g E)
def zf(T:TX K U a):cf P w K U W (jL P w) 5 a.lY ["reader"] [] (NC a):=by
 let GR:=vJ T;let GN:=Qw T;let GW:=bH T;show T.Dl.oX2 ["reader","sign"] λvs H Q av h=>?_
 let(X,ts,rfl,A,a1,k1,k2):=h;show(Y,λnd a3 A' a5 s0 hr=>?_);let ap:Room 3 _:=hr.mono ();show(_,ac (aE (bg (pv 0) T.ao T.aG GW ap bw (aa (cg (aa aD af)) af)))
  (ac (aA (i:=1) nd rfl (UT rfl) aD)
  (ag (dF N5 (au bP (pv 1) aD (aB _))
   (ac (aE (bg (pv 0) T.ao T.eU GR ap bw (aa (ai (pv 0) rfl) (aa (pg T.Bj) af))))
   (ac (aE (ej UQ U8 Va cn (ai (pv 0) rfl) (aa (bu (pv 0) T.ao T.lK GN hr bw) af)))
   (ag (aA (i:=1) nd rfl (UT rfl) (bg (pv 0) T.ao T.aG GW ap bw (aa (cg (aa aD (aa aD af))) af))))))))),?_)
 iterate 3 skip
 let(dx,n,e):=A.obj;let O:∀b,b=X.r->NM X b:=λb z=>.inl z
 show(_,Y,X.r,dx,_,Y,e,Y,zl,λp μ=>?_);dsimp only[b8,US,Ve];show iV (M:=(· =X.r)) "vars" () () μ A rfl ?_;unfold k_;cases hv:Xs "vars" ts with
 |error g=>show b7.mono (k2 g (by rw[hv];rfl)) O
 |ok v=>
  rw[hv]at k1 k2;let k1:∀I q,X7 6 [] v=.ok (I,q)->∀G,aM (NM X) H G->At a G X q I->bj I->Q .non G:=k1;let k2:∀g,X7 6 [] v=.error g->b7 a H (NM X) g av:=k2;intro H1 s1 A1;generalize hR:X7 6 [] v=R0 at k1 k2;show(λar D G=>aM (NM X) H G/\((∃l q,D=[Up (.ref X.r),Up (.str (S (ascii ",")))]/\ar=1+(6-↑l)/\At a G X q l/\bj l/\X7 (6-↑l) l q=R0)\/
    (∃l q,D=[Up (.ref X.r),Up (.str (S (ascii ";")))]/\ar=0/\At a G X q l/\bj l/\R0=.ok (l,q))),
   (_,s1.mono O,.inl ([],v,?_,Y,A1,(abJ,by simp,by simp,by simp,by simp),hR)),?_)
  .rw[show S (ascii ",")=(",":Vp) by decide+kernel];rfl
  .rintro ar D G ⟨s2,h⟩;rcases h with⟨l,q,rfl,rfl,Z,N,E⟩|⟨l,q,rfl,rfl,Z,N,E⟩
   .show(_,Y,Y,_,Y,?_);rw[show decide (V.str (S (ascii ","))=V.str ",")=true by decide+kernel];show bf (_,λσ' G h=>h,?_);let(ab,n2,o2):=Z.obj;show(_,Y,X.r,ab,_,Y,o2,Y,_,Y,X.r,_,ab,_,_,Y,o2,T.ao,T.dQ,Y,X,q,l,X.pn,_,6,Y,Z,bx.of Z.nml,λh6=>?_,λh6=>?_)
    .rw[Uq]at h6;let a4:↑l<6:=by have:=N.few;lia
     let hk:6-↑l=(5-↑l)+1:=Nat.succ_sub (by lia)
     rw[hk]at E;unfold X7 at E;show(_,Y,X.r,_,ab,_,_,Y,o2,T.ao,T.dQ,Y,.inl (Y,_,bx.of Z.nml),_,Y,X.r,ab,_,Y,o2,Y,X,q,l,Y,Z,λp μ hw hc H3 s3 A3=>?_,λp μ hc=>?_,λg hg=>?_)
     .rw[μ]at E;let E:(if l.contains (az q).text=true then Z0 (6,p)else if VD "," (q.drop 1)=true then X7 (5-↑l) (l++[(az q).text]) ((q.drop 1).drop 1)else(Vk ";" (q.drop 1)).map λr=>(l++[(az q).text],r))=R0:=E;rw[hc,ifn Ur]at E;show(X.pn,_,_,Y,Y,A3.nml,by rw[Uq,Ux];lia,?_);rw[show(l.map λx=>V.str (S x))++[V.str (S (az q).text)]=(l++[(az q).text]).map λx=>V.str (S x) by rw[Vj];rfl];let A4:=A3.push a1 (az q).text;let N4:bj (l++[(az q).text]):=by
       show(?_,λx hx=>(VM.mp hx).elim (N.wd x) λz=>?_,?_,λx hx=>(VM.mp hx).elim (N.short x) λz=>?_,λx hx=>(VM.mp hx).elim (N.res x) λz=>?_)
       .rw[aar];show(N.nd,by simp,λy hy z hz e=>?_);rw[Vh]at hz;subst hz;subst e;rw[UV.mpr hy]at hc;cases hc
       .rw[Vh.mp z];show hw
       .rw[Us,VF];lia
       .rw[Vh.mp z];show Z.short
       .rw[Vh.mp z];show Mb μ
      let s4:aM (NM X) H (aw H3 X.pn (.lst ((l++[(az q).text]).map λx=>V.str (S x)))):=s2.trans ((s3.mono O).trans λb o e hb=>by rw[ah (λz=>hb (.inr z))];show e);generalize aw H3 X.pn (.lst ((l++[(az q).text]).map λx=>V.str (S x)))=H4 at A4 s4⊢;let(a0,n4,o4):=A4.obj;show(_,Y,X.r,a0,_,Y,o4,Y,zl,λp4 a2=>?_);let d1:=eM A4.wf "," ();let d2:=eM A4.wf ";" ();dsimp only[b8,US,Ve];show jv (M:=(· =X.r)) [ascii ",",ascii ";"] ?_ a2 A4 () rfl (λh H5 s5 A5=>?_) (λh=>?_)
      .decide+kernel
      .rw[cb,d1,d2]at h;cases an:VD "," (q.drop 1)with
       |true=>
        rw[ifp an]at E;show(1+(6-↑(l++[(az q).text])),by rw[Us,VF];lia,s4.trans (s5.mono O),.inl (_,_,by rw[of_decide_eq_true (d1.trans an)];rfl,Y,A5,N4,?_));rw[Us,VF,show 6-(↑l+1)=5-↑l from Nat.succ_sub_succ 5 _];show E
       |false=>
        rw[an,Wm]at h;rw[an,ifn Ur]at E;unfold Vk at E;rw[ifp h]at E;show(0,⋯,s4.trans (s5.mono O),.inr (_,_,by rw[of_decide_eq_true (d2.trans h)];rfl,Y,A5,N4,E.symm))
      .rw[cb,d1,d2,Wc]at h;unfold Vk at E;rw[h.1,h.2,ifn Ur,ifn Ur]at E;show((k2 _ E.symm).on s4).mono O
     .rw[μ]at E;let E:(if l.contains (az q).text=true then Z0 (6,p)else _)=R0:=E;rw[hc,ifp rfl]at E;show((k2 _ E.symm).on s2).mono O
     .rw[hg]at E;show((k2 _ E.symm).on s2).mono O
    .rw[Uq]at h6;rw[h6]at E;show((k2 _ E.symm).on s2).mono O
   .show(_,Y,Y,_,Y,?_);rw[show decide (V.str (S (ascii ";"))=V.str ",")=UF by decide+kernel];show be (k1 l q E G s2 Z N)
end
end
section
open HM (aL)
open VasepBase (cellAt)
def bz.keep{H D:Hp}{Z:List (bT×V)}(c:bz H Z h)(k:∀b xs,H b=Up (.tup xs)->D b=Up (.tup xs)):bz D Z h:=
 (c.keys,λx I=>let(t,E,G):=c.vals x I;(t,E,k _ _ G))
def NL{H:Hp}(R:b9 a H r A I L s)(e:H b=Up o)(V:∀D O,o≠.ins a.cy D O)(h2:∀Z,o≠.dK Z)(h3:∀xs,o≠.lst xs):¬ge r A b:=by
 let(D,pw,E,_):=R.obj;let(Z,G,_):=R.store.cel;rintro(z|z|z|z)
 .rw[z,E]at e;show V _ _ (UI e).symm
 .rw[z,R.store.num]at e;show h2 _ (UI e).symm
 .rw[z,G]at e;show h2 _ (UI e).symm
 .rw[z,R.tch]at e;show h3 _ (UI e).symm
def kT{H:Hp}(R:b9 a H r A I L s)(e:H x=Up (.ins a.aI E (lf q))):¬ge r A x:=by
 let(dr,pw,G,_):=R.obj;let(Z,O,_):=R.store.cel;rintro(z|z|z|z)
 .rw[z,G]at e;have:=UI e;injection this with _ _ D;unfold gL lf at D;injection D with V _;injection V with q4 _;show absurd q4 ()
 .rw[z,R.store.num]at e;cases e
 .rw[z,O]at e;cases e
 .rw[z,R.tch]at e;cases e
def b9.go{H E:Hp}{A:RA}{s s':MR}(R:b9 a H r A I L s)(sx:aM (ge r A) H E)(a1:Q8 λO G=>Sw (E r=Up (.ins a.cy O (gL A G s'))) (E G=Up (.lst (vZ s'.wrong))) (G≠A.pt) (G≠A.pl))(a0:E A.pn=Up (.dK (dH I s'.store.vals)))(ab:∃Z,E A.pc=Up (.dK Z)/\bz E Z s'.store.heap)(ok:jJ I s'.store)(a2:E A.pt=Up (.lst (eO s'.touched)))(an:↑s'.touched<=s'.steps+1)(av:s'.steps<=300):b9 a E r A I L s':=by
 let(ds,D):=R.store.obj;let ap:¬ge r A A.pl:=by
  let(dr,G,V,_):=R.obj;let(Z,e3,_):=R.store.cel;rintro(z|z|z|z)
  .have:=R.lst;rw[z,V]at this;cases this
  .have:=R.lst;rw[z,R.store.num]at this;cases this
  .have:=R.lst;rw[z,e3]at this;cases this
  .show R.pt_pl z.symm
 let ar:¬ge r A A.st:=by
  let(dr,G,V,_):=R.obj;let(Z,e3,_):=R.store.cel;rintro(z|z|z|z)
  .rw[z,V]at D;have:=UI D;injection this with _ _ q';unfold gL at q';injection q' with q3 _;injection q3 with q4 _;show absurd q4 ()
  .rw[z,R.store.num]at D;cases D
  .rw[z,e3]at D;cases D
  .rw[z,R.tch]at D;cases D
 show(a1,sx _ _ R.lst ap,(R.lines.1,λi x l h1 h2=>let(O,e):=R.lines.2 i x l h1 h2;(O,sx _ _ e (kT R e))),((ds,sx _ _ D ar),a0,ab,ok),a2,R.nm,R.lok,an,av,R.pt_pl,R.pn_pc)
def kz{H D:Hp}(R:b9 a H r A I L s)(E:aM (ge r A) H D):∀b xs,H b=Up (.tup xs)->D b=Up (.tup xs):=
 λb xs e=>E b _ e (NL R e (λ_ _ z=>by cases z) (λ_ z=>by cases z) (λ_ z=>by cases z))
def fe{Z:List (bT×V)}(c:bz H Z h)(O:aL h)(x:Nat):(cI Z (UW (x:Int))).isSome=(U7 h x).isSome:=by
 cases e:U7 h x with
 |some d=>
  let(m,D):=HM.cellAt_some e;let(t,E,_):=c.vals d m;rw[D]at E;rw[E];rfl
 |none=>
  cases G:cI Z (UW (x:Int))with
  |none=>rfl
  |some v=>
   exfalso;let m:=c.keys.mem_iff.mp (Nb G);let(d,I,D):=U6.mp m;have:d.at_=x:=by have:=ZE D;lia
   rw[<-this,HM.cellAt_mem O I]at e;cases e
section
def wM(A:RA)(E D:Uw)(s:MR)(o:Option (Nat×Nat)):ck "wrong" (.ref D) (gL A E s)=gL A D {s with wrong:=o}:=by
 unfold gL;rw[ck,ifn (),ck,ifn (),ck,ifn (),ck,ifn (),ck,ifn (),ck,ifp rfl]
inductive Nz(a:Ad)(d:List V)(H:Hp)(Q:VK)(e:XK):Prop|mk(r A b L s c x:_)(_:d=[.ref r,.int (c:Nat),.int (x:Nat)])(_:b9 a H r A b L s)(_:s.touched.length<=s.steps)(_:(cellAt s.store.heap x).isSome=true-> ∀H',aM (ge r A) H H'->b9 a H' r A b L {s with touched:=s.touched++[(c,x)]}->Q (.bl true) H')(_:(cellAt s.store.heap x).isSome=false-> ∀H',aM (ge r A) H H'->b9 a H' r A b L {s with touched:=s.touched++[(c,x)],wrong:=some (c+1,x)}->Q (.bl false) H')
def uc(l:List (Nat×Nat))(D x:Nat):eO (l++[(D,x)])=eO l++[.int (D:Nat),.int (x:Nat)]:=by
 unfold eO;rw[ab1]
 rfl
def wk(l:List (Nat×Nat)):↑(eO l)=2*↑l:=by
 unfold eO
 induction l with
 |nil=>rfl
 |cons p l D=>rw[XA,Us,D,Ut];simp;lia
def lH(T:TX K U a):cf P w K U W cH 1 a.oF ["self","how","address"] [] (Nz a):=by
 show T.FZ.o2 ["self","how","address"] λvs H Q bk h=>?_
 let(r,A,I,L,s,D,x,rfl,R,bm,k1,k2):=h;show(Y,λnd bl A' bs s0 hr=>?_);let hu:=fw hr;show(_,ac (aE (ej UQ VZ Wl sZ (ai (pv 0) rfl) (aa (aS (aa (pv 1) (aa (pv 2) af))) af)))
  (ac (aJ (nI (B8 hu (pv 2) (ai (ai (pv 0) rfl) rfl))) (ag (am II)) ay)
  (ac (br (pv 0) (aS (aa (pg T.qS) (aa (bI lD (pv 1) aF) (aa (pv 2) af)))) rfl)
  (ag (am II)))),?_)
 iterate 4 skip
 let(G,pw,e1,ew,n1,n2):=R.obj;let(ds,e2):=R.store.obj;let(Z,e3,hc):=R.store.cel;show(_,Y,r,_,G,_,_,Y,e1,T.aH,T.fq,Y,.inl (Y,_,bx.of R.tch),_,Y,_,Y,zl,λp V=>?_);let a3:A.pt≠p:=ak R.tch V;let nr:r≠p:=ak e1 V;let a5:r≠A.pt:=aV e1 R.tch (by intro z;cases z);let a6:A.st≠p:=ak e2 V;let bd:A.st≠A.pt:=aV e2 R.tch (by intro z;cases z);let av:A.pc≠p:=ak e3 V;let a0:A.pc≠A.pt:=aV e3 R.tch (by intro z;cases z);let a1:A.pn≠p:=ak R.store.num V;let a2:A.pn≠A.pt:=aV R.store.num R.tch (by intro z;cases z);let a4:pw≠p:=ak ew V;show(A.pt,p,_,_,Y,Y,by rw[ah a3];show R.tch,ae,?_,?_)
 .rw[wk,Ux];have:=R.most;simp only[Ut,Vr];lia
 let sx:aM (ge r A) H (aw (aw H p (.lst [.int (D:Nat),.int (x:Nat)])) A.pt (.lst (eO s.touched++[.int (D:Nat),.int (x:Nat)]))):=λb o e hb=>by
  rw[ah (λz=>hb (.inr (.inr (.inr z)))),ah (ak e V)];show e
 generalize ab:aw (aw H p (.lst [.int (D:Nat),.int (x:Nat)])) A.pt (.lst (eO s.touched++[.int (D:Nat),.int (x:Nat)]))=E at sx⊢;let O:E r=Up (.ins a.cy G (gL A pw s)):=by rw[<-ab,ah a5,ah nr];show e1
 let f2:E A.st=Up (.ins a.cV ds [("numbers",.ref A.pn),("cells",.ref A.pc)]):=by rw[<-ab,ah bd,ah a6];show e2
 let f3:E A.pc=Up (.dK Z):=by rw[<-ab,ah a0,ah av];show e3
 let f4:E A.pn=Up (.dK (dH I s.store.vals)):=by rw[<-ab,ah a2,ah a1];show R.store.num
 let f5:E pw=Up (.lst (vZ s.wrong)):=by rw[<-ab,ah n1,ah a4];show ew
 let f6:E A.pt=Up (.lst (eO (s.touched++[(D,x)]))):=by rw[<-ab,ae,uc]
 let ap:=hc.keep (kz R sx);let R2:b9 a E r A I L {s with touched:=s.touched++[(D,x)]}:=
  R.go sx (G,pw,O,f5,n1,n2) f4 (Z,f3,ap) R.store.ok f6 (by rw[Us];simp;lia) R.most
 show(_,Y,_,Y,r,_,G,_,_,Y,O,T.aH,T.bc,Y,A.st,_,ds,_,_,Y,f2,T.aY,T.a_,Y,A.pc,_,Y,fP.k (k:=UW (x:Int)) f3,_,Y,?_);rw[fe hc R.store.ok.up];cases ar:(U7 s.store.heap x).isSome with
 |true=>show bf (k1 ar E sx R2)
 |false=>
  show be (_,Y,_,_,Y,Y,_,Y,zl,λq hq=>?_);let m1:r≠q:=ak O hq;show(_,Y,r,_,G,_,Y,by rw[ah m1];show O,T.aH,T.eR,by change 6<1000;decide,?_);rw[wM A pw q s (Up (D+1,x))];let an:aM (ge r A) E (aw (aw E q (.lst [.int 1,.int ((D:Int)+1),.int (x:Nat)])) r (.ins a.cy G (gL A q {s with wrong:=Up (D+1,x)}))):=λb o e hb=>by
   rw[ah (λz=>hb (.inl z)),ah (ak e hq)];show e
  show k2 ar _ (λb o e hb=>an b o (sx b o e hb) hb) ?_;let g3:A.pc≠r:=aV f3 O (by intro z;cases z);let g4:A.pn≠r:=aV f4 O (by intro z;cases z);let g6:A.pt≠r:=aV f6 O (by intro z;cases z);let gl:A.pl≠q:=ak R2.lst hq;show R2.go an (G,q,ae,?_,(ak f6 hq).symm,gl.symm) ?_ (Z,?_,ap.keep (kz R2 an)) R.store.ok ?_ (by rw[Us];simp;lia) R.most
  .rw[ah m1.symm,ae];change _=Up (HO.lst [.int 1,.int ((D+1:Nat):Int),.int (x:Nat)]);rw[show((D+1:Nat):Int)=(D:Int)+1 by lia]
  .rw[ah g4,ah (ak f4 hq)];show f4
  .rw[ah g3,ah (ak f3 hq)];show f3
  .rw[ah g6,ah (ak f6 hq)];show f6
end
end
def yF(l:Uw)(o:W2)(D E:Uv)(n:Nat)(x:Uv)(e:Uv->Bool)(j:Nat)(Z:o.data=.seq #[D,E] n)(hj:(j=0/\e D=UB)\/(j=1/\e D=UF/\e E=UB)):
  Meets (Builtin.«tuple.index» ([.ref l,x],[]))
   (λA R s=>s.heap.get? l=Up o/\(∀y,y∈#[D,E]->adJ A.in1 s y x (e y))/\R (.ok (.ret (.int j s.toks))) {s with toks:=s.toks+1}):=by
 intro prog w A R s h;let(ho,O,h):=h;unfold Builtin.«tuple.index»
 wp_walk using wpAny_tupleItemsOf ho Z
 change wpAny (U_ prog w) A.in1 (forIn (m:=Sem) ([:2]:Std.Legacy.Range) ((UH,⟨⟩):Option PySem.Fin×Unit) (λ(i:Nat)ab=>
      match #[D,E][i]? with
      |some y=>do
       let G<-eqBool y x
       if G=UB then do
         let G<-retInt (i:Nat)
         pure (ForInStep.done (Up G,⟨⟩))
        else pure (X5 (UH,⟨⟩))
      |x=>pure (X5 (UH,⟨⟩)))) _ _ s
 rw[aby];simp only[afM,Nat.sub_zero,Nat.add_sub_cancel,Nat.div_one];rw[show List.range' 0 2 1=[0,1]from rfl,abj];show UL ?_;change wpAny _ _ (eqBool D x>>=_) _ _ s;show UL (O D (by simp) prog w _ _ ?_);rcases hj with⟨rfl,I⟩|⟨rfl,I,V⟩
 .rw[I]
  wp_walk
  show h
 .rw[I];simp only[UA,if_false];show wpAny_pure ?_;change wpAny _ _ (forIn [1] _ _) _ _ s;rw[abj];show UL ?_;change wpAny _ _ (eqBool E x>>=_) _ _ s;show UL (O E (by simp) prog w _ _ ?_);rw[V]
  wp_walk
  show h
inductive NR(K:PySem.W.Frag)(x:V)(d:List V)(H:Hp)(Q:VK):Prop|mk(a:Addr)(b c y:V)(j:Nat)(_:x=V.ref a)(_:d=[y])(_:gK K H a [b,c])(_:kX y=true)(_:kX b=true)(_:kX c=true)(_:(j=0/\IZ b y=true)\/(j=1/\IZ b y=false/\IZ c y=true))(_:Q (.int (j:Nat)) H)
set_option tactic.hygienic true in
def Au{X:Cx}:OL X "tuple.index" (NR X.K):=by
 intro O s D H x xs v us Q E rx a0 h;let(a,y0,y1,y,j,rfl,rfl,hs,fy,G,I,hj,q):=h;cases rx;cases a0 with
 |cons ry rt=>
  rename_i uy ut;cases rt;let(a2,Z,(o,V,hc,n,hd),a1):=E.tuple hs;let ab:[y0,y1].all kX=UB:=by simp [G,I]
  let ap:=Z;cases Z with
  |cons r0 ar=>
   cases ar with
   |cons r1 av=>
    cases av;rename_i u0 u1;show call_meets YE (_,V,hc) PySem.F.entry_tuple_index (PySem.F.args_tuple_index_2 _ _)
     (yF a o u0 u1 n uy (F9 y) j hd ?_) (V,λu' an=>kS ry fy ap ab u' (by simpa using an),?_)
    .rw[C_ r0 G,C_ r1 I];show hj
    .show(.int (j:Nat),H,E.tok _,(_,Y),q)
section
open HM (aj)
open VasepBase (Field setVar fieldOf without)
def um(s:MR):aj->MR
 |.set x e=>{s with store:=setVar s.store x (Vf s.store e)}
 |.read x y f=>match U7 s.store.heap (Vf s.store (.var y))with
  |some c=>{s with touched:=s.touched++[(0,Vf s.store (.var y))],store:=setVar s.store x (fieldOf f c)}
  |none=>{s with touched:=s.touched++[(0,Vf s.store (.var y))],wrong:=Up (1,Vf s.store (.var y))}
 |.write x f e=>match U7 s.store.heap (Vf s.store (.var x))with
  |some c=>{s with touched:=s.touched++[(1,Vf s.store (.var x))],store:={s.store with heap:=Wf (WU f (Vf s.store e) c) s.store.heap}}
  |none=>{s with touched:=s.touched++[(1,Vf s.store (.var x))],wrong:=Up (2,Vf s.store (.var x))}
 |.free x=>match U7 s.store.heap (Vf s.store (.var x))with
  |some _=>{s with touched:=s.touched++[(2,Vf s.store (.var x))],store:={s.store with heap:=without s.store.heap (Vf s.store (.var x))}}
  |none=>{s with touched:=s.touched++[(2,Vf s.store (.var x))],wrong:=Up (3,Vf s.store (.var x))}
 |.new x=>match Yi s.store.heap with
  |some a=>{s with touched:=s.touched++[(3,a)],store:={vals:=s.store.vals.set x a,heap:=Wf {at_:=a,next:=0,data:=0} s.store.heap}}
  |none=>{s with wrong:=Up (4,0)}
 |.ifl c t=>if WH s.store c then s else{s with at_:=t}
 |.whl c t=>if WH s.store c then s else{s with at_:=t}
 |_=>s
def v8{st:YN}(ok:jJ I st)(e:WT):Vf st e<=99:=by
 cases e with
 |nil=>show VN _
 |var k=>
  change st.vals.getD k 0<=99;rw[Vy];cases h:st.vals[k]? with
  |none=>show VN _
  |some v=>show ok.big v (U3 h)
def jJ.set{st:YN}(ok:jJ I st)(E:v<=99):jJ I (setVar st x v):=by
 show(?_,λu D=>?_,ok.up,ok.bd)
 .change↑(st.vals.set x v)=_;rw[abi];show ok.len
 .rcases List.mem_or_eq_of_mem_set D with h|h
  .show ok.big u h
  .rw[h];show E
def b9.setNum{A:RA}{I:List (List Nat)}{s:MR}(R:b9 a H r A I L s)(hx:x<↑I)(hv:v<=99):
  so H A.pn (.str (S (Vn I x))) (.int (v:Nat)) (aw H A.pn (.dK (dH I (s.store.vals.set x v))))/\aM (ge r A) H (aw H A.pn (.dK (dH I (s.store.vals.set x v))))/\
  b9 a (aw H A.pn (.dK (dH I (s.store.vals.set x v)))) r A I L {s with store:=setVar s.store x v}:=by
 let(dx,pw,E,G,n1,n2):=R.obj;let(Z,e3,hc):=R.store.cel;let D:aM (ge r A) H (aw H A.pn (.dK (dH I (s.store.vals.set x v)))):=λb o e hb=>by rw[ah (λz=>hb (.inr (.inl z)))];show e
 show(?_,D,R.go D (dx,pw,?_,?_,n1,n2) ae (Z,?_,hc.keep (kz R D)) (R.store.ok.set hv) ?_ R.few R.most)
 .let O:=so.k (k:=WV (S (Vn I x))) (v:=V.int (v:Nat)) R.store.num (by
   have:=rD I s.store.vals;have:=R.nm.few;rw[Ux];lia)
  rw[L_ R.nm.nd (kP hx) R.store.ok.len]at O;show O
 .rw[ah (aV E R.store.num (by intro z;cases z))];show E
 .rw[ah (aV G R.store.num (by intro z;cases z))];show G
 .rw[ah R.pn_pc.symm];show e3
 .rw[ah (aV R.tch R.store.num (by intro z;cases z))];show R.tch
section
inductive sA(a:Ad)(c:aj->Prop)(d:List V)(H:Hp)(Q:VK)(e:XK):Prop|mk(r A b L s x l:_)(_:d=[.ref r,.ref x])(_:b9 a H r A b L s)(_:du a H x b l)(_:c l)(_:fM b.length l)(_:s.touched.length<=s.steps)(_:∀H',aM (ge r A) H H'->b9 a H' r A b L (um s l)->Q .non H')
def QF:aj->Prop:=λl=>∃x y f,l=.read x y f
def du.keep(R:b9 a H r A I L s)(G:aM (ge r A) H D)(h:du a H x I l):du a D x I l:=
 let(E,e):=h;(E,G _ _ e (kT R e))
def AK(f:Field):((if f=.next then 0 else 1)=0/\IZ (V.str "next") (.str (S (iq f)))=UB)\/((if f=.next then 0 else 1)=1/\IZ (V.str "next") (.str (S (iq f)))=UF/\IZ (V.str "data") (.str (S (iq f)))=UB):=by
 cases f
 .show .inl (Y,())
 .show .inr (Y,(),())
def rB(T:TX K U a):cf P w K U W cH 2 a.hJ ["self","line"] [] (sA a QF):=by
 let GV:=dG T;let GT:=lH T;show T.tW.o2 ["self","line","address","cell"] λvs H Q a5 h=>?_
 let(r,A,I,L,s,lx,l,rfl,R,hl,(x,y,f,rfl),a4,a3,k):=h;show(Y,λnd a6 A' bd s0 hr=>?_);let hu:=fw hr;let a0:Room 1 _:=hr.mono ();show(_,ac (aA (i:=2) nd rfl (UT rfl) (bg (ai (pv 0) rfl) T.aY T.cC GV a0 aq (aa (ai (pv 1) rfl) af)))
  (ag (aJ (cB (bg (pv 0) T.aH T.n6 GT a0 aq (aa (pg T.Bh) (aa (pv 2) af))))
   (ac (aA (i:=3) nd rfl (UT rfl) (iO hu (ai (ai (pv 0) rfl) rfl) (pv 2) (λ_ _=>rfl)))
   (ag (gx hu (ai (ai (pv 0) rfl) rfl) (ai (pv 1) rfl) (c9 lO (pv 3) (ej aaB YE aay Au (pg T.ni) (aa (ai (pv 1) rfl) af)) (λ_ _=>rfl)) rfl))) ay)),?_)
 iterate 2 skip
 let(dx,pw,e1,_):=R.obj;let(dl,O):=hl;let(ds,e2):=R.store.obj;obtain⟨hx,hy⟩:x<↑I/\y<↑I:=a4;show(_,Y,r,_,dx,_,_,Y,e1,T.aH,T.bc,Y,A.st,ds,_,Y,e2,Y,_,Y,lx,_,dl,_,_,Y,O,T.ax,T.cv,Y,A.st,A.pn,A.pc,I,s.store,.var y,Y,R.store,R.nm,hy,?_);show(_,Y,r,dx,_,Y,e1,Y,_,Y,r,A,I,L,s,0,Vf s.store (.var y),Y,R,a3,λE H1 G D=>?_,λE H1 G D=>?_)
 .let(c,ar):=WS.mp E;let hm:um s (.read x y f)={s with touched:=s.touched++[(0,Vf s.store (.var y))],store:=setVar s.store x (fieldOf f c)}:=by
   change(match U7 s.store.heap (Vf s.store (.var y))with|some c=>_|none=>_)=_;rw[ar]
  rw[hm]at k;let(an,bk,f1,_):=D.obj;let(ab,f2):=D.store.obj;let(Z,f3,a2):=D.store.cel;let(av,a1):=HM.cellAt_some ar;let(t,v1,v2):=a2.vals c av;rw[a1]at v1;let hd:=fP.k (k:=UW ((Vf s.store (.var y):Nat):Int)) f3;rw[v1]at hd;let ap:=G _ _ O (kT R O);let V:=R.store.ok.bd c av;let hv:fieldOf f c<=99:=by cases f<;>simp only[fieldOf]<;>lia
  let(g1,g2,g3):=D.setNum (v:=fieldOf f c) hx hv;show(_,Y,bf (_,Y,r,_,an,_,_,Y,f1,T.aH,T.bc,Y,A.st,_,ab,_,_,Y,f2,T.aY,T.a_,Y,_,Y,A.pc,_,Y,hd,?_));show(_,Y,.inr (.inl (Y,T.Ai)),_,Y,lx,_,dl,_,_,Y,ap,T.ax,T.c_,Y,_,_,_,_,_,Y,Y,T.oV _,Y,Y,Y,AK f,t,_,_,.int (fieldOf f c:Nat),Y,Y,gK.of v2,by cases f<;>rfl,?_);show(_,Y,r,_,an,_,_,Y,f1,T.aH,T.bc,Y,A.st,_,ab,_,_,Y,f2,T.aY,T.bD,Y,_,Y,lx,_,dl,_,_,Y,ap,T.ax,T.bO,Y,A.pn,_,Y,g1,?_);show k _ (λb o e V=>g2 b o (G b o e V) V) g3
 .let hn:U7 s.store.heap (Vf s.store (.var y))=UH:=by
   cases e:U7 s.store.heap (Vf s.store (.var y))with
   |none=>rfl
   |some c=>rw[e]at E;cases E
  let hm:um s (.read x y f)={s with touched:=s.touched++[(0,Vf s.store (.var y))],wrong:=Up (1,Vf s.store (.var y))}:=by
   change(match U7 s.store.heap (Vf s.store (.var y))with|some c=>_|none=>_)=_;rw[hn]
  rw[hm]at k;show(_,Y,be (k H1 G D))
end
end
section
open HM (aj aL)
open VasepBase (Field without)
def IC{c d:ZC}:∀{h:Uu},aL h->U7 h c.at_=Up d->(Wf c h).map (·.at_)=h.map (·.at_)
 |[],_,e=>by cases e
 |x::h,r,e=>by
  let(D,E):=Vg.mp r;rw[HM.cellAt_cons]at e;simp only[Wf];by_cases q:x.at_=c.at_
  .rw[ifn ⋯,ifp q.symm,UJ,UJ,q]
  .rw[ifn q]at e;have:=D d (HM.cellAt_some e).1;have:=(HM.cellAt_some e).2;rw[ifn ⋯,ifn (WX q),UJ,UJ,IC E e]
def ID{c:ZC}:∀{h:Uu},U7 h c.at_=UH->(Wf c h).Perm (c::h)
 |[],_=>adZ _
 |x::h,e=>by
  rw[HM.cellAt_cons]at e;let q:x.at_≠c.at_:=λq=>by rw[ifp q]at e;cases e
  rw[ifn q]at e;simp only[Wf];by_cases l:c.at_<x.at_
  .rw[ifp l]
  .rw[ifn l,ifn (WX q)];show((ID e).cons x).trans (List.Perm.swap c x h)
def NU{c:ZC}(r:aL h):U7 (Wf c h) c.at_=Up c:=by rw[HM.put_at r,ifp rfl]
def Km{Z:List (bT×V)}(h:cI Z k=Up v):(em Z k D).map (·.1)=Z.map (·.1):=by
 unfold em;rw[ig,h];simp only[YL,if_true,VA];show WD λp _=>?_
 change(if p.1=k then(p.1,D)else p).1=p.1;by_cases q:p.1=k
 .rw[ifp q]
 .rw[ifn q]
def bz.put{H:Hp}{Z:List (bT×V)}(C:bz H Z h)(D:aL h){c:ZC}(ht:H t=Up (.tup [.int (c.next:Nat),.int (c.data:Nat)])):
  bz H (em Z (UW (c.at_:Int)) (.ref t)) (Wf c h):=by
 show(?_,λd I=>?_)
 .cases e:U7 h c.at_ with
  |some d=>
   let(m,O):=HM.cellAt_some e;let(u,E,_):=C.vals d m;rw[O]at E;rw[Km E];let q:(Wf c h).map (λc=>(UW (c.at_:Int):bT))=h.map λc=>(UW (c.at_:Int):bT):=by
    have:=congrArg (Zb λn:Nat=>(UW (n:Int):bT)) (IC D e);rw[VA,VA]at this;show this
   rw[q];show C.keys
  |none=>
   let hn:cI Z (UW (c.at_:Int))=UH:=by
    have:=fe C D c.at_;rw[e]at this;cases z:cI Z (UW (c.at_:Int))with
    |none=>rfl
    |some v=>rw[z]at this;cases this
   rw[wQ _ hn,Vj];show List.Perm.trans ?_ (((ID e).map _).symm);rw[UJ];show(C.keys.append_right _).trans (abu)
 .by_cases q:d.at_=c.at_
  .let G:=HM.cellAt_mem (HM.put_rising (c:=c) D) I;rw[q,NU D]at G;cases G;show(t,by rw[qQ,ifp rfl],ht)
  .let m:d∈h:=by
    rcases HM.put_mem I with z|z
    .show absurd (by rw[z]) q
    .show z
   let(u,E,v2):=C.vals d m;show(u,by rw[qQ,ifn (λz=>q (by have:=ZE z;lia))];show E,v2)
def su[DecidableEq D](k j:D):∀Z:List (D×V),cI (fL Z k) j=if j=k then UH else cI Z j
 |[]=>by simp [fL,cI]
 |p::r=>by
  by_cases q:p.1=k
  .rw[Kz q,su k j r];by_cases z:j=k
   .rw[ifp z,ifp z]
   .rw[ifn z,ifn z,cr (λy=>z (by rw[<-y,q]))]
  .rw[KA q];by_cases z:p.1=j
   .rw[cX z,cX z,ifn (λy=>q (by rw[z,y]))]
   .rw[cr z,cr z,su k j r]
def bz.drop{Z:List (bT×V)}(C:bz H Z h)(x:Nat):bz H (fL Z (UW (x:Int))) (without h x):=by
 show(?_,λd D=>?_)
 .let E:(fL Z (UW (x:Int))).map (·.1)=(Z.map (·.1)).filter λk=>decide (k≠UW (x:Int)):=by
   unfold fL;rw[adn];rfl
  let G:(without h x).map (λc=>(UW (c.at_:Int):bT))=(h.map λc=>(UW (c.at_:Int):bT)).filter λk=>decide (k≠UW (x:Int)):=by
   unfold Xx;rw[adn]
   congr 1
   show Ze λc _=>?_
   change(c.at_ !=x)=decide ((UW (c.at_:Int):bT)≠UW (x:Int));by_cases q:c.at_=x
   .rw[q];simp
   .have:(UW (c.at_:Int):bT)≠UW (x:Int):=λz=>q (by have:=ZE z;lia)
    rw[decide_eq_true this];simpa using q
  rw[E,G];show C.keys.filter _
 .unfold Xx at D;let(m,I):=V5.mp D;let(u,O,v2):=C.vals d m;show(u,?_,v2);rw[su,ifn (λz=>by have:=ZE z;simp at I;lia)];show O
def b9.ext{H D:Hp}(R:b9 a H r A I L s)(h:∀b o,H b=Up o->D b=Up o):b9 a D r A I L s:=by
 let(E,pw,G,V,n1,n2):=R.obj;let(Z,O,hc):=R.store.cel;show R.go (λb o e _=>h b o e) (E,pw,h _ _ G,h _ _ V,n1,n2) (h _ _ R.store.num) (Z,h _ _ O,hc.keep λb xs e=>h _ _ e) R.store.ok (h _ _ R.tch) R.few R.most
def b9.setCel{A:RA}(R:b9 a H r A I L s)(ab:bz H D h')(up:aL h')(bd:HM.Bounds h'):
  aM (ge r A) H (aw H A.pc (.dK D))/\b9 a (aw H A.pc (.dK D)) r A I L {s with store:={s.store with heap:=h'}}:=by
 let(dx,pw,O,ew,n1,n2):=R.obj;let(Z,E,hc):=R.store.cel;let G:aM (ge r A) H (aw H A.pc (.dK D)):=λb o e hb=>by rw[ah (λz=>hb (.inr (.inr (.inl z))))];show e
 show(G,R.go G (dx,pw,?_,?_,n1,n2) ?_ (D,ae,ab.keep (kz R G)) (R.store.ok.len,R.store.ok.big,up,bd) ?_ R.few R.most)
 .rw[ah (aV O E (by intro z;cases z))];show O
 .rw[ah (aV ew E (by intro z;cases z))];show ew
 .rw[ah R.pn_pc];show R.store.num
 .rw[ah (aV R.tch E (by intro z;cases z))];show R.tch
section
def Ot:aj->Prop:=λl=>∃x f e,l=.write x f e
def QG:aj->Prop:=λl=>∃x,l=.free x
def R8:aj->Prop:=λl=>∃x,l=.new x
def Bc(f:Field)(v:Nat)(c:ZC):(WU f v c).at_=c.at_:=by cases f<;>rfl
def sV(T:TX K U a):cf P w K U W cH 2 a.iD ["self","line"] [] (sA a QG):=by
 let GV:=dG T;let GT:=lH T;show T.vr.o2 ["self","line","address"] λvs H Q a4 h=>?_
 let(r,A,I,L,s,lx,l,rfl,R,hl,(x,rfl),a3,a1,k):=h;show(Y,λnd a5 A' a6 s0 hr=>?_);let hu:=fw hr;let ap:Room 1 _:=hr.mono ();show(_,ac (aA (i:=2) nd rfl (UT rfl) (bg (ai (pv 0) rfl) T.aY T.cC GV ap aq (aa (ai (pv 1) rfl) af)))
  (ag (aJ (cB (bg (pv 0) T.aH T.n6 GT ap aq (aa (pg T.Bi) (aa (pv 2) af))))
   (ag (aE (rm (ai (ai (pv 0) rfl) rfl) (pv 2) (Y,Y,Y,Y)))) ay)),?_)
 iterate 2 skip
 let(dx,pw,e1,_):=R.obj;let(dl,el):=hl;let(ds,e2):=R.store.obj;let hx:x<↑I:=a3;show(_,Y,r,_,dx,_,_,Y,e1,T.aH,T.bc,Y,A.st,ds,_,Y,e2,Y,_,Y,lx,_,dl,_,_,Y,el,T.ax,T.bO,Y,A.st,A.pn,A.pc,I,s.store,.var x,Y,R.store,R.nm,hx,?_);show(_,Y,r,dx,_,Y,e1,Y,_,Y,r,A,I,L,s,2,Vf s.store (.var x),Y,R,a1,λE V O D=>?_,λE V O D=>?_)
 .let(c,ab):=WS.mp E;let G:um s (.free x)={s with touched:=s.touched++[(2,Vf s.store (.var x))],store:={s.store with heap:=without s.store.heap (Vf s.store (.var x))}}:=by
   change(match U7 s.store.heap (Vf s.store (.var x))with|some c=>_|none=>_)=_;rw[ab]
  rw[G]at k;let(av,bd,f1,_):=D.obj;let(ar,f2):=D.store.obj;let(Z,f3,an):=D.store.cel;let(a2,a0):=HM.cellAt_some ab;let(t,v1,v2):=an.vals c a2;rw[a0]at v1;let(g1,g2):=D.setCel (an.drop (Vf s.store (.var x))) (HM.without_rising R.store.ok.up _) (λd hd=>R.store.ok.bd d (V5.mp hd).1);show(_,Y,bf (_,Y,r,_,av,_,_,Y,f1,T.aH,T.bc,Y,A.st,_,ar,_,_,Y,f2,T.aY,T.a_,Y,A.pc,Y,.inl (Z,.inl f3),_,Y,Z,UW ((Vf s.store (.var x):Nat):Int),_,f3,Y,v1,?_));show k _ (λb o e hb=>g1 b o (O b o e hb) hb) g2
 .let hn:U7 s.store.heap (Vf s.store (.var x))=UH:=by
   cases e:U7 s.store.heap (Vf s.store (.var x))with
   |none=>rfl
   |some c=>rw[e]at E;cases E
  let G:um s (.free x)={s with touched:=s.touched++[(2,Vf s.store (.var x))],wrong:=Up (3,Vf s.store (.var x))}:=by
   change(match U7 s.store.heap (Vf s.store (.var x))with|some c=>_|none=>_)=_;rw[hn]
  rw[G]at k;show(_,Y,be (k V O D))
end
end
section
open HM (aL)
open VasepBase (Field)
section
def yz(f:Field)(v:Nat)(c:ZC):([V.int (c.next:Nat),V.int (c.data:Nat)]).set (if f=.next then 0 else 1) (.int (v:Nat))=[V.int ((WU f v c).next:Nat),V.int ((WU f v c).data:Nat)]:=by cases f<;>rfl
def dM{h:Uu}(I:aL h)(E:HM.Bounds h):↑h<=12:=by
 let nd:=HM.rising_nodup I;let sub:(h.map (·.at_))⊆W0 13:=λn O=>by
  let(c,D,e):=U6.mp O;have:=E c D;rw[aaf];lia
 let Z:∀(k:Nat)(h:Uu),aL h->(∀c∈h,k<c.at_/\c.at_<=12)->↑h<=12-k:=by
  intro k h
  induction h generalizing k with
  |nil=>intro _ _;show VN _
  |cons c h V=>
   intro r b;let(r1,r2):=Vg.mp r;let h1:=V c.at_ r2 (λd G=>(r1 d G,(b d (UR _ G)).2));have:=b c UU;rw[Ut];lia
 show Z 0 h I λc D=>((E c D).1,(E c D).2.1)
def qr(T:TX K U a):cf P w K U W cH 2 a.gF ["self","line"] [] (sA a Ot):=by
 let GV:=dG T;let GT:=lH T;show T.sf.o2 ["self","line","address","cell"] λvs H Q bm h=>?_
 let(r,A,I,L,s,lx,l,rfl,R,hl,(x,f,D,rfl),bl,bd,k):=h;show(Y,λnd bs A' bt s0 hr=>?_);let hu:=fw hr;let ar:Room 1 _:=hr.mono ();show(_,ac (aA (i:=2) nd rfl (UT rfl) (bg (ai (pv 0) rfl) T.aY T.cC GV ar aq (aa (ai (pv 1) rfl) af)))
  (ag (aJ (cB (bg (pv 0) T.aH T.n6 GT ar aq (aa (pg T.yA) (aa (pv 2) af))))
   (ac (aA (i:=3) nd rfl (UT rfl) (dE r9 (by rfl) T.Ck X0 (aa (iO hu (ai (ai (pv 0) rfl) rfl) (pv 2) (λ_ _=>rfl)) af)))
   (ac (Qn (bg (ai (pv 0) rfl) T.aY T.cC GV ar aq (aa (ai (pv 1) rfl) af)) (Qr (pv 3) (ej aaB YE aay Au (pg T.ni) (aa (ai (pv 1) rfl) af)) Lz))
   (ag (gx hu (ai (ai (pv 0) rfl) rfl) (pv 2) (dE kl (by rfl) T.Cj YT (aa (pv 3) af)) rfl)))) ay)),?_)
 iterate 2 skip
 let(dx,pw,e1,_):=R.obj;let(dl,el):=hl;let(ds,e2):=R.store.obj;obtain⟨hx,he⟩:x<↑I/\bS ↑I D:=bl;show(_,Y,r,_,dx,_,_,Y,e1,T.aH,T.bc,Y,A.st,ds,_,Y,e2,Y,_,Y,lx,_,dl,_,_,Y,el,T.ax,T.bO,Y,A.st,A.pn,A.pc,I,s.store,.var x,Y,R.store,R.nm,hx,?_);show(_,Y,r,dx,_,Y,e1,Y,_,Y,r,A,I,L,s,1,Vf s.store (.var x),Y,R,bd,λhc G sx O=>?_,λhc G sx O=>?_)
 .let(c,a2):=WS.mp hc;let hm:um s (.write x f D)={s with touched:=s.touched++[(1,Vf s.store (.var x))],store:={s.store with heap:=Wf (WU f (Vf s.store D) c) s.store.heap}}:=by
   change(match U7 s.store.heap (Vf s.store (.var x))with|some c=>_|none=>_)=_;rw[a2]
  rw[hm]at k;let(an,bF,f1,_):=O.obj;let(ab,f2):=O.store.obj;let(Z,f3,ap):=O.store.cel;let(a4,a1):=HM.cellAt_some a2;let(t,v1,v2):=ap.vals c a4;rw[a1]at v1;let hd:=fP.k (k:=UW ((Vf s.store (.var x):Nat):Int)) f3;rw[v1]at hd;let av:=sx _ _ el (kT R el);show(_,Y,bf (_,Y,r,_,an,_,_,Y,f1,T.aH,T.bc,Y,A.st,_,ab,_,_,Y,f2,T.aY,T.a_,Y,_,Y,A.pc,_,Y,hd,t,_,Y,.inr (gK.of v2),λl hl=>?_));let x2:∀b o,G b=Up o->aw G l (.lst [.int (c.next:Nat),.int (c.data:Nat)]) b=Up o:=λb o e=>by rw[ah (ak e hl)];show e
  let R2:=O.ext x2;show(_,Y,r,_,an,_,_,Y,x2 _ _ f1,T.aH,T.bc,Y,A.st,ab,_,Y,x2 _ _ f2,Y,_,Y,lx,_,dl,_,_,Y,x2 _ _ av,T.ax,T.cv,Y,A.st,A.pn,A.pc,I,_,D,Y,R2.store,R2.nm,he,?_);show(_,Y,.inr (.inl (Y,T.Ai)),_,Y,lx,_,dl,_,_,Y,x2 _ _ av,T.ax,T.c_,Y,_,_,_,_,_,Y,Y,T.oV _,Y,Y,Y,AK f,l,_,_,(if f=.next then 0 else 1),Y,Y,ae,by cases f<;>rfl,?_);rw[yz];generalize a0:aw (aw G l (.lst [.int (c.next:Nat),.int (c.data:Nat)])) l (.lst [V.int ((WU f (Vf s.store D) c).next:Nat),V.int ((WU f (Vf s.store D) c).data:Nat)])=H3;let x3:∀b o,G b=Up o->H3 b=Up o:=λb o e=>by rw[<-a0,ah (ak e hl),ah (ak e hl)];show e
  let e3:H3 l=Up (.lst [V.int ((WU f (Vf s.store D) c).next:Nat),V.int ((WU f (Vf s.store D) c).data:Nat)]):=by rw[<-a0,ae]
  show(_,Y,l,_,Y,.inl (bx.of e3,λq hq=>?_));let x4:∀b o,G b=Up o->aw H3 q (.tup [V.int ((WU f (Vf s.store D) c).next:Nat),V.int ((WU f (Vf s.store D) c).data:Nat)]) b=Up o:=λb o e=>by rw[ah (ak (x3 _ _ e) hq)];show x3 _ _ e
  generalize a6:aw H3 q (.tup [V.int ((WU f (Vf s.store D) c).next:Nat),V.int ((WU f (Vf s.store D) c).data:Nat)])=H4 at x4⊢;let e4:H4 q=Up (.tup [V.int ((WU f (Vf s.store D) c).next:Nat),V.int ((WU f (Vf s.store D) c).data:Nat)]):=by rw[<-a6,ae]
  let R4:=O.ext x4;let E:=R.store.ok.bd c a4;let a5:=v8 R.store.ok D;let a3:=(ap.keep λb xs e=>x4 _ _ e).put R.store.ok.up e4;rw[Bc,a1]at a3;let(g1,g2):=R4.setCel a3 (HM.put_rising R.store.ok.up) (λd hd=>by
   rcases HM.put_mem hd with z|z
   .subst z;cases f
    .show(E.1,E.2.1,a5,E.2.2.2)
    .show(E.1,E.2.1,E.2.2.1,a5)
   .show R.store.ok.bd d z)
  let bk:↑Z<U1:=by
   let hk:↑Z=↑s.store.heap:=by simpa using ap.keys.length_eq
   have:=dM R.store.ok.up R.store.ok.bd;rw[Ux];lia
  show(_,Y,r,_,an,_,_,Y,x4 _ _ f1,T.aH,T.bc,Y,A.st,_,ab,_,_,Y,x4 _ _ f2,T.aY,T.a_,Y,_,Y,A.pc,_,Y,so.k (k:=UW ((Vf s.store (.var x):Nat):Int)) (x4 _ _ f3) bk,?_);show k _ (λb o e E=>g1 b o (x4 _ _ (sx b o e E)) E) g2
 .let hn:U7 s.store.heap (Vf s.store (.var x))=UH:=by
   cases e:U7 s.store.heap (Vf s.store (.var x))with
   |none=>rfl
   |some c=>rw[e]at hc;cases hc
  let hm:um s (.write x f D)={s with touched:=s.touched++[(1,Vf s.store (.var x))],wrong:=Up (2,Vf s.store (.var x))}:=by
   change(match U7 s.store.heap (Vf s.store (.var x))with|some c=>_|none=>_)=_;rw[hn]
  rw[hm]at k;show(_,Y,be (k G sx O))
end
end
def Ku(G:1<=n)(I:n<=12)(E:∀i,1<=i->i<n->(U7 h i).isSome=UB)(here:U7 h n=UH):Yi h=Up n:=by
 unfold Yi Ye;apply List.findSome?_eq_some_iff.mpr;show((W0 12).take (n-1),n-1,(W0 12).drop n,?_,?_,λx D=>?_)
 .let e:(W0 12).drop (n-1)=(n-1)::(W0 12).drop n:=by
   rw[Yx (by rw[aas];lia),List.getElem_range,show n-1+1=n by lia]
  rw[<-e,List.take_append_drop]
 .rw[show n-1+1=n by lia,here];rfl
 .rw[List.take_range]at D;have:=aaf.mp D;let q:=E (x+1) ⋯ ⋯;cases e:U7 h (x+1)with
  |none=>rw[e]at q;cases q
  |some c=>rfl
def Kw(all:∀i,1<=i->i<=12->(U7 h i).isSome=UB):Yi h=UH:=by
 unfold Yi Ye;apply List.findSome?_eq_none_iff.mpr;intro x D;have:=aaf.mp D;let q:=all (x+1) ⋯ ⋯;cases e:U7 h (x+1)with
 |none=>rw[e]at q;cases q
 |some c=>rfl
def Kv(D:HM.Bounds h)(G:12<n):U7 h n=UH:=by
 cases e:U7 h n with
 |none=>rfl
 |some c=>
  let(m,E):=HM.cellAt_some e;have:=D c m;lia
def b9.setObj{H:Hp}{A:RA}{s s':MR}(R:b9 a H r A I L s)(G:s'.store=s.store)(an:s'.touched=s.touched)(e:H r=Up (.ins a.cy E (gL A pw s)))(V:H D=Up (.lst (vZ s'.wrong)))(n1:D≠A.pt)(n2:D≠A.pl)(ab:↑s'.touched<=s'.steps+1)(ap:s'.steps<=300):
  aM (ge r A) H (aw H r (.ins a.cy E (gL A D s')))/\b9 a (aw H r (.ins a.cy E (gL A D s'))) r A I L s':=by
 let(Z,e3,hc):=R.store.cel;let O:aM (ge r A) H (aw H r (.ins a.cy E (gL A D s'))):=λb o e hb=>by rw[ah (λz=>hb (.inl z))];show e
 show(O,R.go O (E,D,ae,?_,n1,n2) ?_ (Z,?_,by rw[G];show hc.keep (kz R O)) (by rw[G];show R.store.ok) ?_ ab ap)
 .rw[ah (aV V e (by intro z;cases z))];show V
 .rw[ah (aV R.store.num e (by intro z;cases z)),G];show R.store.num
 .rw[ah (aV e3 e (by intro z;cases z))];show e3
 .rw[ah (aV R.tch e (by intro z;cases z)),an];show R.tch
def b9.addT{A:RA}{s:MR}(R:b9 a H r A I L s)(ab:↑s.touched<=s.steps)(D x:Nat):
  aM (ge r A) H (aw H A.pt (.lst (eO s.touched++[.int (D:Nat),.int (x:Nat)])))/\b9 a (aw H A.pt (.lst (eO s.touched++[.int (D:Nat),.int (x:Nat)]))) r A I L {s with touched:=s.touched++[(D,x)]}:=by
 let(dx,pw,G,ew,V,n2):=R.obj;let(Z,O,hc):=R.store.cel;let E:aM (ge r A) H (aw H A.pt (.lst (eO s.touched++[.int (D:Nat),.int (x:Nat)]))):=λb o e hb=>by rw[ah (λz=>hb (.inr (.inr (.inr z))))];show e
 show(E,R.go E (dx,pw,?_,?_,V,n2) ?_ (Z,?_,hc.keep (kz R E)) R.store.ok ?_ (by rw[Us];simp;lia) R.most)
 .rw[ah (aV G R.tch (by intro z;cases z))];show G
 .rw[ah V];show ew
 .rw[ah (aV R.store.num R.tch (by intro z;cases z))];show R.store.num
 .rw[ah (aV O R.tch (by intro z;cases z))];show O
 .rw[ae,uc]
section
def uW(T:TX K U a):cf P w K U W cH 2 a.jj ["self","line"] [] (sA a R8):=by
 show T.yi.o2 ["self","line","address"] λvs H Q b2 h=>?_
 let(r,A,I,L,s,lx,l,rfl,R,hl,(x,rfl),b0,bs,k):=h;show(Y,λnd b4 A' ce s0 hr=>?_);let hu:=fw hr;show(_,ac (aA (i:=2) nd rfl (UT rfl) aF)
  (ac (dF Vz (nI (B8 hu (pv 2) (ai (ai (pv 0) rfl) rfl))) (ag (qm (i:=2) nd rfl (UT rfl) aF qy)))
  (ag (aJ (au IK (pv 2) (pg T.fh) (aB _))
   (ag (br (pv 0) (aS (aa (pg T.qS) (aa (bI lD (pg T.t8) aF) (aa aF af)))) rfl))
   (ac (aE (ej UQ VZ Wl sZ (ai (pv 0) rfl) (aa (aS (aa (pg T.t8) (aa (pv 2) af))) af)))
   (ac (gx hu (ai (ai (pv 0) rfl) rfl) (pv 2) (cg (aa aF (aa aF af))) rfl)
   (ag (gx hu (ai (ai (pv 0) rfl) rfl) (ai (pv 1) rfl) (pv 2) rfl))))))),?_)
 iterate 3 skip
 let(dx,pw,e1,ew,n1,n2):=R.obj;let(ds,e2):=R.store.obj;let(Z,e3,hc):=R.store.cel;let(dl,el):=hl;let hx:x<↑I:=b0;show(λav D E=>TN λ(n:Nat)=>SO (D=[Up (.ref r),Up (.ref lx),Up (.int (n:Nat))]) (E=H) (av+n=13) (1<=n) (n<=13) (∀i,1<=i->i<n->(U7 s.store.heap i).isSome=UB),(12,1,Y,Y,Y,(),(),λi h1 h2=>⋯),?_);rintro av D E ⟨n,rfl,rfl,hμ,a2,cd,ap⟩;show(_,Y,_,Y,r,_,dx,_,_,Y,e1,T.aH,T.bc,Y,A.st,_,ds,_,_,Y,e2,T.aY,T.a_,Y,A.pc,_,Y,fP.k (k:=UW (n:Int)) e3,_,Y,?_);rw[fe hc R.store.ok.up];cases ab:(U7 s.store.heap n).isSome with
 |true=>
  let hn:n<=12:=by
   rcases Nat.lt_or_ge 12 n with z|z
   .rw[Kv R.store.ok.bd z]at ab;cases ab
   .show z
  show bf (λσ' b3=>∃μ',μ'<av/\_,λ_ _ z=>z,_,Y,_,_,Y,Y,?_);show(12-n,⋯,n+1,?_,Y,⋯,⋯,⋯,λi h1 h2=>?_)
  .change [Up (V.ref r),Up (V.ref lx),Up (V.int ((n:Int)+1))]=_;rw[show(n:Int)+1=((n+1:Nat):Int) by lia]
  .rcases Nat.lt_or_ge i n with z|z
   .show ap i h1 z
   .rw[show i=n by lia];show ab
 |false=>
  let bF:U7 s.store.heap n=UH:=by
   cases e:U7 s.store.heap n with
   |none=>rfl
   |some c=>rw[e]at ab;cases ab
  show be (_,Y,_,_,Y,Y,_,Y,?_);by_cases hn:n<=12
  .rw[decide_eq_false ⋯];let hm:um s (.new x)={s with touched:=s.touched++[(3,n)],store:={vals:=s.store.vals.set x n,heap:=Wf {at_:=n,next:=0,data:=0} s.store.heap}}:=by
    change(match Yi s.store.heap with|some c=>_|none=>_)=_;rw[Ku a2 hn ap bF]
   rw[hm]at k;show be (_,Y,r,_,dx,_,_,Y,e1,T.aH,T.fq,Y,.inl (Y,_,bx.of R.tch),_,Y,zl,λp hp=>?_);let G:∀b o,E b=Up o->aw E p (.lst [.int 3,.int (n:Nat)]) b=Up o:=λb o e=>by rw[ah (ak e hp)];show e
   let R1:=R.ext G;let(an,R2):=R1.addT bs 3 n;show(A.pt,p,_,_,Y,Y,G _ _ R.tch,ae,?_,?_)
   .rw[wk,Ux];have:=R.most;simp only[Ut,Vr];lia
   let ar:aM (ge r A) E _:=λb o e μ=>an b o (G _ _ e) μ
   generalize cc:aw (aw E p (.lst [.int 3,.int (n:Nat)])) A.pt (.lst (eO s.touched++[.int ((3:Nat):Int),.int (n:Nat)]))=H2 at an ar R2;let(bd,ch,f1,_):=R2.obj;let(a5,f2):=R2.store.obj;let(a3,f3,a1):=R2.store.cel;let a0:=ar _ _ el (kT R el);show(zl,λt ht=>?_);let O:∀b o,H2 b=Up o->aw H2 t (.tup [.int 0,.int 0]) b=Up o:=λb o e=>by rw[ah (ak e ht)];show e
   let R3:=R2.ext O;let bm:=(a1.keep λb xs e=>O _ _ e).put (c:={at_:=n,next:=0,data:=0}) R.store.ok.up (ae (a:=t));let(a4,R4):=R3.setCel bm (HM.put_rising R.store.ok.up) (λd hd=>by
    rcases HM.put_mem hd with z|z
    .subst z;show(a2,hn,by change(0:Nat)<=99;decide,by change(0:Nat)<=99;decide)
    .show R.store.ok.bd d z)
   let bt:↑a3<U1:=by
    let hk:↑a3=↑s.store.heap:=by simpa using a1.keys.length_eq
    have:=dM R.store.ok.up R.store.ok.bd;rw[Ux];lia
   show(_,Y,r,_,bd,_,_,Y,O _ _ f1,T.aH,T.bc,Y,A.st,_,a5,_,_,Y,O _ _ f2,T.aY,T.a_,Y,_,Y,A.pc,_,Y,so.k (k:=UW (n:Int)) (O _ _ f3) bt,?_);let(bk,cl,g1,_):=R4.obj;let(a6,g2):=R4.store.obj;let bl:=a4 _ _ (O _ _ a0) (kT R3 (O _ _ a0));let(p5,b1,R5):=R4.setNum (v:=n) hx ⋯;show(_,Y,_,Y,r,_,bk,_,_,Y,g1,T.aH,T.bc,Y,A.st,_,a6,_,_,Y,g2,T.aY,T.bD,Y,_,Y,lx,_,dl,_,_,Y,bl,T.ax,T.bO,Y,A.pn,_,Y,p5,?_);show k _ (λb o e μ=>b1 b o (a4 b o (O _ _ (ar b o e μ)) μ) μ) R5
  .let hm:um s (.new x)={s with wrong:=Up (4,0)}:=by
    change(match Yi s.store.heap with|some c=>_|none=>_)=_;rw[Kw (λi h1 h2=>ap i h1 ⋯)]
   rw[hm]at k;rw[decide_eq_true ⋯];show bf (_,_,Y,Y,zl,λq hq=>?_);let G:∀b o,E b=Up o->aw E q (.lst [.int 1,.int 4,.int 0]) b=Up o:=λb o e=>by rw[ah (ak e hq)];show e
   let R1:=R.ext G;let(an,R2):=R1.setObj (s':={s with wrong:=Up (4,0)}) rfl rfl (G _ _ e1) (ae (a:=q)) (ak R.tch hq).symm (ak R.lst hq).symm R.few R.most;show(_,Y,r,_,dx,_,Y,G _ _ e1,T.aH,T.eR,by change 6<1000;decide,?_);rw[wM A pw q s (Up (4,0))];show k _ (λb o e μ=>an b o (G _ _ e) μ) R2
end
section
open HM (aj)
def Ba:Option (Nat×Nat)->List PyData
 |none=>[]
 |some (w,x)=>[.int 1,.int (w:Nat),.int (x:Nat)]
def xU{H:Hp}(h:H D=Up (.lst (vZ o))):Dp K H (.ref D) (.list (Ba o)):=by
 show .lst (bx.of h) ?_;cases o with
 |none=>show .nil
 |some p=>show .cons (.int _) (.cons (.int _) (.cons (.int _) .nil))
def HS{H:Hp}(h:H p=Up (.lst [])):Dp K H (.ref p) (.list []):=.lst (bx.of h) .nil
def ln(o:Option (Nat×Nat)):SeqAt.shaped (.list (Ba o))=UB:=by cases o<;>rfl
def tL(o:Option (Nat×Nat)):aaa (.list (Ba o)) (.list [])=o.isNone:=by cases o<;>rfl
def BX(A:RA)(D:Uw)(s:MR)(n:Nat):ck "at" (.int (n:Nat)) (gL A D s)=gL A D {s with at_:=n}:=by
 unfold gL;rw[ck,ifn (),ck,ifn (),ck,ifp rfl]
def Hd(A:RA)(D:Uw)(s:MR)(n:Nat):ck "steps" (.int (n:Nat)) (gL A D s)=gL A D {s with steps:=n}:=by
 unfold gL;rw[ck,ifn (),ck,ifn (),ck,ifn (),ck,ifp rfl]
section
def Pc:aj->Prop:=λl=>∃c t,l=.ifl c t\/l=.whl c t
def Oj{s:MR}(h:l=.ifl c t\/l=.whl c t):um s l=if WH s.store c then s else{s with at_:=t}:=by
 rcases h with rfl|rfl<;>rfl
def Kf{c:ZV}(h:l=.ifl c t\/l=.whl c t):(a8 I l).2=(U0 I c.one,fm c,U0 I c.two,t):=by
 rcases h with rfl|rfl<;>rfl
def Hv{c:ZV}(h:l=.ifl c t\/l=.whl c t)(ok:fM n l):bS n c.one/\bS n c.two:=by
 rcases h with rfl|rfl<;>show ok
def Hn(T:TX K U a):cf P w K U W cH 3 a.tK ["self","line"] [] (sA a Pc):=by
 let GV:=nT T;show T.KP.o2 ["self","line"] λvs H Q an h=>?_
 let(r,A,I,L,s,E,l,rfl,R,hl,(c,t,O),ab,ar,k):=h;show(Y,λnd ap A' av s0 hr=>?_);show(_,ag (aJ (i6 (cB (bg (ai (pv 0) rfl) T.aY T.pO GV hr aq (aa (ai (pv 1) rfl) (aa (ai (pv 1) rfl) (aa (ai (pv 1) rfl) af))))))
   (ag (br (pv 0) (ai (pv 1) rfl) rfl)) ay),?_)
 let(V,pw,G,ew,n1,n2):=R.obj;let(dl,D):=hl;let(ds,e2):=R.store.obj;let(h1,h2):=Hv O ab;let hq:a8 I l=((a8 I l).1,U0 I c.one,fm c,U0 I c.two,t):=by rw[<-Kf O]
 rw[hq]at D;rw[Oj O]at k;show(_,Y,r,_,V,_,_,Y,G,T.aH,T.bc,Y,A.st,ds,_,Y,e2,Y,_,Y,E,_,dl,_,_,Y,D,T.ax,T.bO,Y,_,Y,E,_,dl,_,_,Y,D,T.ax,T.c_,Y,
  _,Y,E,_,dl,_,_,Y,D,T.ax,T.cv,Y,A.st,A.pn,A.pc,I,s.store,c,Y,R.store,R.nm,h1,h2,_,Y,?_)
 cases Z:WH s.store c with
 |true=>
  rw[Z]at k;show be (k H (λ_ _ e _=>e) R)
 |false=>
  rw[Z]at k;let(sx,R1):=R.setObj (s':={s with at_:=t}) rfl rfl G ew n1 n2 R.few R.most;show bf (_,Y,E,_,dl,_,_,Y,D,T.ax,T.dJ,Y,_,Y,r,_,V,_,Y,G,T.aH,T.eJ,by change 6<1000;decide,?_);rw[BX A pw s t];show k _ sx R1
def IU:aj->Prop
 |.set _ _=>True
 |.read _ _ _=>True
 |.write _ _ _=>True
 |.new _=>True
 |.free _=>True
 |_=>False
def bh{X Y:Prop}(h:b=UF)(y:Y):if b=UB then X else Y:=by subst h;show be y
def dq{X Y:Prop}(h:b=UB)(x:X):if b=UB then X else Y:=by subst h;show bf x
def ia(x y:Vp)(h:x≠y):decide (V.str x=V.str y)=UF:=decide_eq_false λz=>h (V.str.inj z)
def vQ(x:Vp):decide (V.str x=V.str x)=UB:=decide_eq_true rfl
def zj(T:TX K U a):cf P w K U W cH 3 a.me ["self","line"] [] (sA a IU):=by
 let GV:=dG T;let G1:=rB T;let G2:=qr T;let G3:=uW T;let G4:=sV T;show T.Dt.o2 ["self","line"] λvs H Q a1 h=>?_
 let(r,A,I,L,s,D,l,rfl,R,hl,hp,ab,an,k):=h;show(Y,λnd a2 A' a3 s0 hr=>?_);let hu:=fw hr;let av:Room 1 _:=hr.mono ();let ar:Room 2 _:=hr.mono ();show(_,ag (aJ (au bP (ai (pv 1) rfl) (pg T.wb) (aB _))
   (ag (gx hu (ai (ai (pv 0) rfl) rfl) (ai (pv 1) rfl) (bg (ai (pv 0) rfl) T.aY T.cC GV av aq (aa (ai (pv 1) rfl) af)) rfl))
  (ag (aJ (au bP (ai (pv 1) rfl) (pg T.Ge) (aB _))
   (ag (aE (bg (pv 0) T.aH T.s_ G1 ar aq (aa (pv 1) af))))
  (ag (aJ (au bP (ai (pv 1) rfl) (pg T.Bf) (aB _))
   (ag (aE (bg (pv 0) T.aH T.rG G2 ar aq (aa (pv 1) af))))
  (ag (aJ (au bP (ai (pv 1) rfl) (pg T.K_) (aB _))
   (ag (aE (bg (pv 0) T.aH T.xl G3 ar aq (aa (pv 1) af))))
   (ag (aE (bg (pv 0) T.aH T.u5 G4 ar aq (aa (pv 1) af))))))))))),?_)
 let(Z,pw,e1,ew,n1,n2):=R.obj;let ap:=hl;let(dl,E):=hl;show(_,Y,D,_,dl,_,_,Y,E,T.ax,T.al,Y,Y,_,Y,?_);cases l with
 |set x e=>
  obtain⟨hx,he⟩:x<↑I/\bS ↑I e:=ab;let(ds,e2):=R.store.obj;let(p5,a0,R5):=R.setNum (v:=Vf s.store e) hx (v8 R.store.ok e);show dq (vQ "assign") ?_;show(_,Y,r,_,Z,_,_,Y,e1,T.aH,T.bc,Y,A.st,ds,_,Y,e2,Y,_,Y,D,_,dl,_,_,Y,E,T.ax,T.cv,Y,A.st,A.pn,A.pc,I,s.store,e,Y,R.store,R.nm,he,?_);show(_,Y,r,_,Z,_,_,Y,e1,T.aH,T.bc,Y,A.st,_,ds,_,_,Y,e2,T.aY,T.bD,Y,_,Y,D,_,dl,_,_,Y,E,T.ax,T.bO,Y,A.pn,_,Y,p5,?_);show k _ a0 R5
 |read x y f=>
  show bh (ia "read" "assign" ()) ?_;show(_,Y,D,_,dl,_,_,Y,E,T.ax,T.al,Y,Y,_,Y,?_);show dq (vQ "read") ?_;show(_,Y,r,Z,_,Y,e1,Y,_,Y,r,A,I,L,s,D,_,Y,R,ap,(x,y,f,Y),ab,an,λG V O=>k G V O)
 |write x f e=>
  show bh (ia "write" "assign" ()) ?_;show(_,Y,D,_,dl,_,_,Y,E,T.ax,T.al,Y,Y,_,Y,?_);show bh (ia "write" "read" ()) ?_;show(_,Y,D,_,dl,_,_,Y,E,T.ax,T.al,Y,Y,_,Y,?_);show dq (vQ "write") ?_;show(_,Y,r,Z,_,Y,e1,Y,_,Y,r,A,I,L,s,D,_,Y,R,ap,(x,f,e,Y),ab,an,λG V O=>k G V O)
 |new x=>
  show bh (ia "new" "assign" ()) ?_;show(_,Y,D,_,dl,_,_,Y,E,T.ax,T.al,Y,Y,_,Y,?_);show bh (ia "new" "read" ()) ?_;show(_,Y,D,_,dl,_,_,Y,E,T.ax,T.al,Y,Y,_,Y,?_);show bh (ia "new" "write" ()) ?_;show(_,Y,D,_,dl,_,_,Y,E,T.ax,T.al,Y,Y,_,Y,?_);show dq (vQ "new") ?_;show(_,Y,r,Z,_,Y,e1,Y,_,Y,r,A,I,L,s,D,_,Y,R,ap,(x,Y),ab,an,λG V O=>k G V O)
 |free x=>
  show bh (ia "free" "assign" ()) ?_;show(_,Y,D,_,dl,_,_,Y,E,T.ax,T.al,Y,Y,_,Y,?_);show bh (ia "free" "read" ()) ?_;show(_,Y,D,_,dl,_,_,Y,E,T.ax,T.al,Y,Y,_,Y,?_);show bh (ia "free" "write" ()) ?_;show(_,Y,D,_,dl,_,_,Y,E,T.ax,T.al,Y,Y,_,Y,?_);show bh (ia "free" "new" ()) ?_;show(_,Y,r,Z,_,Y,e1,Y,_,Y,r,A,I,L,s,D,_,Y,R,ap,(x,Y),ab,an,λG V O=>k G V O)
 |_=>show hp.elim
end
end
section
open HM (aj iT)
open VasepBase (leave)
def b9.lineAt{H:Hp}{r:Uw}{A:RA}{I:List (List Nat)}{L:List aj}{s:MR}(R:b9 a H r A I L s){i:Nat}{l:aj}(h:L[i]?=Up l):
  ∃x,A.ls[i]?=Up x/\MW (A.ls.map V.ref) (i:Int)=Up (.ref x)/\du a H x I l:=by
 let E:=(UO.mp h).1;let D:A.ls[i]?=Up (A.ls[i]'(by rw[R.lines.1];show E)):=UC _;show(_,D,b5 (by rw[UM,D];rfl),R.lines.2 i _ l D h)
def kindOf:aj->Vp
 |.set _ _=>"assign"
 |.read _ _ _=>"read"
 |.write _ _ _=>"write"
 |.new _=>"new"
 |.free _=>"free"
 |.ifl _ _=>"if"
 |.whl _ _=>"while"
 |.els _=>"else"
 |.fin _=>"end"
def ja(I:List (List Nat))(l:aj):(a8 I l).1=kindOf l:=by cases l<;>rfl
def IV:aj->Bool
 |.els _=>UB
 |.fin _=>UB
 |_=>UF
def CN:aj->Bool
 |.ifl _ _=>UB
 |.whl _ _=>UB
 |_=>UF
def Mx(l:aj):CP (.str (kindOf l)) [.str "else",.str "end"]=IV l:=by cases l<;>(simp only[kindOf,IV];decide+kernel)
def Ox(l:aj):CP (.str (kindOf l)) [.str "if",.str "while"]=CN l:=by cases l<;>(simp only[kindOf,CN];decide+kernel)
def HG(h:HM.headLine i c=Up l):IV l=UF:=by
 cases c<;>first|(cases h;rfl)|cases h
section
inductive Lw(a:Ad)(d:List V)(H:Hp)(Q:VK)(e:XK):Prop|mk(r A b L s c:_)(_:d=[.ref r])(_:b9 a H r A b L s)(_:iT L s.at_ c)(_:L.length<=5000)(_:∀H' j,aM (ge r A) H H'->iT L j (leave c)->b9 a H' r A b L {s with at_:=j}->Q .non H')
def EJ(T:TX K U a):cf P w K U W cH 1 a.fg ["self"] [] (Lw a):=by
 show T.nc.o2 ["self"] λvs H Q a4 h=>?_
 let(r,A,I,L,s,av,rfl,R,a2,hL,k):=h;show(Y,λnd a6 A' bd s0 hr=>?_);let hu:=fw hr;show(_,ag (dF Vz (PW.pt (jP (au nN (ai (pv 0) rfl) (aW aN (by rfl) T.cO U2 (aa (ai (pv 0) rfl) af)) (aB _))
   (iM (au gi (ai (c9 cS (ai (pv 0) rfl) (ai (pv 0) rfl) (λ_ _=>rfl)) rfl) (cg (aa (pg T.sy) (aa (pg T.Ip) af))) (by with_unfolding_all rfl)))))
   (ag (br (pv 0) (ai (c9 cS (ai (pv 0) rfl) (ai (pv 0) rfl) (λ_ _=>rfl)) rfl) rfl))),?_)
 show(λa0 D H'=>Q8 λ(i:Nat)(td:List V2)=>SO (D=[Up (.ref r)]) (a0=↑td) (iT L i td) (aaj td=aaj av) (aM (ge r A) H H') (b9 a H' r A I L {s with at_:=i}),(_,s.at_,av,Y,Y,a2,Y,λ_ _ e _=>e,R),?_);rintro a0 D H' ⟨i,td,rfl,rfl,O,an,sx,Z⟩;let(μ,pw,G,ew,n1,n2):=Z.obj;let a1:↑(A.ls.map V.ref)=↑L:=by rw[List.length_map];show R.lines.1
 show(_,Y,r,_,μ,_,_,Y,G,T.aH,T.eJ,Y,_,Y,r,_,μ,_,_,Y,G,T.aH,T.dU,Y,A.pl,_,Y,.inl (bx.of Z.lst),_,_,Y,Y,_,Y,?_);rw[a1];by_cases hi:i<↑L
 .let ab:L[i]?=Up L[i]:=List.getElem?_eq_getElem hi;let(x,hx,ap,dl,el):=Z.lineAt ab;show dq (decide_eq_true (by change(i:Int)<_;lia)) (_,Y,r,_,μ,_,_,Y,G,T.aH,T.dU,Y,_,Y,r,_,μ,_,_,Y,G,T.aH,T.eJ,Y,A.pl,_,_,_,Y,Y,bx.of Z.lst,ap,x,_,dl,_,_,Y,el,T.ax,T.al,Y,zl,λp hp=>?_);let E:∀b o,H' b=Up o->aw H' p (.tup [.str "else",.str "end"]) b=Up o:=λb o e=>by rw[ah (ak e hp)];show e
  let R2:=Z.ext E;show(p,_,Y,.inr (gK.of ae),Y,Y,_,Y,?_);change if(CP (.str (a8 I L[i]).1) [.str "else",.str "end"])=true then _ else _
  rw[ja,Mx];cases td with
  |nil=>cases O;lia
  |cons c t=>
   by_cases hc:c=.done
   .subst hc;rcases O.done with⟨_,z⟩|⟨kk,hj,hk⟩
    .omega
    .let ar:IV L[i]=true/\(a8 I L[i]).2.2.2.2=kk:=by
      rcases hj with z|z
      .rw[ab]at z;rw[UI z];show(Y,Y)
      .rw[ab]at z;rw[UI z];show(Y,Y)
     show dq ar.1 (λσ' a5=>∃μ',μ'<↑(VasepBase.Code.done::t)/\_,λ_ _ z=>z,?_);show(_,Y,r,_,μ,_,_,Y,E _ _ G,T.aH,T.dU,Y,_,Y,r,_,μ,_,_,Y,E _ _ G,T.aH,T.eJ,Y,A.pl,_,_,_,Y,Y,bx.of (E _ _ Z.lst),ap,x,_,dl,_,_,Y,E _ _ el,T.ax,T.dJ,Y,_,Y,r,_,μ,_,Y,E _ _ G,T.aH,T.eJ,by change 6<1000;decide,?_);rw[ar.2,BX];let(a3,R3):=R2.setObj (s':={s with at_:=kk}) rfl rfl (E _ _ G) (E _ _ ew) n1 n2 R.few R.most;show(↑t,by simp,kk,t,Y,Y,hk,an,λb o e hb=>a3 b o (E _ _ (sx b o e hb)) hb,R3)
   .obtain⟨l,hl⟩:∃l,HM.headLine i c=Up l:=by cases c<;>first|show absurd rfl hc|show(_,rfl)
    let hh:=O.head hl;rw[ab]at hh;rw[UI hh];show bh (HG hl) ?_;show k _ i (λb o e hb=>E _ _ (sx b o e hb)) ?_ R2;rw[<-an,HM.leave_cons hc];show O
 .show bh (decide_eq_false (by change¬(i:Int)<_;lia)) (be ?_);show k _ i sx ?_ Z;rw[<-an];cases td with
  |nil=>show O
  |cons c t=>
   by_cases hc:c=.done
   .subst hc;rcases O.done with⟨z,_⟩|⟨kk,hj,hk⟩
    .subst z;have:i=↑L:=by have:=O.le;lia
     rw[this];show iT.nil
    .rcases hj with z|z
     .have:=(List.getElem?_eq_some_iff.mp z).1;lia
     .have:=(List.getElem?_eq_some_iff.mp z).1;lia
   .show absurd (O.lt hc) hi
end
end
section
open HM (aj iT)
open VasepBase (stepOnce)
def DK:abc->Nat
 |.read=>1
 |.write=>2
 |.free=>3
 |.room=>4
def Gk:afd->Nat×Nat
 |.read a=>(0,a)
 |.write a=>(1,a)
 |.free a=>(2,a)
 |.new a=>(3,a)
def wn(c:Yq):List (Nat×Nat):=(Wi c).toList.map Gk
def t_(c:Yq):↑(wn c)<=1:=by
 unfold wn;rw[Uq];cases Wi c<;>simp
def MY(L:List aj)(s:MR)(l:aj)(c:V2)(t:List V2):Prop:=
 (um {s with at_:=s.at_+1} l).touched=s.touched++wn (c::t,s.store)/\(um {s with at_:=s.at_+1} l).steps=s.steps/\
 ((∃w x,Yg (c::t,s.store)=.wrong w x/\(um {s with at_:=s.at_+1} l).wrong=Up (DK w,x)/\(um {s with at_:=s.at_+1} l).store=s.store)\/
  (∃D st,Yg (c::t,s.store)=.on (aaj D,st)/\(um {s with at_:=s.at_+1} l).wrong=s.wrong/\(um {s with at_:=s.at_+1} l).store=st/\iT L (um {s with at_:=s.at_+1} l).at_ D))
def Ny{s:MR}(h:iT L s.at_ (c::t))(D:HM.headLine s.at_ c=Up l):MY L s l c t:=by
 unfold MY wn;cases c with
 |done=>cases D
 |set x e r=>
  cases D;show(by simp [um,Wi],Y,.inr (r::t,_,Y,Y,Y,(h.next rfl rfl).2))
 |read x y f r=>
  cases D;simp only[um,Wi,Yg];cases e:U7 s.store.heap (Vf s.store (.var y))with
  |none=>show(Y,Y,.inl (_,_,Y,Y,Y))
  |some d=>show(Y,Y,.inr (r::t,_,Y,Y,Y,(h.next rfl rfl).2))
 |write x f e r=>
  cases D;simp only[um,Wi,Yg];cases e:U7 s.store.heap (Vf s.store (.var x))with
  |none=>show(Y,Y,.inl (_,_,Y,Y,Y))
  |some d=>show(Y,Y,.inr (r::t,_,Y,Y,Y,(h.next rfl rfl).2))
 |new x r=>
  cases D;simp only[um,Wi,Yg];cases e:Yi s.store.heap with
  |none=>show(by simp,Y,.inl (_,_,Y,Y,Y))
  |some d=>show(Y,Y,.inr (r::t,_,Y,Y,Y,(h.next rfl rfl).2))
 |free x r=>
  cases D;simp only[um,Wi,Yg];cases e:U7 s.store.heap (Vf s.store (.var x))with
  |none=>show(Y,Y,.inl (_,_,Y,Y,Y))
  |some d=>show(Y,Y,.inr (r::t,_,Y,Y,Y,(h.next rfl rfl).2))
 |ite q a b r=>
  cases D;let(_,h2,E):=h.ite;simp only[um,Wi,Yg,abw];cases I:WH s.store q with
  |true=>show(by simp,Y,.inr (a::r::t,_,Y,Y,Y,h2))
  |false=>
   show(by simp,Y,.inr ?_);by_cases G:b=.done
   .rw[ifp G]at E;subst G;show(r::t,_,Y,Y,Y,E)
   .rw[ifn G]at E;show(b::r::t,_,Y,Y,Y,E)
 |loop q b r=>
  cases D;let(_,h2,E):=h.loop;simp only[um,Wi,Yg,abw];cases I:WH s.store q with
  |true=>show(by simp,Y,.inr (b::.loop q b r::t,_,Y,Y,Y,h2))
  |false=>show(by simp,Y,.inr (r::t,_,Y,Y,Y,E))
def Kr(h:HM.headLine i c=Up l):(CN l=UB/\Pc l)\/(CN l=UF/\IU l):=by
 cases c with
 |done=>cases h
 |ite q a b r=>cases h;show .inl (Y,_,_,.inl rfl)
 |loop q b r=>cases h;show .inl (Y,_,_,.inr rfl)
 |_=>cases h;show .inr (Y,trivial)
section
inductive PY(a:Ad)(e:List V)(H:Hp)(Q:VK)(f:XK):Prop|mk(r A b L s c t:_)(_:e=[.ref r])(_:b9 a H r A b L s)(_:iT L s.at_ (c::t))(_:c≠.done)(_:s.wrong=none)(_:s.touched.length<=s.steps)(_:s.steps<300)(_:L.length<=5000)(_:∀w x,stepOnce ⟨c::t,s.store⟩=.wrong w x-> ∀H' j,aM (ge r A) H H'->b9 a H' r A b L ⟨j,s.steps,s.store,s.touched++wn ⟨c::t,s.store⟩,some (DK w,x)⟩->Q .non H')(_:∀d,stepOnce ⟨c::t,s.store⟩=.on d-> ∀H' j,aM (ge r A) H H'->iT L j d.todo->b9 a H' r A b L ⟨j,s.steps+1,d.store,s.touched++wn ⟨c::t,s.store⟩,none⟩->Q .non H')
def EH(T:TX K U a):cf P w K U W cH 4 a.qD ["self"] [] (PY a):=by
 let GA:=Hn T;let GC:=zj T;let GP:=EJ T;show T.Ig.o2 ["self","line"] λvs H Q ce h=>?_
 let(r,A,I,L,s,c,t,rfl,R,bk,hc,hw,a4,cq,hL,k1,k2):=h;show(Y,λnd ch A' cx s0 hr=>?_);let hu:=fw hr;let bd:Room 3 _:=hr;let cs:Room 2 _:=hr.mono ();let b2:Room 1 _:=hr.mono ();show(_,ac (aA (i:=1) nd rfl (UT rfl) (c9 cS (ai (pv 0) rfl) (ai (pv 0) rfl) (λ_ _=>rfl)))
  (ac (gP (pv 0) aF xC)
  (ac (aJ (au gi (ai (pv 1) rfl) (cg (aa (pg T.Nf) (aa (pg T.vA) af))) (by with_unfolding_all rfl))
   (ag (aE (bg (pv 0) T.aH T.Kd GA bd aq (aa (pv 1) af))))
   (ag (aE (bg (pv 0) T.aH T.Cp GC bd aq (aa (pv 1) af)))))
  (ag (aJ (au (B9 hr.units) (ai (pv 0) rfl) (aS af) (aB _))
   (ac (gP (pv 0) aF xC)
   (ag (aE (bu (pv 0) T.aH T.m_ GP b2 aq)))) ay)))),?_)
 iterate 4 skip
 obtain⟨l,hl⟩:∃l,HM.headLine s.at_ c=Up l:=by cases c<;>first|show absurd rfl hc|show(_,rfl)
 let a5:=bk.head hl;let(x,hx,bF,bt):=R.lineAt a5;let(dx,pw,e1,ew,n1,n2):=R.obj;let b3:=Ny bk hl;let a6:=R.lok l (U3 a5);show(_,rfl,r,_,dx,_,_,rfl,e1,T.aH,T.dU,rfl,_,rfl,r,_,dx,_,_,rfl,e1,T.aH,T.eJ,rfl,A.pl,_,_,_,rfl,rfl,bx.of R.lst,bF,?_);show(_,rfl,r,_,dx,_,_,rfl,e1,T.aH,T.eJ,rfl,_,_,rfl,rfl,dx,_,e1,by change 6<1000;decide,?_);let b0:ck "at" (V.int ((s.at_:Int)+1)) (gL A pw s)=gL A pw {s with at_:=s.at_+1}:=by
  rw[show(s.at_:Int)+1=((s.at_+1:Nat):Int) by lia,BX]
 rw[show aw H r (.ins a.cy dx (ck "at" (V.int ((s.at_:Int)+1)) (gL A pw s)))=aw H r (.ins a.cy dx (gL A pw {s with at_:=s.at_+1})) by rw[b0]];let(a0,R1):=R.setObj (s':={s with at_:=s.at_+1}) rfl rfl e1 ew n1 n2 R.few R.most;let a3:=bt.keep R a0;generalize cl:aw H r (.ins a.cy dx (gL A pw {s with at_:=s.at_+1}))=H1 at a0 R1 a3⊢;let(dl,el):=a3;show(_,rfl,x,_,dl,_,_,rfl,el,T.ax,T.al,rfl,zl,λp hp=>?_);let x2:∀b o,H1 b=Up o->aw H1 p (.tup [.str "if",.str "while"]) b=Up o:=λb o e=>by rw[ah (ak e hp)];show e
 let R2:=R1.ext x2;show(p,_,Y,.inr (gK.of ae),Y,Y,_,Y,?_);let ar:du a (aw H1 p (.tup [.str "if",.str "while"])) x I l:=(dl,x2 _ _ el);let(a2,cL,f1,_):=R2.obj;let bl:aM (ge r A) H (aw H1 p (.tup [.str "if",.str "while"])):=λb o e G=>x2 _ _ (a0 b o e G)
 generalize cm:aw H1 p (.tup [.str "if",.str "while"])=H2 at bl R2 ar f1 x2⊢;let a1:∀E,aM (ge r A) H2 E->b9 a E r A I L (um {s with at_:=s.at_+1} l)->Jv (ud (F8 (RE K) (Bo K (bJ 0) "wrong") (Np b8)))
   (uG (Iy K (bJ 0) (tC (.int 1)) RF "steps") (nu (iZ a.cy "pass_block_ends" (Lw a) [] E0 (bJ 0) b8))) Li {nx:=λ_ H'=>Q .non H',rt:=Q} [Up (.ref r),Up (.ref x)] E:=by
  intro E an Z;let(ab,ap,g1,gw,m1,m2):=Z.obj;show(_,Y,r,_,ab,_,_,Y,g1,T.aH,T.eR,Y,VN _,λq hq=>?_);let O:∀b o,E b=Up o->aw E q (.lst []) b=Up o:=λb o e=>by rw[ah (ak e hq)];show e
  let R4:=Z.ext O;show(_,_,xU (O _ _ gw),HS ae,ln _,Y,_,Y,?_);rw[tL];let av:aM (ge r A) H (aw E q (.lst [])):=λb o e G=>O _ _ (an b o (bl b o e G) G)
  generalize co:aw E q (.lst [])=H4 at O R4 av⊢;let(t1,t2,t3):=b3;generalize ct:um {s with at_:=s.at_+1} l=D at Z R4 g1 gw t1 t2 t3⊢;rcases t3 with⟨ww,xx,u1,u2,u3⟩|⟨cd,st,u1,u2,u3,u4⟩
  .rw[u2];show bh rfl ?_;show k1 ww xx u1 H4 D.at_ av ?_;have:D=(D.at_,s.steps,s.store,s.touched++wn (c::t,s.store),Up (DK ww,xx)):=by
    rw[<-t1,<-t2,<-u2,<-u3]
   rw[<-this];show R4
  .rw[hw]at u2;rw[u2];show dq rfl ?_;let bs:D=(D.at_,s.steps,st,s.touched++wn (c::t,s.store),UH):=by
    rw[<-t1,<-t2,<-u2,<-u3]
   show(_,Y,r,_,ab,_,_,Y,O _ _ g1,T.aH,T.eS,Y,_,_,Y,Y,ab,_,O _ _ g1,by change 6<1000;decide,?_);let b1:ck "steps" (V.int ((D.steps:Int)+1)) (gL A ap D)=gL A ap {D with steps:=D.steps+1}:=by
    rw[show(D.steps:Int)+1=((D.steps+1:Nat):Int) by lia,Hd]
   rw[show aw H4 r (.ins a.cy ab (ck "steps" (V.int ((D.steps:Int)+1)) (gL A ap D)))=aw H4 r (.ins a.cy ab (gL A ap {D with steps:=D.steps+1})) by rw[b1]];let cp:=t_ (c::t,s.store);let(b4,R5):=R4.setObj (s':={D with steps:=D.steps+1}) rfl rfl (O _ _ g1) (O _ _ gw) m1 m2 (by change ↑D.touched<=D.steps+1+1;rw[t1,t2,Us];lia) (by change D.steps+1<=300;rw[t2];lia);let(bm,c0,i1,_):=R5.obj;show(_,Y,r,bm,_,Y,i1,Y,r,A,I,L,_,cd,Y,R5,u4,hL,λH6 j cc hj R6=>?_);show k2 _ u1 H6 j (λb o e G=>cc b o (b4 b o (av b o e G) G) G) hj ?_;have:({D with steps:=D.steps+1,at_:=j}:MR)=(j,s.steps+1,st,s.touched++wn (c::t,s.store),UH):=by
    rw[bs]
   rw[<-this];show R6
 change if(CP (.str (a8 I l).1) [.str "if",.str "while"])=UB then _ else _
 rw[ja,Ox];rcases Kr hl with⟨q1,q2⟩|⟨q1,q2⟩
 .show dq q1 (_,Y,r,a2,_,Y,f1,Y,_,Y,r,A,I,L,_,x,l,Y,R2,ar,q2,a6,a4,λE an Z=>?_);show a1 E an Z
 .show bh q1 (_,Y,r,a2,_,Y,f1,Y,_,Y,r,A,I,L,_,x,l,Y,R2,ar,q2,a6,a4,λE an Z=>?_);show a1 E an Z
end
end
section
open HM (aj iT)
open VasepBase (leave runFor)
def jE:∀t:List V2,aaj (aaj t)=aaj t
 |[]=>rfl
 |c::t=>by
  by_cases h:c=.done
  .subst h;show jE t
  .rw[HM.leave_cons h,HM.leave_cons h]
def Gp{c d:Yq}(h:Yg c=.on d):aaj d.todo=d.todo:=by
 unfold Yg abw at h;split at h
 all_goals first
  |(cases h;done)
  |(cases h;show jE _)
  |(split at h<;>first|(cases h;done)|(cases h;show jE _))
def Fa:∀t:List V2,↑(aaj t)<=↑t
 |[]=>UD _
 |c::t=>by
  by_cases h:c=.done
  .subst h;have:=Fa t;change↑(aaj t)<=_;rw[Ut];lia
  .rw[HM.leave_cons h];show UD _
def E_(h:aaj (c::t)=c::t):c≠.done:=λz=>by
 subst z;let e:aaj t=.done::t:=h;have:=Fa t;rw[e,Ut]at this;lia
def IB{L:List aj}{i:Nat}(h:iT L i []):i=↑L:=by cases h;rfl
def JR{c:Yq}{w:abc}(h:Yg c=.wrong w x)(n m:Nat):abv (n+1) c m=(.wrong w x,m,c.store)/\Wa (n+1) c=(Wi c).toList:=by
 show(?_,?_)
 .rw[abv,h]
 .rw[Wa,h,VB]
def Qj(h:Yg c=.on d)(n m:Nat):abv (n+1) c m=abv n d (m+1)/\Wa (n+1) c=(Wi c).toList++Wa n d:=by
 show(?_,?_)
 .rw[abv,h]
 .rw[Wa,h]
def A_(L:List aj)(s:MR):Y1->Prop
 |.over=>s.wrong=UH/\s.at_=↑L
 |.wrong w x=>s.wrong=Up (DK w,x)
 |.cut=>s.wrong=UH/\s.at_<↑L
def Hc(n:Nat)(st:YN)(m:Nat):abv n ([],st) m=(.over,m,st):=by cases n<;>rfl
def DW(n:Nat)(st:YN):Wa n ([],st)=[]:=by cases n<;>rfl
section
inductive Ta(a:Ad)(d:List V)(H:Hp)(Q:VK)(e:XK):Prop|mk(r A c L s n b:_)(_:d=[.ref r,.int (n:Nat)])(_:b9 a H r A c L s)(_:iT L s.at_ b)(_:leave b=b)(_:s.wrong=none)(_:s.touched.length<=s.steps)(_:s.steps<=n)(_:n<=300)(_:L.length<=5000)(_:∀H' s',aM (ge r A) H H'->b9 a H' r A c L s'->s'.store=(runFor (n-s.steps) ⟨b,s.store⟩ s.steps).store->s'.steps=(runFor (n-s.steps) ⟨b,s.store⟩ s.steps).steps->A_ L s' (runFor (n-s.steps) ⟨b,s.store⟩ s.steps).outcome->s'.touched=s.touched++(Vasepa.touchesFrom (n-s.steps) ⟨b,s.store⟩).map Gk->Q .non H')
def JZ(T:TX K U a):cf P w K U W cH 5 a.xQ ["self","most"] [] (Ta a):=by
 let GS:=EH T;show T.MV.o2 ["self","most"] λvs H Q b1 h=>?_
 let(r,A,I,L,s,n,av,rfl,R,bt,bm,hw,bd,bF,hn,hL,k):=h;show(Y,λnd b3 A' cd s0 hr=>?_);let hu:=fw hr;let bs:Room 4 _:=hr;show(_,ag (dF Vz (PW.pt (jP (au nN (ai (pv 0) rfl) (aW aN (by rfl) T.cO U2 (aa (ai (pv 0) rfl) af)) (aB _))
   (jP (au nN (ai (pv 0) rfl) (pv 1) (aB _))
   (iM (au (B9 hr.units) (ai (pv 0) rfl) (aS af) (aB _))))))
   (ag (aE (bu (pv 0) T.aH T.Hs GS bs aq)))),?_)
 generalize a3:abv (n-s.steps) (av,s.store) s.steps=ab at k;generalize a4:(Wa (n-s.steps) (av,s.store)).map Gk=TF at k;show(λa0 D Z=>D=[Up (.ref r),Up (.int (n:Nat))]/\aM (ge r A) H Z/\∃E,b9 a Z r A I L E/\
  ((E.wrong=UH/\∃O,iT L E.at_ O/\aaj O=O/\↑E.touched<=E.steps/\E.steps<=n/\a0=(n-E.steps)+1/\abv (n-E.steps) (O,E.store) E.steps=ab/\s.touched++TF=E.touched++(Wa (n-E.steps) (O,E.store)).map Gk)\/
   (a0=0/\∃ww x,E.wrong=Up (DK ww,x)/\ab=(.wrong ww x,E.steps,E.store)/\E.touched=s.touched++TF)),
  (_,Y,λ_ _ e _=>e,s,R,.inl (hw,av,bt,bm,bd,bF,Y,a3,by rw[a4])),?_)
 rintro a0 D Z ⟨rfl,sx,E,R1,a1⟩;let(dx,pw,e1,ew,n1,n2):=R1.obj;let bk:↑(A.ls.map V.ref)=↑L:=by rw[Uq];show R.lines.1
 show(_,Y,r,_,dx,_,_,Y,e1,T.aH,T.eJ,Y,_,Y,r,_,dx,_,_,Y,e1,T.aH,T.dU,Y,A.pl,_,Y,.inl (bx.of R1.lst),_,_,Y,Y,_,Y,?_);rw[bk];let done:∀H2,(∀b o,Z b=Up o->H2 b=Up o)->(↑L<=E.at_\/n<=E.steps\/E.wrong≠UH)->Q .non H2:=by
  intro H2 x2 a6;let an:E.store=ab.store/\E.steps=ab.steps/\A_ L E ab.outcome/\E.touched=s.touched++TF:=by
   rcases a1 with⟨G,O,μ,c3,c4,c5,_,c7,c8⟩|⟨_,ww,xx,G,μ,c3⟩
   .cases O with
    |nil=>
     rw[Hc]at c7;rw[DW,Yu,VB]at c8;subst c7;show(Y,Y,(G,IB μ),c8.symm)
    |cons c t=>
     let bl:=μ.lt (E_ c3);let h0:n-E.steps=0:=by
      rcases a6 with z|z|z
      .omega
      .omega
      .show absurd G z
     rw[h0]at c7 c8;let a2:s.touched++TF=E.touched:=by rw[c8];show VB _
     subst c7;show(Y,Y,(G,bl),a2.symm)
   .subst μ;show(Y,Y,G,c3)
  show k H2 E (λb o e hb=>x2 _ _ (sx b o e hb)) (R1.ext x2) an.1 an.2.1 an.2.2.1 an.2.2.2
 by_cases hi:E.at_<↑L
 .show dq (decide_eq_true ⋯) (_,Y,r,_,dx,_,_,Y,e1,T.aH,T.eS,Y,_,Y,_,_,Y,Y,_,Y,?_);by_cases hs:E.steps<n
  .show dq (decide_eq_true ⋯) (_,Y,r,_,dx,_,_,Y,e1,T.aH,T.eR,Y,VN _,λq hq=>?_);let x4:∀b o,Z b=Up o->aw Z q (.lst []) b=Up o:=λb o e=>by rw[ah (ak e hq)];show e
   let R4:=R1.ext x4;show(_,_,xU (x4 _ _ ew),HS ae,ln _,Y,_,Y,?_);rw[tL];let ap:aM (ge r A) H (aw Z q (.lst [])):=λb o e hb=>x4 _ _ (sx b o e hb)
   generalize b4:aw Z q (.lst [])=H4 at x4 R4 ap⊢;rcases a1 with⟨G,O,μ,c3,c4,c5,rfl,c7,c8⟩|⟨rfl,ww,xx,G,μ,c3⟩
   .rw[G];show dq rfl (λσ' b2=>∃μ',μ'<n-E.steps+1/\_,λ_ _ z=>z,?_);cases O with
    |nil=>have:=IB μ;lia
    |cons c t=>
     let a5:c≠.done:=E_ c3;show(_,Y,r,dx,_,Y,x4 _ _ e1,Y,r,A,I,L,E,c,t,Y,R4,μ,a5,G,c4,⋯,hL,λww xx b0 H5 j ar R5=>?_,λd hd H5 j ar hj R5=>?_)
     .let(g1,g2):=JR b0 (n-E.steps-1) E.steps;rw[show n-E.steps-1+1=n-E.steps from Nat.sub_add_cancel (Nat.sub_pos_of_lt hs)]at g1 g2;show(0,⋯,Y,ap.trans ar,_,R5,.inr (Y,ww,xx,Y,?_,?_))
      .rw[<-c7,g1]
      .rw[c8,g2];rfl
     .let(g1,g2):=Qj hd (n-E.steps-1) E.steps;rw[show n-E.steps-1+1=n-E.steps from Nat.sub_add_cancel (Nat.sub_pos_of_lt hs)]at g1 g2;let cc:=t_ (c::t,E.store);show(n-E.steps,⋯,Y,ap.trans ar,_,R5,.inl (Y,d.todo,hj,Gp hd,?_,?_,?_,?_,?_))
      .change↑(E.touched++wn (c::t,E.store))<=E.steps+1;rw[Us];lia
      .change E.steps+1<=n;lia
      .show(Nat.sub_add_cancel (Nat.sub_pos_of_lt hs)).symm
      .change abv (n-(E.steps+1)) (d.todo,d.store) (E.steps+1)=ab;rw[show n-(E.steps+1)=n-E.steps-1 from rfl,<-c7,g1]
      .change s.touched++TF=E.touched++wn (c::t,E.store)++(Wa (n-(E.steps+1)) (d.todo,d.store)).map Gk;rw[c8,g2,Vj,show n-(E.steps+1)=n-E.steps-1 from rfl,UK]
       rfl
   .rw[G];show bh rfl (done _ x4 (.inr (.inr (by rw[G];intro z;cases z))))
  .show bh (decide_eq_false ⋯) (be (done _ (λ_ _ e=>e) (.inr (.inl ⋯))))
 .show bh (decide_eq_false ⋯) (be (done _ (λ_ _ e=>e) (.inl ⋯)))
end
end
def bn(H H':Hp):Prop:=∀b o,H b=Up o->H' b=Up o
def aC{H:Hp}(h:H p=UH):bn H (aw H p o):=λb u e=>by rw[ah (ak e h)];show e
def bn.trans(h:bn H D)(h':bn D E):bn H E:=λb o e=>h' b o (h b o e)
def js(H:Hp)(xs:List V)(Q:VK):Prop:=∀D p,bn H D->H p=UH->D p=Up (.lst xs)->Q (.ref p) D
def Na(w:abc):((DK w:Nat):Int)=acb w:=by cases w<;>rfl
section
inductive Ls(a:Ad)(c:List V)(H:Hp)(Q:VK)(d:XK):Prop|mk(r A b L s o:_)(_:c=[.ref r])(_:b9 a H r A b L s)(_:A_ L s o)(_:L.length<=5000)(_:js H ((Vasepa.outcomeRow o).map V.int) Q)
def lI(T:TX K U a):cf P w K U W cH 1 a.tJ ["self"] [] (Ls a):=by
 show T.KO.o2 ["self"] λvs H Q ap h=>?_
 let(r,A,I,L,s,o,rfl,R,he,hL,k):=h;show(Y,λnd ar A' a0 s0 hr=>?_);let hu:=fw hr;show(_,ac (aJ (au (jQ hr.units) (ai (pv 0) rfl) (aS af) (aB _))
   (ag (am (dE r9 (by rfl) T.Ck X0 (aa (ai (pv 0) rfl) af)))) ay)
  (ag (am (gy (au nN (ai (pv 0) rfl) (aW aN (by rfl) T.cO U2 (aa (ai (pv 0) rfl) af)) (aB _))
   (aS (aa (pg T.Jn) af)) (aS (aa (pg T.Pp) af))))),?_)
 iterate 2 skip
 let(G,pw,O,ew,n1,n2):=R.obj;show(_,Y,r,_,G,_,_,Y,O,T.aH,T.eR,Y,VN _,λq hq=>?_);let D:bn H (aw H q (.lst [])):=aC hq;show(_,_,xU (D _ _ ew),HS ae,ln _,Y,_,Y,?_);rw[tL];generalize av:aw H q (.lst [])=H4 at D⊢;let fr:∀p,H4 p=UH->H p=UH:=λp E=>by
  cases e:H p with
  |none=>rfl
  |some o=>rw[D _ _ e]at E;cases E
 cases o with
 |wrong ww xx=>
  let Z:s.wrong=Up (DK ww,xx):=he;rw[Z]at ew⊢;show dq rfl (_,Y,r,_,G,_,_,Y,D _ _ O,T.aH,T.eR,Y,pw,_,Y,.inl (bx.of (D _ _ ew)),λl hl=>?_);show k _ l (D.trans (aC hl)) (fr _ hl) ?_;rw[ae];change Up (HO.lst [.int 1,.int ((DK ww:Nat):Int),.int (xx:Nat)])=_;rw[Na];rfl
 |over=>
  obtain⟨Z,an⟩:s.wrong=UH/\s.at_=↑L:=he;let ab:↑(A.ls.map V.ref)=↑L:=by rw[Uq];show R.lines.1
  rw[Z];show bh rfl (_,Y,r,_,G,_,_,Y,D _ _ O,T.aH,T.eJ,Y,_,Y,r,_,G,_,_,Y,D _ _ O,T.aH,T.dU,Y,A.pl,_,Y,.inl (bx.of (D _ _ R.lst)),_,_,Y,Y,_,Y,?_);show bh (decide_eq_false (by rw[ab];lia)) (zl,λp E=>k _ p (D.trans (aC E)) (fr _ E) ae)
 |cut=>
  obtain⟨Z,an⟩:s.wrong=UH/\s.at_<↑L:=he;let ab:↑(A.ls.map V.ref)=↑L:=by rw[Uq];show R.lines.1
  rw[Z];show bh rfl (_,Y,r,_,G,_,_,Y,D _ _ O,T.aH,T.eJ,Y,_,Y,r,_,G,_,_,Y,D _ _ O,T.aH,T.dU,Y,A.pl,_,Y,.inl (bx.of (D _ _ R.lst)),_,_,Y,Y,_,Y,?_);show dq (decide_eq_true (by rw[ab];lia)) (zl,λp E=>k _ p (D.trans (aC E)) (fr _ E) ae)
end
section
open HM (aj)
def kZ{X:Cx}:iL X (.type "dict") (λxs H Q=>∃a Z,xs=[V.ref a]/\H a=Up (.dK Z)/\∀p,H p=UH->Q (.ref p) (aw H p (.dK Z))):=by
 intro O s D H xs us Q E r h;let(a,Z,rfl,e,q):=h;rw[bq.ref1 r];show MM E (.inl e) λp s' I G=>(.ref p,_,G,Y,q p I)
def bv.ext{st pn E:Uw}(S:bv a H st pn E I s)(x:bn H D):bv a D st pn E I s:=
 let(G,e):=S.obj;let(Z,O,V):=S.cel
 ((G,x _ _ e),x _ _ S.num,(Z,x _ _ O,V.keep λ_ _ e=>x _ _ e),S.ok)
structure gJ (a:Ad) (H:Hp) (pr pm pl:Addr) (ls:List Addr) (names:List (List Nat)) (L:List aj):Prop where
 obj: ∃dx,H pr=some (.ins a.bN dx [("names",.ref pm),("lines",.ref pl)])
 nml:H pm=some (.lst (names.map fun x=>V.str (S x)))
 lst:H pl=some (.lst (ls.map V.ref))
 lines:ls.length=L.length/\ ∀(i:Nat) x l,ls[i]?=some x->L[i]?=some l->du a H x names l
 nm:bj names
 lok: ∀l∈L,fM names.length l
 few:L.length<=5000
def gJ.ext(p:gJ a H O G pl E I L)(x:bn H D):gJ a D O G pl E I L:=
 let(V,e):=p.obj
 ((V,x _ _ e),x _ _ p.nml,x _ _ p.lst,(p.lines.1,λi y l Z h2=>let(d,e):=p.lines.2 i y l Z h2;(d,x _ _ e)),p.nm,p.lok,p.few)
section
inductive D9(C:Addr)(b:List V)(H:Hp)(Q:VK)(d:XK):Prop|mk(p a n c:_)(_:b=[.ref p,n,c])(_:H p=some (.ins C a []))(_:Q .non (aw H p (.ins C a [("numbers",n),("cells",c)])))
def jS(T:TX K U a):cf P w K U W cH 1 a.md ["self","numbers","cells"] [] (D9 a.cV):=by
 show T.Ds.o2 ["self","numbers","cells"] λvs H Q G h=>?_
 let(p,D,n,c,rfl,E,k):=h;show(Y,λV I A Z s O=>?_);show(_,ac (br (pv 0) (pv 1) rfl) (ag (br (pv 0) (pv 2) rfl)),?_)
 iterate 2 skip
 show(_,Y,_,Y,p,_,D,_,Y,E,T.aY,T.bD,zk,?_);show(_,Y,_,Y,p,_,D,_,Y,ae,T.aY,T.a_,zk,?_);rw[b_];show k
inductive Qb(a:Ad)(d:List V)(H:Hp)(Q:VK)(g:XK):Prop|mk(c e f b s:_)(_:d=[.ref c])(_:bv a H c e f b s)(_:∀H' st' pn' pc',bn H H'->H st'=none->H pn'=none->H pc'=none->pn'≠pc'->bv a H' st' pn' pc' b s->Q (.ref st') H')
def kM(T:TX K U a):cf P w K U W cH 3 a.iA ["store"] [] (Qb a):=by
 let GI:=jS T;show T.vo.o2 ["store"] λvs H Q a0 h=>?_
 let(st,pn,pc,I,s,rfl,R,k):=h;show(Y,λnd a1 A a3 s0 hr=>?_);show(_,ag (am (dS T.xg GI T.xH hr aq (aa (dE kZ (by rfl) T.xf Xa (aa (ai (pv 0) rfl) af)) (aa (dE kZ (by rfl) T.xf Xa (aa (ai (pv 0) rfl) af)) af)))),?_);let(dx,e):=R.obj;let(Z,e3,hc):=R.cel;show(_,Y,st,_,dx,_,_,Y,e,T.aY,T.bD,Y,pn,_,Y,R.num,λE h1=>?_);let x1:bn H (aw H E (.dK (dH I s.vals))):=aC h1;show(_,Y,st,_,dx,_,_,Y,x1 _ _ e,T.aY,T.a_,Y,pc,_,Y,x1 _ _ e3,λG h2=>?_);intro x O V ap a2;generalize an:aw (aw H E (.dK (dH I s.vals))) G (.dK Z)=D at V ap⊢;let x2:bn (aw H E (.dK (dH I s.vals))) D:=by rw[<-an];show aC h2
 let ab:bn H D:=x1.trans x2;let g1:D E=Up (.dK (dH I s.vals)):=x2 _ _ ae;let g2:D G=Up (.dK Z):=by rw[<-an,ae]
 let av:E≠G:=ak ae h2;let fr:∀p,D p=UH->H p=UH:=λp hp=>by
  cases e:H p with
  |none=>rfl
  |some o=>rw[ab _ _ e]at hp;cases hp
 show(x,O,_,_,Y,ae,Y,?_);let x3:bn D (aw (aw (aw D O (.own x)) x (.ins a.cV O [])) x (.ins a.cV O [("numbers",.ref E),("cells",.ref G)])):=λb o e=>by
  rw[ah (ak e V),ah (ak e V),ah (ak e ap)];show e
 let ar:H G=UH:=by
  cases e:H G with
  |none=>rfl
  |some o=>rw[x1 _ _ e]at h2;cases h2
 show k _ x E G (ab.trans x3) (fr _ V) h1 ar av ((O,ae),x3 _ _ g1,(Z,x3 _ _ g2,hc.keep λb xs e=>x3 _ _ (ab _ _ e)),R.ok)
end
end
section
open HM (aj iT)
open VasepBase (leave runFor)
def eh(p:Uw)(H D:Hp):Prop:=∀b o,H b=Up o->b≠p->D b=Up o
section
inductive JD(a:Ad)(e:List V)(H:Hp)(Q:VK)(l:XK):Prop|mk(p f c g h i b L d j k s:_)(_:e=[.ref p,.ref c,.ref d])(_:H p=some (.ins a.cy f []))(_:gJ a H c g h i b L)(_:bv a H d j k b s)(_:∀H' A,eh p H H'->H A.pn=none->H A.pc=none->H A.pt=none->b9 a H' p A b L ⟨0,0,s,[],none⟩->Q .non H')
def EK(T:TX K U a):cf P w K U W cH 4 a.qE ["self","program","store"] [] (JD a):=by
 let GC:=kM T;show T.Ih.o2 ["self","program","store"] λvs H Q ch h=>?_
 let(p,E,pr,pm,pl,ls,I,L,st,pn,pc,s,rfl,hp,O,SR,k):=h;show(Y,λnd cl A cm s0 hr=>?_);show(_,ac (br (pv 0) (ai (pv 1) rfl) rfl) (ac (br (pv 0) (aX GC T.mO hr aq (aa (pv 2) af)) rfl)
  (ac (br (pv 0) aF rfl) (ac (br (pv 0) aF rfl) (ac (br (pv 0) (aS af) rfl) (ag (br (pv 0) (aS af) rfl)))))),?_)
 iterate 6 skip
 let(dp,ep):=O.obj;let(ds,es):=SR.obj;show(_,Y,pr,_,dp,_,_,Y,ep,T.cM,T.gR,Y,_,Y,p,_,E,_,Y,hp,T.aH,T.dU,zk,?_);let bs:∀{b C d fs},H b=Up (.ins C d fs)->fs≠[]->b≠p:=λe hf z=>by
  rw[z,hp]at e;injection e with e;injection e with _ _ q;show hf q.symm
 let ar:∀{b o},H b=Up o->(∀C d fs,o≠.ins C d fs)->b≠p:=λe hf z=>by
  rw[z,hp]at e;show hf _ _ _ (UI e).symm
 generalize bl:aw H p (.ins a.cy E (ck "lines" (.ref pl) []))=H1;let x1:eh p H H1:=λb o e D=>by rw[<-bl,ah D];show e
 let e1:H1 p=Up (.ins a.cy E [("lines",.ref pl)]):=by rw[<-bl,ae];rfl
 let bk:∀b,H1 b=UH->H b=UH:=λb D=>by
  cases e:H b with
  |none=>rfl
  |some o=>
   by_cases q:b=p
   .rw[q,e1]at D;cases D
   .rw[x1 _ _ e q]at D;cases D
 let(Z,ec,hc):=SR.cel;let bt:bv a H1 st pn pc I s:=((ds,x1 _ _ es (bs es (by intro z;cases z))),x1 _ _ SR.num (ar SR.num (by intro _ _ _ z;cases z)),(Z,x1 _ _ ec (ar ec (by intro _ _ _ z;cases z)),hc.keep λb xs e=>x1 _ _ e (ar e (by intro _ _ _ z;cases z))),SR.ok);show(_,Y,st,pn,pc,I,s,Y,bt,λH2 a1 b4 b3 x2 f1 f2 f3 b0 an=>?_);show(_,Y,p,_,E,_,Y,x2 _ _ e1,T.aH,T.bc,zk,?_);show(_,Y,p,_,E,_,Y,ae,T.aH,T.eJ,zk,?_);show(_,Y,p,_,E,_,Y,ae,T.aH,T.eS,zk,?_);rw[b_,b_];generalize bm:aw H2 p _=H3;let x3:eh p H2 H3:=λb o e D=>by rw[<-bm,ah D];show e
 let e3:H3 p=Up (.ins a.cy E [("lines",.ref pl),("store",.ref a1),("at",.int 0),("steps",.int 0)]):=by rw[<-bm,ae];rfl
 show(VN _,λG ab=>(_,Y,p,_,E,_,Y,by rw[ah (ak e3 ab)];show e3,T.aH,T.fq,zk,?_));generalize a2:aw (aw H3 G (.lst [])) p _=H4;let x4:eh p H3 H4:=λb o e D=>by rw[<-a2,ah D,ah (ak e ab)];show e
 let av:G≠p:=λz=>by rw[z,e3]at ab;cases ab
 let g4:H4 G=Up (.lst []):=by rw[<-a2,ah av,ae]
 let e4:H4 p=Up (.ins a.cy E [("lines",.ref pl),("store",.ref a1),("at",.int 0),("steps",.int 0),("touched",.ref G)]):=by rw[<-a2,ae];rfl
 show(VN _,λq2 V=>(_,Y,p,_,E,_,Y,by rw[ah (ak e4 V)];show e4,T.aH,T.eR,zk,?_));generalize a3:aw (aw H4 q2 (.lst [])) p _=H5;change Q .non H5;let x5:eh p H4 H5:=λb o e D=>by rw[<-a3,ah D,ah (ak e V)];show e
 let b2:q2≠p:=λz=>by rw[z,e4]at V;cases V
 let g5:H5 q2=Up (.lst []):=by rw[<-a3,ah b2,ae]
 let e5:H5 p=Up (.ins a.cy E [("lines",.ref pl),("store",.ref a1),("at",.int 0),("steps",.int 0),("touched",.ref G),("wrong",.ref q2)]):=by rw[<-a3,ae];rfl
 let ap:eh p H2 H5:=λb o e D=>x5 _ _ (x4 _ _ (x3 _ _ e D) D) D
 let a6:eh p H H5:=λb o e D=>ap _ _ (x2 _ _ (x1 _ _ e D)) D
 let a5:∀{b o},H1 b=UH->H2 b=Up o->b≠p:=λD e z=>by rw[z,e1]at D;cases D
 let a4:H G=UH:=by
  cases e:H G with
  |none=>rfl
  |some o=>rw[x3 _ _ (x2 _ _ (x1 _ _ e av)) av]at ab;cases ab
 let a0:pl≠p:=ar O.lst (by intro _ _ _ z;cases z);let cc:G≠pl:=λz=>by rw[z,O.lst]at a4;cases a4
 let ce:q2≠G:=λz=>by rw[z,g4]at V;cases V
 let cd:q2≠pl:=λz=>by
  rw[z,x4 _ _ (x3 _ _ (x2 _ _ (x1 _ _ O.lst a0)) a0) a0]at V;cases V
 let(dt,et):=an.obj;let(b1,bd,bF):=an.cel;show k H5 (pl,ls,a1,b4,b3,G) a6 (bk _ f2) (bk _ f3) a4 ((E,q2,e5,g5,ce,cd),a6 _ _ O.lst a0,(O.lines.1,λi y l h1 h2=>?_),((dt,ap _ _ et (a5 f1 et)),ap _ _ an.num (a5 f2 an.num),(b1,ap _ _ bd (a5 f3 bd),bF.keep λb xs e=>ap _ _ e ?_),an.ok),x5 _ _ g4 av,O.nm,O.lok,by change 0<=0+1;decide,by change 0<=300;decide,cc,b0)
 .let(dy,ey):=O.lines.2 i y l h1 h2;show(dy,a6 _ _ ey (bs ey (by unfold lf;intro z;cases z)))
 .intro z;rw[z,x2 _ _ e1]at e;cases e
def Q4(a:Ad)(H:Hp)(I:List (List Nat))(L:List aj)(E:VasepBase.Ran)(G:List (Nat×Nat))(Q:VK):Prop:=
 ∀D r A s',bn H D->H r=UH->H A.pc=UH->b9 a D r A I L s'->s'.store=E.store->s'.steps=E.steps->A_ L s' E.outcome->s'.touched=G->Q (.ref r) D
inductive NA(a:Ad)(f:List V)(H:Hp)(Q:VK)(l:XK):Prop|mk(d g h i b c e j k s n:_)(_:f=[.ref d,.ref e,.int (n:Nat)])(_:n<=300)(_:gJ a H d g h i b (HM.flat 0 c))(_:bv a H e j k b s)(_:Q4 a H b (HM.flat 0 c) (runFor n ⟨leave [c],s⟩ 0) ((Vasepa.touchesFrom n ⟨leave [c],s⟩).map Gk) Q)
def JU(D:V2):iT (HM.flat 0 D) 0 (aaj [D]):=by
 by_cases h:D=.done
 .subst h;show iT.nil (L:=[])
 .rw[HM.leave_cons h];show HM.rep_start D
def kL(T:TX K U a):cf P w K U W cH 6 a.xO ["program","store","most"] [] (NA a):=by
 let GI:=EK T;let GG:=JZ T;show T.MT.o2 ["program","store","most","run"] λvs H Q av h=>?_
 let(pr,pm,pl,ls,I,E,st,pn,pc,s,n,rfl,hn,Z,SR,k):=h;show(Y,λnd a0 A a2 s0 hr=>?_);let an:Room 5 _:=hr;show(_,ac (aA (i:=3) nd rfl (UT rfl) (dS T.Qx GI T.QM hr aq (aa (pv 0) (aa (pv 1) af))))
  (ac (aE (bg (pv 3) T.aH T.Me GG an aq (aa (pv 2) af))) (ag (am (pv 3)))),?_)
 iterate 3 skip
 show(_,Y,_,Y,λx D O ab a1=>?_);let V:bn H (aw (aw H D (.own x)) x (.ins a.cy D [])):=λb o e=>by rw[ah (ak e O),ah (ak e ab)];show e
 show(x,D,pr,pm,pl,ls,I,HM.flat 0 E,st,pn,pc,s,Y,ae,Z.ext V,SR.ext V,λH2 A x2 f1 f2 f3 R2=>(Y,?_));let G:∀p,(aw (aw H D (.own x)) x (.ins a.cy D [])) p=UH->H p=UH:=λp hp=>by
  cases e:H p with
  |none=>rfl
  |some o=>rw[V _ _ e]at hp;cases hp
 let ar:bn H H2:=λb o e=>x2 _ _ (V _ _ e) (ak e O)
 let(d2,a3,e2,_):=R2.obj;show(_,Y,x,d2,_,Y,e2,Y,_,Y,x,A,I,HM.flat 0 E,_,n,aaj [E],Y,R2,JU E,jE _,Y,by change 0<=0;decide,VN _,hn,Z.few,λH3 s' ap R3 t1 t2 t3 t4=>?_);show(_,Y,k H3 x A s' (λb o e=>ap _ _ (ar _ _ e) ?_) O (G _ f2) R3 t1 t2 t3 (by rw[t4];rfl));rintro(z|z|z|z)
 .show ak e O z
 .show ak e (G _ f1) z
 .show ak e (G _ f2) z
 .show ak e (G _ f3) z
end
end
def IW:∀{l:List Uv}{D:List Int},↑l=↑D->(∀(j:Nat)v i,l[j]?=Up v->D[j]?=Up i->∃t,v=YR i t)->IntsAre l D
 |[],[],_,_=>.nil
 |v::l,i::D,G,h=>by
  let(t,rfl):=h 0 v i rfl rfl;show .cons i t (IW (by simpa using G) λj v i E h2=>h (j+1) v i (by simpa using E) (by simpa using h2))
 |[],_::_,h,_=>by simp at h
 |_::_,[],h,_=>by simp at h
inductive Ev(d:List V)(H:Hp)(Q:VK):Prop|mk(a:Addr)(b:List (bT×V))(c:List Int)(_:d=[V.ref a])(_:H a=some (.dK b))(_:b.map (·.1)=c.map Sum.inl)(_:c.length<64)(_:∀(ns':List Int) (p:Addr),ns'.Perm c->ns'.Pairwise (· <= ·)->H p=none->Q (.ref p) (aw H p (.lst (ns'.map V.int))))
def xX{X:Cx}(a6:X.calm=UB):iL X (.builtin "sorted") Ev:=by
 intro O s D H xs us Q G r h;let(a,Z,E,rfl,ha,bk,a4,q):=h;rw[bq.ref1 r];let(z,hd,vs,bl,dd):=pW G.hok ha;let(ep,a5):=dd.dictAt;let av:vs.map (·.1)=E.map UW:=by rw[<-bl.keys];show bk
 let a0:↑vs=↑E:=by simpa using congrArg Xc av
 show Calls.call_function_entry kind_sorted plain_sorted entry_sorted (args_sorted1 _) ?_;unfold Builtin.«sorted»;show UL (m:=checkCount "sorted" 1 1 _) (Vq ?_);show UL (PySem.W.kdu_collect (A:=X.A.in1) (PySem.W.kdl_dict (prog:=X.prog) (w:=X.w) (knd:=cD X.prog X.w) (kvs:=vs) (ep:=ep) hd) (G.ok.hd a6) a5 (by rw[a0,Ux];lia) λh' tk acc hk ar=>?_);let hl:↑acc.toList=↑E:=by rw[V8,ar.1,a0]
 show UL (wpAny_newList ?_ (by rw[hl,Ux];lia));let hI:IntsAre acc.toList E:=IW hl λj v i h1 h2=>by
  let(k,x,hx,bd):=ar.2 j v (by rw[<-Xo];show h1);let e1:(vs.map (·.1))[j]?=Up k:=by rw[UM,hx];rfl
  rw[av,UM,h2]at e1;cases UI e1;rcases dc (k:=UW i) (v:=v) bd with⟨i',t,I,rfl⟩|⟨y,t,I,rfl⟩
  .cases ZE I;show(t,Y)
  .cases I
 let an:(h'.push (seqObj "list" acc.toList.toArray 0)).get? h'.objs.size=Up (seqObj "list" acc.toList.toArray 0):=U5 _ rfl;change Vi _ _ _ _ _ {s with heap:=h'.push (seqObj "list" acc.toList.toArray 0),toks:=tk};show UL (aaw (Yr PyProof.Rows.slot_list_sort (_,an,Y) PyProof.Rows.entry_list_sort (list_sort_tree an hI (by rw[hl];show a4) λout ap a1 a2 a3=>(_,Y,?_)) (PyProof.Rows.args_list_sort _)));let(e,he):=PyProof.Rows.sortedHeap_at (vs:=acc.toList) (out:=out) an;let I1:=G.kept (h':=h') (t':=tk) hk;let hz:↑(ap.map V.int)<=U1:=by rw[Uq,a2.length_eq,Ux];lia
 show Vq (_,Y,.ref h'.objs.size,aw H h'.objs.size (.lst (ap.map V.int)),I1.laid (λb u ab=>?_) (UD _) (hz,out.toList,e,lg a1,he),Y,q ap _ a2 a3 (I1.hok.fresh (UD _)));rw[PyProof.Rows.sortedHeap_old (Vl (U4 ab)) (by rw[size_push'];show Y9 (U4 ab))];show UG _ ab
def Cv(l:Uw)(items:Array Uv)(n:Nat)(b:Uw)(o:W2)(D:Array Uv)(n2:Nat)(Z:¬(!items.isEmpty&&WR (items.size+D.size))=UB)(I:items.size<=U1)(h2:items.size+D.size<=U1)(O:o.cls=.type "tuple")(V:o.data=.seq D n2):
  Meets (Builtin.«list.extend» ([.ref l,.ref b],[])) (λ_ R s=>s.heap.get? l=Up {cls:=.type "list",data:=.seq items n}/\s.heap.get? b=Up o/\
   R (.ok (.ret WL)) {s with heap:=s.heap.update l (aab λx=>x++D),toks:=s.toks}):=by
 intro prog w A R s h;let(G,E,h):=h;unfold Builtin.«list.extend»;show UL (Vq ?_);change Vi _ _ (ZY (.ref l) (.ref b) .none) _ _ s;unfold ZY;show UL (wpAny_typeOf (T:="tuple") (o,E,O) ?_);let ht:(Yn "tuple"==Yn "tuple")=UB:=by rfl
 rw[ifp (by rw[ht];simp)];show UL (listItems_at E V ?_);show UL (listItems_at G rfl ?_);rw[ifn Z];show UL (listUpdate_at G rfl ?_ I (by rw[acU];lia));show Vq h
inductive LR(K:PySem.W.Frag)(x:V)(d:List V)(H:Hp)(Q:VK):Prop|mk(l b a c:_)(_:x=.ref l)(_:d=[.ref b])(_:H l=some (.lst a))(_:gK K H b c)(_:a.length+c.length<=sizeLine)(_:Q .non (aw H l (.lst (a++c))))
def qu{X:Cx}:OL X "list.extend" (LR X.K):=by
 intro O s D H x vs v us Q I rx rv h;let(l,b,xs,zs,rfl,rfl,V,hB,hz,q):=h;cases rx;let(u,rfl,ru):=rv.one;cases ru;let(z,E,n,r,hl,e):=I.lstM V;let(G,r2,((an,dd,ap,sl),e2,Z,n2,hd),z2):=I.tuple hB;simp only at Z hd;subst Z hd;let ar:=↑r2;let hsz:E.toArray.size+G.toArray.size<=U1:=by rw[UX,UX];lia
 let ab:¬(!E.toArray.isEmpty&&WR (E.toArray.size+G.toArray.size))=UB:=by
  rw[EQ hsz,Xl];show Ur
 show acg VZ (_,e,Y) abW (abH _ _)
  (Cv l E.toArray n b _ G.toArray n2 ab (by rw[UX];lia) hsz rfl rfl) (e,e2,?_)
 show(.non,_,I.lset (its':=E++G) V e (by simp) (r.append r2) ?_,Y,q);rw[Us];lia
section
open HM (aL)
open VasepBase (heapData)
def qe:∀{xs ys:List Int},xs.Perm ys->xs.Pairwise (· <= ·)->ys.Pairwise (· <= ·)->xs=ys:=by
 intro xs
 induction xs with
 |nil=>intro ys p _ _;show(List.nil_perm.mp p).symm
 |cons x xs G=>
  intro ys p D E;cases ys with
  |nil=>show absurd p.symm (by simp)
  |cons y ys=>
   let(V,Z):=Vg.mp D;let(y1,y2):=Vg.mp E;let e:x=y:=by
    let I:x∈y::ys:=p.mem_iff.mp UU;let O:y∈x::xs:=p.mem_iff.mpr UU;rcases UP.mp I with z|z
    .show z
    .rcases UP.mp O with q|q
     .show q.symm
     .have:=V y q;have:=y1 x z;lia
   subst e;rw[G (p.cons_inv) Z y2]
def Fk:bT->Int
 |.inl i=>i
 |.inr _=>0
def bz.ints{Z:List (bT×V)}{h:Uu}(C:bz H Z h):Z.map (·.1)=((Z.map (·.1)).map Fk).map UW/\((Z.map (·.1)).map Fk).Perm (h.map λc=>(c.at_:Int)):=by
 show(?_,?_)
 .rw[VA]
  conv=>lhs;rw[<-adh (Z.map (·.1))]
  show WD λk D=>?_
  let(c,_,e):=U6.mp (C.keys.mem_iff.mp D);rw[<-e];rfl
 .let e:(h.map λc=>(c.at_:Int))=(h.map λc=>(UW (c.at_:Int):bT)).map Fk:=by rw[VA];rfl
  rw[e];show C.keys.map Fk
def ug{h:Uu}(D:aL h):(h.map λc=>(c.at_:Int)).Pairwise (· <= ·):=by
 rw[Za];show D.imp λq=>⋯
section
inductive JG(c:List V)(H:Hp)(Q:VK)(d:XK):Prop|mk(b a h:_)(_:c=[.ref b])(_:H b=some (.dK a))(_:bz H a h)(_:aL h)(_:HM.Bounds h)(_:js H ((heapData h).map V.int) Q)
def nR(T:TX K U a):cf P w K U W cH 1 a.j4 ["cells"] [] JG:=by
 show T.zQ.o2 ["cells","answer","address"] λvs H Q av h=>?_
 let(I,Z,h,rfl,e,C,up,bd,k):=h;show(Y,λnd a0 A a2 s0 hr=>?_);let hu:=fw hr;show(_,ac (aA (i:=1) nd rfl (UT rfl) (aS (aa (aW KJ (by rfl) T.cO U2 (aa (pv 0) af)) af)))
  (ac (lu Vz rfl (fW (aW (xX rfl) (by rfl) T.xc YF (aa (pv 0) af))) (cQ (i:=2) nd rfl (UT rfl))
   (ac (aE (ej UQ U8 Va cn (pv 1) (aa (pv 2) af)))
   (ag (aE (ej UQ VZ Wl qu (pv 1) (aa (iO hu (pv 0) (pv 2) (λ_ _=>rfl)) af))))))
  (ag (am (pv 1)))),?_)
 iterate 3 skip
 let hh:=dM up bd;let(i1,i2):=C.ints;let an:↑Z=↑h:=by simpa using C.keys.length_eq
 show(_,Y,I,Z,Y,e,zl,λp hp=>?_);let x1:bn H (aw H p (.lst [.int (↑Z:Nat)])):=aC hp;show(_,Y,I,Z,_,Y,x1 _ _ e,i1,by rw[Uq,Uq];lia,λns q pm ar hq=>?_);let ap:ns=h.map λc=>(c.at_:Int):=qe (pm.trans i2) ar (ug up)
 subst ap;let ab:p≠q:=ak ae hq;show(q,Y,(_,bx.of ae),?_);show xN (xs:=(h.map λc=>(c.at_:Int)).map V.int) (λi D E=>TN λv=>Sw (D=[Up (.ref I),Up (.ref p),v]) (bn H E) (E q=Up (.lst ((h.map λc=>(c.at_:Int)).map V.int))) (E p=Up (.lst (.int (↑h:Nat)::((h.take i).flatMap λc=>[(c.at_:Int),(c.next:Int),(c.data:Int)]).map V.int))))
  (_,Y,x1.trans (aC hq),ae,by rw[ah ab,ae,an];rfl) (λi D E _ (_,_,_,z,_)=>bx.of z) ?_ ?_
 .rintro i y D E G ⟨v,rfl,y1,y2,O⟩;obtain⟨c,hc,rfl⟩:∃c,h[i]?=Up c/\y=V.int (c.at_:Int):=by
   rw[UM,UM]at G;cases e:h[i]? with
   |none=>rw[e]at G;cases G
   |some c=>rw[e]at G;show(c,Y,(UI G).symm)
  let(t,v1,v2):=C.vals c (U3 hc);let a1:↑((h.take i).flatMap λc=>[(c.at_:Int),(c.next:Int),(c.data:Int)])<=36:=by
   have:∀l:List ZC,↑(l.flatMap λc=>[(c.at_:Int),(c.next:Int),(c.data:Int)])=3*↑l:=λl=>by
    induction l with
    |nil=>rfl
    |cons x l ih=>rw[XA,Us,ih,Ut];simp;lia
   rw[this,VL];lia
  let y4:∀xs,bn H (aw E p (.lst xs)):=λxs b o e=>by rw[ah (ak e hp)];show y1 _ _ e
  show(_,Y,.inl (Y,_,bx.of O),_,Y,p,_,_,Y,Y,O,by rw[Ut,Uq,Ux];lia,?_);let hd:∀xs,fP (aw E p (.lst xs)) I (kV (UW (c.at_:Int))) (Up (.ref t)):=λxs=>by
   have:=fP.k (k:=UW (c.at_:Int)) (y4 xs _ _ e);rw[v1]at this;show this
  show(_,Y,.inl (Y,_,bx.of ae),_,Y,_,Y,I,_,Y,hd _,p,t,_,_,Y,Y,ae,gK.of (y4 _ _ _ v2),?_,?_)
  .rw[Us,Ut,Uq,Ux];simp only[Ut,Vr];lia
  .rw[b_];show(_,Y,y4 _,by rw[ah ab.symm];show y2,?_);rw[ae];have:h.take (i+1)=h.take i++[c]:=by rw[Wz,hc];rfl
   rw[this,ab1,Vj];simp
 .rintro D E ⟨v,rfl,y1,y2,O⟩;rw[Uq,Uq,WO]at O;show(_,Y,k E p y1 hp O)
end
end
section
open HM (aL)
open VasepBase (heapData storeData)
section
inductive Gu(a:Ad)(e:List V)(H:Hp)(Q:VK)(h:XK):Prop|mk(c f g d b s:_)(_:e=[.ref c,.ref d])(_:bv a H c f g b s)(_:bj b)(_:H d=some (.lst (b.map fun x=>V.str (S x))))(_:js H ((storeData s).map V.int) Q)
def lQ(G:aL h)(D:HM.Bounds h):↑(heapData h)<=37:=by
 unfold heapData;have:∀l:List ZC,↑(l.flatMap λc=>[(c.at_:Int),(c.next:Int),(c.data:Int)])=3*↑l:=λl=>by
  induction l with
  |nil=>rfl
  |cons x l E=>rw[XA,Us,E,Ut];simp;lia
 let I:=dM G D;rw[Ut,this];lia
def uS(T:TX K U a):cf P w K U W cH 2 a.je ["store","names"] [] (Gu a):=by
 let GH:=nR T;show T.yd.o2 ["store","names","name"] λvs H Q ar h=>?_
 let(st,pn,pc,pm,I,s,rfl,R,N,hm,k):=h;show(Y,λnd av A a0 s0 hr=>?_);let hu:=fw hr;show(_,ag (am (bI lC (nL (own:=[("name",2)]) (te:=Iu (Bo K (bJ 0) "numbers") (bJ 2)) rfl nd (fW (pv 1)) (show il ["store","names","name"] (aP nA) _ [("name",2)]from K0 ())
   (λ_ _ _ _ _=>cQ (i:=2) nd rfl (UT rfl)) (λ_ _ _ _ _=>gv) (λ_ _ _ _ _=>iO hu (ai (pv 0) rfl) (pv 2) (λ_ _=>rfl)))
   (aX GH T.pT hr aq (aa (ai (pv 0) rfl) af)))),?_)
 let(dx,e):=R.obj;let(Z,e3,hc):=R.cel;let an:=R.ok.len;unfold mV F8;show Ms ET (_,Y,pm,_,Y,bx.of hm,λab hD=>(λi E=>bn H E/\E ab=Up (.lst ((s.vals.take i).map λv=>V.int (v:Nat))),(aC hD,ae),λi E _ q=>bx.of (q.1 _ _ hm),?_,?_))
 .rintro i y E G ⟨D,O⟩;obtain⟨x,hx,rfl⟩:∃x,I[i]?=Up x/\y=V.str (S x):=by
   rw[UM]at G;cases e:I[i]? with
   |none=>rw[e]at G;cases G
   |some c=>rw[e]at G;show(c,Y,(UI G).symm)
  let ap:=(UO.mp hx).1;let hv:s.vals[i]?=Up s.vals[i]:=UC (by rw[an];show ap);let hd:=fP.k (k:=WV (S x)) (D _ _ R.num);rw[kO N.nd hx hv]at hd;show(Y,?_);simp only[Bm,if_true];show(_,Y,st,_,dx,_,_,Y,D _ _ e,T.aY,T.bD,Y,_,Y,pn,_,Y,hd,_,O,?_,λb u e=>by rw[ah (ak e hD)];show D b u e,?_)
  .have:=N.few;rw[Uq,VL,Ux];lia
  .rw[ae];have:s.vals.take (i+1)=s.vals.take i++[s.vals[i]]:=by rw[Wz,hv];rfl
   rw[this,Vj]
   rfl
 .rintro E ⟨D,O⟩;rw[Uq,<-an,WO]at O;show(_,Y,st,_,dx,_,_,Y,D _ _ e,T.aY,T.a_,Y,pc,Z,s.heap,Y,D _ _ e3,hc.keep λb xs e=>D _ _ e,R.ok.up,R.ok.bd,λH2 p2 x2 f2 e2=>?_);show(ab,p2,_,_,Y,Y,x2 _ _ O,e2,?_,λp hp=>?_)
  .have:=lQ R.ok.up R.ok.bd;have:=N.few;rw[Uq,Uq,Ux];lia
  .let f0:H p=UH:=by
    cases e:H p with
    |none=>rfl
    |some o=>rw[x2 _ _ (D _ _ e)]at hp;cases hp
   show k _ p ((D.trans x2).trans (aC hp)) f0 ?_;rw[ae];unfold acY;rw[Vj,VA]
   rfl
end
end
section
open HM (eZ cE fu iI cG)
open VasepBase (readProgram)
set_option tactic.hygienic true in
def Ln{st V:HM.PS}(O:eZ st.ts)(e:cG I st=.ok V):↑V.lines+↑V.ts<=↑st.lines+↑st.ts:=by
 unfold cG at e;split at e
 .rename_i start op h1 h2;let G:=(O.sign h1).2;unfold fu at e;split at e
  .let(q,D,E):=HM.map_ok e;let(_,rfl):=HM.want_of D;subst E;simp only[wA,Us,Vx,Ut,Vr]at G⊢;lia
  .cases e;unfold cE;simp only[wA,Us,Vx,Ut,Vr]at G⊢;split<;>(try rw[Wt])<;>lia
 .split at e
  .rename_i h;let G:eZ (st.ts.drop 1)/\↑(st.ts.drop 1)+1=↑st.ts:=by
    rcases Wn _ _▸h with z|z
    .show O.word z
    .show O.word z
   unfold iI at e;split at e
   .cases e
   .let((c,r),D,E):=HM.bind_ok e;let(q,e3,e4):=HM.map_ok E;let(_,rfl):=HM.want_of e3;let Z:=(HM.lt_cond G.1 D).2;subst e4;simp only[Us,Vx,Ut,Vr]at G Z⊢;lia
  .let((l,r),D,E):=HM.map_ok e;let Z:=(HM.lt_plain O D).1.2;subst E;simp only[Us,Ut,Vr];lia
def b7.fresh{H E:Hp}{M:Uw->Prop}(h:b7 a H (λ_=>False) f D)(x:bn H E)(hM:∀b,M b->H b=UH):b7 a E M f D:=λI O G (e,d,g,V,Z,e3,e4)=>
 h I O G (e,d,g,V,Z,e3,λb o q _=>e4 b o (x b o q) (λm=>by rw[hM b m]at q;cases q))
def bn.free{H D:Hp}(x:bn H D)(h:D p=UH):H p=UH:=by
 cases e:H p with
 |none=>rfl
 |some o=>rw[x _ _ e]at h;cases h
def aM.ext{M:Uw->Prop}{H D E:Hp}(s:aM M D E)(x:bn H D)(G:∀b,M b->H b=UH):bn H E:=λb o q=>s b o (x b o q) (λm=>by rw[G b m]at q;cases q)
section
inductive Gy(C:Addr)(b:List V)(H:Hp)(Q:VK)(d:XK):Prop|mk(p a n c:_)(_:b=[.ref p,n,c])(_:H p=some (.ins C a []))(_:Q .non (aw H p (.ins C a [("names",n),("lines",c)])))
def mI(T:TX K U a):cf P w K U W cH 1 a.jk ["self","names","lines"] [] (Gy a.bN):=by
 show T.yj.o2 ["self","names","lines"] λvs H Q G h=>?_
 let(p,D,n,c,rfl,E,k):=h;show(Y,λV I A Z s O=>?_);show(_,ac (br (pv 0) (pv 1) rfl) (ag (br (pv 0) (pv 2) rfl)),?_)
 iterate 2 skip
 show(_,Y,_,Y,p,_,D,_,Y,E,T.cM,T.bV,zk,?_);show(_,Y,_,Y,p,_,D,_,Y,ae,T.cM,T.gR,zk,?_);rw[b_];show k
inductive Gw(K:PySem.W.Frag)(a:Ad)(b:List V)(H:Hp)(Q:VK)(E:XK):Prop|mk(l:Addr)(t:List Nat)(_:b=[.ref l])(_:bx K H l (t.map fun(c:Nat)=>V.int (c:Int)))(_:t.length<=4096)(_:∀p,readProgram t=.ok p-> ∀H' pr pm pl ls,bn H H'->H pr=none->H pm=none->H pl=none->gJ a H' pr pm pl ls p.names (HM.flat 0 p.body)->Q (.ref pr) H')(_:∀g,readProgram t=.error g->b7 a H (fun _=>False) g E)
def uT(T:TX K U a):cf P w K U W (jL P w) 9 a.jf ["text"] [] (Gw K a):=by
 let GT:=nO T;let GI:=nW T;let GN:=zf T;let GE:=Ar T;let GL:=Ca T;let GP:=mI T;show T.ye.oX2 ["text","reader","lines","opened"] λvs H Q a4 h=>?_
 let(l,t,rfl,hl,hz,k1,k2):=h;show(Y,λnd c0 A' c2 s0 hr=>?_);let bF:Room 5 _:=hr.mono ();let a1:Room 2 _:=hr.mono ();show(_,ac (aA (i:=1) nd rfl (UT rfl) (dS T.Av GI T.AF a1 aq (aa (aX GT T.pQ bF aq (aa (pv 0) af)) (aa (aS af) af))))
  (ac (aE (aX GN T.CW bF bw (aa (pv 1) af)))
  (ac (aA (i:=2) nd rfl (UT rfl) (aS af))
  (ac (aA (i:=3) nd rfl (UT rfl) (aS af))
  (ac (dF N5 (wO (au (jQ hr.units) (pv 3) (aS af) (aB _)) (sJ (i6 (cB (bu (pv 1) T.ao T.i9 GE a1 aq))))).pt
   (ag (aE (aX GL T.Fx hr bw (aa (pv 1) (aa (pv 2) (aa (pv 3) af)))))))
  (ag (am (dS T.xh GP T.xI a1 aq (aa (ai (pv 1) rfl) (aa (pv 2) af))))))))),?_)
 iterate 6 skip
 show(_,Y,l,t,Y,hl,⋯,λH1 pt as x1 f1 e1 cL=>?_);show(zl,λpn av=>λx μ hx bm cm=>(x,μ,_,_,Y,ae,Y,?_));let x2:bn H1 (aw H1 pn (.lst [])):=aC av;generalize cc:aw H1 pn (.lst [])=H2 at x2 hx bm⊢;let g2:H2 pn=Up (.lst []):=by rw[<-cc,ae]
 let x3:bn H2 (aw (aw (aw H2 μ (.own x)) x (.ins a.aQ μ [])) x (.ins a.aQ μ (rf pt pn 0))):=bK (C:=a.aQ) hx bm;let cs:pn≠pt:=λz=>by rw[z,e1]at av;cases av
 let A3:At a (aw (aw (aw H2 μ (.own x)) x (.ins a.aQ μ [])) x (.ins a.aQ μ (rf pt pn 0))) (x,pt,pn,as,VC t) (VC t) []:=
  F2 ae (x3 _ _ (x2 _ _ e1)) (eE.same cL λb o e=>x3 _ _ (x2 _ _ e)) (x3 _ _ g2) ⋯
 generalize hX:RX.mk x pt pn as (VC t)=X at A3;let bl:X.r=x:=by rw[<-hX]
 let ce:X.pt=pt:=by rw[<-hX]
 let bk:X.pn=pn:=by rw[<-hX]
 let cd:X.all=VC t:=by rw[<-hX]
 let b2:bn H1 _:=x2.trans x3;let a2:bn H _:=bn.trans x1 b2;generalize aw (aw (aw H2 μ (.own x)) x (.ins a.aQ μ [])) x (.ins a.aQ μ (rf pt pn 0))=H3 at A3 b2 a2⊢;let fx:H X.r=UH:=by rw[bl];show bn.free x1 (x2.free hx)
 let fn:H X.pn=UH:=by rw[bk];show bn.free x1 av
 let mN:∀b,NM X b->H b=UH:=λb z=>z.elim (λz=>z▸fx) λz=>z▸fn
 rw[<-bl];show(_,Y,X,_,Y,A3,by rw[bk,ce];show cs,λI q hq H4 s4 A4 N4=>?_,λg hg=>?_)
 .let a3:bn H H4:=s4.ext a2 mN;show(zl,λpl ar=>(zl,λV an=>?_));let x5:bn H4 (aw H4 pl (.lst [])):=aC ar;let x6:bn (aw H4 pl (.lst [])) (aw (aw H4 pl (.lst [])) V (.lst [])):=aC an;let b3:=x5.trans x6;let A6:=A4.same b3;let bd:H pl=UH:=a3.free ar;let b4:H V=UH:=a3.free (x5.free an);let cx:∀b,(b=X.pt\/b=X.pn)->∃o,H4 b=Up o:=λb E=>by
   rcases E with z|z
   .let(n,_,R):=A4.ex;show(_,z▸R.toks)
   .show(_,z▸A4.nml)
  let nb:∀b c,H4 b=UH->(c=X.pt\/c=X.pn)->b≠c:=λb c E hc z=>by
   let(o,e):=cx c hc;rw[z,e]at E;cases E
  let S6:LS a (aw (aw H4 pl (.lst [])) V (.lst [])) X I pl V [] [] []:=(x6 _ _ ae,(Y,λi y l h=>by simp at h),abJ,ae,ak ae an,
   ((nb _ _ ar (.inl rfl),nb _ _ ar (.inr rfl)),nb _ _ (x5.free an) (.inl rfl),nb _ _ (x5.free an) (.inr rfl)),λl h=>by simp at h)
  let b1:bn H _:=a3.trans b3;generalize aw (aw H4 pl (.lst [])) V (.lst [])=H6 at A6 S6 b1;let(n0,bs):=HM.body_res I q A4.wf;generalize G:((Xr I ZD q).bind λb=>if Xh b.2 then Xv (HM.PS.mk b.2 (HM.flat 0 b.1) [])else .error (W5 b.2))=R0 at bs;let b0:YM t=((Xr I ZD q).bind λb=>if Xh b.2 then Xv {names:=I,body:=b.1}else .error (W5 b.2)):=by
   let(v,e1,e2):=HM.bind_ok hq;unfold YM;rw[e1];change(X7 abd [] v).bind _=_;rw[e2]
   rfl
  let cl:↑q<=4097:=by
   let h1:=A4.len;rw[cd]at h1;have:=HM.tokens_len t;lia
  show(λab D Z=>∃st ls,D=[Up (.ref l),Up (.ref X.r),Up (.ref pl),Up (.ref V)]/\HM.loopP I ab st=Up R0/\bn H Z/\At a Z X st.ts I/\LS a Z X I pl V ls st.lines st.op/\iU st.lines st.op/\(∀y∈ls,H y=UH)/\↑st.lines+↑st.ts<=4097,
   (n0,(q,[],[]),[],Y,bs,b1,A6,S6,(λi h=>by simp at h,List.Pairwise.nil),λy h=>by simp at h,by simpa using cl),?_)
  rintro ab D Z ⟨st,ls,rfl,O,x7,A7,S7,O7,a6,c1⟩;show(_,Y,zl,λp hp=>?_);let s8:bn Z (aw Z p (.lst [])):=aC hp;let h8:=s8 _ _ S7.opn;rw[EC]at h8;show(_,_,fG (bx.of h8),jq ae,eF _,Y,_,Y,?_);rw[C9];let A8:=A7.same s8;let S8:=S7.same s8;let x8:=x7.trans s8;generalize aw Z p (.lst [])=H8 at s8 A8 S8 x8 h8;let mL:∀b,LM X pl V ls b->H b=UH:=λb z=>by
   rcases z with z|z|z|z
   .show z▸fx
   .show z▸bd
   .show z▸b4
   .show a6 b z
  let body:HM.finalP st=false->nu (mD (JI K a (λ_ _=>True) cG) [] a4 (bG (bJ 1) (bG (bJ 2) (bG (bJ 3) b8))))
    {nx:=λσ' Z=>∃μ',μ'<ab/\∃st ls,σ'=[Up (.ref l),Up (.ref X.r),Up (.ref pl),Up (.ref V)]/\HM.loopP I μ' st=Up R0/\bn H Z/\At a Z X st.ts I/\LS a Z X I pl V ls st.lines st.op/\iU st.lines st.op/\(∀y∈ls,H y=UH)/\↑st.lines+↑st.ts<=4097,rt:=Q} [Up (.ref l),Up (.ref X.r),Up (.ref pl),Up (.ref V)] H8:=λap=>by
   show(_,Y,_,Y,_,Y,X,st.ts,I,pl,V,ls,st.lines,st.op,Y,A8,S8,O7,N4,trivial,⋯,?_);change gq a X I _ H8 (cG I st) _ a4;cases ab with
   |zero=>unfold HM.loopP at O;rw[ap]at O;cases O
   |succ ab=>
    unfold HM.loopP at O;rw[ap]at O;cases hm:cG I st with
    |error g=>
     rw[hm]at O;let O:Z0 g=R0:=UI O;show b7.fresh (k2 g ?_) x8 mL;rw[<-O]at G;rw[b0];cases E:Xr I ZD q with
     |error g'=>rw[E]at G;cases G;rfl
     |ok b=>
      rw[E]at G;let G:(if Xh b.2 then Xv (HM.PS.mk b.2 (HM.flat 0 b.1) [])else Z0 (W5 b.2))=Z0 g:=G;change(if Xh b.2 then _ else _)=_;cases ho:Xh b.2 with
      |true=>rw[ifp ho]at G;cases G
      |false=>rw[ho,ifn Ur]at G;cases G;rfl
    |ok ct=>
     rw[hm]at O;let hs:=Ln A8.wf hm;show λH9 s9 A9 cq S9 O9 f9=>(ab,VW _,ct,cq,Y,O,s9.ext x8 mL,A9,S9,O9,λy hy=>(f9 y hy).elim (a6 y) λz=>x8.free z,⋯)
  cases bt:st.op with
  |cons i op=>
   let e2:(!(Zb WM ((i::op).reverse.map λn=>((n:Nat):Int))).isEmpty)=UB:=by simp
   rw[e2];show bf (bf (_,λ_ _ h=>h,body (by unfold HM.finalP;rw[bt];rfl)))
  |nil=>
   let(a5,n8,o8):=A8.obj;show be (_,Y,X.r,a5,_,Y,o8,Y,X,st.ts,I,Y,A8,_,Y,?_);cases ho:Xh st.ts with
   |false=>show bf (_,λ_ _ h=>h,body (by unfold HM.finalP;rw[ho,Xl]))
   |true=>
    let ap:HM.finalP st=UB:=by unfold HM.finalP;rw[bt,ho];rfl
    let cp:R0=.ok st:=HM.Res.final (ab,O) ap;rw[cp]at G;let(b,e1,e2):=HM.bind_ok G;let E:Xh b.2=UB/\st=(b.2,HM.flat 0 b.1,[]):=by
     cases E:Xh b.2 with
     |true=>rw[ifp E]at e2;cases e2;show(Y,Y)
     |false=>rw[E,ifn Ur]at e2;cases e2
    let co:YM t=.ok {names:=I,body:=b.1}:=by
     rw[b0,e1];change(if Xh b.2 then _ else _)=_;rw[ifp E.1]
    let a0:st.lines=HM.flat 0 b.1:=by rw[E.2]
    show be (_,Y,X.r,_,a5,_,_,Y,o8,T.ao,T.dQ,Y,_,Y,λy dy hy ch cm=>(y,dy,_,_,Y,ae,Y,?_));let x9:bn H8 (aw (aw (aw H8 dy (.own y)) y (.ins a.bN dy [])) y (.ins a.bN dy [("names",.ref X.pn),("lines",.ref pl)])):=bK (C:=a.bN) hy ch;let S9:=S8.same x9;show k1 _ co _ y X.pn pl ls (x8.trans x9) (x8.free hy) fn bd ((dy,ae),x9 _ _ A8.nml,S9.lst,by rw[<-a0];show S9.lines,N4,by rw[<-a0];show S9.lok,by rw[<-a0];lia)
 .show b7.fresh (k2 g ?_) a2 mN;unfold YM;cases hv:Xs "vars" (VC t)with
  |error g'=>rw[hv]at hg;cases hg;rfl
  |ok v=>
   rw[hv]at hg;let hg:X7 abd [] v=.error g:=hg;change(X7 abd [] v).bind _=_;rw[hg]
   rfl
end
end
section
variable {X:Cx}
inductive LQ(K:PySem.W.Frag)(c:List V)(H:Hp)(Q:VK):Prop|mk(a:Addr)(b:List Int)(_:c=[V.ref a])(_:bx K H a (b.map V.int))(_:∀(ns':List Int) (p:Addr),ns'.Perm b->ns'.Pairwise (· <= ·)->H p=none->Q (.ref p) (aw H p (.lst (ns'.map V.int))))
def HV:iL X (.builtin "sorted") (LQ X.K):=by
 intro O s D H vs us Q E r h;let(a,ns,rfl,hs,q):=h;let(ap,rv,hl,G):=E.list hs;rw[bq.ref1 r];let Z:=rv.ints;rw[Uq]at G;show PyProof.Rows.sorted_intsAny hl.isList Z (by rw[↑Z];show G) λout I h1 h2 h3=>?_
 let(ep,ab):=PyProof.Rows.sortedAll_at s.heap ap out;let an:↑(I.map V.int)<=U1:=by rw[Uq,h2.length_eq];show G
 show(.ref _,aw H (s.heap.objs.size+1) (.lst (I.map V.int)),E.laid (t':=s.toks) (λ_ _=>PyProof.Rows.sortedAll_old) (XS _) (an,out.toList,ep,lg h1,ab),Y,q I _ h2 h3 (E.hok.fresh (XS _)))
inductive LP(x:V)(e:List V)(H:Hp)(Q:VK):Prop|mk(a b c d:_)(_:x=.ref a)(_:e=[.ref b])(_:H a=some (.dK c))(_:H b=some (.dK d))(_:a≠b)(_:c.length+d.length<=sizeLine)(_:Q .non (aw H a (.dK (lJ c d))))
def Ho:OL X "dict.update" LP:=by
 intro O s D H x vs v us Q E rx rv h;let(a,b,ka,kb,rfl,rfl,V,hb,an,Z,q):=h;cases rx;rw[bq.ref1 rv];let(za,da,va,ra,I):=pW E.hok V;let(zb,db,vb,rb,ab):=pW E.hok hb;show call_meetsIn aaA I.typeIs PySem.F.entry_dict_update (PySem.F.args_dict_update_2 _ _) (meets_dict_update (cD X.prog X.w) a b an db)
  (va,vb,I,ab,by rw[<-↑ra,<-↑rb];show Z,λh' G _ hs=>?_)
 let he:∃q,h'.get? a=Up q:=let(q,_,_,hq,_):=G;(q,hq);show(.non,_,rY (t':=s.toks) E (by rw[V];show Ww) hs he (xV (Vm (jT _ _) Z) da (KV.merge rb ra) G),Y,q)
def DN(v d:Uw):HO:=.ext λh=>h.IsValuesView v d
inductive NP(x:V)(b:List V)(H:Hp)(Q:VK):Prop|mk(a c:_)(_:x=.ref a)(_:b=[])(_:H a=some (.dK c))(_:∀v,H v=none->Q (.ref v) (aw H v (DN v a)))
def Ka:OL X "dict.values" NP:=by
 intro O s D H x vs v us Q E rx Z h;let(a,ka,rfl,rfl,V,q):=h;cases rx;cases Z;let(za,I,va,ra,G):=pW E.hok V;show call_meetsIn aaz G.typeIs PySem.F.entry_dict_values (PySem.F.args_dict_values_1 _) (meets_dict_values (cD X.prog X.w) a I) ((va,G),?_);show(.ref _,aw H s.heap.objs.size (DN s.heap.objs.size a),E.laid (t':=s.toks) (λb u e=>UG _ e) (UD _)
  ((_,U5 _ rfl,Y,Y),(_,U5 _ rfl),λh1 h2 (o,e,r) k=>(o,k o e,r)),Y,q _ (E.hok.fresh (UD _)))
def Be:∀{l:List Uv}{D:List V},↑l=↑D->(∀(j:Nat)v i,l[j]?=Up v->D[j]?=Up i->bQ i v)->bq D l
 |[],[],_,_=>.nil
 |v::l,i::D,G,h=>.cons (h 0 v i rfl rfl) (Be (by simpa using G) λj v i E h2=>h (j+1) v i (by simpa using E) (by simpa using h2))
 |[],_::_,h,_=>by simp at h
 |_::_,[],h,_=>by simp at h
def RQ{E:List (bT×V)}{G:List (bT×Uv)}(r:KV E G):∀(j:Nat)k v i,G[j]?=Up (k,v)->(E.map (·.2))[j]?=Up i->bQ i v:=by
 induction r with
 |nil=>intro j k v i h;simp at h
 |@cons p q O Z z t I=>
  intro j k v i D h2;cases j with
  |zero=>
   let D:Up q=Up (k,v):=D;let h2:Up p.2=Up i:=h2;cases D;cases h2;show z.2
  |succ j=>show I j k v i (by simpa using D) (by simpa using h2)
def zJ(hc:X.calm=UB):iL X (.type "list") (λxs H Q=>∃v a G,xs=[.ref v]/\H v=Up (DN v a)/\H a=Up (.dK G)/\∀p,H p=UH->Q (.ref p) (aw H p (.lst (G.map (·.2))))):=by
 intro O s D H xs us Q E r h;let(v,a,G,rfl,hv,ha,q):=h;rw[bq.ref1 r];let(za,da,va,V,ab):=pW E.hok ha;let(ep,an):=ab.dictAt;obtain⟨ap,_⟩:cP X.prog X.w H s.heap v (DN v a):=E.hok _ _ hv;show PySem.W.kdl_call (PySem.W.kdl_values (prog:=X.prog) (w:=X.w) (knd:=cD X.prog X.w) (kvs:=va) (ep:=ep) (r:=v) (d:=a)) (E.ok.hd hc) (ap,an) (by rw[<-↑V];show za) λh' tk acc c I hD Z=>?_
 show(.ref s.heap.objs.size,aw H s.heap.objs.size (.lst (G.map (·.2))),E.laid (t':=tk) I (UD _) (by rw[Uq];show za,acc.toList,c,?_,by rw[abM];show hD),Y,q _ (E.hok.fresh (UD _)));show Be (by rw[V8,Uq,Z.1,↑V]) λj u i h1 h2=>?_
 let(k,I):=Z.2 j u (by rw[<-Xo];show h1);show RQ V j k u i I h2
def KG:iL X (.type "range") (λxs H Q=>∃i j,xs=[.int i,.int j]/\∀p,H p=UH->Q (.ref p) (aw H p (.rng i j))):=by
 intro O s D H xs us Q G r h;let(i,j,rfl,q):=h;cases r with
 |cons I E=>
  cases E with
  |cons V E=>
   cases E;let(t,rfl):=I;let(t',rfl):=V;show call_range_2 (.ref _,aw H s.heap.objs.size (.rng i j),G.laid (t':=s.toks+1) (λb u e=>UG _ e) (UD _) (_,_,_,U5 _ rfl),Y,q _ (G.hok.fresh (UD _)))
def Dd(hc:X.calm=UB):iL X (.type "list") (λxs H Q=>∃p i j,xs=[.ref p]/\H p=Up (.rng i j)/\0<=i/\i<=j/\j<=100000/\∀l,H l=UH->Q (.ref l) (aw H l (.lst (((W0 (j-i).toNat).map λ(n:Nat)=>i+n).map V.int)))):=by
 intro O s D H xs us Q E r h;let(p,i,j,rfl,hp,h0,h1,h2,q):=h;rw[bq.ref1 r];obtain⟨t,u,v,hr⟩:cP X.prog X.w H s.heap p (.rng i j):=E.hok _ _ hp;show call_list_range (n:=(j-i).toNat) (E.ok.hd hc) hr (small_one ⋯ ⋯ ⋯ ⋯) (by rw[rangeSize_one];split<;>lia) ⋯ λh' tk acc c I hS G=>?_
 show(.ref s.heap.objs.size,aw H s.heap.objs.size (.lst _),E.laid (t':=tk) I (Nat.le_refl _) (by rw[Uq,Uq,aas,Ux];lia,acc.toList,c,?_,by rw[abM];show hS),Y,q _ (E.hok.fresh (Nat.le_refl _)));show Be (by rw[V8,Uq,Uq,aas,G.1]) λk z y Z e2=>?_
 let(t,e):=G.2 k z (by rw[<-Xo];show Z);let I:k<(j-i).toNat:=by
  have:=(UO.mp Z).1;rw[V8,G.1]at this;show this
 rw[UM,UM,List.getElem?_range I]at e2;cases e2;subst e;show(t,by rw[Int.mul_one])
def N8:pX X (Z_ .Mult) (λx y H Q=>∃(a:List Nat)(k:Nat),x=.str (S a)/\y=.int (k:Int)/\k<=1000/\↑a<=1000/\Q (.str (S (VX k a).flatten)) H):=by
 intro O s D H x y v u Q E rx ry h;let(a,k,rfl,rfl,hk,V,q):=h;let(t,rfl):=rx;let(t',rfl):=ry;let hm:↑a*k<=1000*1000:=Nat.mul_le_mul V hk;let Z:∀(m:Nat)(acc:List Nat),List.foldl (λx y=>x++y) acc.toArray (VX m a.toArray)=(acc++(VX m a).flatten).toArray:=λm=>by
  induction m with
  |zero=>intro acc;simp
  |succ m ih=>intro acc;rw[Yy,abk,ab2,ih,Yy,WA,UK]
 show PySem.P.mul_str ?_ (λ_ _=>?_) (λ_ _=>?_) ?_
 .rw[decide_eq_false ⋯,decide_eq_false ⋯];rfl
 .let I:(↑(S a):Int)<=1000:=by rw[a9];lia
  let hz:(1:Int)<=k:=⋯
  let hd:(1000:Int)<=(2^63-1)/(k:Int):=by
   rw[Int.le_ediv_iff_mul_le ⋯];lia
  lia
 .rw[a9];show decide_eq_false ?_;change¬↑a*k>U1;rw[Ux];lia
 .by_cases G:(k:Int)<1
  .rw[ifp G];let e:k=0:=⋯
   subst e;show((),.str _,H,E.tok _,(_,Y),q)
  .rw[ifn G];by_cases h2:(((k:Int)==1)||↑(S a)==0)=true
   .rw[ifp h2];let e:S a=S (VX k a).flatten:=by
     rcases Wn _ _▸h2 with z|z
     .have:k=1:=by have:=eq_of_beq z;lia
      subst this;simp
     .have:=eq_of_beq z;rw[a9]at this;rw[Vc this]
      congr 1
      symm
      rw[List.flatten_eq_nil_iff];intro l I;show List.eq_of_mem_replicate I
    rw[<-e]at q;show(.str (S a),H,E,(_,Y),q)
   .rw[ifn h2];let e:(⟨(VX (k:Int).toNat (S a).cps).foldl (· ++ ·) #[]⟩:Vp)=S (VX k a).flatten:=by
     have:=Z k [];unfold S;rw[Zf]
     congr 1
    rw[e];show(?_,.str _,H,E.tok _,(_,Y),q);rw[a9,Ol,Ux,Nat.mul_comm];lia
end
def bn.seq(x:bn H E)(h:bx K H l xs):bx K E l xs:=fi.seq x h
def bn.seqT(x:bn H E)(h:gK K H l xs):gK K E l xs:=by
 rcases h with h|h
 .rcases h with h|⟨o,h⟩
  .show .inl (.inl (x _ _ h))
  .show .inl (.inr (o,x _ _ h))
 .show .inr h
def bn.refl(H:Hp):bn H H:=λ_ _ e=>e
def fY{H G:Hp}(x:bn H G)(h:H E=UH):bn H (aw G E o):=λb u e=>by rw[ah (ak e h)];show x b u e
def M4(te:TE)(j:Nat)(D:L2.St)(I:Hp)(O:Nat->V->Prop)(ys:List V):Prop:=∀(i:Nat)x y E,O i x->ys[i]?=some y->bn I E->∀R:VK,(∀G,bn E G->R y G)->te ((D.set j UH).set j (some x)) E R
def rO{J:It}{D:L2.St}{I:Hp}{Q:VK}{an:Nat->V->Prop}{ys:List V}(hz:↑ys<=U1)(go:∀i E,bn I E->i<↑ys->J.go i E)(ap:∀i H x E,bn I H->i<↑ys->J.yld i H x E->E=H/\an i x)(stop:∀E,bn I E->J.stop ↑ys E)(hs:M4 te j D I an ys)(hd:∀E G,bn I E->I G=none->E G=some (.lst ys)->Q (.ref G) E):
  ∀G,I G=none->∃W:Nat->Nat->Hp->Prop,(∃m,W 0 m (aw I G (.lst [])))/\∀i m H,W i m H->
   (J.stop i H/\Q (.ref G) H)\/(J.go i H/\∃Nx:Hp->Prop,(∀E,Nx E->∃m',m'<m/\W (i+1) m' E)/\∀x E,J.yld i H x E->mQ j x (im D [j]) E λσ2 Z=>im σ2 [j]=im D [j]/\Bm σ2 Z λb H3=>
    if b=UB then te σ2 H3 λy H4=>∃acc,H4 G=some (.lst acc)/\↑acc<U1/\Nx (aw H4 G (.lst (acc++[y])))else Nx H3):=by
 intro G hD;show(λi m E=>m=↑ys-i/\i<=↑ys/\bn I E/\E G=some (.lst (ys.take i)),(_,Y,VN _,fY (bn.refl _) hD,ae),?_);rintro i m E ⟨rfl,hi,O,e1⟩;by_cases ab:i<↑ys
 .show .inr (go i E O ab,λE=>i+1<=↑ys/\bn I E/\E G=some (.lst (ys.take (i+1))),λE (p1,p2,p3)=>(_,⋯,Y,p1,p2,p3),λx Z hy=>?_);let(rfl,hx):=ap i E x Z O ab hy;let e2:ys[i]?=some ys[i]:=UC ab;show(?_,?_)
  .change((D.set j none).set j (some x)).set j none=D.set j none;rw[List.set_set,List.set_set]
  .simp only[Bm,if_true];show hs i x _ Z hx e2 O _ λH3 x3=>(_,x3 _ _ e1,by rw[VL];lia,ab,fY (O.trans x3) hD,?_)
   rw[ae,Wz,e2]
   rfl
 .let e:i=↑ys:=⋯
  subst e;rw[WO]at e1;show .inl (stop _ O,hd E G O hD e1)
section
variable {tl te:TE} {j:Nat} {D:L2.St} {H:Hp} {Q:VK}
def kU(m:iK tl)(h:tl D H λx G=>∃l xs ys,x=.ref l/\bx K G l xs/\↑xs<=U1/\↑ys=↑xs/\M4 te j D G (λi x=>xs[i]?=Up x) ys/\∀E V,bn G E->G V=UH->E V=Up (.lst ys)->Q (.ref V) E):Nq (MA K tl) (mQ j) Bm te [j] D H Q:=by
 show m D H _ _ h λx G (l,xs,ys,e,O,hz,hy,hs,Z)=>(l,e,(_,O),?_)
 show rO (by rw[hy];show hz) (λi E I hi=>(xs,xs[i]'⋯,I.seq O,by simp)) (λi E x H2 I hi (e,q)=>(e,q xs (I.seq O))) (λE I=>(xs,I.seq O,⋯)) hs Z
def Om(m:iK tl)(h:tl D H λx G=>∃l xs ys,x=.ref l/\gK K G l xs/\↑xs<=U1/\↑ys=↑xs/\M4 te j D G (λi x=>xs[i]?=Up x) ys/\∀E V,bn G E->G V=UH->E V=Up (.lst ys)->Q (.ref V) E):Nq (R_ K tl) (mQ j) Bm te [j] D H Q:=by
 show m D H _ _ h λx G (l,xs,ys,e,O,hz,hy,hs,Z)=>(l,e,(_,O),?_)
 show rO (by rw[hy];show hz) (λi E I hi=>(xs,xs[i]'⋯,I.seqT O,by simp)) (λi E x H2 I hi (e,q)=>(e,q xs (I.seqT O))) (λE I=>(xs,I.seqT O,⋯)) hs Z
def Oo(m:iK tl)(h:tl D H λx G=>∃(t:List Nat)(ys:List V),x=.str (S t)/\↑t<=U1/\↑ys=↑t/\M4 te j D G (λi x=>∃c,t[i]?=Up c/\x=.str (S [c])) ys/\∀E I,bn G E->G I=UH->E I=Up (.lst ys)->Q (.ref I) E):Nq (Sb tl) (mQ j) Bm te [j] D H Q:=by
 show m D H _ _ h λx G (t,ys,Z,hz,hy,hs,hd)=>(S t,Z,?_)
 let e:(S t).cps.size=↑t:=by simp [S]
 show rO (by rw[hy];show hz) (λi E O hi=>by change i<_;lia) (λi E x H2 O hi (e,c,q1,q2)=>(e,c,by simpa [S]using q1,q2)) (λE O=>by change _<=_;lia) hs hd
def Mr{td:TE}(d:Uw){Z:List (bT×V)}{ys:List V}(hd:H d=Up (.dK Z))(an:∀(E:Hp)(R:VK),R (.ref d) E->(∀b,b≠d->E b=H b)->td D E R)(hz:↑Z<=U1)(hy:↑ys=↑Z)(hs:∀H1,(∀b,b≠d->H1 b=H b)->(∃o,H1 d=Up (.frz o (.dK Z)))->M4 te j D H1 (λi x=>∃k v,Z[i]?=Up (k,v)/\x=kV k) ys)(hq:∀E O,bn H E->H O=UH->E O=Up (.lst ys)->Q (.ref O) E):
  Lj (Nq (MB td) (mQ j) Bm te [j]) D H Q:=by
 show(d,.dK Z,hd,Ww,λod=>an _ _ (d,od,Y,.inl (Z,ae,?_)) λb G=>ah G);let up:∀E,bn (aw H d (.frz od (.dK Z))) E->E d=Up (.frz od (.dK Z)):=λE x=>x _ _ ae
 show rO (J:=Ra d od Z) (Q:=λv E=>E d=Up (HO.frz od (HO.dK Z))/\Q v (aw E d (HO.dK Z))) (by rw[hy];show hz) (λi E I hi=>(up _ I,⋯)) (λi E x H2 I hi q=>q) (λE I=>(up _ I,⋯)) (hs _ (λb G=>ah G) (od,ae)) λE O I hD e=>(up _ I,?_)
 let ab:O≠d:=λz=>by rw[z,ae]at hD;cases hD
 rw[ah ab]at hD;show hq _ O (λb o e=>?_) hD (by rw[ah ab];show e);by_cases G:b=d
 .rw[G,ae];rw[G,hd]at e;show e
 .rw[ah G];show I _ _ (by rw[ah G];show e)
end
def RK{tl G:TO}(m:iK te)(ml:∀D H R E,tl D H R->(∀x H,R x H->E x H)->tl D H E)(mh:∀D H R E,G D H R->(∀x H,R x H->E x H)->G D H E):iK (T3 (Ry K) te tl G):=λD H R E q h=>
 m D H _ _ q λx I q1=>ml D I _ _ q1 λl O q2=>mh D O _ _ q2 λu H3 (a,xs,e,Z,q3)=>(a,xs,e,Z,λp V=>h _ _ (q3 p V))
def Of:∀D H R E,Bn D H R->(∀x H,R x H->E x H)->Bn D H E:=λD H R E q h=>h _ _ q
def Oe(m:iK te):∀D H R E,Lh te D H R->(∀x H,R x H->E x H)->Lh te D H E:=λD H R E q h=>m D H _ _ q λx O G=>by
 let(i,e,I):=G;show(i,e,h _ _ I)
section
open VasepBase (isNumber)
def nZ{D:Type}{f:D->V}{l:List D}{i:Nat}{y:V}(h:(l.map f)[i]?=Up y):∃x,l[i]?=Up x/\y=f x:=by
 rw[UM]at h;cases e:l[i]? with
 |none=>rw[e]at h;cases h
 |some c=>rw[e]at h;show(c,Y,(UI h).symm)
section
inductive NB(K:PySem.W.Frag)(b:List V)(H:Hp)(Q:VK)(c:XK):Prop|mk(l:Addr)(a:List Int)(_:b=[.ref l])(_:bx K H l (a.map V.int))(_:a.length<=20000)(_:∀H',bn H H'->Q (.bl (a.all isNumber)) H')
def mH(T:TX K U a):cf P w K U W cH 1 a.ji ["numbers"] [] (NB K):=by
 show T.yh.o2 ["numbers","number"] λvs H Q an h=>?_
 let(l,E,rfl,hl,hz,k):=h;show(Y,λZ ap A ar s0 hr=>?_);show(_,ag (am (aW (MP rfl) (by rfl) T.O0 abq (aa (nL (own:=[("number",1)]) rfl Z (fW (pv 0)) (show il ["numbers","number"] (aP nG) _ [("number",1)]from K0 ())
   (λ_ _ _ _ _=>cQ (i:=1) Z rfl (UT rfl)) (λ_ _ _ _ _=>gv) (λ_ _ _ _ _=>EB ui ui aF (pv 1) (pg T.sw))) af))),?_)
 unfold mV OR bG;show kU ft (_,Y,l,E.map V.int,(E.map XJ).map V.bl,Y,hl,by rw[Uq,Ux];lia,by simp,λi x y G hx O x1 R D=>?_,λG ab x1 hD e=>?_)
 .let(n,hn,rfl):=nZ hx;rw[UM,UM,hn]at O;cases O;show(_,Y,_,_,Y,Y,_,Y,?_);unfold XJ at D;cases I:decide (0<=n)with
  |false=>rw[I]at D;show be (D _ (bn.refl _))
  |true=>rw[I]at D;show bf (_,_,Y,Y,D _ (bn.refl _))
 .show(ab,E.map XJ,Y,bx.of e,?_);have:(E.map XJ).all id=E.all XJ:=by rw[acQ];rfl
  rw[this];show k G x1
end
end
section
open HM (aL)
open VasepBase (cellsFrom)
def KI:∀(n:Nat)(l:List Int)(b:Nat)(h:Uu),↑l<=n->cellsFrom b l=Up h->↑l % 3=0:=by
 intro n
 induction n with
 |zero=>intro l b h D e;rw[Vc (adg.mp D)];rfl
 |succ n G=>
  intro l b h D e
  match l,e with
  |[],_=>rfl
  |[_],e=>simp [W3]at e
  |[_,_],e=>simp [W3]at e
  |x::y::z::r,e=>
   simp only[W3]at e;split at e
   .let(k,E,I):=X2.mp e;simp only[Ut]at D⊢;have:=G r _ k ⋯ E;lia
   .cases e
def wP{c:ZC}:∀{h:Uu},(∀d∈h,d.at_<c.at_)->Wf c h=h++[c]
 |[],_=>rfl
 |d::r,q=>by
  let E:=q d UU;unfold Wf;rw[ifn ⋯,ifn ⋯,wP λe D=>q e (UR _ D)]
  rfl
def Te{n m:Nat}(h:n=3*m)(E:n<=20000):T_ 0 (n:Int) 3 m:=by
 show((),(),?_,?_)
 .unfold abY WW Builtin.Range.rangeFitsLong;simp only[Vb,Wn,decide_eq_true_eq,beq_iff_eq];have:(3:Int)>0:=()
  simp only[this,if_true];let D:((n:Int)-0-1)/3<=20000:=⋯
  let h2:(decide (-2^63<=(n:Int)+(3-1))&&decide ((n:Int)+(3-1)<2^63))=UB:=by rw[Vb,decide_eq_true_eq,decide_eq_true_eq];lia
  show(?_,.inr h2);split<;>lia
 .unfold WW;have:(3:Int)>0:=()
  simp only[this,if_true];split<;>lia
def bz.nil(H:Hp):bz H [] []:=(adZ _,λc h=>by simp at h)
section
def ip(h:Uu):List bT:=h.map λc=>(UW (c.at_:Int):bT)
def lb(H:Hp)(R:Option Uu)(Q:VK):Prop:=match R with
 |none=>∀D,bn H D->Q .non D
 |some h=>∀D p Z,bn H D->H p=UH->D p=Up (.dK Z)->bz D Z h->Z.map (·.1)=ip h->Q (.ref p) D
inductive Ef(K:PySem.W.Frag)(b:List V)(H:Hp)(Q:VK)(c:XK):Prop|mk(l:Addr)(a:List Int)(_:b=[.ref l])(_:bx K H l (a.map V.int))(_:a.length<=17000)(_:lb H (cellsFrom 0 a) Q)
def lb.none{R:Option Uu}(k:lb H R Q)(h:R=.none)(x:bn H D):Q .non D:=by subst h;show k D x
def lb.some{H D:Hp}{R:Option Uu}{Q:VK}{Z:List (bT×V)}(k:lb H R Q)(e:R=.some h)(x:bn H D)(f:H p=.none)(g:D p=.some (.dK Z))(C:bz D Z h)(o:Z.map (·.1)=ip h):Q (.ref p) D:=by subst e;show k D p Z x f g C o
def pM(T:TX K U a):cf P w K U W cH 2 a.l_ ["told"] [] (Ef K):=by
 let GR:=mH T;show T.Dq.o2 ["told","cells","last","at","address","fields"] λvs H Q b1 h=>?_
 let(l,E,rfl,hl,hz,k):=h;show(Y,λnd b2 A cc s0 hr=>?_);let hu:=fw hr;show(_,ac (aJ (au wW (bI Qu (aW aN (by rfl) T.cO U2 (aa (pv 0) af)) aF) aF (aB _)) (ag (am cZ)) ay)
  (ac (aA (i:=1) nd rfl (UT rfl) kI)
  (ac (aA (i:=2) nd rfl (UT rfl) aF)
  (ac (lu Vz rfl (JW (by rfl) T.vM (aa aF (aa (aW aN (by rfl) T.cO U2 (aa (pv 0) af)) (aa aF af)))) (cQ (i:=3) nd rfl (UT rfl))
   (ac (aA (i:=4) nd rfl (UT rfl) (c9 cS (pv 0) (pv 3) (λ_ _=>rfl)))
   (ac (aA (i:=5) nd rfl (UT rfl) (fQ oW (pv 0) (eu (bI lD (pv 3) aF)) (eu (bI lD (pv 3) aF))))
   (ac (aJ (wO (au ui (pv 4) (pv 2) (aB _)) (wO (au IK (pv 4) (pg T.fh) (aB _)) (sJ (i6 (cB (aX GR T.ot hr aq (aa (pv 5) af))))))).pt (ag (am cZ)) ay)
   (ac (gx hu (pv 1) (pv 4) (dE kl (by rfl) T.Cj YT (aa (pv 5) af)) rfl)
   (ag (aA (i:=2) nd rfl (UT rfl) (pv 4))))))))
  (ag (am (pv 1)))))),?_)
 iterate 5 skip
 let a4:↑(E.map V.int)=↑E:=Uq _;show(_,Y,l,_,Y,.inl hl,_,_,Y,Y,(by change(0:Int)<3;decide),Y,_,Y,?_);let hd:decide (V.int ((↑(E.map V.int):Int) % 3)=V.int 0)=decide (↑E % 3=0):=by
  rw[decide_eq_decide,a4];show(λz=>by injection z with z;lia,λz=>by congr 1;lia)
 change if(!decide (V.int ((↑(E.map V.int):Int) % 3)=V.int 0))=UB then _ else _
 rw[hd];by_cases h3:↑E % 3=0
 .rw[decide_eq_true h3];show be λpc a5=>?_
  let x1:bn H (aw H pc (.dK [])):=aC a5;show(_,Y,l,_,Y,.inl (x1.seq hl),0,_,3,↑E/3,by rw[a4],Te ⋯ ⋯,?_);show HL (λi D I=>SJ λab v3 v4 v5 h Z=>Uk (D=[Up (.ref l),Up (.ref pc),Up (.int ((ab:Nat):Int)),v3,v4,v5]) (bn H I) (I pc=Up (.dK Z)) (bz I Z h) (aL h) ((∀c∈h,c.at_<=ab)) (↑h<=i) (Z.map (·.1)=ip h) (cellsFrom 0 E=(cellsFrom ab (E.drop (3*i))).map (h++ ·)))
   (0,UH,UH,UH,[],[],Y,x1,ae,bz.nil _,.nil,λc h=>by simp at h,UD _,Y,?_) ?_ ?_
  .change _=Option.map (λt=>t) (cellsFrom 0 E);rw[Option.map_id']
  .rintro i D I hi ⟨ab,v3,v4,v5,h,Z,rfl,O,e2,C2,ap,a0,bt,av,G⟩;obtain⟨x,y,z,r,an⟩:∃x y z r,E.drop (3*i)=x::y::z::r:=by
    let bF:↑(E.drop (3*i))≥3:=by rw[Vx];lia
    match e:E.drop (3*i),bF with
    |x::y::z::r,_=>show(x,y,z,r,Y)
   let hx:E[3*i]?=Up x:=by
    have:(E.drop (3*i))[0]?=Up x:=by rw[an];rfl
    rw[WP]at this;show this
   let e3:(0:Int)+(i:Nat)*3=((3*i:Nat):Int):=⋯
   rw[e3];show(_,Y,_,Y,l,_,_,.int x,Y,Y,O.seq hl,b5 (by rw[UM,hx];rfl),?_);show(_,Y,_,Y,_,_,Y,Y,_,Y,_,Y,_,_,Y,Y,_,Y,l,_,Y,O.seq hl,λpf a6=>?_);let bl:rZ (E.map V.int) (Up (((3*i:Nat):Int)+1)) (Up (((3*i:Nat):Int)+3))=[y,z].map V.int:=by
    let a1:(((3*i:Nat):Int)+1)=((3*i+1:Nat):Int):=⋯
    let a3:(((3*i:Nat):Int)+3)=((3*i+3:Nat):Int):=⋯
    rw[a1,a3];unfold rZ;rw[HT.sIx_nat,HT.sIx_nat,a4,WZ ⋯,WZ ⋯,<-aaE,show 3*i+1=3*i+1 from rfl,<-V6,an,show 3*i+3-(3*i+1)=2 by lia]
    rfl
   rw[bl];let x3:bn I (aw I pf (.lst ([y,z].map V.int))):=aC a6;let g3:(aw I pf (.lst ([y,z].map V.int))) pf=Up (.lst ([y,z].map V.int)):=ae;let b3:H pf=UH:=O.free a6;generalize aw I pf (.lst ([y,z].map V.int))=H3 at x3 g3⊢;rw[an]at G;simp only[W3]at G;show(_,Y,_,Y,_,_,Y,Y,_,Y,?_);by_cases c1:x<=(ab:Int)
   .rw[decide_eq_true c1];rw[ifn ⋯]at G;show bf (bf (k.none G (O.trans x3)))
   .rw[decide_eq_false c1];show be (_,Y,_,_,Y,Y,_,Y,?_);by_cases c2:(12:Int)<x
    .rw[decide_eq_true c2];rw[ifn (by intro q;have:=q.2.1;unfold Ye at this;lia)]at G;show bf (bf (k.none G (O.trans x3)))
    .rw[decide_eq_false c2];show be (_,Y,pf,[y,z],Y,bx.of g3,by change 2<=20000;decide,λH4 x4=>(_,Y,?_));let bk:[y,z].all XJ=(XJ y&&XJ z):=by simp
     rw[bk];cases c3:(XJ y&&XJ z)with
     |false=>
      rw[ifn (by intro q;rw[q.2.2.1,q.2.2.2]at c3;cases c3)]at G;show bf (k.none G ((O.trans x3).trans x4))
     |true=>
      let(c4,c5):=Vb _ _▸c3;rw[ifp (⋯,by unfold Ye;lia,c4,c5)]at G;show be (_,Y,pf,_,Y,.inl (bx.of (x4 _ _ g3),λpt b0=>?_));let x5:bn H4 (aw H4 pt (.tup ([y,z].map V.int))):=aC b0;let ar:bn I _:=(x3.trans x4).trans x5;let e5:=ar _ _ e2;unfold XJ at c4 c5;rw[Vb,decide_eq_true_eq,decide_eq_true_eq]at c4 c5;let b4:↑Z=↑h:=by simpa using C2.keys.length_eq
      let e6:V.int x=kV (UW ((x.toNat:Nat):Int)):=by change V.int x=V.int _;congr 1;lia
      rw[e6];show(_,Y,_,Y,pc,_,Y,so.k (k:=UW ((x.toNat:Nat):Int)) e5 (by rw[Ux];lia),?_);rw[<-e6];let tp:(aw H4 pt (.tup ([y,z].map V.int))) pt=Up (.tup [.int ((y.toNat:Nat):Int),.int ((z.toNat:Nat):Int)]):=by
       rw[ae,WF c4.1,WF c5.1];rfl
      let a2:∀d∈h,d.at_<((x.toNat,y.toNat,z.toNat):ZC).at_:=λd hd=>by have:=a0 d hd;change _<x.toNat;lia
      let C5:=(C2.keep λb xs e=>ar _ _ e).put ap (c:=(x.toNat,y.toNat,z.toNat)) tp;rw[wP a2]at C5;let bd:bn H _:=O.trans ar;generalize aw H4 pt (.tup ([y,z].map V.int))=H5 at x5 ar e5 tp C5 bd⊢;show(_,Y,x.toNat,Up (.int ((3*i:Nat):Int)),Up (.int x),Up (.ref pf),h++[(x.toNat,y.toNat,z.toNat)],_,?_,fY bd a5,ae,C5.keep (λb xs e=>by rw[ah (aV e e5 (by intro z;cases z))];show e),?_,?_,?_,?_,?_)
      .rw[WF ⋯];rfl
      .rw[<-wP a2];show HM.put_rising ap
      .intro c hc;rcases VM.mp hc with q|q
       .show Xb (a2 c q)
       .rw[Vh.mp q];show UD _
      .rw[Us];change _+1<=_;lia
      .let hn:cI Z (UW ((x.toNat:Nat):Int))=UH:=by
        let q:=fe C2 ap x.toNat;let q2:U7 h x.toNat=UH:=by
         cases e:U7 h x.toNat with
         |none=>rfl
         |some d=>let(m1,m2):=HM.cellAt_some e;have:=a0 d m1;lia
        rw[q2]at q;cases e:cI Z (UW ((x.toNat:Nat):Int))with
        |none=>rfl
        |some d=>rw[e]at q;cases q
       change(em Z (UW ((x.toNat:Nat):Int)) (.ref pt)).map (·.1)=_;rw[wQ _ hn,Vj,av];unfold ip;rw[Vj];rfl
      .rw[G];let bs:E.drop (3*(i+1))=r:=by rw[show 3*(i+1)=3*i+3 by lia,<-V6,an];rfl
       rw[bs,Option.map_map]
       congr 1
       funext t
       change h++({at_:=x.toNat,next:=y.toNat,data:=z.toNat}::t)=_;rw[UK];rfl
  .rintro D I ⟨ab,v3,v4,v5,h,Z,rfl,O,e2,C2,ap,a0,bt,av,G⟩;let bm:E.drop (3*(↑E/3))=[]:=aa_ ⋯;rw[bm]at G;show(_,Y,k.some (h:=h) ?_ O a5 e2 C2 av);rw[G];change Up (h++[])=_;rw[VB]
 .rw[decide_eq_false h3];show bf (k.none ?_ (bn.refl _));cases e:cellsFrom 0 E with
  |none=>rfl
  |some h=>show absurd (KI _ _ _ _ (UD _) e) h3
end
end
section
open VasepBase (storeFrom)
def Io:∀{Z:List (bT×V)},k∉Z.map (·.1)->cI Z k=UH
 |[],_=>rfl
 |p::r,h=>by
  rw[UJ,UP,not_or]at h;rw[cr (λz=>h.1 z.symm)];show Io h.2
def Ew{D:List (bT×V)}(G:(D.map (·.1)).Nodup)(h:D[i]?=Up (k,v)):em (D.take i) k v=D.take (i+1):=by
 let e:D.take (i+1)=D.take i++[(k,v)]:=by rw[Wz,h];rfl
 rw[wQ v (Io ?_),e];let h2:(D.map (·.1)).take (i+1)=(D.take i).map (·.1)++[k]:=by rw[<-aaD,e,Vj];rfl
 let E:=G.sublist (acN (i+1) _);rw[h2,aar]at E;show λm=>E.2.2 _ m _ (Vh.mpr rfl) rfl
def Ch{I:List (List Nat)}{vals:List Nat}(N:bj I)(D:↑vals=↑I):((dH I vals).map (·.1)).Nodup:=by
 rw[As D];show acR _ (λx y h z=>h (k9 (aak z))) N.nd
def vL{I:List (List Nat)}{vals:List Nat}{i:Nat}{x:List Nat}{v:Nat}(D:I[i]?=Up x)(h2:vals[i]?=Up v):(dH I vals)[i]?=Up (WV (S x),V.int (v:Nat)):=by
 unfold dH;rw[UM,List.getElem?_zip_eq_some (z:=(x,v))|>.mpr (D,h2)]
 rfl
def QU{D:List Int}(h:n<=↑D):rZ (D.map V.int) UH (Up (n:Int))=(D.take n).map V.int:=by
 unfold rZ;rw[HT.sIx_nat,HT.sIx_none,Uq,WZ h,abK,Nat.sub_zero,aaD]
def MO{xs:List V}(h:n<=↑xs):rZ xs (Up (n:Int)) UH=xs.drop n:=by
 unfold rZ;rw[HT.sIx_nat,HT.sIx_none,WZ h,X4 (by rw[Vx];lia)]
section
def KU(a:Ad)(I:List (List Nat))(H:Hp)(R:Option YN)(Q:VK):Prop:=match R with
 |none=>∀D,bn H D->Q .non D
 |some s=>∀D st pn E,bn H D->H st=UH->pn≠E->bv a D st pn E I s->Q (.ref st) D
inductive D8(K:PySem.W.Frag)(a:Ad)(e:List V)(H:Hp)(Q:VK)(f:XK):Prop|mk(l d:Addr)(c:List Int)(b:List (List Nat))(_:e=[.ref l,.ref d])(_:bx K H l (c.map V.int))(_:c.length<=17000)(_:H d=some (.lst (b.map fun x=>V.str (S x))))(_:bj b)(_:KU a b H (storeFrom b c) Q)
set_option tactic.hygienic true in
def zc(T:TX K U a):cf P w K U W cH 3 a.lU ["told","names"] [] (D8 K a):=by
 let GR:=mH T;let GC:=pM T;let GI:=jS T;show T.Dh.o2 ["told","names","cells","numbers","at"] λvs H Q bs h=>?_
 let(l,pm,E,I,rfl,hl,hz,hm,N,k):=h;show(Y,λnd bt A b1 s0 hr=>?_);let hu:=fw hr;let bm:Room 1 _:=hr.mono ();let a1:Room 2 _:=hr;show(_,ac (aJ (wO (au nN (aW aN (by rfl) T.cO U2 (aa (pv 0) af)) (aW aN (by rfl) T.cO U2 (aa (pv 1) af)) (aB _))
   (sJ (i6 (cB (aX GR T.ot bm aq (aa (fQ oW (pv 0) vG (eu (aW aN (by rfl) T.cO U2 (aa (pv 1) af)))) af)))))).pt (ag (am cZ)) ay)
  (ac (aA (i:=2) nd rfl (UT rfl) (aX GC T.rV a1 aq (aa (fQ oW (pv 0) (eu (aW aN (by rfl) T.cO U2 (aa (pv 1) af))) vG) af)))
  (ac (aJ (au io (pv 2) cZ (aB _)) (ag (am cZ)) ay)
  (ac (aA (i:=3) nd rfl (UT rfl) kI)
  (ac (lu Vz rfl (Ao (by rfl) T.vM (aa (aW aN (by rfl) T.cO U2 (aa (pv 1) af)) af)) (cQ (i:=4) nd rfl (UT rfl))
   (ag (gx hu (pv 3) (c9 cS (pv 1) (pv 4) (λ_ _=>rfl)) (c9 cS (pv 0) (pv 4) (λ_ _=>rfl)) rfl)))
  (ag (am (dS T.xg GI T.xH a1 aq (aa (pv 3) (aa (pv 2) af))))))))),?_)
 iterate 6 skip
 let a0:↑(E.map V.int)=↑E:=Uq _;let ab:↑(I.map λx=>V.str (S x))=↑I:=Uq _;let bF:=N.few;show(_,Y,l,_,Y,.inl hl,_,Y,pm,_,Y,.inl (bx.of hm),_,_,Y,Y,_,Y,?_);rw[a0,ab];unfold acX at k;by_cases c1:↑E<↑I
 .rw[ifp (.inl c1)]at k;rw[decide_eq_true (show(↑E:Int)<(↑I:Int) by lia)];show bf (bf (k H (bn.refl _)))
 rw[decide_eq_false (show¬(↑E:Int)<(↑I:Int) by lia)];show be (_,Y,_,Y,pm,_,Y,.inl (bx.of hm),_,Y,l,_,Y,hl,λp1 h1=>?_);rw[ab,QU ⋯];let x1:bn H (aw H p1 (.lst ((E.take ↑I).map V.int))):=aC h1;show(p1,E.take ↑I,Y,bx.of ae,by rw[VL];lia,λH2 x2=>(_,Y,?_));let ap:=x1.trans x2;cases c2:(E.take ↑I).all XJ with
 |false=>
  rw[ifp (.inr (by rw[c2];rfl))]at k;show bf (k H2 ap)
 |true=>
  rw[ifn (λz=>z.elim c1 λz=>by rw[c2]at z;cases z)]at k;show be (_,Y,_,Y,pm,_,Y,.inl (bx.of (ap _ _ hm)),_,Y,l,_,Y,ap.seq hl,λp3 h3=>?_);rw[ab,MO (by rw[a0];lia),<-aaE];let x3:bn H2 (aw H2 p3 (.lst ((E.drop ↑I).map V.int))):=aC h3;let a5:=ap.trans x3;show(p3,E.drop ↑I,Y,bx.of ae,by rw[Vx];lia,?_);cases c3:W3 0 (E.drop ↑I)with
  |none=>
   rw[c3]at k;intro H4 x4;show(_,Y,Y,_,Y,bf (k H4 (a5.trans x4)))
  |some h=>
   rw[c3]at k;intro H4 pc Z x4 f4 e4 C4 _;let ar:=a5.trans x4;let(up,bd,_):=HM.cellsFrom_ok _ _ _ _ (UD _) c3;show(_,Y,Y,_,Y,be λpn an=>?_);let x5:bn H4 (aw H4 pn (.dK [])):=aC an;let a4:pn≠pc:=λz=>by rw[z,e4]at an;cases an
   show(_,Y,pm,_,Y,.inl (bx.of (x5 _ _ (ar _ _ hm))),_,Y,by rw[ab];lia,by rw[ab];lia,?_);rw[ab];let a3:↑((E.take ↑I).map VY)=↑I:=by rw[Uq,VL];lia
   let av:∀i z,E[i]?=Up z->i<↑I->0<=z/\z<=99:=λi z G bl=>by
    have:=XN.mp c2 z (U3 (i:=i) (by rw[aag,ifp bl];show G));unfold XJ VasepBase.NUMBER at this;simp only[Vb,decide_eq_true_eq]at this;show this
   show AG (n:=↑I) (λi D O=>TN λv=>T1 (D=[Up (.ref l),Up (.ref pm),Up (.ref pc),Up (.ref pn),v]) (bn H O) (O pc=Up (.dK Z)) (bz O Z h) (O pn=Up (.dK ((dH I ((E.take ↑I).map VY)).take i))))
    (_,Y,ar.trans x5,x5 _ _ e4,C4.keep λb xs e=>x5 _ _ e,ae) ?_ ?_
   .rintro i D O G ⟨v,rfl,x6,e6,C6,g6⟩;obtain⟨x,hx⟩:∃x,I[i]?=Up x:=(_,UC G);obtain⟨z,hz⟩:∃z,E[i]?=Up z:=(_,UC ⋯);let(z0,z9):=av i z hz G;rw[show(0:Int)+(i:Nat)=((i:Nat):Int) by lia];show(_,Y,_,Y,l,_,_,.int z,Y,Y,x6.seq hl,b5 (by rw[UM,hz];rfl),_,Y,_,Y,_,Y,pm,_,_,.str (S x),Y,Y,bx.of (x6 _ _ hm),b5 (by rw[UM,hx];rfl),?_);show(pn,_,Y,so.k (k:=WV (S x)) g6 ?_,?_)
    .have:=rD I ((E.take ↑I).map VY);rw[VL,Ux];lia
    .let hv:((E.take ↑I).map VY)[i]?=Up z.toNat:=by rw[UM,aag,ifp G,hz];rfl
     let hp:=Ew (Ch N a3) (vL hx hv);rw[WF z0]at hp;rw[hp];show(_,Y,fY x6 (ar.free an),by rw[ah a4.symm];show e6,C6.keep λb xs e=>by rw[ah (aV e g6 (by intro z;cases z))];show e,ae)
   .rintro D O ⟨v,rfl,x6,e6,C6,g6⟩;rw[X4 (rD _ _)]at g6;show(_,Y,_,Y,λst ds a2 bk b0=>(st,ds,_,_,Y,ae,Y,?_));let x7:bn O (aw (aw (aw O ds (.own st)) st (.ins a.cV ds [])) st (.ins a.cV ds [("numbers",.ref pn),("cells",.ref pc)])):=bK (C:=a.cV) a2 bk;let a6:∀v∈(E.take ↑I).map VY,v<=99:=λv hv=>by
     let(z,hz,rfl):=U6.mp hv;let(i,G):=Xn.mp hz;rw[aag]at G;split at G
     .have:=av i z G (by assumption);lia
     .cases G
    show k _ st pn pc (x6.trans x7) (x6.free a2) a4 ((ds,ae),x7 _ _ g6,(Z,x7 _ _ e6,C6.keep λb xs e=>x7 _ _ e),(a3,a6,up,bd))
end
end
section
open HM (aL)
open Vasepa (addAll apart)
def t0:∀{h2 h:Uu},aL h->HM.Bounds h->HM.Bounds h2->aL (W4 h h2)/\HM.Bounds (W4 h h2)
 |[],h,r,b,_=>(r,b)
 |c::h2,h,r,b,E=>t0 (h2:=h2) (h:=Wf c h) (HM.put_rising r) (λd D=>(HM.put_mem D).elim (λz=>z▸E c UU) λz=>b d z) λd D=>E d (UR _ D)
def uk{H:Hp}:∀{h2:Uu}{kb D:List (bT×V)}{h:Uu},aL h->bz H D h->aL h2->kb.map (·.1)=ip h2->
  (∀c∈h2,∃t,cI kb (UW (c.at_:Int))=Up (.ref t)/\H t=Up (.tup [.int (c.next:Nat),.int (c.data:Nat)]))->bz H (lJ D kb) (W4 h h2)
 |[],[],D,h,r,C,_,_,_=>C
 |[],_::_,_,_,_,_,_,e,_=>by cases e
 |_::_,[],_,_,_,_,_,e,_=>by cases e
 |c::h2,(k,v)::kb,D,h,r,C,r2,e,q=>by
  let O:k=UW (c.at_:Int):=(X_ e).1;let Z:kb.map (·.1)=ip h2:=(X_ e).2;subst O;let(rc,r3):=Vg.mp r2;let(t,E,e4):=q c UU;rw[cX rfl]at E;let E:v=.ref t:=UI E;subst E;change bz H (lJ (em D (UW (c.at_:Int)) (.ref t)) kb) (W4 (Wf c h) h2);show uk (HM.put_rising r) (C.put r e4) r3 Z λd I=>?_
  let(t',G,e6):=q d (UR _ I);have:=rc d I;rw[cr (by intro z;let z:(UW (c.at_:Int):bT)=UW (d.at_:Int):=z;injection z with z;lia)]at G;show(t',G,e6)
structure qP (H:Hp) (q:Addr) (kb:List (bT×V)) (h2:VasepBase.Heap):Prop where
 at_:H q=some (.dK kb)
 cel:bz H kb h2
 ord:kb.map (·.1)=ip h2
 up:aL h2
 bd:HM.Bounds h2
def qP.ext(m:qP H q kb h2)(x:bn H D):qP D q kb h2:=(x _ _ m.at_,m.cel.keep λb xs e=>x _ _ e,m.ord,m.up,m.bd)
section
inductive D7(a:Ad)(e:List V)(H:Hp)(Q:VK)(i:XK):Prop|mk(c f g b s q h d:_)(_:e=[.ref c,.ref q])(_:bv a H c f g b s)(_:qP H q h d)(_:∀H' st' pn' pc',bn H H'->H st'=none->bv a H' st' pn' pc' b {s with heap:=addAll s.heap d}->Q (.ref st') H')
def y9(T:TX K U a):cf P w K U W cH 4 a.lS ["store","cells"] [] (D7 a):=by
 let GC:=kM T;show T.Df.o2 ["store","cells","more"] λvs H Q av h=>?_
 let(st,pn,pc,I,s,q,kb,h2,rfl,R,M,k):=h;show(Y,λnd a0 A a3 s0 hr=>?_);show(_,ac (aA (i:=2) nd rfl (UT rfl) (aX GC T.mO hr aq (aa (pv 0) af)))
  (ac (aE (ej XM aaA PySem.F.type_dict_update Ho (ai (pv 2) rfl) (aa (pv 1) af)))
  (ag (am (pv 2)))),?_)
 iterate 3 skip
 show(_,Y,st,pn,pc,I,s,Y,R,λH1 ab ar E x1 f1 f2 V ap D=>?_);let(dx,G):=D.obj;let(Z,O,C2):=D.cel;let M1:=M.ext x1;let an:E≠q:=λz=>by rw[z,M.at_]at V;cases V
 let l1:↑Z<=12:=by have:=C2.keys.length_eq;have:=dM D.ok.up D.ok.bd;simp at*;lia
 let l2:↑kb<=12:=by have:=M1.cel.keys.length_eq;have:=dM M1.up M1.bd;simp at*;lia
 let(a1,a2):=t0 D.ok.up D.ok.bd M1.bd;show(_,Y,ab,_,dx,_,_,Y,G,T.aY,T.a_,Y,.inr (.inr (.inl (Y,.inl (_,O)))),_,Y,E,q,Z,kb,Y,Y,O,M1.at_,an,by rw[Ux];lia,?_);let ne:∀b o,H1 b=Up o->o≠.dK Z->b≠E:=λb o e h=>aV e O h
 show(_,Y,k _ ab ar E (λb o e=>by rw[ah (ak e V)];show x1 _ _ e) f1 ((dx,by rw[ah (ne _ _ G (by intro z;cases z))];show G),by rw[ah ap];show D.num,(_,ae,?_),(D.ok.len,D.ok.big,a1,a2)));show(uk D.ok.up C2 M1.up M1.ord M1.cel.vals).keep λb xs e=>by rw[ah (ne _ _ e (by intro z;cases z))];show e
inductive JH(a:Ad)(f:List V)(H:Hp)(Q:VK)(i:XK):Prop|mk(c g d b s q h e:_)(_:f=[.ref c,.ref q])(_:bv a H c g d b s)(_:qP H q h e)(_:d≠q)(_:∀H',bn H H'->Q (.bl (!apart s.heap e)) H')
def nS(T:TX K U a):cf P w K U W cH 1 a.j5 ["store","addresses"] [] (JH a):=by
 show T.zR.o2 ["store","addresses","address"] λvs H Q ar h=>?_
 let(st,pn,Z,I,s,q,kb,h2,rfl,R,M,an,k):=h;show(Y,λnd av A a1 s0 hr=>?_);let hu:=fw hr;show(_,ag (am (aW (QV rfl) (by rfl) T.RJ PyProof.Rows.boot_any (aa (N0 (nL (own:=[("address",2)]) (te:=Rn (bJ 2) (Bo K (bJ 0) "cells")) rfl nd (B6 (pv 1)) (show il ["store","addresses","address"] (aP pK) _ [("address",2)]from K0 ())
   (λ_ _ _ _ _=>cQ (i:=2) nd rfl (UT rfl)) (λ_ _ _ _ _=>gv) (λ_ _ _ _ _=>Qt (B8 hu (pv 2) (ai (pv 0) rfl))))) af))),?_)
 let(dx,e1):=R.obj;let(ka,e2,C2):=R.cel;let l2:↑kb=↑h2:=by simpa using M.cel.keys.length_eq
 let l3:=dM M.up M.bd;unfold mV OR bG;show Mr q M.at_ (ys:=(h2.map λc=>(U7 s.heap c.at_).isSome).map V.bl) (λD R O _=>(_,Y,O)) (by rw[Ux];lia) (by simp [l2]) (λH1 h1 (o,a0) i x y D (kk,vv,hk,hx) hy G R' O=>?_) (λD ab G hD e=>?_)
 .subst hx;let(b,E,rfl):=nZ hy;obtain⟨c,hc,rfl⟩:∃c,h2[i]?=Up c/\b=(U7 s.heap c.at_).isSome:=by
   rw[UM]at E;cases e:h2[i]? with
   |none=>rw[e]at E;cases E
   |some c=>rw[e]at E;show(c,Y,(UI E).symm)
  let ap:kk=UW (c.at_:Int):=by
   let z:(kb.map (·.1))[i]?=Up kk:=by rw[UM,hk];rfl
   rw[M.ord]at z;unfold ip at z;rw[UM,hc]at z;show(UI z).symm
  subst ap;let o1:D st=Up _:=G _ _ ((h1 st (aV e1 M.at_ (by intro z;cases z))).trans e1);let o2:D Z=Up _:=G _ _ ((h1 Z an).trans e2);show(_,Y,_,Y,st,_,dx,_,_,Y,o1,T.aY,T.a_,Y,Z,_,Y,fP.k (k:=UW (c.at_:Int)) o2,?_);rw[fe C2 R.ok.up];show O _ (bn.refl _)
 .show(ab,_,Y,bx.of e,?_);have:(h2.map λc=>(U7 s.heap c.at_).isSome).any id=!abO s.heap h2:=by
   unfold abO;rw[List.any_map,aaV]
   congr 1
   funext c
   simp
  rw[this];show k D G
end
end
section
open HM (aL)
def _root_.L2.Room.u65{A:VU}(r:Room k A):A.units+65<Zh:=by have:=r.un;lia
def nh:∀{Z:List (bT×V)},(Z.map (·.1)).Nodup->(k,v)∈Z->cI Z k=Up v
 |[],_,h=>by simp at h
 |p::r,D,h=>by
  rw[UJ,VR]at D;rcases UP.mp h with z|z
  .rw[<-z];show cX rfl
  .rw[cr λe=>D.1 (U6.mpr (_,z,e.symm))];show nh D.2 z
def ul:∀{Z:List (bT×V)},cI Z k=Up v->(k,v)∈Z
 |[],h=>by cases h
 |p::r,h=>by
  by_cases e:p.1=k
  .rw[cX e]at h;cases h;rw[<-e];show UU
  .rw[cr e]at h;show UR _ (ul h)
def Fu(G:∀k y,cI kb k=Up y->∃m,y=.int m):∀{la:List (bT×V)},(∀D∈la,∃n,D.2=V.int n)->∃r,DG K H kb la r/\(r=UB↔∀D∈la,cI kb D.1=Up D.2)
 |[],_=>(UB,.nil,by simp)
 |(k,v)::la,h=>by
  let(r,O,h2):=Fu G λD Z=>h D (UR _ Z)
  let(n,E):=h (k,v) UU;let E:v=.int n:=E;subst E;cases e:cI kb k with
  |none=>show(UF,.miss e,by simp [e])
  |some y=>
   let(m,rfl):=G k y e;show(_,.hit e (.int n) (.int m) rfl rfl O,?_);let I:aaa (.int n) (.int m)=decide (n=m):=by
    change(n==m)=_;rw[V_]
   rw[I,Vb,decide_eq_true_eq,h2,ZH,e];show and_congr_left λ_=>(λz=>by rw[z],λz=>by cases z;rfl)
def xD(A:bz H I h)(B:bz H kb h2)(Z:aL h)(ub:aL h2):
  ∀{la:List (bT×V)},(∀G∈la,G∈I)->∃r,DG K H kb la r/\(r=UB↔∀G∈la,∃c∈h,G.1=UW (c.at_:Int)/\c∈h2)
 |[],_=>(UB,.nil,by simp)
 |(k,v)::la,q=>by
  let(r,h1,h3):=xD A B Z ub λG ap=>q G (UR _ ap)
  let hm:=q (k,v) UU;let(c,hc,ek):=U6.mp (A.keys.mem_iff.mp (U6.mpr (_,hm,Y)));let ek:(UW (c.at_:Int):bT)=k:=ek;subst ek;let(t,e1,e2):=A.vals c hc;let nd:(I.map (·.1)).Nodup:=by
   rw[A.keys.nodup_iff];show acR _ (λx y (z:x.at_<y.at_) w=>by injection w with w;lia) Z
  let ev:cI I (UW (c.at_:Int))=Up v:=nh nd hm;rw[e1]at ev;cases ev;let ab:∀d∈h,(UW (c.at_:Int):bT)=UW (d.at_:Int)->d=c:=λd hd z=>by
   injection z with z;let z:c.at_=d.at_:=⋯
   let q1:=HM.cellAt_mem Z hc;let q2:=HM.cellAt_mem Z hd;rw[z,q2]at q1;show UI q1
  cases e:cI kb (UW (c.at_:Int))with
  |none=>
   show(UF,.miss e,?_);simp only[UA,false_iff,ZH];show λ((d,hd,z,m),_)=>?_
   rw[ab d hd z]at m;let(t',z',_):=B.vals c m;rw[z']at e;cases e
  |some y=>
   let he:=fe B ub c.at_;rw[e]at he;cases e3:U7 h2 c.at_ with
   |none=>rw[e3]at he;cases he
   |some d=>
    let(m1,O):=HM.cellAt_some e3;let(t',D,E):=B.vals d m1;rw[O,e]at D;cases D;show(_,.hit e (.tup (gK.of e2) (.cons (.int _) (.cons (.int _) .nil))) (.tup (gK.of E) (.cons (.int _) (.cons (.int _) .nil))) rfl rfl h1,?_);let e5:aaa (.tuple [.int (c.next:Nat),.int (c.data:Nat)]) (.tuple [.int (d.next:Nat),.int (d.data:Nat)])=decide (c=d):=by
     change(((c.next:Nat):Int)==((d.next:Nat):Int)&&(((c.data:Nat):Int)==((d.data:Nat):Int)&&UB))=_;rw[Vv];simp only[Vb,beq_iff_eq,decide_eq_true_eq,and_true];show(λ(D,E)=>?_,λz=>by rw[z];show(Y,Y));let(c1,c2,c3):=c;let(d1,d2,d3):=d;let O:d1=c1:=O;let D:((c2:Nat):Int)=(d2:Nat):=D;let E:((c3:Nat):Int)=(d3:Nat):=E;let D:c2=d2:=⋯
     let E:c3=d3:=⋯
     rw[O,D,E]
    rw[e5,Vb,decide_eq_true_eq,h3,ZH];show and_congr_left λ_=>(λz=>(c,hc,Y,z▸m1),λ(d',an,z,m)=>?_)
    rw[ab d' an z]at m;have:=HM.cellAt_mem ub m;rw[e3]at this;show(UI this).symm
def qj:∀{h2 h:Uu},aL h->aL h2->(∀c∈h,c∈h2)->h.Sublist h2
 |[],[],_,_,_=>.slnil
 |[],c::_,_,_,q=>by have:=q c UU;simp at this
 |_::_,[],_,_,_=>List.nil_sublist _
 |d::t,c::u,r,O,q=>by
  let(E,V):=Vg.mp r;let(Z,G):=Vg.mp O;rcases UP.mp (q c UU)with z|z
  .subst z;show List.Sublist.cons₂ _ (qj V G λe D=>?_);rcases UP.mp (q e (UR _ D))with z|z
   .have:=E e D;rw[z]at this;lia
   .show z
  .show List.Sublist.cons _ (qj r G λe D=>?_);rcases UP.mp (q e D)with w|w
   .let I:=Z c z;rcases UP.mp D with v|v
    .rw[v]at w;rw[w]at I;lia
    .have:=E e v;rw[w]at this;lia
   .show w
section
inductive D_(a:Ad)(h:List V)(H:Hp)(Q:VK)(k:XK):Prop|mk(f i j s c d e g b:_)(_:h=[.ref f,.ref c])(_:bv a H f i j b s)(_:bv a H c d e b g)(_:bj b)(_:Q (.bl (decide (s=g))) H)
def sQ(T:TX K U a):cf P w K U W cH 1 a.iw ["store","other"] [] (D_ a):=by
 show T.vk.o2 ["store","other"] λvs H Q a4 h=>?_
 let(st,pn,pc,s,a0,a3,a2,s',I,rfl,R,D,N,k):=h;show(Y,λnd a5 A a6 s0 hr=>?_);let hu:=hr.u65;show(_,ag (am (qo (dv (sM hu) (ai (pv 0) rfl) (ai (pv 1) rfl) (aB _)) (B7 (dv (sM hu) (ai (pv 0) rfl) (ai (pv 1) rfl) (aB _))))),?_);let(dx,e1):=R.obj;let(ka,e2,C2):=R.cel;let(an,ap):=D.obj;let(av,a1,ab):=D.cel;let ar:∀vals:List Nat,∀E∈dH I vals,∃n,E.2=V.int n:=λvals E O=>by
  let(p,_,rfl):=U6.mp O;show(_,Y)
 let ll:∀vals:List Nat,↑vals=↑I->↑(dH I vals)=↑I:=λvals h=>by unfold dH;rw[Uq,ZP,h,Nat.min_self]
 let(r,h1,h2):=Fu (H:=H) (kb:=dH I s'.vals) (λkk y hy=>ar s'.vals (kk,y) (ul hy)) (ar s.vals);show(_,Y,st,_,dx,_,_,Y,e1,T.aY,T.bD,Y,_,Y,a0,_,an,_,_,Y,ap,T.aY,T.bD,Y,pn,a3,_,_,r,Y,Y,R.num,D.num,λ_=>h1,_,Y,?_);rw[ll _ R.ok.len,ll _ D.ok.len,beq_self_eq_true,aaF];let hr:r=decide (s.vals=s'.vals):=by
  rw[Vv,h2,decide_eq_true_eq];show(λq=>acP λi=>?_,λz=>by rw[z];show λE O=>nh (Ch N D.ok.len) O);by_cases hi:i<↑I
  .let g1:I[i]?=Up I[i]:=UC hi;let g2:s.vals[i]?=Up (s.vals[i]'(by rw[R.ok.len];show hi)):=UC _;let g3:s'.vals[i]?=Up (s'.vals[i]'(by rw[D.ok.len];show hi)):=UC _;let z:=q _ (U3 (vL g1 g2));rw[kO N.nd g1 g3]at z;rw[g2,g3];let z:=V.int.inj (UI z)
   congr 1
   lia
  .rw[Yc (by rw[R.ok.len];lia),Yc (by rw[D.ok.len];lia)]
 rw[hr];let hs:decide (s=s')=(decide (s.vals=s'.vals)&&decide (s.heap=s'.heap)):=by
  rw[Vv,Vb,decide_eq_true_eq,decide_eq_true_eq,decide_eq_true_eq];let(v1,v2):=s;let(w1,w2):=s';show(λz=>by cases z;show(Y,Y),λ(z1,z2)=>by cases z1;cases z2;rfl)
 rw[hs]at k;by_cases hv:s.vals=s'.vals
 .rw[decide_eq_true hv]at k⊢;let(r2,g1,g2):=xD C2 ab R.ok.up D.ok.up (la:=ka) λ_ h=>h
  show bf (_,Y,st,_,dx,_,_,Y,e1,T.aY,T.a_,Y,_,Y,a0,_,an,_,_,Y,ap,T.aY,T.a_,Y,pc,a2,_,_,r2,Y,Y,e2,a1,λ_=>g1,?_);let k1:↑ka=↑s.heap:=by simpa using C2.keys.length_eq
  let k2:↑av=↑s'.heap:=by simpa using ab.keys.length_eq
  have:(↑ka==↑av&&r2)=decide (s.heap=s'.heap):=by
   rw[Vv,Vb,g2,beq_iff_eq,decide_eq_true_eq,k1,k2];show(λ(z1,z2)=>(qj R.ok.up D.ok.up λc G=>?_).eq_of_length z1,λz=>(by rw[z],λE O=>?_))
   .let m:(UW (c.at_:Int):bT)∈ka.map (·.1):=C2.keys.mem_iff.mpr (U6.mpr (c,G,Y));let(E,m1,m2):=U6.mp m;let(d,hd,Z,m4):=z2 E m1;rw[m2]at Z;injection Z with Z;let Z:c.at_=d.at_:=⋯
    let q1:=HM.cellAt_mem R.ok.up G;let q2:=HM.cellAt_mem R.ok.up hd;rw[Z,q2]at q1;cases q1;show m4
   .let(c,G,ek):=U6.mp (C2.keys.mem_iff.mp (U6.mpr (E,O,Y)));show(c,G,ek.symm,z▸G)
  rw[this];show k
 .rw[decide_eq_false hv]at k⊢;show be k
end
end
section
open HM (aL RC)
open VasepBase (cellAt)
def CQ(D:List (bT×V))(x:Nat):Bool:=(cI D (UW (x:Int))).isSome
def Ld(h:Uu)(D:List (bT×V)):Nat:=↑(h.filter λc=>!CQ D c.at_)
structure t6 (h:VasepBase.Heap) (vals:List Nat) (kr:List (bT×V)) (wt:List Nat):Prop where
 s1: ∀x,CQ kr x=true->RC h vals x
 s2: ∀x∈wt,∀c,cellAt h x=some c->RC h vals x
 s3: ∀x∈vals,∀c,cellAt h x=some c->x∈wt\/CQ kr x=true
 s4: ∀x c,CQ kr x=true->cellAt h x=some c-> ∀y,(c.next=y\/c.data=y)-> ∀e,cellAt h y=some e->y∈wt\/CQ kr y=true
 len:kr.length+Ld h kr<=h.length
def o7{D:List (bT×V)}{x y:Nat}{v:V}:CQ (em D (UW (x:Int)) v) y=(decide (y=x)||CQ D y):=by
 unfold CQ;rw[qQ];by_cases h:y=x
 .subst h;simp
 .rw[ifn (λz=>h (by injection z with z;lia)),decide_eq_false h];rfl
def t6.start{vals:List Nat}:t6 h vals [] vals:=
 (λx q=>(by cases q),λx D c e=>.base D e,λx D c e=>.inl D,λx c q=>(by cases q),by unfold Ld;rw[Vr,Nat.zero_add];show WK _ _)
def t6.skip(D:t6 h vals E (G++[x]))(q:U7 h x=UH\/CQ E x=UB):t6 h vals E G:=by
 let mv:∀y,(∃e,U7 h y=Up e)->y∈G++[x]\/CQ E y=UB->y∈G\/CQ E y=UB:=λy (e,Z) m=>by
  rcases m with m|m
  .rcases VM.mp m with m|m
   .show .inl m
   .rw[Vh]at m;subst m;rcases q with q|q
    .rw[q]at Z;cases Z
    .show .inr q
  .show .inr m
 show(D.s1,λy I=>D.s2 y (Ws _ I),λy I c e=>mv y (c,e) (D.s3 y I c e),λy c q e z hz O ab=>mv z (O,ab) (D.s4 y c q e z hz O ab),D.len)
def t6.add{h:Uu}{vals:List Nat}{D:List (bT×V)}{wt:List Nat}{x:Nat}{c:ZC}{v:V}(G:t6 h vals D (wt++[x]))(up:aL h)(E:U7 h x=Up c)(hn:CQ D x=UF):
  t6 h vals (em D (UW (x:Int)) v) (wt++[c.next,c.data])/\Ld h (em D (UW (x:Int)) v)<Ld h D:=by
 let O:=G.s2 x (VP _ (Vh.mpr rfl)) c E;let lt:Ld h (em D (UW (x:Int)) v)<Ld h D:=by
  unfold Ld;let g:=HM.filter_grow (p:=λc=>!CQ (em D (UW (x:Int)) v) c.at_) (q:=λc=>!CQ D c.at_) (λc E=>by
   rw[o7,Bool.not_or,Vb]at E;show E.2) h
  rcases Nat.lt_or_eq_of_le g.1 with z|z
  .show z
  .let(m1,m2):=HM.cellAt_some E;have:=g.2 z c m1 (by rw[m2,hn];rfl);rw[o7,m2]at this;simp at this
 show((λy q=>?_,λy I d e=>?_,λy I d e=>?_,λy d q e z Z e' ab=>?_,?_),lt)
 .rw[o7,Wn,decide_eq_true_eq]at q;rcases q with q|q
  .subst q;show O
  .show G.s1 y q
 .rcases VM.mp I with m|m
  .show G.s2 y (Ws _ m) d e
  .simp only[UP,Zt,or_false]at m;show .next O E (m.imp Eq.symm Eq.symm) e
 .rw[o7];rcases G.s3 y I d e with m|m
  .rcases VM.mp m with m|m
   .show .inl (Ws _ m)
   .rw[Vh.mp m];simp
  .rw[m];simp
 .rw[o7];rw[o7,Wn,decide_eq_true_eq]at q;rcases q with q|q
  .subst q;rw[E]at e;cases e;show .inl (VP _ ?_);simp only[UP,Zt,or_false];show Z.imp Eq.symm Eq.symm
  .rcases G.s4 y d q e z Z e' ab with m|m
   .rcases VM.mp m with m|m
    .show .inl (Ws _ m)
    .rw[Vh.mp m];simp
   .rw[m];simp
 .have:=G.len;have:=gm D (UW (x:Int)) v;lia
def t6.fin{E:List (bT×V)}(D:t6 h vals E []):CQ E x=UB↔RC h vals x:=by
 show(D.s1 x,λr=>?_)
 induction r with
 |base m e=>show(D.s3 _ m _ e).elim (λz=>by simp at z) id
 |next _ e q G I=>show(D.s4 _ _ I e _ q _ G).elim (λz=>by simp at z) id
section
inductive P7(a:Ad)(d:List V)(H:Hp)(Q:VK)(g:XK):Prop|mk(c e f b s:_)(_:d=[.ref c])(_:bv a H c e f b s)(_:bj b)(_:js H ((Vasepa.toInts (Vasepa.lostOf s)).map V.int) Q)
def Cn:iK (OR Ev (bG (Bo K (bJ i) f) b8)):=λD H R R' (v,e,a,C,G,V,u,I,O,c,n,l,E,Z,ns,q1,q2,q3,q4,q5) h=>(v,e,a,C,G,V,u,I,O,c,n,l,E,Z,ns,q1,q2,q3,q4,λab p h1 h2 h3=>h _ _ (q5 ab p h1 h2 h3))
def rq(T:TX K U a):cf P w K U W cH 1 a.gZ ["store"] [] (P7 a):=by
 show T.tT.o2 ["store","reached","waiting","number","address"] λvs H Q b3 h=>?_
 let(st,pn,pc,I,s,rfl,R,N,k):=h;show(Y,λnd b4 A ch s0 hr=>?_);let hu:=fw hr;show(_,ac (aA (i:=1) nd rfl (adV rfl) kI)
  (ac (aA (i:=2) nd rfl (UT rfl) (dE (zJ rfl) (by rfl) T.Ck X0 (aa (wU XM aaz PySem.F.type_dict_values Ka (ai (pv 0) rfl)) af)))
  (ac (dF Vz (au (jQ hr.units) (pv 2) (aS af) (aB _))
   (ac (aA (i:=3) nd rfl (UT rfl) (wU UQ XD Yb Cm (pv 2)))
   (ag (aJ (jP (nI (B8 hu (pv 3) (ai (pv 0) rfl))) (iM (nI (kJ hu (pv 3) (pv 1))))).pt
    (ac (gx hu (pv 1) (pv 3) II rfl)
    (ag (aE (ej UQ VZ Wl qu (pv 2) (aa (iO hu (ai (pv 0) rfl) (pv 3) (λ_ _=>rfl)) af))))) ay))))
  (ag (am (nL (own:=[("address",4)]) (te:=bJ 4) (tt:=tB (Ir (bJ 4) (bJ 1))) rfl nd (fW (aW (xX rfl) (by rfl) T.xc YF (aa (ai (pv 0) rfl) af))) (show il ["store","reached","waiting","number","address"] (aP kE) _ [("address",4)]from K0 ())
   (λ_ _ _ _ _=>cQ (i:=4) nd rfl (UT rfl)) (λ_ _ _ _ _=>NV (nI (kJ hu (pv 4) (pv 1)))) (λ_ _ _ _ _=>pv 4)))))),?_)
 let(dx,e1):=R.obj;let(ka,e2,C2):=R.cel;let hh:=dM R.ok.up R.ok.bd;let ce:↑s.vals<=6:=by rw[R.ok.len];show N.few
 show λG a5=>?_
 let x1:bn H (aw H G (.dK [])):=aC a5;show(_,Y,st,_,dx,_,_,Y,x1 _ _ e1,T.aY,T.bD,Y,.inr (.inr (.inl (Y,.inl (_,x1 _ _ R.num)))),pn,_,Y,Y,x1 _ _ R.num,λvw bF=>?_);let x2:bn (aw H G (.dK [])) (aw (aw H G (.dK [])) vw (DN vw pn)):=aC bF;show(vw,pn,_,Y,ae,x2 _ _ (x1 _ _ R.num),λZ ap=>?_);let bd:=x1.trans x2;let bt:(dH I s.vals).map (·.2)=s.vals.map λn=>V.int ((n:Nat):Int):=by
  unfold dH;rw[VA];have:∀(l:List (List Nat))(m:List Nat),↑m<=↑l->(l.zip m).map ((λx:bT×V=>x.2)∘λp:List Nat×Nat=>((WV (S p.1):bT),V.int ((p.2:Nat):Int)))=m.map λn=>V.int ((n:Nat):Int):=λl=>by
   induction l with
   |nil=>intro m hm;rw[Vc (adg.mp hm)];rfl
   |cons x l ih=>
    intro m hm;cases m with
    |nil=>rfl
    |cons y m=>rw[Wb,UJ,UJ,ih m (by simpa using hm)];rfl
  show this _ _ (by rw[R.ok.len];show UD _)
 rw[bt];let x3:=aC (o:=.lst (s.vals.map λn=>V.int ((n:Nat):Int))) ap;let b0:G≠Z:=λz=>by rw[<-z,x2 _ _ ae]at ap;cases ap
 let a3:H Z=UH:=bd.free ap;show(λa1 D μ=>∃O E v3,D=[Up (.ref st),Up (.ref G),Up (.ref Z),v3,UH]/\a1=↑E+3*Ld s.heap O/\a1<=100/\bn H μ/\μ G=Up (.dK O)/\μ Z=Up (.lst (E.map λn=>V.int ((n:Nat):Int)))/\t6 s.heap s.vals O E,
  (_,[],s.vals,UH,Y,Y,?_,bd.trans x3,x3 _ _ (x2 _ _ ae),ae,t6.start),?_)
 .have:Ld s.heap []<=↑s.heap:=WK _ _;lia
 .rintro a1 D μ ⟨O,E,v3,rfl,rfl,cc,x4,g1,g2,an⟩;show(_,Y,zl,λp hp=>?_);let x5:bn μ (aw μ p (.lst [])):=aC hp;let bm:μ Z=Up (.lst ((E.map λn=>((n:Nat):Int)).map V.int)):=by rw[VA];show g2
  show(_,_,fG (bx.of (x5 _ _ bm)),jq ae,eF _,Y,_,Y,?_);rw[C9];let ab:=x4.trans x5;let k1:=x5 _ _ g1;let k2:=x5 _ _ g2;generalize aw μ p (.lst [])=H5 at x5 ab k1 k2;let o1:=ab _ _ e1;let o2:=ab _ _ e2;rcases List.eq_nil_or_concat E with z|⟨E,x,z⟩
  .subst z;show be ?_;let bk:∀y,CQ O y=(Xd s).contains y:=λy=>by
    rw[Vv,an.fin,UV];show(HM.reached_iff R.ok.up _ _).symm
   unfold mV;let(i1,i2):=C2.ints;let cd:↑ka=↑s.heap:=by simpa using C2.keys.length_eq
   show Ms (λR R' h q=>Cn _ _ _ _ q h) (_,Y,st,_,dx,_,_,Y,o1,T.aY,T.a_,Y,pc,_,_,Y,o2,i1,by rw[Uq,Uq];lia,λns q pm b1 hq=>?_);let bs:ns=s.heap.map λc=>(c.at_:Int):=qe (pm.trans i2) b1 (ug R.ok.up)
   subst bs;let x6:=aC (o:=.lst ((s.heap.map λc=>(c.at_:Int)).map V.int)) hq;let a6:=ab.trans x6;show(q,_,Y,bx.of ae,λa2 hD=>(λi μ=>bn (aw H5 q (.lst ((s.heap.map λc=>(c.at_:Int)).map V.int))) μ/\μ a2=Up (.lst ((((s.heap.take i).map λc=>c.at_).filter λy=>!(Xd s).contains y).map λn=>V.int ((n:Nat):Int))),
    (aC hD,ae),λi μ _ z=>bx.of (z.1 _ _ ae),?_,?_))
   .rintro i y H7 hi ⟨q1,q2⟩;obtain⟨c,hc,rfl⟩:∃c,s.heap[i]?=Up c/\y=V.int (c.at_:Int):=by
     rw[UM,UM]at hi;cases e:s.heap[i]? with
     |none=>rw[e]at hi;cases hi
     |some c=>rw[e]at hi;show(c,Y,(UI hi).symm)
    let tk:s.heap.take (i+1)=s.heap.take i++[c]:=by rw[Wz,hc];rfl
    show(Y,_,Y,_,Y,G,_,Y,fP.k (k:=UW (c.at_:Int)) (q1 _ _ (x6 _ _ k1)),_,Y,?_);let hb:(!(cI O (UW (c.at_:Int))).isSome)=!(Xd s).contains c.at_:=by rw[<-bk];rfl
    rw[hb];cases a4:(Xd s).contains c.at_ with
    |true=>
     show be (q1,?_);let e6:List.filter (λy=>!(Xd s).contains y) (Zb (λc=>c.at_) [c])=[]:=by rw[UJ,V7,a4];rfl
     rw[q2,tk,Vj,aco,e6,VB]
    |false=>
     show bf (_,Y,_,q2,?_,λb u e=>by rw[ah (ak e hD)];show q1 b u e,?_)
     .rw[Uq,Ux];have:=WK (λy=>!(Xd s).contains y) ((s.heap.take i).map λc=>c.at_);rw[Uq,VL]at this;lia
     .let e6:List.filter (λy=>!(Xd s).contains y) (Zb (λc=>c.at_) [c])=[c.at_]:=by rw[UJ,V7,a4];rfl
      rw[ae,tk,Vj,aco,e6,Vj];rfl
   .rintro H7 ⟨q1,q2⟩;rw[Uq,Uq,WO]at q2;show k H7 a2 (a6.trans q1) ?_ ?_
    .show a6.free hD
    .rw[q2];unfold aah ZA;rw[VA];rfl
  .rw[List.concat_eq_append]at z;subst z;let e3:(!(Zb WM ((E++[x]).map λn=>((n:Nat):Int))).isEmpty)=UB:=by simp
   rw[e3];show bf (_,λ_ _ h=>h,?_);let lw:↑(E++[x])=↑E+1:=by simp
   show(_,Y,.inl (Y,_,bx.of k2),Z,_,V.int ((x:Nat):Int),Y,Y,k2,by simp,?_);let e4:(Zb (λn=>V.int ((n:Nat):Int)) (E++[x])).dropLast=E.map λn=>V.int ((n:Nat):Int):=by rw[Vj];simp
   rw[e4];let av:=b0;let x6:bn H (aw H5 Z (.lst (E.map λn=>V.int ((n:Nat):Int)))):=fY ab a3;let k3:(aw H5 Z (.lst (E.map λn=>V.int ((n:Nat):Int)))) G=Up (.dK O):=by rw[ah av];show k1
   let k4:(aw H5 Z (.lst (E.map λn=>V.int ((n:Nat):Int)))) Z=Up (.lst (E.map λn=>V.int ((n:Nat):Int))):=ae;generalize aw H5 Z (.lst (E.map λn=>V.int ((n:Nat):Int)))=H6 at x6 k3 k4;let o1:=x6 _ _ e1;let o2:=x6 _ _ e2;show(_,Y,_,Y,st,_,dx,_,_,Y,o1,T.aY,T.a_,Y,pc,_,Y,fP.k (k:=UW (x:Int)) o2,_,Y,?_);rw[fe C2 R.ok.up];let skip:(U7 s.heap x=UH\/CQ O x=UB)->∃μ',μ'<↑(E++[x])+3*Ld s.heap O/\∃ar a0 b2,[Up (V.ref st),Up (V.ref G),Up (V.ref Z),Up (V.int ((x:Nat):Int)),UH]=[Up (V.ref st),Up (V.ref G),Up (V.ref Z),b2,UH]/\μ'=↑a0+3*Ld s.heap ar/\μ'<=100/\bn H H6/\H6 G=Up (.dK ar)/\H6 Z=Up (.lst (a0.map λn=>V.int ((n:Nat):Int)))/\t6 s.heap s.vals ar a0:=λq=>
    (_,⋯,O,E,_,Y,Y,⋯,x6,k3,k4,an.skip q)
   cases hc:U7 s.heap x with
   |none=>show be (be (skip (.inl hc)))
   |some c=>
    show bf (_,Y,_,Y,G,_,Y,fP.k (k:=UW (x:Int)) k3,_,Y,?_);change if(!CQ O x)=UB then _ else _
    cases hi:CQ O x with
    |true=>show be (skip (.inr hi))
    |false=>
     let(J,lt):=an.add (v:=.bl UB) R.ok.up hc hi;let hl:=an.len;show bf (_,Y,_,Y,G,_,Y,so.k (k:=UW (x:Int)) k3 (by rw[Ux];lia),?_);let(m1,m2):=HM.cellAt_some hc;let(t,t1,t2):=C2.vals c m1;let x7:bn H (aw H6 G (.dK (em O (UW (x:Int)) (.bl UB)))):=fY x6 a5;let k5:(aw H6 G (.dK (em O (UW (x:Int)) (.bl UB)))) Z=Up (.lst (E.map λn=>V.int ((n:Nat):Int))):=by rw[ah av.symm];show k4
     let k6:(aw H6 G (.dK (em O (UW (x:Int)) (.bl UB)))) G=Up (.dK (em O (UW (x:Int)) (.bl UB))):=ae;generalize aw H6 G (.dK (em O (UW (x:Int)) (.bl UB)))=H7 at x7 k5 k6;let dg:=fP.k (k:=UW (x:Int)) (x7 _ _ e2);rw[<-m2,t1,m2]at dg;show(_,Y,.inl (Y,_,bx.of k5),_,Y,st,_,dx,_,_,Y,x7 _ _ e1,T.aY,T.a_,Y,_,Y,pc,_,Y,dg,Z,t,_,_,Y,Y,k5,gK.of (x7 _ _ t2),?_,?_)
     .rw[Uq,Ux];simp only[Ut,Vr];lia
     .show(_,?_,_,E++[c.next,c.data],_,Y,Y,?_,fY x7 a3,by rw[ah av];show k6,by rw[ae,Vj];rfl,J)
      .rw[Us];simp only[Ut,Vr];lia
      .rw[Us];simp only[Ut,Vr];lia
end
end
section
open HM (aL)
open Vasepa (renameNumber)
def BZ:List Nat:=(W0 12).map (· +1)
structure iJ (r:List Nat):Prop where
 pm:r.Perm BZ
def iJ.len{r:List Nat}(R:iJ r):↑r=12:=by rw[R.pm.length_eq];decide
def iJ.nd{r:List Nat}(R:iJ r):r.Nodup:=R.pm.nodup_iff.mpr ()
def iJ.bd(R:iJ r)(h:x∈r):1<=x/\x<=12:=by
 have:∀y∈BZ,1<=y/\y<=12:=()
 show this x (R.pm.mem_iff.mp h)
def B1{r:List Nat}(R:iJ r)(D:1<=n)(h2:n<=12):r[n-1]?=Up (Xw r n):=by
 have:=R.len;unfold Xw;rw[ifn ⋯,Vy,UC ⋯]
 rfl
def B0(R:iJ r)(h:¬(1<=n/\n<=12)):Xw r n=n:=by
 have:=R.len;unfold Xw;by_cases D:n=0
 .rw[ifp D,D]
 .rw[ifn D,Vy,Yc ⋯]
  rfl
def Hg(R:iJ r)(D:1<=n)(h2:n<=12):1<=Xw r n/\Xw r n<=12:=R.bd (U3 (B1 R D h2))
def Hh(R:iJ r)(h:n<=99):Xw r n<=99:=by
 by_cases q:1<=n/\n<=12
 .have:=(Hg R q.1 q.2).2;lia
 .rw[B0 R q];show h
def NN(R:iJ r)(E:1<=m)(G:m<=12)(I:1<=n)(O:n<=12)(h:Xw r m=Xw r n):m=n:=by
 let D:=B1 R E G;let V:=B1 R I O;rw[h]at D;let Z:=(UO.mp D).1;have:=(List.getElem?_inj Z R.nd).mp (D.trans V.symm);lia
def IM{l:Uu}(D:(l.map (·.at_)).Nodup){c:ZC}(E:c∈l):U7 l c.at_=Up c:=by
 induction l with
 |nil=>simp at E
 |cons d l G=>
  rw[UJ,VR]at D;rw[HM.cellAt_cons];rcases UP.mp E with z|z
  .rw[z,ifp rfl]
  .rw[ifn (λe=>D.1 (U6.mpr (c,z,e.symm)))];show G D.2 z
def AR(h:∀c∈l,c.at_≠x):U7 l x=UH:=by
 cases e:U7 l x with
 |none=>rfl
 |some c=>let(D,E):=HM.cellAt_some e;show absurd E (h c D)
def t5:∀{l h:Uu},aL h->(l.map (·.at_)).Nodup->∀x,U7 (W4 h l) x=match U7 l x with|some c=>Up c|none=>U7 h x
 |[],h,r,_,x=>rfl
 |c::l,h,r,D,x=>by
  rw[UJ,VR]at D;change U7 (W4 (Wf c h) l) x=_;rw[t5 (HM.put_rising r) D.2,HM.put_at r,HM.cellAt_cons];by_cases e:c.at_=x
  .have:U7 l x=UH:=AR λd E z=>D.1 (U6.mpr (d,E,z.trans e.symm))
   rw[ifp e,ifp e,this]
  .rw[ifn e,ifn e]
def ie:∀{l h:Uu},aL h->aL (W4 h l)
 |[],h,r=>r
 |c::l,h,r=>ie (l:=l) (h:=Wf c h) (HM.put_rising r)
def F3{l m:Uu}(p:l.Perm m)(D:(l.map (·.at_)).Nodup):W4 [] l=W4 [] m:=by
 let E:(m.map (·.at_)).Nodup:=(p.map _).nodup_iff.mp D;show HM.rising_ext (ie .nil) (ie .nil) λx=>?_
 rw[t5 .nil D,t5 .nil E];have:U7 l x=U7 m x:=by
  cases e:U7 l x with
  |some c=>
   let(I,O):=HM.cellAt_some e;have:=IM E (p.mem_iff.mp I);rw[O]at this;show this.symm
  |none=>
   symm
   show AR λc G z=>?_
   have:=IM D (p.mem_iff.mpr G);rw[z,e]at this;cases this
 rw[this]
def bz.list{Z:List (bT×V)}(C:bz H Z h)(I:aL h):∃E:Uu,Z.map (·.1)=ip E/\E.Perm h:=by
 let G:∀c∈h,(U7 h (Fk (UW (c.at_:Int))).toNat).getD (0,0,0)=c:=λc D=>by
  change(U7 h ((c.at_:Nat):Int).toNat).getD _=c;rw[Zf,HM.cellAt_mem I D];rfl
 show((Z.map (·.1)).map λk=>(U7 h (Fk k).toNat).getD (0,0,0),?_,?_)
 .unfold ip;rw[VA]
  conv=>lhs;rw[<-adh (Z.map (·.1))]
  show WD λk E=>?_
  let(c,D,e):=U6.mp (C.keys.mem_iff.mp E);subst e;change _=(UW (((U7 h (Fk (UW (c.at_:Int))).toNat).getD (0,0,0)).at_:Int):bT);rw[G c D];rfl
 .show(C.keys.map _).trans ?_;rw[VA];have:(h.map ((λk:bT=>(U7 h (Fk k).toNat).getD (0,0,0))∘λc=>(UW (c.at_:Int):bT)))=h:=by
   conv=>rhs;rw[<-adh h]
   show WD λc D=>G c D
  rw[this]
section
def Hf(r:List Nat):List V:=r.map λn=>V.int ((n:Nat):Int)
inductive Ea(K:PySem.W.Frag)(a:List V)(H:Hp)(Q:VK)(b:XK):Prop|mk(l:Addr)(r:List Nat)(n:Nat)(_:a=[.int ((n:Nat):Int),.ref l])(_:bx K H l (Hf r))(_:iJ r)(_:Q (.int ((renameNumber r n:Nat):Int)) H)
def jz(T:TX K U a):cf P w K U W cH 1 a.gX ["number","row"] [] (Ea K):=by
 show T.tR.o2 ["number","row"] λvs H Q G h=>?_
 let(l,r,n,rfl,E,R,k):=h;show(Y,λV I A Z s0 O=>?_);show(_,ag (am (gy (LU ui ui aF (pv 0) (pg T.fh)) (c9 cS (pv 1) (bI L6 (pv 0) aF) (λ_ _=>rfl)) (pv 0))),?_);show(_,Y,_,_,Y,Y,_,Y,?_);by_cases D:1<=n
 .rw[decide_eq_true (show(1:Int)<=(n:Nat) by lia)];show bf (_,_,Y,Y,_,Y,?_);by_cases h2:n<=12
  .rw[decide_eq_true (show((n:Nat):Int)<=12 by lia)];show bf (_,Y,_,Y,_,_,Y,Y,l,_,_,.int ((renameNumber r n:Nat):Int),Y,Y,E,?_,k);rw[show((n:Nat):Int)-1=((n-1:Nat):Int) by lia];show b5 ?_;unfold Hf;rw[UM,B1 R D h2];rfl
  .rw[decide_eq_false (show¬((n:Nat):Int)<=12 by lia)];rw[B0 R ⋯]at k;show be (_,Y,k)
 .rw[decide_eq_false (show¬(1:Int)<=(n:Nat) by lia)];rw[B0 R ⋯]at k;show be (_,Y,be (_,Y,k))
end
end
section
open VasepBase (Store)
open Vasepa (renameNumber renamed)
def MH{d:Uw}{o:W2}{Z:List (bT×V)}{g:TG}{tb:TS}{G:mz}{D:L2.St}{H:Hp}(Pv:Nat->L2.St->Hp->Prop)(h0:Pv 0 D H)(hl:∀i D H,Pv i D H->H d=Up (.frz o (.dK Z)))(hs:∀i k v D H,Z[i]?=Up (k,v)->Pv i D H->g (kV k) D H λO I=>tb {G with nx:=Pv (i+1),ct:=Pv (i+1),bk:=G.nx} O I)(hd:∀D H,Pv ↑Z D H->G.nx D H):
  ∃W:Nat->Nat->L2.St->Hp->Prop,(∃m,W 0 m D H)/\∀i m D H,W i m D H->
   ((Ra d o Z).stop i H/\G.nx D H)\/((Ra d o Z).go i H/\∃N:L2.St->Hp->Prop,(∀σ' E,N σ' E->∃m',m'<m/\W (i+1) m' σ' E)/\∀x E,(Ra d o Z).yld i H x E->g x D E λO I=>tb {G with nx:=N,ct:=N,bk:=G.nx} O I):=by
 show(λi m D H=>m=↑Z-i/\i<=↑Z/\Pv i D H,(_,Y,VN _,h0),?_);rintro i m D H ⟨rfl,hi,p⟩;let q:=hl i D H p;by_cases ab:i<↑Z
 .show .inr ((q,ab),Pv (i+1),λσ' E p'=>(↑Z-(i+1),⋯,Y,ab,p'),λx E y=>?_);let(e,k,v,e1,e2):=y;subst e e2;show hs i k v D _ e1 p
 .let e:i=↑Z:=⋯
  subst e;show .inl ((q,UD _),hd D H p)
def E8{td:TE}{tb:TS}{I:mz}{D:L2.St}{H:Hp}(d:Uw){Z:List (bT×V)}(hd:H d=Up (.dK Z))(ab:∀(G:Hp)(R:VK),R (.ref d) G->(∀b,b≠d->G b=H b)->td D G R)(Pv:W2->Nat->L2.St->Hp->Prop)(h0:∀o,Pv o 0 D (aw H d (.frz o (.dK Z))))(hl:∀o i D H,Pv o i D H->H d=Up (.frz o (.dK Z)))(hs:∀o i k v D H,Z[i]?=Up (k,v)->Pv o i D H->∀O:mz,O.nx=Pv o (i+1)->tb O (D.set j (Up (kV k))) H)(hq:∀o D H,Pv o ↑Z D H->I.nx D (aw H d (.dK Z))):OQ (Rj (MB td) (mQ j) tb) I D H:=by
 show(d,.dK Z,hd,Ww,λE=>ab _ _ (d,E,Y,.inl (Z,ae,?_)) λb hb=>ah hb);show MH (Pv E) (h0 E) (hl E) (λi k v D H e p=>hs E i k v D H e p _ rfl) λD H p=>(hl E _ D H p,hq E D H p)
def fP.f{H:Hp}{a:Uw}{Z:List (bT×V)}(e:H a=Up (.frz o (.dK Z))):fP H a (kV k) (cI Z k):=.inl (Z,k,.inr (o,e),Y,Y)
def Oh(m:iK E)(n:iK G):iK (Iu E G):=λD H R R' q h=>m D H _ _ q λx I O=>n D I _ _ O λy Z (a,v,e,g,V)=>(a,v,e,g,h _ _ V)
def we{H E:Hp}(G:H d=Up u)(x:eh d H E):bn H (aw E d u):=λb o e=>by
 by_cases D:b=d
 .rw[D,ae];rw[D,G]at e;show e
 .rw[ah D];show x b o e D
section
inductive Gv(K:PySem.W.Frag)(a:Ad)(d:List V)(H:Hp)(Q:VK)(g:XK):Prop|mk(l:Addr)(r:List Nat)(c e f:Addr)(b:List (List Nat))(s:Store)(_:d=[.ref c,.ref l])(_:H l=some (.lst (Hf r)))(_:iJ r)(_:bv a H c e f b s)(_:bj b)(_:∀H' st' pn' pc',bn H H'->H st'=none->bv a H' st' pn' pc' b (renamed r s)->Q (.ref st') H')
def sO(T:TX K U a):cf P w K U W cH 3 a.ir ["store","row"] [] (Gv K a):=by
 let a0:=jz T;let GI:=jS T;show T.vi.o2 ["store","row","numbers","name","cells","address","fields","number"] λvs H Q cq h=>?_
 let(l,r,st,pn,pc,I,s,rfl,hl,RO,R,N,k):=h;show(Y,λnd cs A c0 s0 hr=>?_);let hu:=fw hr;let a2:Room 1 _:=hr.mono ();show(_,ac (aA (i:=2) nd rfl (UT rfl) kI)
  (ac (IG (lu Vz rfl (B6 (ai (pv 0) rfl)) (cQ (i:=3) nd rfl (UT rfl))
   (ag (gx hu (pv 2) (pv 3) (aX a0 T.fF a2 aq (aa (iO hu (ai (pv 0) rfl) (pv 3) (λ_ _=>rfl)) (aa (pv 1) af))) rfl))))
  (ac (aA (i:=4) nd rfl (UT rfl) kI)
  (ac (IG (lu Vz rfl (B6 (ai (pv 0) rfl)) (cQ (i:=5) nd rfl (UT rfl))
   (ac (LW (i:=6) (own:=[("number",7)]) (te:=mD (Ea K) [] E0 (bG (bJ 7) (bG (bJ 1) b8))) rfl nd rfl rfl (Nv rfl rfl rfl ()) (Qq (iO hu (ai (pv 0) rfl) (pv 5) (λ_ _=>rfl))) (show il ["store","row","numbers","name","cells","address","fields","number"] (aP mE) _ [("number",7)]from K0 ())
    (λ_ _ _ _ _=>cQ (i:=7) nd rfl (UT rfl)) (λ_ _ _ _ _=>gv) (λ_ _ _ _ _=>aX a0 T.fF a2 aq (aa (pv 7) (aa (pv 1) af))))
   (ag (gx hu (pv 4) (aX a0 T.fF a2 aq (aa (pv 5) (aa (pv 1) af))) (dE kl (by rfl) T.Cj YT (aa (pv 6) af)) rfl)))))
  (ag (am (dS T.xg GI T.xH hr aq (aa (pv 2) (aa (pv 4) af)))))))),?_)
 iterate 5 skip
 let(dx,e1):=R.obj;let(ka,e2,C2):=R.cel;let ct:=N.few;let bk:↑(s.vals.map (renameNumber r))=↑I:=by rw[Uq];show R.ok.len
 show λO ap=>?_
 let x1:bn H (aw H O (.dK [])):=aC ap;let nl:∀{d:Uw}{Z:List (bT×V)},H d=Up (.dK Z)->l≠d:=λe=>aV hl e (by intro z;cases z)
 let ns:∀{d:Uw}{Z:List (bT×V)},H d=Up (.dK Z)->st≠d:=λe=>aV e1 e (by intro z;cases z)
 let nq:O≠pn:=λz=>by rw[z,R.num]at ap;cases ap
 show E8 pn (x1 _ _ R.num) (λE R' hR G=>(_,Y,st,_,dx,_,_,Y,by rw[G st (ns R.num)];show x1 _ _ e1,T.aY,T.bD,Y,hR))
  (λo i D E=>∃v,D=[Up (.ref st),Up (.ref l),Up (.ref O),v,UH,UH,UH,UH]/\eh pn H E/\E pn=Up (.frz o (.dK (dH I s.vals)))/\E O=Up (.dK ((dH I (s.vals.map (renameNumber r))).take i)))
  (λo=>(UH,Y,λb u e hb=>by rw[ah hb];show x1 _ _ e,ae,by rw[ah nq,ae];rfl)) (λo i D E (_,_,_,z,_)=>z) ?_ ?_
 .rintro o i kk vv D E hi ⟨v,rfl,x2,g1,g2⟩ D' a1;let ar:i<↑I:=by
   have:=(UO.mp hi).1;have:=rD I s.vals;lia
  let h1:I[i]?=Up I[i]:=UC ar;let h2:s.vals[i]?=Up (s.vals[i]'(by rw[R.ok.len];show ar)):=UC _;let h3:=vL h1 h2;rw[hi]at h3;cases h3;let dg:=fP.f (k:=WV (S I[i])) g1;rw[kO N.nd h1 h2]at dg;show(_,Y,st,_,dx,_,_,Y,x2 _ _ e1 (ns R.num),T.aY,T.bD,Y,_,Y,pn,_,Y,dg,_,Y,l,r,_,Y,bx.of (x2 _ _ hl (nl R.num)),RO,_,Y,_,Y,O,_,Y,so.k (k:=WV (S I[i])) g2 ?_,?_)
  .rw[VL,Ux];lia
  .rw[a1];let h4:(s.vals.map (renameNumber r))[i]?=Up (renameNumber r (s.vals[i]'(by rw[R.ok.len];show ar))):=by rw[UM,h2];rfl
   rw[Ew (Ch N bk) (vL h1 h4)];show(_,Y,λb u e hb=>by rw[ah (ak e ap)];show x2 b u e hb,by rw[ah nq.symm];show g1,ae)
 .rintro o D E ⟨v,rfl,x2,g1,g2⟩;let ce:↑(dH I s.vals)=↑(dH I (s.vals.map (renameNumber r))):=by
   unfold dH;rw[Uq,Uq,ZP,ZP,Uq]
  rw[ce,WO]at g2;let x3:=we R.num x2;let g3:(aw E pn (.dK (dH I s.vals))) O=Up (.dK (dH I (s.vals.map (renameNumber r)))):=by rw[ah nq];show g2
  generalize aw E pn (.dK (dH I s.vals))=H3 at x3 g3⊢;show λqc an=>?_
  let x4:bn H3 (aw H3 qc (.dK [])):=aC an;let a4:=x3.trans x4;let g4:=x4 _ _ g3;let a3:qc≠pc:=λz=>by rw[z,x3 _ _ e2]at an;cases an
  let cp:O≠qc:=λz=>by rw[<-z,g3]at an;cases an
  let bl:O≠pc:=λz=>by rw[z,e2]at ap;cases ap
  let b0:H qc=UH:=x3.free an;let(G,k1,k2):=C2.list R.ok.up;let hh:=dM R.ok.up R.ok.bd;let cl:↑ka=↑G:=by have:=congrArg Xc k1;unfold ip at this;simpa using this
  let cx:↑G=↑s.heap:=k2.length_eq;show E8 pc (a4 _ _ e2) (λE R' hR G=>(_,Y,st,_,dx,_,_,Y,by rw[G st (ns e2)];show a4 _ _ e1,T.aY,T.a_,Y,hR))
   (λo i D E=>∃v5 v6 kc,D=[Up (.ref st),Up (.ref l),Up (.ref O),v,Up (.ref qc),v5,v6,UH]/\eh pc H E/\E pc=Up (.frz o (.dK ka))/\E O=Up (.dK (dH I (s.vals.map (renameNumber r))))/\E qc=Up (.dK kc)/\↑kc<=i/\bz E kc (W4 [] ((G.take i).map (XT r))))
   (λo=>(UH,UH,[],Y,λb u e hb=>by rw[ah hb];show a4 _ _ e,ae,by rw[ah bl];show g4,by rw[ah a3,ae],UD _,bz.nil _)) (λo i D E (_,_,_,_,_,z,_)=>z) ?_ ?_
  .rintro o i kk vv D E hi ⟨v5,v6,kc,rfl,x5,g5,g6,g7,l7,C7⟩ D' a1;let ar:i<↑G:=by have:=(UO.mp hi).1;lia
   obtain⟨c,hc⟩:∃c,G[i]?=Up c:=(_,UC ar);let cd:kk=UW (c.at_:Int):=by
    let z:(ka.map (·.1))[i]?=Up kk:=by rw[UM,hi];rfl
    rw[k1]at z;unfold ip at z;rw[UM,hc]at z;show(UI z).symm
   subst cd;let a6:c∈s.heap:=k2.mem_iff.mp (U3 hc);let(t,t1,t2):=C2.vals c a6;let dg:=fP.f (k:=UW (c.at_:Int)) g5;rw[t1]at dg;let t3:E t=Up _:=x5 _ _ t2 (aV t2 e2 (by intro z;cases z));let l3:E l=Up _:=x5 _ _ hl (nl e2);let s3:E st=Up _:=x5 _ _ e1 (ns e2);unfold uG Jw;show Om (Oh (gT ft) ft) (_,Y,st,_,dx,_,_,Y,s3,T.aY,T.a_,Y,_,Y,pc,_,Y,dg,t,_,[.int ((renameNumber r c.next:Nat):Int),.int ((renameNumber r c.data:Nat):Int)],Y,gK.of t3,zl,Y,λi x y H6 hx hy x6 R' hR=>?_,λH6 bt x6 hD e6=>?_)
   .match i,hx,hy with
    |0,hx,hy=>cases hx;cases hy;show(_,Y,_,Y,l,r,c.next,Y,bx.of (x6 _ _ l3),RO,hR _ (bn.refl _))
    |1,hx,hy=>cases hx;cases hy;show(_,Y,_,Y,l,r,c.data,Y,bx.of (x6 _ _ l3),RO,hR _ (bn.refl _))
    |n+2,hx,_=>simp at hx
   .show(_,Y,bt,_,Y,.inl (bx.of e6,λtp ch=>?_));let x7:bn H6 (aw H6 tp (.tup [.int ((renameNumber r c.next:Nat):Int),.int ((renameNumber r c.data:Nat):Int)])):=aC ch;let ab:=x6.trans x7;let g8:=ab _ _ g7;let(b1,b2,b3,b4):=R.ok.bd c a6;show(_,Y,_,Y,_,Y,l,r,c.at_,Y,bx.of (ab _ _ l3),RO,?_);let bm:(aw H6 tp (.tup [.int ((renameNumber r c.next:Nat):Int),.int ((renameNumber r c.data:Nat):Int)])) tp=Up (.tup [.int ((renameNumber r c.next:Nat):Int),.int ((renameNumber r c.data:Nat):Int)]):=ae;let g9:=ab _ _ g5;let a5:=ab _ _ g6;let bs:eh pc H (aw H6 tp (.tup [.int ((renameNumber r c.next:Nat):Int),.int ((renameNumber r c.data:Nat):Int)])):=λb u e hb=>ab _ _ (x5 b u e hb)
    let C8:=(C7.keep λb xs e=>ab _ _ e).put (ie .nil) (c:=XT r c) bm;generalize aw H6 tp (.tup [.int ((renameNumber r c.next:Nat):Int),.int ((renameNumber r c.data:Nat):Int)])=H7 at ab g8 g9 a5 bm bs C8⊢;show(qc,_,Y,so.k (k:=UW ((renameNumber r c.at_:Nat):Int)) g8 (by rw[Ux];lia),?_);rw[a1];show(_,_,_,Y,λb u e hb=>by rw[ah (ak e b0)];show bs b u e hb,by rw[ah a3.symm];show g9,by rw[ah cp];show a5,ae,?_,?_)
    .have:=gm kc (UW ((renameNumber r c.at_:Nat):Int)) (.ref tp);lia
    .let e9:W4 [] ((G.take (i+1)).map (XT r))=Wf (XT r c) (W4 [] ((G.take i).map (XT r))):=by
      have:G.take (i+1)=G.take i++[c]:=by rw[Wz,hc];rfl
      rw[this,Vj];unfold W4;rw[acO];rfl
     rw[e9];show C8.keep λb xs e=>by rw[ah (aV e g8 (by intro z;cases z))];show e
  .rintro o D E ⟨v5,v6,kc,rfl,x5,g5,g6,g7,l7,C7⟩;rw[cl,WO]at C7;let x6:=we e2 x5;let h1:(aw E pc (.dK ka)) O=Up _:=(ah bl).trans g6;let h2:(aw E pc (.dK ka)) qc=Up _:=(ah a3).trans g7;let C8:bz (aw E pc (.dK ka)) kc (W4 [] (G.map (XT r))):=C7.keep λb xs e=>by
    rw[ah (λz=>by rw[z,g5]at e;cases e)];show e
   generalize aw E pc (.dK ka)=H8 at x6 h1 h2 C8;show(_,Y,_,Y,λav ds bd cc cL=>(av,ds,_,_,Y,ae,Y,?_));let x9:bn H8 (aw (aw (aw H8 ds (.own av)) av (.ins a.cV ds [])) av (.ins a.cV ds [("numbers",.ref O),("cells",.ref qc)])):=bK (C:=a.cV) bd cc;let co:((G.map (XT r)).map (·.at_)).Nodup:=by
    rw[VA];let cm:G.Pairwise λc d=>c.at_≠d.at_:=Za.mp ((k2.map (λc:ZC=>c.at_)).nodup_iff.mpr (HM.rising_nodup R.ok.up))
    show Za.mpr (List.Pairwise.imp_of_mem (λ{c d}hc hd h z=>h ?_) cm);let(b1,b2,_):=R.ok.bd c (k2.mem_iff.mp hc);let(b3,b4,_):=R.ok.bd d (k2.mem_iff.mp hd);show NN RO b1 b2 b3 b4 z
   let e9:W4 [] (G.map (XT r))=(ZU r s).heap:=F3 (k2.map _) co;rw[e9]at C8;let bF:HM.Bounds (s.heap.map (XT r)):=λc hc=>by
    let(d,hd,rfl):=U6.mp hc;let(b1,b2,b3,b4):=R.ok.bd d hd;show((Hg RO b1 b2).1,(Hg RO b1 b2).2,Hh RO b3,Hh RO b4)
   let(u1,u2):=t0 (h2:=s.heap.map (XT r)) (h:=[]) .nil (λc hc=>by simp at hc) bF;show k _ av O qc (x6.trans x9) (x6.free bd) ((ds,ae),x9 _ _ h1,(kc,x9 _ _ h2,C8.keep λb xs e=>x9 _ _ e),(bk,λv hv=>?_,u1,u2));let(u,hu,rfl):=U6.mp hv;show Hh RO (R.ok.big u hu)
end
end
section
open HM (aj)
open VasepBase (Store)
open Vasepa (isRow outcomeRow renamedOutcome)
def xY:∀{l m:List Int},l.Nodup->(∀x∈l,x∈m)->↑m<=↑l->l.Perm m
 |[],m,_,_,h=>by rw[Vc (adg.mp h)]
 |x::l,m,D,q,h=>by
  rw[VR]at D;let E:=q x UU;show(List.Perm.cons x (xY D.2 (λy G=>?_) ?_)).trans (List.perm_cons_erase E).symm
  .show(List.mem_erase_of_ne (λz=>D.1 (by rw[<-z];show G))).mpr (q y (UR _ G))
  .rw[List.length_erase_of_mem E];rw[Ut]at h;lia
def Eu:List Int:=BZ.map λ(n:Nat)=>(n:Int)
def BY(D:List Int):Bool:=!(D.any (λi=>decide (i<0))||!isRow (D.map VY))
def Iz{E:List Int}:BY E=UB↔E.Perm Eu:=by
 unfold BY;rw[acT,Wc,acp];constructor
 .rintro⟨G,h2⟩;let G:∀x∈E,0<=x:=λx D=>by
   have:=aat.mp G x D;rw[decide_eq_true_eq]at this;lia
  unfold adi at h2;rw[Vb,beq_iff_eq,Uq,XN]at h2;show(xY (l:=Eu) () (λx D=>?_) ?_).symm
  .let(n,V,rfl):=U6.mp D;let(i,I,rfl):=U6.mp V;have:=h2.2 i I;let(y,O,e):=U6.mp (UV.mp this);have:=G y O;have:y=((i+1:Nat):Int):=⋯
   rw[<-this];show O
  .rw[h2.1];decide
 .intro p;let m:∀x,x∈E↔x∈Eu:=λx=>p.mem_iff
  show(aat.mpr λx D=>?_,?_)
  .have:∀y∈Eu,¬decide (y<0)=UB:=()
   show this x ((m x).mp D)
  .unfold adi;rw[Vb,beq_iff_eq,Uq,p.length_eq,XN];show((),λi I=>UV.mpr (U6.mpr (((i+1:Nat):Int),(m _).mpr ?_,⋯)));show U6.mpr (i+1,U6.mpr (i,I,Y),Y)
def Qk{D:List Int}(h:BY D=UB):iJ (D.map VY)/\D.map V.int=Hf (D.map VY):=by
 let p:=Iz.mp h;let e:Eu.map VY=BZ:=()
 show(⟨e▸p.map VY⟩,?_);unfold Hf;rw[VA];show WD λx E=>?_
 have:∀y∈Eu,0<=y:=()
 have:=this x (p.mem_iff.mp E);change V.int x=V.int ((x.toNat:Nat):Int)
 congr 1
 lia
def N7:(outcomeRow o=outcomeRow p)↔o=p:=by
 show(λh=>?_,λh=>by rw[h]);cases o with
 |over=>cases p<;>first|rfl|(simp [outcomeRow]at h)
 |cut=>cases p<;>first|rfl|(simp [outcomeRow]at h)
 |wrong w x=>
  cases p with
  |over=>simp [outcomeRow]at h
  |cut=>simp [outcomeRow]at h
  |wrong E G=>
   simp only[outcomeRow,List.cons.injEq,and_true,true_and]at h;let(D,h2):=h;let h2:x=G:=⋯
   let D:w=E:=by cases w<;>cases E<;>first|rfl|(simp [acb]at D)
   rw[D,h2]
section
inductive NE(K:PySem.W.Frag)(b:List V)(H:Hp)(Q:VK)(c:XK):Prop|mk(l:Addr)(a:List Int)(_:b=[.ref l])(_:bx K H l (a.map V.int))(_:∀H',bn H H'->Q (.bl (BY a)) H')
def JY(T:TX K U a):cf P w K U W cH 1 a.xP ["row"] [] (NE K):=by
 show T.MU.o2 ["row"] λvs H Q ap h=>?_
 let(l,G,rfl,hl,k):=h;show(Y,λnd ar A av s0 hr=>?_);show(_,ag (am (dv (B9 hr.units) (aW HV (by rfl) T.xc YF (aa (pv 0) af))
  (dE (Dd rfl) (by rfl) T.Ck X0 (aa (dE KG (by rfl) T.vM PyProof.Rows.boot_range (aa aF (aa (bI lD (pg T.fh) aF) af))) af)) (aB _))),?_)
 show(_,Y,l,G,Y,hl,λD p I an hp=>?_);let x1:bn H (aw H p (.lst (D.map V.int))):=aC hp;show(_,_,Y,Y,1,_,Y,λq hq=>?_);let O:bn (aw H p (.lst (D.map V.int))) _:=aC (o:=.rng 1 (12+1)) hq;show(q,1,12+1,Y,ae,(),(),(),λl2 ab=>?_);let E:=aC (o:=.lst (((W0 (12+1-1:Int).toNat).map λ(n:Nat)=>(1:Int)+n).map V.int)) ab;let Z:((W0 (12+1-1:Int).toNat).map λ(n:Nat)=>(1:Int)+n)=Eu:=()
 rw[Z]at E⊢;show(_,_,fG (bx.of (E _ _ (O _ _ ae))),fG (bx.of ae),eF _,eF _,?_);let e1:decide (D=Eu)=BY G:=by
  rw[Vv,decide_eq_true_eq,Iz];show(λz=>z▸I.symm,λz=>qe (I.trans z) an ())
 rw[FE,e1];show k _ ((x1.trans O).trans E)
def M3(H:Hp)(e:Uw)(o:Y1):Prop:=H e=Up (.lst ((YH o).map V.int))
inductive Lv(K:PySem.W.Frag)(a:List V)(H:Hp)(Q:VK)(b:XK):Prop|mk(e l:Addr)(r:List Nat)(o:VasepBase.Outcome)(_:a=[.ref e,.ref l])(_:M3 H e o)(_:bx K H l (Hf r))(_:iJ r)(_:∀H' p,bn H H'->M3 H' p (renamedOutcome r o)->Q (.ref p) H')
def wX(T:TX K U a):cf P w K U W cH 2 a.jW ["end","row"] [] (Lv K):=by
 let E:=jz T;show T.zK.o2 ["end","row"] λvs H Q Z h=>?_
 let(e,l,r,o,rfl,D,I,G,k):=h;show(Y,λnd ab A an s0 V=>?_);show(_,ac (aJ (au bP (aW aN (by rfl) T.cO U2 (aa (pv 0) af)) aF (aB _)) (ag (am (pv 0))) ay)
  (ag (am (aS (aa (c9 cS (pv 0) aF (λ_ _=>rfl)) (aa (c9 cS (pv 0) aF (λ_ _=>rfl)) (aa (aX E T.fF V aq (aa (c9 cS (pv 0) aF (λ_ _=>rfl)) (aa (pv 1) af))) af)))))),?_)
 iterate 2 skip
 show(_,Y,e,_,Y,.inl (bx.of D),Y,_,Y,?_);cases o with
 |over=>show bf (_,Y,k H e (bn.refl _) D)
 |cut=>show bf (_,Y,k H e (bn.refl _) D)
 |wrong ww x=>
  show be (_,Y,e,_,_,_,Y,Y,bx.of D,b5 (j:=0) rfl,_,Y,e,_,_,_,Y,Y,bx.of D,b5 (j:=1) rfl,_,Y,e,_,_,_,Y,Y,bx.of D,b5 (j:=2) rfl,_,Y,l,r,x,Y,I,G,zl,λp O=>?_);show k _ p (aC O) ae
inductive JB(a:Ad)(g:List V)(H:Hp)(Q:VK)(j:XK):Prop|mk(r:Addr)(A:RA)(b:List (List Nat))(L:List aj)(s:MR)(o c:VasepBase.Outcome)(e:Addr)(n:Nat)(d h i:Addr)(f:Store)(_:g=[.ref r,.ref e,.int ((n:Nat):Int),.ref d])(_:b9 a H r A b L s)(_:A_ L s o)(_:L.length<=5000)(_:M3 H e c)(_:bv a H d h i b f)(_:∀H',bn H H'->Q (.bl (decide (o=c)&&(decide (s.steps=n)&&decide (s.store=f)))) H')
def nQ(T:TX K U a):cf P w K U W cH 2 a.j3 ["run","end","steps","store"] [] (JB a):=by
 let GE:=lI T;let GS:=sQ T;show T.zP.o2 ["run","end","steps","store"] λvs H Q an h=>?_
 let(r,A,I,L,s,o,Z,e,n,st,pn,pc,s2,rfl,R,he,hL,hE,S2,k):=h;show(Y,λnd ap A' ar s0 hr=>?_);let ab:Room 1 _:=hr;show(_,ag (am (qo (dv (B9 hr.units) (bu (pv 0) T.aH T.o6 GE ab aq) (pv 1) (aB _))
  (qo (dv bP (ai (pv 0) rfl) (pv 2) (aB _)) (B7 (aX GS T.ve ab aq (aa (ai (pv 0) rfl) (aa (pv 3) af))))))),?_)
 let(G,pw,O,_):=R.obj;show(_,Y,r,G,_,Y,O,Y,r,A,I,L,s,o,Y,R,he,hL,λE p1 D f1 g1=>?_);show(_,Y,_,_,fG (bx.of g1),fG (bx.of (D _ _ hE)),eF _,eF _,_,Y,?_);rw[FE,show decide (YH o=YH Z)=decide (o=Z)from decide_eq_decide.mpr N7];by_cases c1:o=Z
 .rw[decide_eq_true c1]at k⊢;show bf (_,Y,r,_,G,_,_,Y,D _ _ O,T.aH,T.eS,Y,_,Y,Y,_,Y,?_);let e2:decide (V.int ((s.steps:Nat):Int)=V.int ((n:Nat):Int))=decide (s.steps=n):=by
   rw[decide_eq_decide];show(λz=>by injection z with z;lia,λz=>by rw[z])
  change if decide (V.int ((s.steps:Nat):Int)=V.int ((n:Nat):Int))=UB then _ else _
  rw[e2];by_cases c2:s.steps=n
  .rw[decide_eq_true c2]at k⊢;show bf (_,Y,r,_,G,_,_,Y,D _ _ O,T.aH,T.bc,Y,_,Y,A.st,A.pn,A.pc,s.store,st,pn,pc,s2,I,Y,R.store.ext D,S2.ext D,R.nm,k E D)
  .rw[decide_eq_false c2]at k⊢;show be (k E D)
 .rw[decide_eq_false c1]at k⊢;show be (k E D)
end
end
section
open VasepBase (leave runFor)
open Vasepa (renamedOutcome besideOf alikeRuns)
section
inductive ND(a:Ad)(g:List V)(H:Hp)(Q:VK)(n:XK):Prop|mk(d h i j b c e k l s q m f:_)(_:g=[.ref d,.ref e,.ref q])(_:gJ a H d h i j b (HM.flat 0 c))(_:bv a H e k l b s)(_:qP H q m f)(_:∀H',bn H H'->Q (.bl (besideOf ⟨b,c⟩ s f)) H')
def B_(T:TX K U a):cf P w K U W cH 7 a.ow ["program","store","cells"] [] (ND a):=by
 let GR:=kL T;let GH:=nS T;let GW:=y9 T;let GS:=nQ T;let GE:=lI T;show T.FS.o2 ["program","store","cells","without","run"] λvs H Q cc h=>?_
 let(pr,pm,pl,ls,I,D,st,pn,pc,s,q,kb,h2,rfl,V,SR,M,k):=h;show(Y,λnd cd A' ce s0 Z=>?_);let av:Room 1 _:=Z.mono ();let bm:Room 2 _:=Z.mono ();let a0:Room 4 _:=Z.mono ();let a6:Room 6 _:=Z;show(_,ac (aA (i:=3) nd rfl (UT rfl) (aX GR T.jc a6 aq (aa (pv 0) (aa (pv 1) (aa (pg T.dR) af)))))
  (ac (aJ (cB (aX GH T.pU av aq (aa (ai (pv 3) rfl) (aa (pv 2) af)))) (ag (am II)) ay)
  (ac (aA (i:=4) nd rfl (UT rfl) (aX GR T.jc a6 aq (aa (pv 0) (aa (aX GW T.rP a0 aq (aa (pv 1) (aa (pv 2) af))) (aa (pg T.dR) af)))))
  (ag (am (aX GS T.pS bm aq (aa (pv 4) (aa (bu (pv 3) T.aH T.o6 GE av aq) (aa (ai (pv 3) rfl) (aa (aX GW T.rP a0 aq (aa (ai (pv 3) rfl) (aa (pv 2) af))) af))))))))),?_)
 iterate 4 skip
 show(_,Y,_,Y,pr,pm,pl,ls,I,D,st,pn,pc,s,300,Y,(),V,SR,λH1 O G E x1 f1 f2 R1 t1 t2 t3 t4=>?_);let(d1,w1,o1,_):=R1.obj;let M1:=M.ext x1;let bl:G.pc≠q:=λz=>by rw[z,M.at_]at f2;cases f2
 show(_,Y,O,_,d1,_,_,Y,o1,T.aH,T.bc,Y,_,Y,G.st,G.pn,G.pc,I,E.store,q,kb,h2,Y,R1.store,M1,bl,λH2 x2=>(_,Y,?_));let ab:=x1.trans x2;let R2:=R1.ext x2;let hb:acd (I,D) s h2=(abO E.store.heap h2&&(decide ((runFor 300 (leave [D],{s with heap:=W4 s.heap h2}) 0).outcome=(runFor 300 (leave [D],s) 0).outcome)&&(decide ((runFor 300 (leave [D],{s with heap:=W4 s.heap h2}) 0).steps=E.steps)&&decide ((runFor 300 (leave [D],{s with heap:=W4 s.heap h2}) 0).store={E.store with heap:=W4 E.store.heap h2})))):=by
  rw[t1,t2];change((runFor 300 (leave [D],s) 0).outcome==(runFor 300 (leave [D],{s with heap:=W4 s.heap h2}) 0).outcome&&(runFor 300 (leave [D],s) 0).steps==(runFor 300 (leave [D],{s with heap:=W4 s.heap h2}) 0).steps&&(runFor 300 (leave [D],s) 0).store.vals==(runFor 300 (leave [D],{s with heap:=W4 s.heap h2}) 0).store.vals&&abO (runFor 300 (leave [D],s) 0).store.heap h2&&(runFor 300 (leave [D],{s with heap:=W4 s.heap h2}) 0).store.heap==W4 (runFor 300 (leave [D],s) 0).store.heap h2)=_;generalize runFor 300 (leave [D],s) 0=ra;generalize runFor 300 (leave [D],{s with heap:=W4 s.heap h2}) 0=rb;let(oa,na,va,ha):=ra;let(ob,nb,vb,hb):=rb;rw[Vv];simp only[Vb,beq_iff_eq,decide_eq_true_eq,aeq];constructor
  .rintro⟨⟨⟨⟨a1,a2⟩,a3⟩,a4⟩,a5⟩;show(a4,a1.symm,a2.symm,a3.symm,a5)
  .rintro⟨a4,a1,a2,a3,a5⟩;show((((a1.symm,a2.symm),a3.symm),a4),a5)
 rw[hb]at k;cases ar:abO E.store.heap h2 with
 |false=>
  rw[ar]at k;show bf (k H2 ab)
 |true=>
  rw[ar,aaF]at k;show be (_,Y,_,Y,_,Y,st,pn,pc,I,s,q,kb,h2,Y,SR.ext ab,M.ext ab,λH3 b1 bF bs x3 f3 S3=>?_);let bd:=ab.trans x3;show(pr,pm,pl,ls,I,D,b1,bF,bs,_,300,Y,(),V.ext bd,S3,λH4 r4 A4 s4 x4 f4 f5 R4 u1 u2 u3 u4=>?_);let b4:=x3.trans x4;let b3:=bd.trans x4;let an:=R2.ext b4;let(d4,w4,o4,_):=an.obj;show(_,Y,_,Y,O,d4,_,Y,o4,Y,O,G,I,_,E,_,Y,an,t3,V.few,λH5 p5 x5 f5 g5=>?_);let ap:=an.ext x5;let(d5,w5,o5,_):=ap.obj;let bk:=b3.trans x5;show(_,Y,O,_,d5,_,_,Y,o5,T.aH,T.eS,Y,_,Y,O,_,d5,_,_,Y,o5,T.aH,T.bc,Y,_,Y,G.st,G.pn,G.pc,I,E.store,q,kb,h2,Y,ap.store,M.ext bk,λH6 b2 b0 bt x6 f6 S6=>?_);show(r4,A4,I,_,s4,_,_,p5,E.steps,b2,b0,bt,_,Y,(R4.ext x5).ext x6,u3,V.few,x6 _ _ g5,S6,λH7 x7=>?_);rw[u1,u2];show k H7 ((bk.trans x6).trans x7)
inductive NG(a:Ad)(f:List V)(H:Hp)(Q:VK)(m:XK):Prop|mk(d g h i b c e j k s l r:_)(_:f=[.ref d,.ref e,.ref l])(_:gJ a H d g h i b (HM.flat 0 c))(_:bv a H e j k b s)(_:H l=some (.lst (Hf r)))(_:iJ r)(_:∀H',bn H H'->Q (.bl (alikeRuns ⟨b,c⟩ s r)) H')
def zi(T:TX K U a):cf P w K U W cH 7 a.l9 ["program","store","row"] [] (NG a):=by
 let GR:=kL T;let GN:=sO T;let GD:=wX T;let GS:=nQ T;let GE:=lI T;show T.Do.o2 ["program","store","row","plain","run"] λvs H Q bF h=>?_
 let(pr,pm,pl,ls,I,D,st,pn,pc,s,l,r,rfl,E,SR,hl,RO,k):=h;show(Y,λnd b0 A' b1 s0 O=>?_);let a5:Room 1 _:=O.mono ();let an:Room 2 _:=O.mono ();let ap:Room 3 _:=O.mono ();let ar:Room 6 _:=O;show(_,ac (aA (i:=3) nd rfl (UT rfl) (aX GR T.jc ar aq (aa (pv 0) (aa (pv 1) (aa (pg T.dR) af)))))
  (ac (aA (i:=4) nd rfl (UT rfl) (aX GR T.jc ar aq (aa (pv 0) (aa (aX GN T.mM ap aq (aa (pv 1) (aa (pv 2) af))) (aa (pg T.dR) af)))))
  (ag (am (aX GS T.pS an aq (aa (pv 4) (aa (aX GD T.zE an aq (aa (bu (pv 3) T.aH T.o6 GE a5 aq) (aa (pv 2) af))) (aa (ai (pv 3) rfl) (aa (aX GN T.mM ap aq (aa (ai (pv 3) rfl) (aa (pv 2) af))) af)))))))),?_)
 iterate 3 skip
 show(_,Y,_,Y,pr,pm,pl,ls,I,D,st,pn,pc,s,300,Y,(),E,SR,λH1 V G s1 x1 f1 f2 R1 t1 t2 t3 t4=>?_);show(_,Y,_,Y,_,Y,l,r,st,pn,pc,I,s,Y,x1 _ _ hl,RO,SR.ext x1,E.nm,λH3 bm bk a6 x3 f3 S3=>?_);let av:=x1.trans x3;show(pr,pm,pl,ls,I,D,bm,bk,a6,_,300,Y,(),E.ext av,S3,λH4 r4 A4 s4 x4 f4 f5 R4 u1 u2 u3 u4=>?_);let bt:=av.trans x4;let Z:=R1.ext (x3.trans x4);let(d4,w4,o4,_):=Z.obj;show(_,Y,_,Y,V,d4,_,Y,o4,Y,V,G,I,_,s1,_,Y,Z,t3,E.few,λH5 p5 x5 f5 g5=>?_);let a0:=bt.trans x5;show(_,Y,p5,l,r,_,Y,g5,bx.of (a0 _ _ hl),RO,λH6 p6 x6 g6=>?_);let ab:=(Z.ext x5).ext x6;let a4:=a0.trans x6;let(d5,w5,o5,_):=ab.obj;show(_,Y,V,_,d5,_,_,Y,o5,T.aH,T.eS,Y,_,Y,V,_,d5,_,_,Y,o5,T.aH,T.bc,Y,_,Y,l,r,G.st,G.pn,G.pc,I,s1.store,Y,a4 _ _ hl,RO,ab.store,E.nm,λH7 bs bl bd x7 f7 S7=>?_);show(r4,A4,I,_,s4,_,_,p6,s1.steps,bs,bl,bd,_,Y,((R4.ext x5).ext x6).ext x7,u3,E.few,x7 _ _ g6,S7,λH8 x8=>?_);rw[u1,u2,t1,t2];let hb:Z2 (I,D) s r=(decide ((runFor 300 (leave [D],ZU r s) 0).outcome=renamedOutcome r (runFor 300 (leave [D],s) 0).outcome)&&(decide ((runFor 300 (leave [D],ZU r s) 0).steps=(runFor 300 (leave [D],s) 0).steps)&&decide ((runFor 300 (leave [D],ZU r s) 0).store=ZU r (runFor 300 (leave [D],s) 0).store))):=by
  change(renamedOutcome r (runFor 300 (leave [D],s) 0).outcome==(runFor 300 (leave [D],ZU r s) 0).outcome&&(runFor 300 (leave [D],s) 0).steps==(runFor 300 (leave [D],ZU r s) 0).steps&&ZU r (runFor 300 (leave [D],s) 0).store==(runFor 300 (leave [D],ZU r s) 0).store)=_;generalize runFor 300 (leave [D],s) 0=ra;generalize runFor 300 (leave [D],ZU r s) 0=rb;rw[Vv];simp only[Vb,beq_iff_eq,decide_eq_true_eq];constructor
  .rintro⟨⟨a1,a2⟩,a3⟩;show(a1.symm,a2.symm,a3.symm)
  .rintro⟨a1,a2,a3⟩;show((a1.symm,a2.symm),a3.symm)
 rw[<-hb];show k H8 ((a4.trans x7).trans x8)
end
end
section
open HM (aL)
open VasepBase (cellAt without takeList takeTree)
def ko(H:Hp)(R:Option Uu)(Q:VK):Prop:=match R with
 |none=>∀D,bn H D->Q .non D
 |some h=>∀D p Z,bn H D->H p=UH->D p=Up (.dK Z)->bz D Z h->aL h->HM.Bounds h->Q (.ref p) D
def ko.none{R:Option Uu}(k:ko H R Q)(h:R=.none)(x:bn H D):Q .non D:=by subst h;show k D x
def ko.some{H D:Hp}{R:Option Uu}{Q:VK}{Z:List (bT×V)}(k:ko H R Q)(e:R=.some h)(x:bn H D)(f:H p=.none)(g:D p=.some (.dK Z))(C:bz D Z h)(u:aL h)(b:HM.Bounds h):Q (.ref p) D:=by subst e;show k D p Z x f g C u b
structure DictAt (H:Hp) (p:Addr) (kvs:List (bT×V)) (h:VasepBase.Heap):Prop where
 at_:H p=some (.dK kvs)
 cel:bz H kvs h
 up:aL h
 bd:HM.Bounds h
def DictAt.ext{Z:List (bT×V)}(D:DictAt H p Z h)(x:bn H E):DictAt E p Z h:=(x _ _ D.at_,D.cel.keep λb xs e=>x _ _ e,D.up,D.bd)
def DictAt.pop{Z:List (bT×V)}(D:DictAt H p Z h)(x:Nat):DictAt (aw H p (.dK (fL Z (UW (x:Int))))) p (fL Z (UW (x:Int))) (without h x):=
 (ae,(D.cel.drop x).keep λb xs e=>by rw[ah (aV e D.at_ (by intro z;cases z))];show e,HM.without_rising D.up x,λc E=>D.bd c (V5.mp E).1)
def DictAt.val{H:Hp}{Z:List (bT×V)}(E:DictAt H p Z h){c:ZC}(e:U7 h x=Up c):∃t,cI Z (UW (x:Int))=Up (.ref t)/\H t=Up (.tup [.int (c.next:Nat),.int (c.data:Nat)]):=by
 let(G,I):=HM.cellAt_some e;let(t,D,O):=E.cel.vals c G;rw[I]at D;show(t,D,O)
def wV:Option Nat->V
 |none=>.non
 |some n=>.int ((n:Nat):Int)
def fR(w:Option Nat)(v:Nat):Bool:=match w with
 |none=>UB
 |some n=>n==v
section
inductive Lq(f:List V)(H:Hp)(Q:VK)(g:XK):Prop|mk(p a h x b d e:_)(_:f=[.ref p,.int ((x:Nat):Int),.ref b])(_:DictAt H p a h)(_:H b=some (.lst [wV d,wV e]))(_:ko H ((cellAt h x).bind fun c=>if fR d c.next&&fR e c.data then some (without h x)else none) Q)
def m6(T:TX K U a):cf P w K U W cH 1 a.fB ["cells","number","wanted"] [] Lq:=by
 show T.oQ.o2 ["cells","number","wanted","at","left"] λvs H Q an h=>?_
 let(p,Z,h,x,lw,I,O,rfl,E,hw,k):=h;show(Y,λnd ap A ar s0 hr=>?_);let hu:=fw hr;show(_,ac (aJ (nI (kJ hu (pv 1) (pv 0))) (ag (am cZ)) ay)
  (ac (lu Vz rfl (Ao (by rfl) T.vM (aa (aW aN (by rfl) T.cO U2 (aa (pg T.ni) af)) af)) (cQ (i:=3) nd rfl (UT rfl))
   (ag (aJ (jP (au N9 (c9 cS (pv 2) (pv 3) (λ_ _=>rfl)) cZ (aB _)) (iM (au wW (c9 cS (pv 2) (pv 3) (λ_ _=>rfl)) (c9 lO (iO hu (pv 0) (pv 1) (λ_ _=>rfl)) (pv 3) (λ_ _=>rfl)) (aB _)))).pt (ag (am cZ)) ay)))
  (ac (aA (i:=4) nd rfl (UT rfl) (dE kZ (by rfl) T.xf Xa (aa (pv 0) af)))
  (ac (aE (rm (pv 4) (pv 1) (Y,Y,Y,Y)))
  (ag (am (pv 4)))))),?_)
 iterate 5 skip
 show(_,Y,_,Y,p,_,Y,fP.k (k:=UW (x:Int)) E.at_,_,Y,?_);rw[fe E.cel E.up];cases hc:U7 h x with
 |none=>
  rw[hc]at k;show bf (k H (bn.refl _))
 |some c=>
  let(t,t1,t2):=E.val hc;rw[hc]at k;let k:ko H (if(fR I c.next&&fR O c.data)=UB then Up (without h x)else UH) Q:=k;let dg:=fP.k (k:=UW (x:Int)) E.at_;rw[t1]at dg;show be (_,_,Y,.inr (T.oV _),_,Y,(),(),?_);show AG (n:=2) (λi D G=>G=H/\∃v,D=[Up (.ref p),Up (.int ((x:Nat):Int)),Up (.ref lw),v,UH]/\(0<i->fR I c.next=UB)/\(1<i->fR O c.data=UB)) (Y,UH,Y,λz=>absurd z (),λz=>absurd z ()) ?_ ?_
  .rintro i D G hi ⟨rfl,v,rfl,q1,q2⟩;let ab:∀(wv:Option Nat)(f:Nat),[wV I,wV O][i]?=Up (wV wv)->[V.int ((c.next:Nat):Int),V.int ((c.data:Nat):Int)][i]?=Up (V.int ((f:Nat):Int))->(fR wv f=UF->(fR I c.next&&fR O c.data)=UF)->(fR wv f=UB->(0<i+1->fR I c.next=UB)/\(1<i+1->fR O c.data=UB))->
     mQ 3 (.int (0+(i:Nat))) [Up (.ref p),Up (.int ((x:Nat):Int)),Up (.ref lw),v,UH] G λσ2 H2=>Jv (Rp (ud (F8 (λx y H Q=>y=.non/\Q (.bl (!decide (x=.non))) H) (F8 (NQ K) (bJ 2) (bJ 3)) (tC .non))) (ud (F8 T5 (F8 (NQ K) (bJ 2) (bJ 3)) (F8 (RD K) (Iu (bJ 0) (bJ 1)) (bJ 3))))) (mV (tC .non)) Li
      {nx:=λD H2=>H2=G/\∃v,D=[Up (.ref p),Up (.int ((x:Nat):Int)),Up (.ref lw),v,UH]/\(0<i+1->fR I c.next=UB)/\(1<i+1->fR O c.data=UB),rt:=Q} σ2 H2:=λwv f h1 h2 h3 h4=>by
    rw[show(0:Int)+(i:Nat)=((i:Nat):Int) by lia];show(_,Y,_,Y,lw,_,_,_,Y,Y,bx.of hw,b5 h1,Y,_,Y,?_);cases wv with
    |none=>show be (be (Y,_,Y,h4 rfl))
    |some m=>
     show bf (_,Y,_,Y,lw,_,_,_,Y,Y,bx.of hw,b5 h1,_,Y,_,Y,p,_,Y,dg,_,Y,t,_,_,_,Y,Y,gK.of t2,b5 h2,Y,_,Y,?_);let e:decide (V.int ((m:Nat):Int)=V.int ((f:Nat):Int))=fR (Up m) f:=by
      change _=(m==f);rw[Vv,decide_eq_true_eq,beq_iff_eq];show(λz=>by injection z with z;lia,λz=>by rw[z])
     change if(!decide (V.int ((m:Nat):Int)=V.int ((f:Nat):Int)))=UB then _ else _
     rw[e];cases hf:fR (Up m) f with
     |true=>show be (Y,_,Y,h4 hf)
     |false=>
      show bf (k.none ?_ (bn.refl _));rw[h3 hf];rfl
   match i,hi with
   |0,_=>show ab I c.next rfl rfl (λz=>by rw[z];rfl) λz=>(λ_=>z,λq=>absurd q ())
   |1,_=>show ab O c.data rfl rfl (λz=>by rw[z,Xl]) λz=>(λ_=>q1 (),λ_=>z)
  .rintro D G ⟨rfl,v,rfl,q1,q2⟩;rw[q1 (),q2 ()]at k;let k:ko G (Up (without h x)) Q:=k;show(_,Y,p,Z,Y,E.at_,λq hq=>?_);let x1:bn G (aw G q (.dK Z)):=aC hq;let D1:DictAt (aw G q (.dK Z)) q Z h:=(ae,E.cel.keep λb xs e=>x1 _ _ e,E.up,E.bd);show(_,Y,q,Y,.inl (_,.inl D1.at_),_,Y,Z,UW (x:Int),_,D1.at_,Y,t1,?_);let D2:=D1.pop x;show(_,Y,k.some rfl (fY x1 hq) hq D2.at_ D2.cel D2.up D2.bd)
inductive Lp(b:List V)(H:Hp)(Q:VK)(c:XK):Prop|mk(p a h x y:_)(_:b=[.ref p,.int ((x:Nat):Int),.int ((y:Nat):Int)])(_:DictAt H p a h)(_:ko H (takeList h.length h x y) Q)
def Nl(n:Nat):YY n h x x=Up h:=by cases n<;>(unfold YY;rw[ifp rfl])
def Nk(n:Nat)(D:x≠y)(e:U7 h x=UH):YY n h x y=UH:=by
 cases n with
 |zero=>unfold YY;rw[ifn D]
 |succ n=>unfold YY;rw[ifn D,e]
def Ju{h:Uu}{c:ZC}(E:aL h)(D:x≠y)(e:U7 h x=Up c):YY ↑h h x y=YY ↑(without h x) (without h x) c.next y:=by
 rw[<-HM.without_one E e]
 conv=>lhs;unfold YY
 rw[ifn D,e]
def m5(T:TX K U a):cf P w K U W cH 1 a.fA ["cells","number","last"] [] Lp:=by
 show T.oP.o2 ["cells","number","last","left"] λvs H Q ap h=>?_
 let(p,Z,h,x,y,rfl,O,k):=h;show(Y,λnd ar A av s0 hr=>?_);let hu:=fw hr;show(_,ac (aA (i:=3) nd rfl (UT rfl) (dE kZ (by rfl) T.xf Xa (aa (pv 0) af)))
  (ac (dF Vz (au wW (pv 1) (pv 2) (aB _))
   (ac (aJ (nI (kJ hu (pv 1) (pv 3))) (ag (am cZ)) ay)
   (ag (aA (i:=1) nd rfl (UT rfl) (c9 lO (rm (pv 3) (pv 1) (Y,Y,Y,Y)) aF (λ_ _=>rfl))))))
  (ag (am (pv 3)))),?_)
 iterate 3 skip
 show(_,Y,p,Z,Y,O.at_,λq hq=>?_);let x1:bn H (aw H q (.dK Z)):=aC hq;show(λan D H'=>Sj λG ab h'=>T1 (D=[Up (.ref p),Up (.int ((G:Nat):Int)),Up (.int ((y:Nat):Int)),Up (.ref q)]) (an=↑h') (bn H H') (DictAt H' q ab h') (YY ↑h h x y=YY ↑h' h' G y),
  (_,x,Z,h,Y,Y,x1,(ae,O.cel.keep λb xs e=>x1 _ _ e,O.up,O.bd),Y),?_)
 rintro an D H' ⟨G,ab,h',rfl,rfl,x2,E,ht⟩;show(_,Y,_,Y,Y,_,Y,?_);let e:decide (V.int ((G:Nat):Int)=V.int ((y:Nat):Int))=decide (G=y):=by
  rw[decide_eq_decide];show(λz=>by injection z with z;lia,λz=>by rw[z])
 change if(!decide (V.int ((G:Nat):Int)=V.int ((y:Nat):Int)))=UB then _ else _
 rw[e];by_cases I:G=y
 .rw[decide_eq_true I];subst I;show be (_,Y,k.some (ht.trans (Nl _)) x2 hq E.at_ E.cel E.up E.bd)
 .rw[decide_eq_false I];show bf (_,λ_ _ h=>h,_,Y,_,Y,q,_,Y,fP.k (k:=UW (G:Int)) E.at_,_,Y,?_);rw[fe E.cel E.up];cases μ:U7 h' G with
  |none=>show bf (k.none (ht.trans (Nk _ I μ)) x2)
  |some c=>
   let(t,t1,t2):=E.val μ;let D3:=E.pop G;show be (_,Y,q,Y,.inl (_,.inl E.at_),_,Y,ab,UW (G:Int),_,E.at_,Y,t1,t,[.int ((c.next:Nat):Int),.int ((c.data:Nat):Int)],_,.int ((c.next:Nat):Int),Y,Y,gK.of ?_,b5 (j:=0) rfl,?_)
   .rw[ah (aV t2 E.at_ (by intro z;cases z))];show t2
   .show(_,HM.without_lt μ,c.next,_,_,Y,Y,fY x2 hq,D3,ht.trans (Ju E.up I μ))
inductive Lo(b:List V)(H:Hp)(Q:VK)(c:XK):Prop|mk(p a h x:_)(_:b=[.ref p,.int ((x:Nat):Int)])(_:DictAt H p a h)(_:ko H (takeTree (h.length+1) h x) Q)
def mZ(T:TX K U a):cf P w K U W cH 1 a.fz ["cells","number"] [] Lo:=by
 show T.oO.o2 ["cells","number","left","waiting","root"] λvs H Q a4 h=>?_
 let(p,Z,h,x,rfl,ab,k):=h;show(Y,λnd a5 A a6 s0 hr=>?_);let hu:=fw hr;show(_,ac (aA (i:=2) nd rfl (UT rfl) (dE kZ (by rfl) T.xf Xa (aa (pv 0) af)))
  (ac (aA (i:=3) nd rfl (UT rfl) (aS (aa (pv 1) af)))
  (ac (dF Vz (au (jQ hr.units) (pv 3) (aS af) (aB _))
   (ac (aA (i:=4) nd rfl (UT rfl) (wU UQ XD Yb Cm (pv 3)))
   (ag (aJ (au wW (pv 4) aF (aB _))
    (ac (aJ (nI (kJ hu (pv 4) (pv 2))) (ag (am cZ)) ay)
    (ag (aE (ej UQ VZ Wl qu (pv 3) (aa (rm (pv 2) (pv 4) (Y,Y,Y,Y)) af))))) ay))))
  (ag (am (pv 2))))),?_)
 iterate 4 skip
 show(_,Y,p,Z,Y,ab.at_,λq hq=>?_);let x1:bn H (aw H q (.dK Z)):=aC hq;show(_,Y,zl,λG an=>?_);let x2:=aC (o:=.lst [V.int ((x:Nat):Int)]) an;let ap:q≠G:=λz=>by rw[<-z,ae]at an;cases an
 let a0:H G=UH:=x1.free an;let hh:=dM ab.up ab.bd;let D1:DictAt (aw H q (.dK Z)) q Z h:=(ae,ab.cel.keep λb xs e=>x1 _ _ e,ab.up,ab.bd);show(λav D H'=>Uj λμ h' E v=>Ub (D=[Up (.ref p),Up (.int ((x:Nat):Int)),Up (.ref q),Up (.ref G),v]) (av=3*↑h'+↑E) (av<=40) (bn H H') (DictAt H' q μ h') (H' G=Up (.lst (E.reverse.map λn=>V.int ((n:Nat):Int)))) (HM.takeF h [x]=HM.takeF h' E),
  (_,Z,h,[x],UH,Y,Y,by change 3*↑h+1<=40;lia,x1.trans x2,D1.ext x2,ae,Y),?_)
 rintro av D H' ⟨μ,h',E,v,rfl,rfl,a2,x3,D3,g3,ht⟩;show(_,Y,zl,λp0 a3=>?_);let x4:bn H' (aw H' p0 (.lst [])):=aC a3;let a1:H' G=Up (.lst ((E.reverse.map λn=>((n:Nat):Int)).map V.int)):=by rw[VA];show g3
 show(_,_,fG (bx.of (x4 _ _ a1)),jq ae,eF _,Y,_,Y,?_);rw[C9];let ar:=x3.trans x4;let O:=D3.ext x4;let g4:=x4 _ _ g3;generalize aw H' p0 (.lst [])=H4 at x4 ar O g4;cases E with
 |nil=>
  show be (_,Y,k.some (h:=h') ?_ ar hq O.at_ O.cel O.up O.bd);rw[<-HM.tree_all,ht,HM.takeF_nil]
 |cons y E=>
  let e3:(!(Zb WM ((y::E).reverse.map λn=>((n:Nat):Int))).isEmpty)=UB:=by simp
  rw[e3];show bf (_,λ_ _ h=>h,_,Y,.inl (Y,_,bx.of g4),G,_,V.int ((y:Nat):Int),Y,Y,g4,by simp,?_);let e4:(Zb (λn=>V.int ((n:Nat):Int)) (y::E).reverse).dropLast=E.reverse.map λn=>V.int ((n:Nat):Int):=by rw[aaq,Vj];simp
  rw[e4];let x5:bn H (aw H4 G (.lst (E.reverse.map λn=>V.int ((n:Nat):Int)))):=fY ar a0;let I:DictAt (aw H4 G (.lst (E.reverse.map λn=>V.int ((n:Nat):Int)))) q μ h':=(by rw[ah ap];show O.at_,O.cel.keep λb xs e=>by rw[ah (aV e g4 (by intro z;cases z))];show e,O.up,O.bd);let g5:(aw H4 G (.lst (E.reverse.map λn=>V.int ((n:Nat):Int)))) G=Up (.lst (E.reverse.map λn=>V.int ((n:Nat):Int))):=ae;generalize aw H4 G (.lst (E.reverse.map λn=>V.int ((n:Nat):Int)))=H5 at x5 I g5;rw[Ut]at a2;show(_,Y,Y,_,Y,?_);let e5:decide (V.int ((y:Nat):Int)=V.int 0)=decide (y=0):=by
   rw[decide_eq_decide];show(λz=>by injection z with z;lia,λz=>by rw[z];rfl)
  change if(!decide (V.int ((y:Nat):Int)=V.int 0))=UB then _ else _
  rw[e5];by_cases hy:y=0
  .rw[decide_eq_true hy];subst hy;show be (_,by rw[Ut];show VW _,μ,h',E,_,Y,Y,⋯,x5,I,g5,by rw[ht,HM.takeF_zero])
  .rw[decide_eq_false hy];show bf (_,Y,_,Y,q,_,Y,fP.k (k:=UW (y:Int)) I.at_,_,Y,?_);rw[fe I.cel I.up];cases hc:U7 h' y with
   |none=>show bf (k.none (by rw[<-HM.tree_all,ht,HM.takeF_none hy hc]) x5)
   |some c=>
    let(t,t1,t2):=I.val hc;let D6:=I.pop y;let lt:=HM.without_lt hc;let t3:(aw H5 q (.dK (fL μ (UW (y:Int))))) t=Up (.tup [.int (c.next:Nat),.int (c.data:Nat)]):=by rw[ah (aV t2 I.at_ (by intro z;cases z))];show t2
    let g6:(aw H5 q (.dK (fL μ (UW (y:Int))))) G=Up (.lst (E.reverse.map λn=>V.int ((n:Nat):Int))):=by rw[ah ap.symm];show g5
    let x6:bn H (aw H5 q (.dK (fL μ (UW (y:Int))))):=fY x5 hq;show be (_,Y,.inl (Y,_,bx.of g5),_,Y,q,Y,.inl (_,.inl I.at_),_,Y,μ,UW (y:Int),_,I.at_,Y,t1,G,t,_,_,Y,Y,g6,gK.of t3,?_,?_)
    .rw[Uq,XI,Ux];simp only[Ut,Vr];lia
    .generalize aw H5 q (.dK (fL μ (UW (y:Int))))=H6 at D6 t3 g6 x6;show(3*↑(without h' y)+↑(c.data::c.next::E),by simp only[Ut];lia,_,without h' y,c.data::c.next::E,_,Y,Y,by simp only[Ut];lia,fY x6 a0,(by rw[ah ap];show D6.at_,D6.cel.keep λb xs e=>by rw[ah (aV e g6 (by intro z;cases z))];show e,D6.up,D6.bd),?_,by rw[ht,HM.takeF_some hy hc]);rw[ae];simp
end
end
section
open VasepBase (valueOf takePiece)
def sL:Yw->Vp
 |.cell _ _ _=>"cell"
 |.list _ _=>"list"
 |.tree _=>"tree"
def sK(I:List (List Nat)):Yw->List (List Nat)
 |.cell x n d=>[U0 I x,W7 I n,W7 I d]
 |.list x y=>[U0 I x,U0 I y]
 |.tree x=>[U0 I x]
def uD(n:Nat):X8->Prop
 |.is e=>bS n e
 |.any=>True
def iN(n:Nat):Yw->Prop
 |.cell x p d=>bS n x/\uD n p/\uD n d
 |.list x y=>bS n x/\bS n y
 |.tree x=>bS n x
def dO(a:Ad)(H:Hp)(x:Uw)(I:List (List Nat))(p:Yw):Prop:=∃D t,H x=Up (.ins a.eY D [("kind",.str (sL p)),("told",.ref t)])/\H t=Up (.lst ((sK I p).map λx=>V.str (S x)))
def dO.ext(h:dO a H x I p)(e:bn H D):dO a D x I p:=let(E,t,G,h2):=h;(E,t,e _ _ G,e _ _ h2)
def Pb:decide (V.str "list"=V.str "cell")=UF:=()
def Pa:decide (V.str "tree"=V.str "cell")=UF:=()
def RT:decide (V.str "tree"=V.str "list")=UF:=()
def z6(s:YN):X8->Option Nat
 |.is e=>Up (Vf s e)
 |.any=>UH
def IX(s:YN)(g:X8)(v:Nat):fR (z6 s g) v=ado s g v:=by cases g<;>rfl
def QZ{I:List (List Nat)}(N:bj I)(h:uD ↑I g):decide (V.str (S (W7 I g))=V.str "any")=decide (g=.any):=by
 rw[decide_eq_decide];let e:(V.str "any")=V.str (S (Uz "any")):=()
 cases g with
 |any=>show(λ_=>rfl,λ_=>e.symm)
 |is x=>
  show(λz=>?_,λz=>by cases z);let z:V.str (S (U0 I x))=V.str "any":=z;rw[e]at z;let z:=k9 (V.str.inj z);cases x with
  |nil=>show absurd (show([48]:List Nat)=Uz "any" from z) ()
  |var k=>
   let D:k<↑I:=h;have:=N.res _ (U3 (kP D));let z:Vn I k=Uz "any":=z;rw[z]at this;show absurd this ()
section
inductive Ee(a:Ad)(f:List V)(H:Hp)(Q:VK)(i:XK):Prop|mk(x c g h b s e n d:_)(_:f=[.ref x,.ref c])(_:dO a H x b (.cell e n d))(_:bv a H c g h b s)(_:bj b)(_:uD b.length n)(_:uD b.length d)(_:js H [wV (z6 s n),wV (z6 s d)] Q)
def sR(T:TX K U a):cf P w K U W cH 2 a.iy ["piece","store"] [] (Ee a):=by
 let GV:=dG T;show T.vm.o2 ["piece","store","told"] λvs H Q a0 h=>?_
 let(x,st,pn,pc,I,s,e,n,d,rfl,(dx,t,e1,e2),R,N,ar,av,k):=h;show(Y,λnd a1 A a2 s0 hr=>?_);show(_,ag (am (nL (own:=[("told",2)]) (te:=Sz (ud (F8 SD (bJ 2) (tC (.str "any")))) (tC .non) (iZ a.cV "value" (vB a) [] E0 (bJ 1) (bG (bJ 2) b8))) rfl nd (fW (fQ oW (ai (pv 0) rfl) (eu aF) vG)) (show il ["piece","store","told"] (aP mF) _ [("told",2)]from K0 ())
  (λ_ _ _ _ _=>cQ (i:=2) nd rfl (UT rfl)) (λ_ _ _ _ _=>gv) (λ_ _ _ _ _=>gy (au bP (pv 2) (pg T.Lc) (aB _)) cZ (bg (pv 1) T.aY T.cC GV hr aq (aa (pv 2) af))))),?_)
 let(ds,e3):=R.obj;unfold mV;show kU (RK (gT ft) (Oe Oi) Of) (_,Y,x,_,dx,_,_,Y,e1,T.dh,T.dA,Y,_,Y,t,_,Y,bx.of e2,λp hp=>?_);let O:=aC (o:=.lst (rZ ((sK I (.cell e n d)).map λx=>V.str (S x)) (Up 1) UH)) hp;show(p,_,[wV (z6 s n),wV (z6 s d)],Y,bx.of ae,zl,Y,λi y z G E D Z R' hR=>?_,λG ap Z hD e4=>k G ap (O.trans Z) (O.free hD) e4);let an:=O.trans Z;let ab:∀g:X8,uD ↑I g->y=V.str (S (W7 I g))->z=wV (z6 s g)->Sz (ud (F8 SD (bJ 2) (tC (.str "any")))) (tC .non) (iZ a.cV "value" (vB a) [] E0 (bJ 1) (bG (bJ 2) b8)) [Up (.ref x),Up (.ref st),Up y] G R':=λg hg h1 h2=>by
  subst h1 h2;show(_,Y,Y,_,Y,?_);rw[QZ N hg];cases g with
  |any=>show bf (hR _ (bn.refl _))
  |is f=>show be (_,Y,st,ds,_,Y,an _ _ e3,Y,_,Y,st,pn,pc,I,s,f,Y,R.ext an,N,hg,hR _ (bn.refl _))
 match i,E,D with
 |0,E,D=>show ab n ar (UI E).symm (UI D).symm
 |1,E,D=>show ab d av (UI E).symm (UI D).symm
 |i+2,_,D=>simp at D
inductive Jy(a:Ad)(e:List V)(H:Hp)(Q:VK)(j:XK):Prop|mk(x d f i b s g p c h:_)(_:e=[.ref x,.ref d,.ref p])(_:dO a H x b g)(_:iN b.length g)(_:bv a H d f i b s)(_:bj b)(_:DictAt H p c h)(_:ko H (takePiece s h g) Q)
def sU(T:TX K U a):cf P w K U W cH 3 a.iC ["piece","store","cells"] [] (Jy a):=by
 let GV:=dG T;let GF:=sR T;let GC:=m6 T;let GL:=m5 T;let GT:=mZ T;show T.vq.o2 ["piece","store","cells","number"] λvs H Q ap h=>?_
 let(x,st,pn,pc,I,s,g,p,Z,h,rfl,PA,G,R,N,ab,k):=h;show(Y,λnd ar A av s0 hr=>?_);let(D,t,E,e2):=id PA;let O:Room 1 _:=hr.mono ();let an:Room 2 _:=hr;show(_,ac (aA (i:=3) nd rfl (UT rfl) (bg (pv 1) T.aY T.cC GV O aq (aa (c9 cS (ai (pv 0) rfl) aF (λ_ _=>rfl)) af)))
  (ac (aJ (au bP (ai (pv 0) rfl) (pg T.qb) (aB _)) (ag (am (aX GC T.oq O aq (aa (pv 2) (aa (pv 3) (aa (aX GF T.vf an aq (aa (pv 0) (aa (pv 1) af))) af)))))) ay)
  (ac (aJ (au bP (ai (pv 0) rfl) (pg T.Bl) (aB _)) (ag (am (aX GL T.oo O aq (aa (pv 2) (aa (pv 3) (aa (bg (pv 1) T.aY T.cC GV O aq (aa (c9 cS (ai (pv 0) rfl) aF (λ_ _=>rfl)) af)) af)))))) ay)
  (ag (am (aX GT T.om O aq (aa (pv 2) (aa (pv 3) af))))))),?_)
 iterate 4 skip
 let(ds,e3):=R.obj;let first:∀e:WT,bS ↑I e->((sK I g).map λx=>V.str (S x))[0]?=Up (V.str (S (U0 I e)))->∀QQ:VK,QQ (.int ((valueOf s e:Nat):Int)) H->iZ a.cV "value" (vB a) [] E0 (bJ 1) (bG (F8 (NQ K) (Bo K (bJ 0) "told") (tC (.int 0))) b8) [Up (.ref x),Up (.ref st),Up (.ref p),UH] H QQ:=λe he h0 QQ hQ=>
  (_,Y,st,ds,_,Y,e3,Y,_,Y,x,_,D,_,_,Y,E,T.dh,T.dA,Y,t,_,_,_,Y,Y,bx.of e2,b5 (j:=0) h0,st,pn,pc,I,s,e,Y,R,N,he,hQ)
 cases g with
 |cell e n d=>
  show first e G.1 rfl _ ?_;show(_,Y,x,_,D,_,_,Y,E,T.dh,T.cR,Y,Y,_,Y,?_);show dq (by simp only[sL];decide+kernel) (_,Y,_,Y,_,Y,_,Y,x,st,pn,pc,I,s,e,n,d,Y,PA,R,N,G.2.1,G.2.2,λH1 l1 x1 f1 g1=>?_);show(p,Z,h,valueOf s e,l1,_,_,Y,ab.ext x1,g1,?_);let e4:((U7 h (valueOf s e)).bind λc=>if fR (z6 s n) c.next&&fR (z6 s d) c.data then Up (Xx h (valueOf s e))else UH)=Zn s h (.cell e n d):=by
   change _=(U7 h (valueOf s e)).bind λc=>if ado s n c.next&&ado s d c.data then Up (Xx h c.at_)else UH
   cases hc:U7 h (valueOf s e)with
   |none=>rfl
   |some c=>
    change(if(fR (z6 s n) c.next&&fR (z6 s d) c.data)=UB then Up (Xx h (valueOf s e))else UH)=(if(ado s n c.next&&ado s d c.data)=UB then Up (Xx h c.at_)else UH);rw[IX,IX,(HM.cellAt_some hc).2]
  rw[e4];cases hT:Zn s h (.cell e n d)with
  |none=>rw[hT]at k;show λH2 x2=>k H2 (x1.trans x2)
  |some h'=>rw[hT]at k;show λH2 q kk x2 f2 g2 C u b=>k H2 q kk (x1.trans x2) (x1.free f2) g2 C u b
 |list e f=>
  show first e G.1 rfl _ ?_;show(_,Y,x,_,D,_,_,Y,E,T.dh,T.cR,Y,Y,_,Y,?_);show bh Pb (_,Y,x,_,D,_,_,Y,E,T.dh,T.cR,Y,Y,_,Y,?_);show dq (by simp only[sL];decide+kernel) (_,Y,_,Y,_,Y,st,ds,_,Y,e3,Y,_,Y,x,_,D,_,_,Y,E,T.dh,T.dA,Y,t,_,_,_,Y,Y,bx.of e2,b5 (j:=1) rfl,st,pn,pc,I,s,f,Y,R,N,G.2,?_);show(p,Z,h,valueOf s e,valueOf s f,Y,ab,k)
 |tree e=>
  show first e G rfl _ ?_;show(_,Y,x,_,D,_,_,Y,E,T.dh,T.cR,Y,Y,_,Y,?_);show bh Pa (_,Y,x,_,D,_,_,Y,E,T.dh,T.cR,Y,Y,_,Y,?_);show bh RT (_,Y,_,Y,p,Z,h,valueOf s e,Y,ab,k)
end
end
section
open VasepBase (Store Piece Assertion takeAll condHolds)
open Vasepa (leftFrom)
structure fU (a:Ad) (H:Hp) (x pc pp:Addr) (cs ps:List Addr) (names:List (List Nat)) (A:Assertion):Prop where
 obj: ∃dx,H x=some (.ins a.dD dx [("conditions",.ref pc),("pieces",.ref pp)])
 cl:H pc=some (.lst (cs.map V.ref))
 pl:H pp=some (.lst (ps.map V.ref))
 conds:cs.length=A.plains.length/\ ∀(i:Nat) y c,cs[i]?=some y->A.plains[i]?=some c->H y=some (.tup (AQ names c))
 pieces:ps.length=A.pieces.length/\ ∀(i:Nat) y p,ps[i]?=some y->A.pieces[i]?=some p->dO a H y names p
 cok: ∀c∈A.plains,bS names.length c.one/\bS names.length c.two
 pok: ∀p∈A.pieces,iN names.length p
 few:A.plains.length<=6/\A.pieces.length<=6
def fU.ext{x O V:Uw}{G Z:List Uw}(R:fU a H x O V G Z I A)(e:bn H E):fU a E x O V G Z I A:=
 let(dx,o):=R.obj
 ((dx,e _ _ o),e _ _ R.cl,e _ _ R.pl,(R.conds.1,λi y c D h2=>e _ _ (R.conds.2 i y c D h2)),(R.pieces.1,λi y p D h2=>(R.pieces.2 i y p D h2).ext e),R.cok,R.pok,R.few)
def Kh(e:Zn s h p=UH):WI s n h (p::r)=(Prod.mk (n) (h)):=by
 change(match Zn s h p with|none=>(Prod.mk (n) (h))|some k=>WI s (n+1) k r)=_;rw[e]
def Kg(e:Zn s h p=Up k):WI s n h (p::r)=WI s (n+1) k r:=by
 change(match Zn s h p with|none=>(Prod.mk (n) (h))|some k=>WI s (n+1) k r)=_;rw[e]
def Az(s:YN):∀(D:List Yw)(n:Nat)(h:Uu),n<=(WI s n h D).1/\(WI s n h D).1<=n+↑D/\takeAll s h D=if(WI s n h D).1=n+↑D then Up (WI s n h D).2 else UH
 |[],n,h=>(UD _,UD _,by unfold WI takeAll;simp)
 |p::D,n,h=>by
  unfold WI takeAll;cases e:Zn s h p with
  |none=>
   show(UD _,by simp,?_);change UH=_;rw[ifn (by simp)]
  |some k=>
   let(G,I,E):=Az s D (n+1) k;dsimp only;show(⋯,by rw[Ut];lia,?_);change takeAll s k D=_;rw[E,Ut,show n+1+↑D=n+(↑D+1) by lia]
section
def Gm(st E:Uw)(n:Nat)(D:Uw):List (Vp×V):=[("store",.ref st),("pieces",.ref E),("taken",.int ((n:Nat):Int)),("cells",.ref D)]
inductive Bq(a:Ad)(g:List V)(H:Hp)(Q:VK)(i:XK):Prop|mk(p d c h e b s f:_)(_:g=[.ref p,.ref c,.ref f])(_:H p=some (.ins a.di d []))(_:bv a H c h e b s)(_:Q .non (aw H p (.ins a.di d (Gm c f 0 e))))
def w9(T:TX K U a):cf P w K U W cH 1 a.j7 ["self","store","pieces"] [] (Bq a):=by
 show T.zT.o2 ["self","store","pieces"] λvs H Q V h=>?_
 let(p,D,st,pn,pc,I,s,pp,rfl,E,R,k):=h;show(Y,λnd Z A ab s hr=>?_);show(_,ac (br (pv 0) (pv 1) rfl) (ac (br (pv 0) (pv 2) rfl) (ac (br (pv 0) aF rfl) (ag (br (pv 0) (ai (pv 1) rfl) rfl)))),?_)
 iterate 4 skip
 let(G,e):=R.obj;let O:st≠p:=λz=>by
  rw[z,E]at e;injection e with e;injection e with _ _ e;cases e
 show(_,Y,_,Y,p,_,D,_,Y,E,T.cz,T.mK,zk,?_);show(_,Y,_,Y,p,_,D,_,Y,ae,T.cz,T.gQ,zk,?_);show(_,Y,p,_,D,_,Y,ae,T.cz,T.dP,zk,?_);rw[b_,b_];show(_,Y,st,_,G,_,_,Y,by rw[ah O];show e,T.aY,T.a_,Y,_,Y,p,_,D,_,Y,ae,T.cz,T.e_,zk,?_);rw[b_];show k
inductive PV(a:Ad)(f:List V)(H:Hp)(Q:VK)(j:XK):Prop|mk(x c g h:Addr)(b:List (List Nat))(s:Store)(d:Addr)(e:List Addr)(pieces:List Piece)(dx pd:Addr)(kvs:List (bT×V))(_:f=[.ref x])(_:H x=some (.ins a.di dx (Gm c d 0 pd)))(_:bv a H c g h b s)(_:bj b)(_:DictAt H pd kvs s.heap)(_:H d=some (.lst (e.map V.ref)))(_:e.length=pieces.length/\ ∀(i:Nat) y p,e[i]?=some y->pieces[i]?=some p->dO a H y b p)(_:∀p∈pieces,iN b.length p)(_:pieces.length<=6)(_:∀H' dx pd kvs,aM (· =x) H H'->H' x=some (.ins a.di dx (Gm c d (leftFrom s 0 s.heap pieces).1 pd))->DictAt H' pd kvs (leftFrom s 0 s.heap pieces).2->Q .non H')
def aM.store{H G:Hp}{x st pn pc:Uw}(D:aM (· =x) H G)(E:H x=Up (.ins C dx fs))(ab:st≠x)(R:bv a H st pn pc I s):bv a G st pn pc I s:=
 let(ds,e):=R.obj;let(Z,O,hc):=R.cel
 ((ds,D _ _ e ab),D _ _ R.num (aV R.num E (by intro z;cases z)),(Z,D _ _ O (aV O E (by intro z;cases z)),hc.keep λb xs e=>D _ _ e (aV e E (by intro z;cases z))),R.ok)
def Cf(T:TX K U a):cf P w K U W cH 4 a.oE ["self"] [] (PV a):=by
 let GC:=sU T;show T.FY.o2 ["self","cells"] λvs H Q bs h=>?_
 let(x,st,pn,pc,I,s,pp,ps,E,dx,pd,Z,rfl,hx,R,N,a5,a0,a1,bl,bF,k):=h;show(Y,λnd bt A b0 s0 hr=>?_);show(_,ag (dF Vz (au nN (ai (pv 0) rfl) (aW aN (by rfl) T.cO U2 (aa (ai (pv 0) rfl) af)) (aB _))
  (ac (aA (i:=1) nd rfl (UT rfl) (aX GC T.vh hr aq (aa (c9 cS (ai (pv 0) rfl) (ai (pv 0) rfl) (λ_ _=>rfl)) (aa (ai (pv 0) rfl) (aa (ai (pv 0) rfl) af)))))
  (ac (aJ (au io (pv 1) cZ (aB _)) (ag NW) ay)
  (ac (br (pv 0) (pv 1) rfl)
  (ag (gP (pv 0) aF xC)))))),?_)
 let(ds,O):=R.obj;let bm:st≠x:=λz=>by
  rw[z,hx]at O;injection O with O;injection O with _ _ O;unfold Gm at O;injection O with O _;injection O with O _;show absurd O ()
 let bk:↑(ps.map V.ref)=↑E:=by rw[Uq];show a1.1
 let a3:pp≠x:=aV a0 hx (by intro z;cases z);show(λa4 D H'=>SJ λn d' an ar h' v=>Ub (D=[Up (.ref x),v]) (n<=↑E) (a4=↑E-n) (aM (· =x) H H') (H' x=Up (.ins a.di d' (Gm st pp n an))) (DictAt H' an ar h') (WI s 0 s.heap E=WI s n h' (E.drop n)),
  (_,0,dx,pd,Z,s.heap,UH,Y,VN _,Y,λ_ _ e _=>e,hx,a5,Y),?_)
 rintro a4 D H' ⟨n,d',an,ar,h',v,rfl,hn,rfl,sx,ab,D',μ⟩;let R':=sx.store hx bm R;show(_,Y,x,_,d',_,_,Y,ab,T.cz,T.dP,Y,_,Y,x,_,d',_,_,Y,ab,T.cz,T.gQ,Y,pp,_,Y,.inl (bx.of (sx _ _ a0 a3)),_,_,Y,Y,_,Y,?_);rw[bk];by_cases ap:n<↑E
 .rw[decide_eq_true (show((n:Nat):Int)<(↑E:Nat) by lia)];obtain⟨y,hy⟩:∃y,ps[n]?=Up y:=(_,UC (by rw[a1.1];show ap));obtain⟨g,hg⟩:∃g,E[n]?=Up g:=(_,UC ap);let PA:=a1.2 n y g hy hg;let a6:dO a H' y I g:=by
   let(dp,t,G,p2):=PA;show(dp,t,sx _ _ G λz=>?_,sx _ _ p2 (aV p2 hx (by intro z;cases z)));let z:y=x:=z;rw[z,hx]at G;injection G with G;injection G with _ _ G;unfold Gm at G;injection G with G _;injection G with G _;show absurd G ()
  let av:E.drop n=g::E.drop (n+1):=by
   rw[Yx ap];rw[UC ap]at hg;cases hg;rfl
  rw[av]at μ;show bf (_,λ_ _ h=>h,_,Y,x,_,d',_,_,Y,ab,T.cz,T.gQ,Y,_,Y,x,_,d',_,_,Y,ab,T.cz,T.dP,Y,pp,_,_,.ref y,Y,Y,bx.of (sx _ _ a0 a3),b5 (by rw[UM,hy];rfl),?_);show(_,Y,x,_,d',_,_,Y,ab,T.cz,T.mK,Y,_,Y,x,_,d',_,_,Y,ab,T.cz,T.e_,Y,y,st,pn,pc,I,s,g,an,ar,h',Y,a6,bl g (U3 hg),R',N,D',?_);cases hT:Zn s h' g with
  |none=>
   rw[Kh hT]at μ;intro H1 x1;show(_,Y,Y,_,Y,bf (k H1 d' an ar (λb o e hb=>x1 _ _ (sx b o e hb)) ?_ ?_))
   .rw[μ];show x1 _ _ ab
   .rw[μ];show D'.ext x1
  |some h2=>
   rw[Kg hT]at μ;intro H1 q kq x1 f1 g1 C1 u1 b1;let a2:=x1 _ _ ab;show(_,Y,Y,_,Y,be (_,Y,_,Y,x,_,d',_,Y,a2,T.cz,T.e_,zk,?_));let ep:ck "cells" (.ref q) (Gm st pp n an)=Gm st pp n q:=by
    unfold Gm;rw[ck,ifn (),ck,ifn (),ck,ifn (),ck,ifp rfl]
   rw[ep];show(_,Y,x,_,d',_,_,Y,ae,T.cz,T.dP,Y,_,_,Y,Y,d',_,ae,by change 4<1000;decide,?_);let bd:ck "taken" (.int (((n:Nat):Int)+1)) (Gm st pp n q)=Gm st pp (n+1) q:=by
    unfold Gm;rw[ck,ifn (),ck,ifn (),ck,ifp rfl]
    rfl
   rw[bd,b_];let nq:q≠x:=aV g1 a2 (by intro z;cases z);show(_,⋯,n+1,d',q,kq,h2,_,Y,ap,Y,λb o e hb=>by rw[ah hb];show x1 _ _ (sx b o e hb),ae,(by rw[ah nq];show g1,C1.keep λb xs e=>by rw[ah (aV e a2 (by intro z;cases z))];show e,u1,b1),μ)
 .rw[decide_eq_false (show¬((n:Nat):Int)<(↑E:Nat) by lia)];let av:E.drop n=[]:=aa_ ⋯;rw[av]at μ;let μ:WI s 0 s.heap E=(n,h'):=μ;show be (k H' d' an ar sx ?_ ?_)
  .rw[μ];show ab
  .rw[μ];show D'
inductive Gr(a:Ad)(f:List V)(H:Hp)(Q:VK)(k:XK):Prop|mk(x c e g h b A d i j s:_)(_:f=[.ref x,.ref d])(_:fU a H x c e g h b A)(_:bv a H d i j b s)(_:bj b)(_:∀H' y dy pd kvs,bn H H'->H y=none->H' y=some (.ins a.di dy (Gm d e (leftFrom s 0 s.heap A.pieces).1 pd))->DictAt H' pd kvs (leftFrom s 0 s.heap A.pieces).2->Q (.ref y) H')
def rn(T:TX K U a):cf P w K U W cH 5 a.ou ["assertion","store"] [] (Gr a):=by
 let GI:=w9 T;let GG:=Cf T;show T.FR.o2 ["assertion","store","taking"] λvs H Q a0 h=>?_
 let(x,a4,pp,cs,ps,I,A,st,pn,G,s,rfl,E,R,N,k):=h;show(Y,λnd a1 A' a3 s0 hr=>?_);let an:Room 2 _:=hr.mono ();show(_,ac (aA (i:=2) nd rfl (UT rfl) (dS T.Kb GI T.Ks an aq (aa (pv 1) (aa (ai (pv 0) rfl) af))))
  (ac (aE (bu (pv 2) T.cz T.EZ GG hr aq)) (ag (am (pv 2)))),?_)
 iterate 3 skip
 let(dx,ex):=E.obj;show(_,Y,_,Y,x,_,dx,_,_,Y,ex,T.dZ,T.eB,Y,λy D V ab a2=>?_);let x1:bn H (aw (aw H D (.own y)) y (.ins a.di D [])):=λb o e=>by rw[ah (ak e V),ah (ak e ab)];show e
 show(y,D,st,pn,G,I,s,pp,Y,ae,R.ext x1,Y,?_);rw[b_];let O:bn H (aw (aw H D (.own y)) y (.ins a.di D (Gm st pp 0 G))):=λb o e=>by rw[ah (ak e V),ah (ak e ab)];show e
 let(Z,e3,C):=R.cel;let D2:DictAt (aw (aw H D (.own y)) y (.ins a.di D (Gm st pp 0 G))) G Z s.heap:=(O _ _ e3,C.keep λb xs e=>O _ _ e,R.ok.up,R.ok.bd);show(_,Y,y,D,_,Y,ae,Y,y,st,pn,G,I,s,pp,ps,A.pieces,D,G,Z,Y,ae,R.ext O,N,D2,O _ _ E.pl,(E.pieces.1,λi z p h1 h2=>(E.pieces.2 i z p h1 h2).ext O),E.pok,E.few.2,λH3 d3 ar ap av g3 D3=>?_);show(_,Y,k H3 y d3 ar ap (λb o e=>av _ _ (O _ _ e) (ak e V)) V g3 D3)
inductive NF(a:Ad)(f:List V)(H:Hp)(Q:VK)(l:XK):Prop|mk(x d g h i b A e j k s:_)(_:f=[.ref x,.ref e])(_:fU a H x d g h i b A)(_:bv a H e j k b s)(_:bj b)(_:Q (.int (((A.plains.findIdx fun c=>!condHolds s c):Nat):Int)) H)
def gj(T:TX K U a):cf P w K U W cH 3 a.eW ["assertion","store"] [] (NF a):=by
 let GS:=nT T;show T.mw.o2 ["assertion","store","count","condition"] λvs H Q av h=>?_
 let(x,ar,pp,cs,ps,I,A,st,pn,pc,s,rfl,E,R,N,k):=h;show(Y,λnd a0 A' a1 s0 hr=>?_);show(_,ac (aA (i:=2) nd rfl (UT rfl) aF)
  (ac (lu Vz rfl (fW (ai (pv 0) rfl)) (cQ (i:=3) nd rfl (UT rfl))
   (ac (aJ (i6 (cB (bg (pv 1) T.aY T.pO GS hr aq (aa (c9 lO (pv 3) aF (λ_ _=>rfl)) (aa (c9 lO (pv 3) aF (λ_ _=>rfl)) (aa (c9 lO (pv 3) aF (λ_ _=>rfl)) af)))))) (ag (am (pv 2))) ay)
   (ag (qm (i:=2) nd rfl (UT rfl) aF qy))))
  (ag (am (pv 2)))),?_)
 iterate 3 skip
 let(dx,ex):=E.obj;let(ds,es):=R.obj;show(_,Y,x,_,dx,_,_,Y,ex,T.dZ,T.dm,Y,ar,Y,(_,bx.of E.cl),?_);show xN (xs:=cs.map V.ref) (λi D Z=>Z=H/\∃v,D=[Up (.ref x),Up (.ref st),Up (.int ((i:Nat):Int)),v]/\∀(j:Nat)c,j<i->A.plains[j]?=Up c->WH s c=UB)
  (Y,UH,Y,λj c h=>⋯) (λi D Z _ (z,_)=>by subst z;show bx.of E.cl) ?_ ?_
 .rintro i y D Z hi ⟨rfl,v,rfl,q⟩;let(z,hz,rfl):=nZ hi;let an:i<↑A.plains:=by rw[<-E.conds.1];show(UO.mp hz).1
  obtain⟨c,G⟩:∃c,A.plains[i]?=Up c:=(_,UC an);let ht:=E.conds.2 i z c hz G;let(o1,o2):=E.cok c (U3 G);show(_,Y,st,ds,_,Y,es,Y,_,Y,z,_,_,_,Y,Y,gK.of ht,b5 (j:=0) rfl,_,Y,z,_,_,_,Y,Y,gK.of ht,b5 (j:=1) rfl,_,Y,z,_,_,_,Y,Y,gK.of ht,b5 (j:=2) rfl,st,pn,pc,I,s,c,Y,R,N,o1,o2,_,Y,?_);cases hh:WH s c with
  |false=>
   show bf (_,Y,?_);let e:(A.plains.findIdx λc=>!WH s c)=i:=by
    rw[List.findIdx_eq an];show(?_,λj O=>?_)
    .rw[UC an]at G;cases G;rw[hh];rfl
    .rw[q j _ O (UC ⋯)];rfl
   rw[e]at k;show k
  |true=>
   show be (_,Y,_,_,Y,Y,Y,_,Y,λj c' O ab=>?_);rcases Nat.lt_succ_iff_lt_or_eq.mp O with z|z
   .show q j c' z ab
   .subst z;rw[G]at ab;cases ab;show hh
 .rintro D Z ⟨rfl,v,rfl,q⟩;let e:(A.plains.findIdx λc=>!WH s c)=↑A.plains:=by
   rw[aa9];intro c G;let(j,O):=Xn.mp G;let ap:=(UO.mp O).1;rw[q j c (by rw[Uq,E.conds.1];show ap) O];rfl
  rw[e,<-E.conds.1]at k;show(_,Y,?_);rw[Uq];show k
inductive P9(a:Ad)(e:List V)(H:Hp)(Q:VK)(k:XK):Prop|mk(x c f g h b A d i j s:_)(_:e=[.ref d,.ref x])(_:fU a H x c f g h b A)(_:bv a H d i j b s)(_:bj b)(_:∀H',bn H H'->Q (.bl (VasepBase.holds A s)) H')
def L8(T:TX K U a):cf P w K U W cH 6 a.C3 ["store","assertion"] [] (P9 a):=by
 let GT:=rn T;let GC:=gj T;show T.OF.o2 ["store","assertion","taking","all_hold"] λvs H Q a0 h=>?_
 let(x,an,pp,cs,ps,I,A,st,pn,pc,s,rfl,E,R,N,k):=h;show(Y,λnd a1 A' a2 s0 hr=>?_);let av:Room 3 _:=hr.mono ();show(_,ac (aA (i:=2) nd rfl (UT rfl) (aX GT T.uA hr aq (aa (pv 1) (aa (pv 0) af))))
  (ac (aA (i:=3) nd rfl (UT rfl) (dv bP (aX GC T.gD av aq (aa (pv 1) (aa (pv 0) af))) (aW aN (by rfl) T.cO U2 (aa (ai (pv 1) rfl) af)) (aB _)))
  (ag (am (qo (pv 3) (qo (dv bP (ai (pv 2) rfl) (aW aN (by rfl) T.cO U2 (aa (ai (pv 1) rfl) af)) (aB _)) (B7 (dv (sM hr.u65) (ai (pv 2) rfl) kI (aB _)))))))),?_)
 iterate 3 skip
 let(dx,ex):=E.obj;show(_,Y,_,Y,x,an,pp,cs,ps,I,A,st,pn,pc,s,Y,E,R,N,λG y dy pd Z D f1 g1 D1=>?_);let ap:=D _ _ ex;let ab:=E.ext D;show(_,Y,_,Y,x,an,pp,cs,ps,I,A,st,pn,pc,s,Y,ab,R.ext D,N,_,Y,x,_,dx,_,_,Y,ap,T.dZ,T.dm,Y,an,_,Y,.inl (bx.of ab.cl),Y,?_);let l1:↑(cs.map V.ref)=↑A.plains:=by rw[Uq];show E.conds.1
 let l2:↑(ps.map V.ref)=↑A.pieces:=by rw[Uq];show E.pieces.1
 let hI:∀m n:Nat,decide (V.int ((m:Nat):Int)=V.int ((n:Nat):Int))=decide (m=n):=λm n=>by
  rw[decide_eq_decide];show(λz=>by injection z with z;lia,λz=>by rw[z])
 rw[l1];change mV (OS (bJ 3) _) _ [Up (.ref st),Up (.ref x),Up (.ref y),Up (.bl (decide (V.int (((A.plains.findIdx λc=>!WH s c):Nat):Int)=V.int ((↑A.plains:Nat):Int))))] G;rw[hI];let ar:decide ((A.plains.findIdx λc=>!WH s c)=↑A.plains)=A.plains.all (WH s):=by
  rw[Vv,decide_eq_true_eq,aa9,XN];show(λz c hc=>by have:=z c hc;simpa using this,λz c hc=>by rw[z c hc];rfl)
 rw[ar];let(i1,i2,i3):=Az s A.pieces 0 s.heap;rw[Nat.zero_add]at i2 i3;unfold ZI at k;rw[i3]at k;show(_,Y,_,Y,?_);cases hp:A.plains.all (WH s)with
 |false=>rw[hp]at k;show be (k G D)
 |true=>
  rw[hp,aaF]at k;show bf (_,Y,y,_,dy,_,_,Y,g1,T.cz,T.dP,Y,_,Y,x,_,dx,_,_,Y,ap,T.dZ,T.eB,Y,pp,_,Y,.inl (bx.of ab.pl),Y,_,Y,?_);rw[l2];change if decide (V.int (((WI s 0 s.heap A.pieces).1:Nat):Int)=V.int ((↑A.pieces:Nat):Int))=UB then _ else _
  rw[hI];by_cases O:(WI s 0 s.heap A.pieces).1=↑A.pieces
  .rw[decide_eq_true O];rw[ifp O]at k;show bf (_,Y,y,_,dy,_,_,Y,g1,T.cz,T.e_,Y,λq hq=>?_);let x2:bn G (aw G q (.dK [])):=aC hq;show(pd,q,Z,[],UB,Y,Y,x2 _ _ D1.at_,ae,λz=>?_,?_)
   .have:Z=[]:=Vc z;subst this;show .nil
   .let hk:↑Z=(WI s 0 s.heap A.pieces).2.length:=by simpa using D1.cel.keys.length_eq
    let e:(↑Z==↑([]:List (bT×V))&&UB)=(Up (WI s 0 s.heap A.pieces).2==Up []):=by
     rw[hk,Bool.and_true,Vv,beq_iff_eq,beq_iff_eq,Vr];show(λz=>by rw[Vc z],λz=>by rw[UI z];rfl)
    rw[e];show k _ (D.trans x2)
  .rw[decide_eq_false O];rw[ifn O]at k;show be (k G D)
end
end
section
open VasepBase (Toks readArg exprText argText)
section
inductive ue(C:Addr)(b:List V)(H:Hp)(Q:VK)(d:XK):Prop|mk(p a n c:_)(_:b=[.ref p,n,c])(_:H p=some (.ins C a []))(_:Q .non (aw H p (.ins C a [("kind",n),("told",c)])))
def pN(T:TX K U a):cf P w K U W cH 1 a.mf ["self","kind","told"] [] (ue a.eY):=by
 show T.Du.o2 ["self","kind","told"] λvs H Q G h=>?_
 let(p,D,n,c,rfl,E,k):=h;show(Y,λV I A Z s O=>?_);show(_,ac (br (pv 0) (pv 1) rfl) (ag (br (pv 0) (pv 2) rfl)),?_)
 iterate 2 skip
 show(_,Y,_,Y,p,_,D,_,Y,E,T.dh,T.cR,zk,?_);show(_,Y,_,Y,p,_,D,_,Y,ae,T.dh,T.dA,zk,?_);rw[b_];show k
inductive Bv(C:Addr)(b:List V)(H:Hp)(Q:VK)(d:XK):Prop|mk(p a n c:_)(_:b=[.ref p,n,c])(_:H p=some (.ins C a []))(_:Q .non (aw H p (.ins C a [("conditions",n),("pieces",c)])))
def rC(T:TX K U a):cf P w K U W cH 1 a.hU ["self","conditions","pieces"] [] (Bv a.dD):=by
 show T.tX.o2 ["self","conditions","pieces"] λvs H Q G h=>?_
 let(p,D,n,c,rfl,E,k):=h;show(Y,λV I A Z s O=>?_);show(_,ac (br (pv 0) (pv 1) rfl) (ag (br (pv 0) (pv 2) rfl)),?_)
 iterate 2 skip
 show(_,Y,_,Y,p,_,D,_,Y,E,T.dZ,T.dm,zk,?_);show(_,Y,_,Y,p,_,D,_,Y,ae,T.dZ,T.eB,zk,?_);rw[b_];show k
def Tg(I:List (List Nat))(g:X8)(v:V)(_ _:Hp):Prop:=v=.str (S (W7 I g))/\uD ↑I g
def y_(T:TX K U a):cf P w K U W (jL P w) 6 a.lT ["reader"] [] (wq a readArg Tg):=by
 let GV:=kK T;let GW:=bH T;let Z:=oY T;show T.Dg.oX2 ["reader"] λvs H Q ap h=>?_
 let(X,ts,I,rfl,A,k):=h;show(Y,λnd ar A' av s0 E=>?_);let an:Room 3 _:=E.mono ();let ab:Room 2 _:=E.mono ();show(_,ac (aJ (cB (bg (pv 0) T.ao T.cw Z ab aq (aa (pg T.Lc) af))) (ag (am (bg (pv 0) T.ao T.aG GW an bw (aa (cg (aa (pg T.Lc) af)) af)))) ay)
  (ag (am (bu (pv 0) T.ao T.bX GV E bw))),?_)
 iterate 2 skip
 let(D,n,e):=A.obj;show(_,Y,X.r,D,_,Y,e,Y,X,ts,I,_,Uz "any",_,Y,(),A,b6 A.wf "any" (),_,Y,?_);unfold readArg at k;cases G:Wj "any" ts with
 |true=>
  rw[G,ifp rfl]at k;show bf (_,Y,X.r,D,_,Y,e,Y,zl,λp hp=>?_);dsimp only[b8,US,Ve];show iV (M:=(· =X.r)) "any" () () hp A rfl ?_;unfold Xs;rw[ifp G];show λH' s A'=>k H' s A' _ (Y,trivial)
 |false=>
  rw[G,ifn Ur]at k;show be (_,Y,X.r,D,_,Y,e,Y,X,ts,I,Y,A,k.map.imp λx q H1 _ s1 V k v O=>?_);show k.done V _ (O.1,O.2)
def Ql(a:Ad)(I:List (List Nat))(p:Yw)(v:V)(H D:Hp):Prop:=(∃x,v=.ref x/\H x=UH/\dO a D x I p)/\iN ↑I p
structure sr (a:Ad) (H0 H:Hp) (X:RX) (q:Toks) (names:List (List Nat)) (tl:Addr) (xs:List V):Prop where
 at_:At a H X q names
 lst:H tl=some (.lst xs)
 new:H0 tl=none
 ap:tl≠X.pt/\tl≠X.pn
 sx:aM (· =X.r) H0 H
def MN(X:RX)(D:Hp)(b:Uw):Prop:=b=X.r\/D b=UH
def fT.fresh{X:RX}{R:Except V1 (G×Vo)}(k:fT a X I (· =X.r) H R Q E):fT a X I (MN X H) H R Q E:=by
 let w:∀D,aM (MN X H) H D->aM (· =X.r) H D:=λD s b o e hb=>s b o e λz=>z.elim hb λz=>by rw[z]at e;cases e
 cases R with
 |error g=>show λO V D (e,d,g',Z,β,e3,e4)=>(show b7 a H (· =X.r) g E from k) O V D (e,d,g',Z,β,e3,w _ e4)
 |ok p=>show λD s A=>(show∀D,aM (· =X.r) H D->At a D X p.2 I->Q p.1 p.2 D from k) D (w _ s) A
def rF{X:RX}:∀b,b=X.r->MN X D b:=λb z=>.inl z
def sr.push_s{X:RX}(G:sr a E H X q I D xs)(o:HO):aM (MN X E) H (aw H D o):=λb u e O=>by rw[ah (λz:b=D=>O (.inr (by rw[z];show G.new)))];show e
def sr.ne{X:RX}(D:sr a G H X q I E xs):E≠X.r:=by
 let(O,n,e):=D.at_.obj;show aV D.lst e (by intro z;cases z)
def sr.read{X:RX}{Z:Uw}(D:sr a G H X q I Z xs)(s:aM (· =X.r) H E)(A:At a E X O I):sr a G E X O I Z xs:=
 (A,s _ _ D.lst D.ne,D.new,D.ap,D.sx.trans s)
def sr.push{X:RX}(D:sr a G H X q I E xs)(v:V):sr a G (aw H E (.lst (xs++[v]))) X q I E (xs++[v]):=
 (D.at_.list D.lst D.ap.1 D.ap.2,ae,D.new,D.ap,λb o e O=>by rw[ah (ak e D.new)];show D.sx b o e O)
def sr.start{D H:Hp}{X:RX}(A:At a H X q I)(s:aM (· =X.r) D H)(O:∃o,D X.r=Up o)(h:H E=UH):sr a D (aw H E (.lst xs)) X q I E xs:=
 (A.same (fo h),ae,gN s O A.there h,(λz=>(by let(n,_,R):=A.ex;rw[z,R.toks]at h;cases h),λz=>(by have:=A.nml;rw[z,this]at h;cases h)),λb o e G=>by rw[ah (ak (s b o e G) h)];show s b o e G)
def sr.free{D H:Hp}{X:RX}(E:sr a D H X q I O xs)(G:∃o,D X.r=Up o)(h:H x=UH):D x=UH:=gN E.sx G E.at_.there h
def Mg(I:List (List Nat))(ts:Vo):Except V1 (Yw×Vo):=(WJ I ts).bind λx=>(Vk "->" x.2).bind λq=>(readArg I q).bind λn=>(Vk "," n.2).bind λr=>(readArg I r).map λd=>(.cell x.1 n.1 d.1,d.2)
def Cc(T:TX K U a):cf P w K U W (jL P w) 7 a.oA ["reader"] [] (wq a Mg (Ql a)):=by
 let GV:=kK T;let GF:=y_ T;let GW:=bH T;let GP:=pN T;show T.FV.oX2 ["reader","told"] λvs H Q a3 h=>?_
 let(X,ts,I,rfl,A,k):=h;show(Y,λnd a4 A' a6 s0 hr=>?_);let a2:Room 5 _:=hr.mono ();let ab:Room 3 _:=hr.mono ();let a1:Room 2 _:=hr.mono ();let an:Room 6 _:=hr;show(_,ac (aA (i:=1) nd rfl (UT rfl) (aS (aa (bu (pv 0) T.ao T.bX GV a2 bw) af)))
  (ac (aE (bg (pv 0) T.ao T.aG GW ab bw (aa (cg (aa aD af)) af)))
  (ac (aE (ej UQ U8 Va cn (pv 1) (aa (aX GF T.rQ an bw (aa (pv 0) af)) af)))
  (ac (aE (bg (pv 0) T.ao T.aG GW ab bw (aa (cg (aa aD af)) af)))
  (ac (aE (ej UQ U8 Va cn (pv 1) (aa (aX GF T.rQ an bw (aa (pv 0) af)) af)))
  (ag (am (dS T.EU GP T.Fv a1 aq (aa (pg T.qb) (aa (pv 1) af))))))))),?_)
 iterate 6 skip
 let(dx,n,e):=A.obj;let th:=A.there;unfold Mg at k;let k:=k.fresh;show(_,Y,X.r,dx,_,Y,e,Y,X,ts,I,Y,A,(fT.mono k.bind rF).imp λE q H1 _ s1 A1 k v O=>?_);let(rfl,av):=O;show(zl,λD ap=>?_);let k:=k.on (cY (M:=MN X H) (fo (o:=.lst [V.str (S (exprText I E))]) ap));let Z:sr a H _ X q I D [V.str (S (exprText I E))]:=sr.start A1 s1 th ap;generalize aw H1 D (.lst [V.str (S (exprText I E))])=H2 at Z k;let(d2,n2,o2):=Z.at_.obj;show(_,Y,X.r,d2,_,Y,o2,Y,zl,λp hp=>?_);dsimp only[b8,US,Ve];show dj (M:=(· =X.r)) "->" () () hp Z.at_ rfl ((k_.mono k.bindT rF).imp λq3 H3 _ s3 A3 k=>?_);let O3:=Z.read s3 A3;show(_,Y,.inl (Y,_,bx.of O3.lst),_,Y,X,q3,I,Y,A3,(fT.mono k.bind rF).imp λg q4 H4 _ s4 A4 k v O=>?_);let(rfl,hg):=O;let O4:=O3.read s4 A4;show(D,_,_,Y,Y,O4.lst,by change 1<U1;decide,?_);let k:=k.on (O4.push_s (.lst ([V.str (S (exprText I E))]++[V.str (S (argText I g))])));let O5:=O4.push (V.str (S (argText I g)));generalize aw H4 D (.lst ([V.str (S (exprText I E))]++[V.str (S (argText I g))]))=H5 at k O5;let(d5,n5,o5):=O5.at_.obj;show(_,Y,X.r,d5,_,Y,o5,Y,zl,λp hp=>?_);dsimp only[b8,US,Ve];show dj (M:=(· =X.r)) "," () () hp O5.at_ rfl ((k_.mono k.bindT rF).imp λq6 H6 _ s6 A6 k=>?_);let O6:=O5.read s6 A6;show(_,Y,.inl (Y,_,bx.of O6.lst),_,Y,X,q6,I,Y,A6,(fT.mono k.map rF).imp λg2 q7 H7 _ s7 A7 k v O=>?_);let(rfl,a0):=O;let O7:=O6.read s7 A7;show(D,_,_,Y,Y,O7.lst,by change 2<U1;decide,?_);let k:=k.on (O7.push_s (.lst ([V.str (S (exprText I E))]++[V.str (S (argText I g))]++[V.str (S (argText I g2))])));let O8:=O7.push (V.str (S (argText I g2)));generalize aw H7 D (.lst ([V.str (S (exprText I E))]++[V.str (S (argText I g))]++[V.str (S (argText I g2))]))=H8 at k O8;show(_,Y,λy G hy ar a5=>(y,G,_,_,Y,ae,Y,?_));let sm:fi H8 (aw (aw (aw H8 G (.own y)) y (.ins a.eY G [])) y (.ins a.eY G [("kind",.str "cell"),("told",.ref D)])):=bK (C:=a.eY) hy ar;show k _ (cY sm) (O8.at_.same sm) _ ((y,Y,O8.free th hy,G,D,ae,sm _ _ O8.lst),av,hg,a0)
end
end
section
open VasepBase (Toks exprText Piece)
def R7:decide (V.str (S (Uz "cell"))=V.str "cell")=UB:=()
def RZ:decide (V.str (S (Uz "list"))=V.str "cell")=UF:=()
def RY:decide (V.str (S (Uz "list"))=V.str "list")=UB:=()
def RV:decide (V.str (S (Uz "tree"))=V.str "cell")=UF:=()
def RU:decide (V.str (S (Uz "tree"))=V.str "list")=UF:=()
def RW:V.str (S (Uz "list"))=V.str "list":=()
def RR:V.str (S (Uz "tree"))=V.str "tree":=()
section
def ze(T:TX K U a):cf P w K U W (jL P w) 8 a.lX ["reader"] [] (wq a aaG (Ql a)):=by
 let GV:=kK T;let GC:=Cc T;let GW:=bH T;let GP:=pN T;show T.Dk.oX2 ["reader","kind","told"] λvs H Q ap h=>?_
 let(X,ts,I,rfl,A,k):=h;show(Y,λnd bm A' bt s0 hr=>?_);let a3:Room 5 _:=hr.mono ();let an:Room 3 _:=hr.mono ();let bl:Room 2 _:=hr.mono ();show(_,ac (aA (i:=1) nd rfl (UT rfl) (bg (pv 0) T.ao T.aG GW an bw (aa (cg (aa (pg T.qb) (aa (pg T.Bl) (aa (pg T.K8) af)))) af)))
  (ac (aJ (au bP (pv 1) (pg T.qb) (aB _)) (ag (am (aX GC T.Fz hr bw (aa (pv 0) af)))) ay)
  (ac (aE (bg (pv 0) T.ao T.aG GW an bw (aa (cg (aa aD af)) af)))
  (ac (aA (i:=2) nd rfl (UT rfl) (aS (aa (bu (pv 0) T.ao T.bX GV a3 bw) af)))
  (ac (aJ (au bP (pv 1) (pg T.Bl) (aB _))
   (ac (aE (bg (pv 0) T.ao T.aG GW an bw (aa (cg (aa aD af)) af)))
   (ag (aE (ej UQ U8 Va cn (pv 2) (aa (bu (pv 0) T.ao T.bX GV a3 bw) af))))) ay)
  (ac (aE (bg (pv 0) T.ao T.aG GW an bw (aa (cg (aa aD af)) af)))
  (ag (am (dS T.EU GP T.Fv bl aq (aa (pv 1) (aa (pv 2) af)))))))))),?_)
 iterate 7 skip
 let(dx,n,e):=A.obj;let th:=A.there;show(_,Y,X.r,dx,_,Y,e,Y,zl,λp E=>?_);let d1:=b6 A.wf "cell" ();let d2:=b6 A.wf "list" ();let d3:=b6 A.wf "tree" ();dsimp only[b8,US,Ve];unfold aaG at k;let k:=k.fresh;show jv (M:=(· =X.r)) [Uz "cell",Uz "list",Uz "tree"] ?_ E A () rfl (λh H1 s1 A1=>?_) (λh=>?_)
 .decide+kernel
 .rw[jr,d1,d2,d3]at h;let(a1,n1,o1):=A1.obj;let k1:=k.on (s1.mono rF);let a2:∀(g:Yw)(kd:V)(q:Vo)(H5:Hp)(D:Uw),kd=.str (sL g)->sr a H H5 X q I D ((sK I g).map λx=>V.str (S x))->iN ↑I g->fT a X I (MN X H) H5 ((Vk ")" q).map λr=>(g,r)) (λb _ H'=>∀v,Ql a I b v H H'->Q v H') ap->
    uG (nu (iZ a.aQ "want" (nw K a) [] ap (bJ 0) (bG (No (bG (tC (.str ")")) b8)) b8))) (mV (qV a.eY (ue a.eY) [] E0 (bG (bJ 1) (bG (bJ 2) b8)))) {nx:=λ_ H'=>Q .non H',rt:=Q} [Up (.ref X.r),Up kd,Up (.ref D)] H5:=λg kd q H5 D bk ar ho k=>by
   subst bk;let(d5,n5,o5):=ar.at_.obj;show(_,Y,X.r,d5,_,Y,o5,Y,zl,λp E=>?_);dsimp only[b8,US,Ve];show dj (M:=(· =X.r)) ")" () () E ar.at_ rfl ((k_.mono k.mapT rF).imp λq6 H6 _ s6 A6 k=>?_);let Z:=ar.read s6 A6;show(_,Y,_,Y,λy dy hy a6 bs=>(y,dy,_,_,Y,ae,Y,?_));let sm:fi H6 (aw (aw (aw H6 dy (.own y)) y (.ins a.eY dy [])) y (.ins a.eY dy [("kind",.str (sL g)),("told",.ref D)])):=bK (C:=a.eY) hy a6;show k _ (cY sm) (Z.at_.same sm) _ ((y,Y,Z.free th hy,dy,D,ae,sm _ _ Z.lst),ho)
  cases hc:Wj "cell" ts with
  |true=>
   rw[of_decide_eq_true (d1.trans hc)];rw[hc,ifp rfl]at k1;show(_,Y,Y,_,Y,?_);show dq R7 (_,Y,X,ts.drop 1,I,Y,A1,?_);show(fT.mono (show fT a X I (MN X H) H1 (Mg I (ts.drop 1)) _ ap from k1) rF).imp λg q H2 _ s2 A2 kk v O=>kk v (let(x,h1,h2,h3):=O.1;(x,h1,gN s1 th A1.there h2,h3),O.2)
  |false=>
   rw[hc,ifn Ur]at k1;cases hl:Wj "list" ts with
   |true=>
    rw[of_decide_eq_true (d2.trans hl)];rw[hl,ifp rfl]at k1;show(_,Y,Y,_,Y,?_);show bh RZ (_,Y,X.r,a1,_,Y,o1,Y,zl,λp E=>?_);dsimp only[b8,US,Ve];show dj (M:=(· =X.r)) "(" () () E A1 rfl ((k_.mono k1.bindT rF).imp λq2 H2 _ s2 A2 k=>?_);let(av,n2,o2):=A2.obj;show(_,Y,X.r,av,_,Y,o2,Y,X,q2,I,Y,A2,(fT.mono k.bind rF).imp λG q3 H3 _ s3 A3 k v O=>?_);let(rfl,a0):=O;show(zl,λD ab=>?_);let k:=k.on (cY (M:=MN X H) (fo (o:=.lst [V.str (S (exprText I G))]) ab));let O4:sr a H _ X q3 I D [V.str (S (exprText I G))]:=sr.start A3 (s1.trans (s2.trans s3)) th ab;generalize aw H3 D (.lst [V.str (S (exprText I G))])=H4 at O4 k;show(_,Y,Y,_,Y,?_);let(a4,n4,o4):=O4.at_.obj;show dq RY (_,Y,X.r,a4,_,Y,o4,Y,zl,λp E=>?_);dsimp only[b8,US,Ve];show dj (M:=(· =X.r)) "," () () E O4.at_ rfl ((k_.mono k.bindT rF).imp λq5 H5 _ s5 A5 k=>?_);let O5:=O4.read s5 A5;let(a5,n5,o5):=A5.obj;show(_,Y,.inl (Y,_,bx.of O5.lst),_,Y,X.r,a5,_,Y,o5,Y,X,q5,I,Y,A5,(fT.mono k.bind rF).imp λey q6 H6 _ s6 A6 k v O=>?_);let(rfl,bd):=O;let Z:=O5.read s6 A6;show(D,_,_,Y,Y,Z.lst,by change 1<U1;decide,?_);show a2 (.list G ey) _ q6 _ D RW (Z.push _) (a0,bd) (k.on (Z.push_s _))
   |false=>
    rw[hl,ifn Ur]at k1;rw[hc,hl,Wm,Wm]at h;rw[of_decide_eq_true (d3.trans h)];rw[h,ifp rfl]at k1;show(_,Y,Y,_,Y,?_);show bh RV (_,Y,X.r,a1,_,Y,o1,Y,zl,λp E=>?_);dsimp only[b8,US,Ve];show dj (M:=(· =X.r)) "(" () () E A1 rfl ((k_.mono k1.bindT rF).imp λq2 H2 _ s2 A2 k=>?_);let(av,n2,o2):=A2.obj;show(_,Y,X.r,av,_,Y,o2,Y,X,q2,I,Y,A2,(fT.mono k.bind rF).imp λG q3 H3 _ s3 A3 k v O=>?_);let(rfl,a0):=O;show(zl,λD ab=>?_);let k:=k.on (cY (M:=MN X H) (fo (o:=.lst [V.str (S (exprText I G))]) ab));let O4:sr a H _ X q3 I D [V.str (S (exprText I G))]:=sr.start A3 (s1.trans (s2.trans s3)) th ab;show(_,Y,Y,_,Y,?_);show bh RU (a2 (.tree G) _ q3 _ D RR O4 a0 k)
 .rw[jr,d1,d2,d3,Wc,Wc]at h;rw[h.1,h.2.1,h.2.2,ifn Ur,ifn Ur,ifn Ur]at k;show b7.mono k rF
def gn(a:Ad)(H:Hp)(D:List Uw)(I:List (List Nat))(l:List Yw):Prop:=↑D=↑l/\∀(i:Nat)y p,D[i]?=Up y->l[i]?=Up p->dO a H y I p
def dO.read{X:RX}(h:dO a H y I p)(A:At a H X q nm)(s:aM (· =X.r) H E):dO a E y I p:=by
 let(G,n,e):=A.obj;let(d,t,D,h2):=h;show(d,t,s _ _ D λz=>?_,s _ _ h2 (aV h2 e (by intro z;cases z)));let z:y=X.r:=z;rw[z,e]at D;injection D with D;injection D with _ _ D;unfold rf at D;injection D with D _;injection D with D _;show absurd D ()
def Ni{D:List Uw}:HO.lst ((sK I p).map λx=>V.str (S x))≠HO.lst (D.map V.ref):=by
 intro z;injection z with z;cases p<;>cases D<;>simp [sK]at z
def dO.push{H:Hp}{G:List Uw}(h:dO a H y I p)(E:H pl=Up (.lst (G.map V.ref))):dO a (aw H pl o) y I p:=by
 let(d,t,D,h2):=h;show(d,t,by rw[ah (aV D E (by intro z;cases z))];show D,by rw[ah (aV h2 E Ni)];show h2)
def gn.snoc(h:gn a H G I l)(V:dO a H x I p):gn a H (G++[x]) I (l++[p]):=by
 show(by rw[Us,Us,h.1];rfl,λi y u D E=>?_);by_cases O:i<↑G
 .rw[UY O]at D;rw[UY (by rw[<-h.1];show O)]at E;show h.2 i y u D E
 .rw[UZ ⋯]at D;rw[UZ (by rw[<-h.1];lia),<-h.1]at E;cases e:i-↑G with
  |zero=>rw[e]at D E;cases D;cases E;show V
  |succ n=>rw[e]at D;simp at D
def OU(a:Ad)(I:List (List Nat))(l:List Yw)(v:V)(H D:Hp):Prop:=∃pl E,v=.ref pl/\H pl=UH/\D pl=Up (.lst (E.map V.ref))/\gn a D E I l/\(∀p∈l,iN ↑I p)/\↑l<=6
def lM(I:List (List Nat))(ts:Vo):Except V1 (List Yw×Vo):=if Wj "emp" ts then .ok ([],ts.drop 1)else YI I 6 ts
def wY(T:TX K U a):cf P w K U W (jL P w) 9 a.jY ["reader"] [] (wq a lM (OU a)):=by
 let GR:=vJ T;let GP:=ze T;let GW:=bH T;let GS:=oY T;show T.zM.oX2 ["reader","pieces"] λvs H Q a1 h=>?_
 let(X,ts,I,rfl,A,k):=h;show(Y,λnd bd A' bk s0 hr=>?_);let ap:Room 3 _:=hr.mono ();let av:Room 2 _:=hr.mono ();show(_,ac (aJ (cB (bg (pv 0) T.ao T.cw GS av aq (aa (pg T.Iq) af)))
   (ac (aE (bg (pv 0) T.ao T.aG GW ap bw (aa (cg (aa (pg T.Iq) af)) af))) (ag (am (aS af)))) ay)
  (ac (aA (i:=1) nd rfl (UT rfl) (aS (aa (aX GP T.rS hr bw (aa (pv 0) af)) af)))
  (ac (dF N5 (cB (bg (pv 0) T.ao T.cw GS av aq (aa aD af)))
   (ac (aE (bg (pv 0) T.ao T.aG GW ap bw (aa (cg (aa aD af)) af)))
   (ac (aE (bg (pv 0) T.ao T.eU GR ap bw (aa (pv 1) (aa (pg T.yE) af))))
   (ag (aE (ej UQ U8 Va cn (pv 1) (aa (aX GP T.rS hr bw (aa (pv 0) af)) af)))))))
  (ag (am (pv 1))))),?_)
 iterate 4 skip
 let(dx,n,e):=A.obj;let th:=A.there;let k:=k.fresh;show(_,Y,X.r,dx,_,Y,e,Y,X,ts,I,_,Uz "emp",_,Y,(),A,b6 A.wf "emp" (),_,Y,?_);unfold lM at k;cases hw:Wj "emp" ts with
 |true=>
  rw[hw,ifp rfl]at k;show bf (_,Y,X.r,dx,_,Y,e,Y,zl,λp hp=>?_);dsimp only[b8,List.cons_append,List.nil_append];show iV (M:=(· =X.r)) "emp" () () hp A rfl ?_;unfold Xs;rw[ifp hw];intro H1 s1 A1;show(zl,λpl μ=>?_);show k _ (λb o e hb=>by rw[ah (ak (s1 b o e (λz=>hb (.inl z))) μ)];show s1 b o e (λz=>hb (.inl z))) (A1.same (fo μ)) _ (pl,[],Y,gN s1 th A1.there μ,ae,(Y,λi y p h=>by simp at h),λp h=>by simp at h,by change 0<=6;decide)
 |false=>
  rw[hw,ifn Ur]at k;generalize hR:YI I 6 ts=R0 at k;let ab:((aaG I ts).bind λp=>if VD "*" p.2 then(YI I 5 (p.2.drop 1)).map λl=>(Prod.mk (p.1::l.1) (l.2))else .ok (Prod.mk ([p.1]) (p.2)))=R0:=hR;let an:∀g,R0=.error g->b7 a H (MN X H) g a1:=λg hg=>by rw[hg]at k;show k
  let a6:∀l q O,R0=.ok (Prod.mk (l) (q))->aM (MN X H) H O->At a O X q I->∀v,OU a I l v H O->Q v O:=λl q O hg=>by rw[hg]at k;show k O
  show be (_,Y,X,ts,I,Y,A,?_);cases hp:aaG I ts with
  |error g=>rw[hp]at ab;show b7.mono (an g ab.symm) rF
  |ok pq=>
   let(p1,q1):=pq;rw[hp]at ab;let ab:(if VD "*" q1=UB then(YI I 5 (q1.drop 1)).map λl=>(Prod.mk (p1::l.1) (l.2))else .ok (Prod.mk ([p1]) (q1)))=R0:=ab;intro H1 s1 A1 v hv;let((y1,rfl,f1,P1),o1):=hv;show(zl,λpl μ=>?_);let O2:sr a H (aw H1 pl (.lst ([y1].map V.ref))) X q1 I pl ([y1].map V.ref):=sr.start A1 s1 th μ;let P2:=P1.ext (aC (o:=.lst ([y1].map V.ref)) μ);show(λa0 D O=>Sj λ(l:List Piece)(E:List Addr)(q:Toks)=>Ul (D=[Up (.ref X.r),Up (.ref pl)]) (sr a H O X q I pl (E.map V.ref)) (gn a O E I l) ((∀p∈l,iN ↑I p)) (1<=↑l) (↑l<=6) (a0=7-↑l) ((if VD "*" q=UB then(YI I (6-↑l) (q.drop 1)).map λr=>(Prod.mk (l++r.1) (r.2))else .ok (Prod.mk (l) (q)))=R0),
    (_,[p1],[y1],q1,Y,O2,(Y,λi y p h1 h2=>?_),λp h=>by rw[List.mem_singleton.mp h];show o1,UD _,by change 1<=6;decide,Y,ab),?_)
   .cases i with
    |zero=>cases h1;cases h2;show P2
    |succ i=>simp at h1
   .rintro a0 D O ⟨l,E,q,rfl,Z,PL,ho,l1,l6,rfl,G⟩;let(ar,n3,o3):=Z.at_.obj;show(_,Y,X.r,ar,_,Y,o3,Y,X,q,I,_,Uz "*",_,Y,(),Z.at_,eM Z.at_.wf "*" (),_,Y,?_);cases hs:VD "*" q with
    |false=>
     rw[hs,ifn Ur]at G;show be (_,Y,a6 l q O G.symm (Z.sx.mono rF) Z.at_ _ (pl,E,Y,Z.new,Z.lst,PL,ho,l6))
    |true=>
     rw[hs,ifp rfl]at G;show bf (_,λ_ _ h=>h,_,Y,X.r,ar,_,Y,o3,Y,zl,λp hp=>?_);dsimp only[b8,List.cons_append,List.nil_append];show dj (M:=(· =X.r)) "*" () () hp Z.at_ rfl ?_;unfold Vk;rw[ifp hs];intro H4 s4 A4;let O4:=Z.read s4 A4;let a2:gn a H4 E I l:=(PL.1,λi y p h1 h2=>(PL.2 i y p h1 h2).read Z.at_ s4);let(a5,n4,o4):=A4.obj;let μ:↑(E.map V.ref)=↑l:=by rw[List.length_map];show PL.1
     show(_,Y,X.r,a5,_,Y,o4,Y,_,Y,X,q.drop 1,I,pl,_,6,Y,A4,bx.of O4.lst,λh6=>?_,λh6=>?_)
     .rw[μ]at h6;let hk:6-↑l=(5-↑l)+1:=Nat.succ_sub (by lia)
      rw[hk]at G;let G:((aaG I (q.drop 1)).bind λp=>if VD "*" p.2 then(YI I (5-↑l) (p.2.drop 1)).map λl=>(Prod.mk (p.1::l.1) (l.2))else .ok (Prod.mk ([p.1]) (p.2))).map (λr=>(Prod.mk (l++r.1) (r.2)))=R0:=G;show(_,Y,.inl (Y,_,bx.of O4.lst),_,Y,X,q.drop 1,I,Y,A4,?_);cases hp:aaG I (q.drop 1)with
      |error g=>rw[hp]at G;show b7.mono ((an g G.symm).on (O4.sx.mono rF)) rF
      |ok pq=>
       let(p5,q5):=pq;rw[hp]at G;intro H5 s5 A5 v hv;let((y5,rfl,f5,P5),o5):=hv;let O5:=O4.read s5 A5;let a3:gn a H5 E I l:=(PL.1,λi y p h1 h2=>(a2.2 i y p h1 h2).read A4 s5);show(pl,_,_,Y,Y,O5.lst,by rw[μ,Ux];lia,?_);let e6:E.map V.ref++[V.ref y5]=(E++[y5]).map V.ref:=by rw[List.map_append];rfl
       let O6:=O5.push (V.ref y5);rw[e6]at O6⊢;let a4:gn a (aw H5 pl (.lst ((E++[y5]).map V.ref))) E I l:=(PL.1,λi y p h1 h2=>(a3.2 i y p h1 h2).push O5.lst);let P6:=P5.push (o:=.lst ((E++[y5]).map V.ref)) O5.lst;show(_,by rw[List.length_append];change 7-(_+1)<_;lia,l++[p5],E++[y5],q5,Y,O6,a4.snoc P6,λp h=>(List.mem_append.mp h).elim (ho p) λz=>by rw[List.mem_singleton.mp z];show o5,by rw[List.length_append];lia,by rw[List.length_append];change _+1<=6;lia,Y,?_);rw[<-G];change(if VD "*" q5=UB then _ else _)=Wp _ (if VD "*" q5=UB then _ else _);rw[List.length_append,List.length_singleton,show 6-(↑l+1)=5-↑l from Nat.succ_sub_succ 5 _];cases VD "*" q5 with
       |false=>rfl
       |true=>
        rw[ifp rfl,ifp rfl];cases YI I (5-↑l) (q5.drop 1)with
        |error g=>rfl
        |ok r=>change Xv _=Xv _;simp
     .rw[μ]at h6;rw[h6]at G;show b7.mono ((an _ G.symm).on (O4.sx.mono rF)) rF
end
end
section
open HM (eZ)
open VasepBase (Toks readAssert readAssertion Cond ascii)
def KL(W:eZ ts):CP (.str (S (az ts).text)) [V.str "emp",V.str "cell",V.str "list",V.str "tree"]=Y0 ts:=by
 let e:[V.str "emp",V.str "cell",V.str "list",V.str "tree"]=[Uz "emp",Uz "cell",Uz "list",Uz "tree"].map λx=>V.str (S x):=()
 rw[e,Fp,VE,jr,V_,b6 W "emp" (),b6 W "cell" (),b6 W "list" (),b6 W "tree" ()];unfold Y0;rw[Bool.or_assoc,Bool.or_assoc]
section
def fD(H:Hp)(D:List Uw)(I:List (List Nat))(l:List ZV):Prop:=↑D=↑l/\∀(i:Nat)y c,D[i]?=Up y->l[i]?=Up c->H y=Up (.tup (AQ I c))
def fD.keep{H D:Hp}(h:fD H E I l)(k:∀b xs,H b=Up (.tup xs)->D b=Up (.tup xs)):fD D E I l:=(h.1,λi y c G h2=>k _ _ (h.2 i y c G h2))
def fD.snoc{H:Hp}(h:fD H G I l)(V:H x=Up (.tup (AQ I c))):fD H (G++[x]) I (l++[c]):=by
 show(by rw[Us,Us,h.1];rfl,λi y u D E=>?_);by_cases O:i<↑G
 .rw[UY O]at D;rw[UY (by rw[<-h.1];show O)]at E;show h.2 i y u D E
 .rw[UZ ⋯]at D;rw[UZ (by rw[<-h.1];lia),<-h.1]at E;cases e:i-↑G with
  |zero=>rw[e]at D E;cases D;cases E;show V
  |succ n=>rw[e]at D;simp at D
def HW(n:Nat)(c:ZV):Prop:=bS n c.one/\bS n c.two
def OV(I:List (List Nat))(l:List ZV)(v:V)(H D:Hp):Prop:=∃pl E,v=.ref pl/\H pl=UH/\D pl=Up (.lst (E.map V.ref))/\fD D E I l/\(∀c∈l,HW ↑I c)/\↑l<=6
def rK(I:List (List Nat))(ts:Vo):Except V1 (List ZV×Vo):=if Y0 ts then .ok ([],ts)else Yh I 6 ts
def qp(T:TX K U a):cf P w K U W (jL P w) 7 a.gE ["reader"] [] (wq a rK OV):=by
 let GR:=vJ T;let GC:=IL T;let GW:=bH T;let GH:=vK T;show T.r_.oX2 ["reader","conditions","sign"] λvs H Q a5 h=>?_
 let(X,ts,I,rfl,A,k):=h;show(Y,λnd bF A' b0 s0 hr=>?_);let a3:Room 3 _:=hr.mono ();let bm:Room 1 _:=hr.mono ();show(_,ac (aA (i:=1) nd rfl (UT rfl) (aS af))
  (ac (aJ (au gi (ai (bu (pv 0) T.ao T.d_ GH bm aq) rfl) (cg (aa (pg T.Iq) (aa (pg T.qb) (aa (pg T.Bl) (aa (pg T.K8) af))))) (by with_unfolding_all rfl)) (ag (am (pv 1))) ay)
  (ac (aA (i:=2) nd rfl (UT rfl) aD)
  (ac (dF N5 (au bP (pv 2) aD (aB _))
   (ac (aE (bg (pv 0) T.ao T.eU GR a3 bw (aa (pv 1) (aa (pg T.qR) af))))
   (ac (aE (ej UQ U8 Va cn (pv 1) (aa (bu (pv 0) T.ao T.gk GC hr bw) af)))
   (ag (aA (i:=2) nd rfl (UT rfl) (bg (pv 0) T.ao T.aG GW a3 bw (aa (cg (aa aD (aa aD af))) af)))))))
  (ag (am (pv 1)))))),?_)
 iterate 5 skip
 let th:=A.there;let k:=k.fresh;show(zl,λpl bl=>?_);let O1:sr a H (aw H pl (.lst (([]:List Addr).map V.ref))) X ts I pl (([]:List Addr).map V.ref):=sr.start A (λ_ _ e _=>e) th bl;change(uG _ _) _ _ (aw H pl (.lst (([]:List Addr).map V.ref)));generalize aw H pl (.lst (([]:List Addr).map V.ref))=H1 at O1;let(dx,n,e):=O1.at_.obj;show(_,Y,X.r,dx,_,Y,e,Y,X,ts,I,Y,O1.at_,λx dt tx=>(x,_,dt,_,_,Y,tx,T.bZ,T.cu,Y,zl,λp hp=>?_));show(p,_,Y,.inr (gK.of ae),Y,Y,_,Y,?_);let sm:bn H1 (aw H1 p (.tup [V.str "emp",V.str "cell",V.str "list",V.str "tree"])):=aC hp;let O2:sr a H (aw H1 p (.tup [V.str "emp",V.str "cell",V.str "list",V.str "tree"])) X ts I pl (([]:List Addr).map V.ref):=O1.read (cY sm) (O1.at_.same sm);change if(if UF=true then _ else CP _ [V.str "emp",V.str "cell",V.str "list",V.str "tree"])=true then _ else _
 rw[ifn Ur,KL A.wf];change if Y0 ts=true then mV (bJ 1) _ _ (aw H1 p (.tup [V.str "emp",V.str "cell",V.str "list",V.str "tree"]))else _
 generalize aw H1 p (.tup [V.str "emp",V.str "cell",V.str "list",V.str "tree"])=H2 at O2;unfold rK at k;cases hb:Y0 ts with
 |true=>
  rw[hb,ifp rfl]at k;show bf (_,Y,k H2 (O2.sx.mono rF) O2.at_ _ (pl,[],Y,O2.new,O2.lst,(Y,λi y p h=>by simp at h),λp h=>by simp at h,by change 0<=6;decide))
 |false=>
  rw[hb,ifn Ur]at k;generalize hR:Yh I 6 ts=R0 at k;let ap:∀g,R0=.error g->b7 a H (MN X H) g a5:=λg hg=>by rw[hg]at k;show k
  let bd:∀l q Z,R0=.ok (Prod.mk (l) (q))->aM (MN X H) H Z->At a Z X q I->∀v,OV I l v H Z->Q v Z:=λl q Z hg=>by rw[hg]at k;show k Z
  show be (λav D Z=>Sj λ(l:List Cond)(G:List Addr)(q:Toks)=>T1 (sr a H Z X q I pl (G.map V.ref)) (fD Z G I l) ((∀c∈l,HW ↑I c)) (↑l<=6) (((D=[Up (.ref X.r),Up (.ref pl),Up (.str (S (ascii "and")))]/\av=1+(6-↑l)/\((Yh I (6-↑l) q).map λr=>(Prod.mk (l++r.1) (r.2)))=R0)\/(D=[Up (.ref X.r),Up (.ref pl),Up (.str (S (ascii ":")))]/\av=0/\R0=.ok (Prod.mk (l) (q))))),
   (_,[],[],ts,O2,(Y,λi y p h=>by simp at h),λp h=>by simp at h,by change 0<=6;decide,.inl (?_,Y,?_)),?_)
  .rw[show S (ascii "and")=("and":Vp) by decide+kernel];rfl
  .rw[<-hR];change Wp _ (Yh I 6 ts)=_;cases Yh I 6 ts<;>rfl
  .rintro av D Z ⟨l,G,q,O,CL,ho,l6,h⟩;rcases h with⟨rfl,rfl,E⟩|⟨rfl,rfl,E⟩
   .show(_,Y,Y,_,Y,?_);rw[show decide (V.str (S (ascii "and"))=V.str "and")=true by decide+kernel];let ar:↑(G.map V.ref)=↑l:=by rw[List.length_map];show CL.1
    let(a1,n3,o3):=O.at_.obj;show bf (_,λ_ _ h=>h,_,Y,X.r,a1,_,Y,o3,Y,_,Y,X,q,I,pl,_,6,Y,O.at_,bx.of O.lst,λh6=>?_,λh6=>?_)
    .rw[ar]at h6;let hk:6-↑l=(5-↑l)+1:=Nat.succ_sub (by lia)
     rw[hk]at E;let E:((Z5 I q).bind λc=>if Wj "and" c.2 then(Yh I (5-↑l) (c.2.drop 1)).map λl=>(Prod.mk (c.1::l.1) (l.2))else(Vk ":" c.2).map λr=>(Prod.mk ([c.1]) (r))).map (λr=>(Prod.mk (l++r.1) (r.2)))=R0:=E;show(_,Y,.inl (Y,_,bx.of O.lst),_,Y,X.r,a1,_,Y,o3,Y,X,q,I,Y,O.at_,?_);cases hp:Z5 I q with
     |error g=>rw[hp]at E;show b7.mono ((ap g E.symm).on (O.sx.mono rF)) rF
     |ok cq=>
      let(c4,q4):=cq;rw[hp]at E;let E:(if Wj "and" q4=true then(Yh I (5-↑l) (q4.drop 1)).map λl=>(Prod.mk (c4::l.1) (l.2))else(Vk ":" q4).map λr=>(Prod.mk ([c4]) (r))).map (λr=>(Prod.mk (l++r.1) (r.2)))=R0:=E;intro H4 s4 A4 v hv;let((t4,rfl,g4),bs,bt):=hv;let O4:=O.read s4 A4;let a4:fD H4 G I l:=CL.keep λb xs e=>s4 _ _ e (aV e o3 (by intro z;cases z))
      show(pl,_,_,Y,Y,O4.lst,by rw[ar,Ux];lia,?_);let e6:G.map V.ref++[V.ref t4]=(G++[t4]).map V.ref:=by rw[List.map_append];rfl
      let μ:=O4.push (V.ref t4);let kp:∀b xs,H4 b=Up (.tup xs)->(aw H4 pl (.lst (G.map V.ref++[V.ref t4]))) b=Up (.tup xs):=λb xs e=>by rw[ah (aV e O4.lst (by intro z;cases z))];show e
      let an:=(a4.keep kp).snoc (kp _ _ g4);rw[e6]at μ an⊢;generalize aw H4 pl (.lst ((G++[t4]).map V.ref))=H5 at μ an⊢;let a2:∀c∈l++[c4],HW ↑I c:=λc h=>(List.mem_append.mp h).elim (ho c) λz=>by rw[List.mem_singleton.mp z];show(bs,bt)
      let ll:↑(l++[c4])=↑l+1:=by simp
      let(a6,n5,o5):=μ.at_.obj;show(_,Y,X.r,a6,_,Y,o5,Y,zl,λp5 bk=>?_);let d1:=b6 μ.at_.wf "and" ();let d2:=eM μ.at_.wf ":" ();dsimp only[b8,List.cons_append,List.nil_append];show jv (M:=(· =X.r)) [ascii "and",ascii ":"] ?_ bk μ.at_ () rfl (λh H6 s6 A6=>?_) (λh=>?_)
      .decide+kernel
      .rw[cb,d1,d2]at h;let O6:=μ.read s6 A6;let a0:fD H6 (G++[t4]) I (l++[c4]):=an.keep λb xs e=>s6 _ _ e (aV e o5 (by intro z;cases z))
       cases ab:Wj "and" q4 with
       |true=>
        rw[ifp ab]at E;show(_,?_,l++[c4],G++[t4],q4.drop 1,O6,a0,a2,⋯,.inl (by rw[of_decide_eq_true (d1.trans ab)];rfl,Y,?_))
        .omega
        .rw[ll,show 6-(↑l+1)=5-↑l from Nat.succ_sub_succ 5 _,<-E];cases Yh I (5-↑l) (q4.drop 1)with
         |error g=>rfl
         |ok r=>change Xv _=Xv _;simp
       |false=>
        rw[ab,Wm]at h;rw[ab,ifn Ur]at E;unfold Vk at E;rw[ifp h]at E;show(0,⋯,l++[c4],G++[t4],q4.drop 1,O6,a0,a2,⋯,.inr (by rw[of_decide_eq_true (d2.trans h)];rfl,Y,E.symm))
      .rw[cb,d1,d2,Wc]at h;unfold Vk at E;rw[h.1,h.2,ifn Ur,ifn Ur]at E;show b7.mono ((ap _ E.symm).on (μ.sx.mono rF)) rF
    .rw[ar]at h6;rw[h6]at E;show b7.mono ((ap _ E.symm).on (O.sx.mono rF)) rF
   .show(_,Y,Y,_,Y,?_);rw[show decide (V.str (S (ascii ":"))=V.str "and")=UF by decide+kernel];show be (_,Y,bd l q Z E (O.sx.mono rF) O.at_ _ (pl,G,Y,O.new,O.lst,CL,ho,l6))
inductive Bt(K:PySem.W.Frag)(a:Ad)(e:List V)(H:Hp)(Q:VK)(E:XK):Prop|mk(l d:Addr)(t:List Nat)(b:List (List Nat))(_:e=[.ref l,.ref d])(_:bx K H l (t.map fun(c:Nat)=>V.int (c:Int)))(_:t.length<=4096)(_:H d=some (.lst (b.map fun x=>V.str (S x))))(_:∀A,readAssertion b t=.ok A-> ∀H' x pc pp cs ps,bn H H'->H x=none->fU a H' x pc pp cs ps b A->Q (.ref x) H')(_:∀g,readAssertion b t=.error g->b7 a H (fun _=>False) g E)
def rp(T:TX K U a):cf P w K U W (jL P w) 10 a.gY ["text","names"] [] (Bt K a):=by
 let GT:=nO T;let GI:=nW T;let GC:=qp T;let GP:=wY T;let GE:=ED T;let GA:=rC T;show T.tS.oX2 ["text","names","reader","conditions","pieces"] λvs H Q bt h=>?_
 let(l,Z,t,I,rfl,hl,hz,hm,k1,k2):=h;show(Y,λnd bF A' b1 s0 O=>?_);let bm:Room 7 _:=O.mono ();let bl:Room 5 _:=O.mono ();let bk:Room 3 _:=O.mono ();let a0:Room 2 _:=O.mono ();show(_,ac (aA (i:=2) nd rfl (UT rfl) (dS T.Av GI T.AF a0 aq (aa (aX GT T.pQ bl aq (aa (pv 0) af)) (aa (pv 1) af))))
  (ac (aA (i:=3) nd rfl (UT rfl) (aX GC T.rT bm bw (aa (pv 2) af)))
  (ac (aA (i:=4) nd rfl (UT rfl) (aX GP T.zF O bw (aa (pv 2) af)))
  (ac (aE (bu (pv 2) T.ao T.rH GE bk bw))
  (ag (am (dS T.Co GA T.CT a0 aq (aa (pv 3) (aa (pv 4) af)))))))),?_)
 iterate 5 skip
 show(_,Y,l,t,Y,hl,⋯,λH1 pt as x1 f1 e1 bs=>?_);show(_,Y,λx E hx a5 bd=>(x,E,_,_,Y,ae,Y,?_));let x3:bn H1 (aw (aw (aw H1 E (.own x)) x (.ins a.aQ E [])) x (.ins a.aQ E (rf pt Z 0))):=bK (C:=a.aQ) hx a5;let A3:At a (aw (aw (aw H1 E (.own x)) x (.ins a.aQ E [])) x (.ins a.aQ E (rf pt Z 0))) (x,pt,Z,as,VC t) (VC t) I:=
  F2 ae (x3 _ _ e1) (eE.same bs λb o e=>x3 _ _ e) (x3 _ _ (x1 _ _ hm)) ⋯
 generalize hX:RX.mk x pt Z as (VC t)=X at A3;let av:X.r=x:=by rw[<-hX]
 let ab:bn H _:=bn.trans x1 x3;generalize aw (aw (aw H1 E (.own x)) x (.ins a.aQ E [])) x (.ins a.aQ E (rf pt Z 0))=H3 at A3 ab⊢;let fx:H X.r=UH:=by rw[av];show bn.free x1 hx
 let V:∀b,b=X.r->H b=UH:=λb z=>z▸fx
 rw[<-av];let D:XE I t=((rK I (VC t)).bind λp=>(lM I p.2).bind λl=>if Xh l.2 then Xv {plains:=p.1,pieces:=l.1}else .error (W5 l.2)):=by
  unfold XE readAssert rK VasepBase.PLAINS;cases(if Y0 (VC t)=UB then Xv ([],VC t)else Yh I 6 (VC t))with
  |error g=>rfl
  |ok p=>
   change WG (if Wj "emp" p.2=UB then _ else _) _=WG (lM I p.2) _;unfold lM VasepBase.PIECES;cases Wj "emp" p.2 with
   |true=>rfl
   |false=>
    rw[ifn Ur,ifn Ur];cases YI I 6 p.2<;>rfl
 show(_,Y,X,_,I,Y,A3,?_);cases hc:rK I (VC t)with
 |error g=>
  show b7.fresh (k2 g ?_) ab V;rw[D,hc];rfl
 |ok cq=>
  let(cl,q4):=cq;rw[hc]at D;intro H4 s4 A4 v hv;let(pc,cs,rfl,fc,gc,a2,co,c6):=hv;let a1:bn H H4:=s4.ext ab V;show(_,Y,X,q4,I,Y,A4,?_);let D:XE I t=((lM I q4).bind λl=>if Xh l.2 then Xv {plains:=cl,pieces:=l.1}else .error (W5 l.2)):=D;cases hp:lM I q4 with
  |error g=>
   show b7.fresh (k2 g ?_) a1 V;rw[D,hp];rfl
  |ok pq=>
   let(pl,q5):=pq;rw[hp]at D;let D:XE I t=(if Xh q5 then Xv {plains:=cl,pieces:=pl}else .error (W5 q5)):=D;intro H5 s5 A5 v hv;let(pp,ps,rfl,fp,gp,ar,po,p6):=hv;let an:bn H H5:=s5.ext a1 V;let(b0,n4,o4):=A4.obj;let(a3,n5,o5):=A5.obj;show(_,Y,X.r,a3,_,Y,o5,Y,X,q5,I,Y,A5,λho=>?_,λho=>?_)
   .rw[ho,ifp rfl]at D;show(_,Y,_,Y,λy G hy a6 bd=>(y,G,_,_,Y,ae,Y,?_));let x6:bn H5 (aw (aw (aw H5 G (.own y)) y (.ins a.dD G [])) y (.ins a.dD G [("conditions",.ref pc),("pieces",.ref pp)])):=bK (C:=a.dD) hy a6;let a4:=s5 _ _ gc (aV gc o4 (by intro z;cases z));let ap:fD H5 cs I cl:=a2.keep λb xs e=>s5 _ _ e (aV e o4 (by intro z;cases z))
    show k1 _ D _ y pc pp cs ps (an.trans x6) (an.free hy) ((G,ae),x6 _ _ a4,x6 _ _ gp,(ap.1,λi z c h1 h2=>x6 _ _ (ap.2 i z c h1 h2)),(ar.1,λi z p h1 h2=>(ar.2 i z p h1 h2).ext x6),co,po,c6,p6)
   .rw[ho,ifn Ur]at D;show b7.fresh (k2 _ D) an V
end
end
def L7{X:Cx}(Z:X.A.units<Zh):pX X (V0 .Eq) (λx y H Q=>∃a b xs,x=.ref a/\y=.ref b/\bx X.K H a xs/\H b=Up (.lst [])/\Q (.bl xs.isEmpty) H):=by
 intro O s D H x y v u Q E rx ry h;let(a,b,xs,rfl,rfl,ha,hb,q):=h;cases rx;cases ry;let(ap,rv,I,hz):=E.list ha;let(ar,ab,V,an):=E.list (bx.of (K:=X.K) hb);cases ab;let G:=↑rv;cases xs with
 |nil=>
  cases rv;show SeqAt.eq_listAt (e:=λ_=>UB) I.isList V.isList rfl Z (λi h=>by simp at h) (.bl UB,H,E,Y,q)
 |cons z zs=>
  show SeqAt.eq_list_lengthsAt I.isList V.isList ?_ Z (.bl UF,H,E,Y,q);rw[Ut]at G;simp;intro z;rw[z]at G;simp at G
section
open HM (bp)
open VasepBase (Field nameAt)
def bB(a b:List Nat):S a++S b=S (a++b):=by
 change(⟨a.toArray++b.toArray⟩:Vp)=⟨(a++b).toArray⟩;rw[ab2]
def bR(i j:Vp):↑(i++j)=↑i+↑j:=by
 change(i.cps++j.cps).size=_;rw[acU];rfl
def eG{I:List (List Nat)}(N:bj I)(h:k<↑I):↑(nameAt I k)<=12:=N.short _ (U3 (kP h))
def bU{I:List (List Nat)}(N:bj I)(h:bS ↑I e):↑(U0 I e)<=12:=by
 cases e with
 |nil=>change 1<=12;decide
 |var k=>show eG N h
def o9(f:Field):↑(iq f)=4:=by cases f<;>decide
def kC(c:ZV):↑(fm c)=2:=by unfold fm;cases c.same<;>decide
def lR(f:Field):Uz "."++iq f=Z3 f:=by cases f<;>decide
def hW(I:List (List Nat))(c:ZV):U0 I c.one++Uz " "++fm c++Uz " "++U0 I c.two=Xe I c:=by
 unfold Xe fm;cases c.same with
 |true=>rw[ifp rfl,ifp rfl,show Uz " == "=Uz " "++Uz "=="++Uz " " by decide];simp [UK]
 |false=>rw[ifn Ur,ifn Ur,show Uz " != "=Uz " "++Uz "!="++Uz " " by decide];simp [UK]
def Qy:Uy " = "=S (Uz " = "):=()
def tZ:↑(Uy " = ")=3:=()
def Mm:Uy ";"=S (Uz ";"):=()
def pD:↑(Uy ";")=1:=()
def RM:Uy "."=S (Uz "."):=()
def z7:↑(Uy ".")=1:=()
def Tw:Uy " = new;"=S (Uz " = new;"):=()
def TK:↑(Uy " = new;")=7:=()
def Tv:Uy "free "=S (Uz "free "):=()
def Si:↑(Uy "free ")=5:=()
def Cu:Uy " "=S (Uz " "):=()
def eq:↑(Uy " ")=1:=()
def RL:Uy " {"=S (Uz " {"):=()
def sk:↑(Uy " {")=2:=()
def Tu:Uy "} else {"=S (Uz "} else {"):=()
def Tt:Uy "}"=S (Uz "}"):=()
def Ts:Uy "if"=S (Uz "if"):=()
def Il:↑(Uy "if")=2:=()
def RN:Uy "while"=S (Uz "while"):=()
def yr:↑(Uy "while")=5:=()
def tu:decide (V.str "assign"=V.str "assign")=UB:=()
def xz:decide (V.str "else"=V.str "assign")=UF:=()
def CM:decide (V.str "else"=V.str "else")=UB:=()
def CK:decide (V.str "else"=V.str "free")=UF:=()
def Fj:decide (V.str "else"=V.str "new")=UF:=()
def CJ:decide (V.str "else"=V.str "read")=UF:=()
def zD:decide (V.str "else"=V.str "write")=UF:=()
def zC:decide (V.str "end"=V.str "assign")=UF:=()
def Fi:decide (V.str "end"=V.str "else")=UF:=()
def HE:decide (V.str "end"=V.str "end")=UB:=()
def Fh:decide (V.str "end"=V.str "free")=UF:=()
def HD:decide (V.str "end"=V.str "new")=UF:=()
def Fg:decide (V.str "end"=V.str "read")=UF:=()
def CI:decide (V.str "end"=V.str "write")=UF:=()
def xy:decide (V.str "free"=V.str "assign")=UF:=()
def CH:decide (V.str "free"=V.str "free")=UB:=()
def Ff:decide (V.str "free"=V.str "new")=UF:=()
def CG:decide (V.str "free"=V.str "read")=UF:=()
def zB:decide (V.str "free"=V.str "write")=UF:=()
def CF:decide (V.str "if"=V.str "assign")=UF:=()
def HC:decide (V.str "if"=V.str "else")=UF:=()
def Kl:decide (V.str "if"=V.str "end")=UF:=()
def HB:decide (V.str "if"=V.str "free")=UF:=()
def Kk:decide (V.str "if"=V.str "new")=UF:=()
def Hz:decide (V.str "if"=V.str "read")=UF:=()
def Fe:decide (V.str "if"=V.str "write")=UF:=()
def zA:decide (V.str "new"=V.str "assign")=UF:=()
def Hy:decide (V.str "new"=V.str "new")=UB:=()
def Fd:decide (V.str "new"=V.str "read")=UF:=()
def CD:decide (V.str "new"=V.str "write")=UF:=()
def xw:decide (V.str "read"=V.str "assign")=UF:=()
def CC:decide (V.str "read"=V.str "read")=UB:=()
def vc:decide (V.str "while"=V.str "assign")=UF:=()
def zz:decide (V.str "while"=V.str "else")=UF:=()
def CB:decide (V.str "while"=V.str "end")=UF:=()
def zy:decide (V.str "while"=V.str "free")=UF:=()
def CA:decide (V.str "while"=V.str "new")=UF:=()
def zx:decide (V.str "while"=V.str "read")=UF:=()
def xu:decide (V.str "while"=V.str "write")=UF:=()
def u_:decide (V.str "write"=V.str "assign")=UF:=()
def zw:decide (V.str "write"=V.str "read")=UF:=()
def xt:decide (V.str "write"=V.str "write")=UB:=()
section
inductive GJ(a:Ad)(c:List V)(H:Hp)(Q:VK)(d:XK):Prop|mk(x b l:_)(_:c=[.ref x])(_:du a H x b l)(_:fM b.length l)(_:bj b)(_:Q (.str (S (bp b l))) H)
def Cd(T:TX K U a):cf P w K U W cH 1 a.oB ["line"] [] (GJ a):=by
 show T.FW.o2 ["line"] λvs H Q ab h=>?_
 let(x,I,l,rfl,(D,e),lo,N,k):=h;show(Y,λnd an A ap s0 hr=>?_);show(_,ac (aJ (au bP (ai (pv 0) rfl) (pg T.wb) (aB _)) (ag (am (bI aO (bI aO (bI aO (ai (pv 0) rfl) aD) (ai (pv 0) rfl)) aD))) ay)
  (ac (aJ (au bP (ai (pv 0) rfl) (pg T.Ge) (aB _)) (ag (am (bI aO (bI aO (bI aO (bI aO (bI aO (ai (pv 0) rfl) aD) (ai (pv 0) rfl)) aD) (ai (pv 0) rfl)) aD))) ay)
  (ac (aJ (au bP (ai (pv 0) rfl) (pg T.Bf) (aB _)) (ag (am (bI aO (bI aO (bI aO (bI aO (bI aO (ai (pv 0) rfl) aD) (ai (pv 0) rfl)) aD) (ai (pv 0) rfl)) aD))) ay)
  (ac (aJ (au bP (ai (pv 0) rfl) (pg T.K_) (aB _)) (ag (am (bI aO (ai (pv 0) rfl) aD))) ay)
  (ac (aJ (au bP (ai (pv 0) rfl) (pg T.La) (aB _)) (ag (am (bI aO (bI aO aD (ai (pv 0) rfl)) aD))) ay)
  (ac (aJ (au bP (ai (pv 0) rfl) (pg T.sy) (aB _)) (ag (am aD)) ay)
  (ac (aJ (au bP (ai (pv 0) rfl) (pg T.Ip) (aB _)) (ag (am aD)) ay)
  (ag (am (bI aO (bI aO (bI aO (bI aO (bI aO (bI aO (bI aO (ai (pv 0) rfl) aD) (ai (pv 0) rfl)) aD) (ai (pv 0) rfl)) aD) (ai (pv 0) rfl)) aD))))))))),?_)
 iterate 8 skip
 cases l with
 |set y E=>
  obtain⟨G,h2⟩:y<↑I/\bS ↑I E:=lo;let O:=eG N G;let V:=bU N h2;show(_,Y,x,_,D,_,_,Y,e,T.ax,T.al,Y,Y,_,Y,dq tu (_,Y,x,_,D,_,_,Y,e,T.ax,T.bO,Y,_,_,Y,Y,by simp only[bR,a9,a8,Ux,tZ,pD];lia,_,Y,x,_,D,_,_,Y,e,T.ax,T.cv,Y,_,_,Y,Y,by simp only[bR,a9,a8,Ux,tZ,pD];lia,_,_,Y,Y,by simp only[bR,a9,a8,Ux,tZ,pD];lia,?_));let z:nameAt I y++Uz " = "++U0 I E++Uz ";"=bp I (.set y E):=by change _=nameAt I y++(Uz " = "++(U0 I E++[59]));rw[show Uz ";"=[59] by decide];simp [UK]
  rw[<-z]at k;rw[Qy,Mm,bB,bB,bB];show k
 |read y v f=>
  obtain⟨G,h2⟩:y<↑I/\v<↑I:=lo;let O:=eG N G;let V:=eG N h2;let Z:=o9 f;show(_,Y,x,_,D,_,_,Y,e,T.ax,T.al,Y,Y,_,Y,bh xw (_,Y,x,_,D,_,_,Y,e,T.ax,T.al,Y,Y,_,Y,dq CC (_,Y,x,_,D,_,_,Y,e,T.ax,T.bO,Y,_,_,Y,Y,by simp only[bR,a9,a8,Ux,tZ,z7,pD];lia,_,Y,x,_,D,_,_,Y,e,T.ax,T.cv,Y,_,_,Y,Y,by simp only[bR,a9,a8,Ux,tZ,z7,pD];lia,_,_,Y,Y,by simp only[bR,a9,a8,Ux,tZ,z7,pD];lia,_,Y,x,_,D,_,_,Y,e,T.ax,T.c_,Y,_,_,Y,Y,by simp only[bR,a9,a8,Ux,tZ,z7,pD];lia,_,_,Y,Y,by simp only[bR,a9,a8,Ux,tZ,z7,pD];lia,?_)));let z:nameAt I y++Uz " = "++nameAt I v++Uz "."++iq f++Uz ";"=bp I (.read y v f):=by change _=nameAt I y++(Uz " = "++(nameAt I v++(Z3 f++[59])));rw[show Uz ";"=[59] by decide,<-lR];simp only[UK]
  rw[<-z]at k;rw[Qy,RM,Mm,bB,bB,bB,bB,bB];show k
 |write y f E=>
  obtain⟨G,h2⟩:y<↑I/\bS ↑I E:=lo;let O:=eG N G;let V:=bU N h2;let Z:=o9 f;show(_,Y,x,_,D,_,_,Y,e,T.ax,T.al,Y,Y,_,Y,bh u_ (_,Y,x,_,D,_,_,Y,e,T.ax,T.al,Y,Y,_,Y,bh zw (_,Y,x,_,D,_,_,Y,e,T.ax,T.al,Y,Y,_,Y,dq xt (_,Y,x,_,D,_,_,Y,e,T.ax,T.bO,Y,_,_,Y,Y,by simp only[bR,a9,a8,Ux,z7,tZ,pD];lia,_,Y,x,_,D,_,_,Y,e,T.ax,T.c_,Y,_,_,Y,Y,by simp only[bR,a9,a8,Ux,z7,tZ,pD];lia,_,_,Y,Y,by simp only[bR,a9,a8,Ux,z7,tZ,pD];lia,_,Y,x,_,D,_,_,Y,e,T.ax,T.cv,Y,_,_,Y,Y,by simp only[bR,a9,a8,Ux,z7,tZ,pD];lia,_,_,Y,Y,by simp only[bR,a9,a8,Ux,z7,tZ,pD];lia,?_))));let z:nameAt I y++Uz "."++iq f++Uz " = "++U0 I E++Uz ";"=bp I (.write y f E):=by change _=nameAt I y++(Z3 f++(Uz " = "++(U0 I E++[59])));rw[show Uz ";"=[59] by decide,<-lR];simp only[UK]
  rw[<-z]at k;rw[RM,Qy,Mm,bB,bB,bB,bB,bB];show k
 |new y=>
  let O:=eG N (show y<↑I from lo);show(_,Y,x,_,D,_,_,Y,e,T.ax,T.al,Y,Y,_,Y,bh zA (_,Y,x,_,D,_,_,Y,e,T.ax,T.al,Y,Y,_,Y,bh Fd (_,Y,x,_,D,_,_,Y,e,T.ax,T.al,Y,Y,_,Y,bh CD (_,Y,x,_,D,_,_,Y,e,T.ax,T.al,Y,Y,_,Y,dq Hy (_,Y,x,_,D,_,_,Y,e,T.ax,T.bO,Y,_,_,Y,Y,by simp only[bR,a9,a8,Ux,TK];lia,?_)))));unfold bp at k;rw[Tw,bB];show k
 |free y=>
  let O:=eG N (show y<↑I from lo);show(_,Y,x,_,D,_,_,Y,e,T.ax,T.al,Y,Y,_,Y,bh xy (_,Y,x,_,D,_,_,Y,e,T.ax,T.al,Y,Y,_,Y,bh CG (_,Y,x,_,D,_,_,Y,e,T.ax,T.al,Y,Y,_,Y,bh zB (_,Y,x,_,D,_,_,Y,e,T.ax,T.al,Y,Y,_,Y,bh Ff (_,Y,x,_,D,_,_,Y,e,T.ax,T.al,Y,Y,_,Y,dq CH (_,Y,x,_,D,_,_,Y,e,T.ax,T.bO,Y,_,_,Y,Y,by simp only[bR,a9,a8,Ux,Si,pD];lia,_,_,Y,Y,by simp only[bR,a9,a8,Ux,Si,pD];lia,?_))))));let z:Uz "free "++nameAt I y++Uz ";"=bp I (.free y):=by change _=Uz "free "++(nameAt I y++[59]);rw[show Uz ";"=[59] by decide,UK]
  rw[<-z]at k;rw[Tv,Mm,bB,bB];show k
 |ifl c t=>
  obtain⟨G,h2⟩:bS ↑I c.one/\bS ↑I c.two:=lo;let O:=bU N G;let V:=bU N h2;let Z:=kC c;show(_,Y,x,_,D,_,_,Y,e,T.ax,T.al,Y,Y,_,Y,bh CF (_,Y,x,_,D,_,_,Y,e,T.ax,T.al,Y,Y,_,Y,bh Hz (_,Y,x,_,D,_,_,Y,e,T.ax,T.al,Y,Y,_,Y,bh Fe (_,Y,x,_,D,_,_,Y,e,T.ax,T.al,Y,Y,_,Y,bh Kk (_,Y,x,_,D,_,_,Y,e,T.ax,T.al,Y,Y,_,Y,bh HB (_,Y,x,_,D,_,_,Y,e,T.ax,T.al,Y,Y,_,Y,bh HC (_,Y,x,_,D,_,_,Y,e,T.ax,T.al,Y,Y,_,Y,bh Kl (_,Y,x,_,D,_,_,Y,e,T.ax,T.al,Y,_,_,Y,Y,by simp only[bR,a9,a8,Ux,Il,eq,eq,eq,sk];lia,_,Y,x,_,D,_,_,Y,e,T.ax,T.bO,Y,_,_,Y,Y,by simp only[bR,a9,a8,Ux,Il,eq,eq,eq,sk];lia,_,_,Y,Y,by simp only[bR,a9,a8,Ux,Il,eq,eq,eq,sk];lia,_,Y,x,_,D,_,_,Y,e,T.ax,T.c_,Y,_,_,Y,Y,by simp only[bR,a9,a8,Ux,Il,eq,eq,eq,sk];lia,_,_,Y,Y,by simp only[bR,a9,a8,Ux,Il,eq,eq,eq,sk];lia,_,Y,x,_,D,_,_,Y,e,T.ax,T.cv,Y,_,_,Y,Y,by simp only[bR,a9,a8,Ux,Il,eq,eq,eq,sk];lia,_,_,Y,Y,by simp only[bR,a9,a8,Ux,Il,eq,eq,eq,sk];lia,?_))))))));let z:Uz "if"++Uz " "++U0 I c.one++Uz " "++fm c++Uz " "++U0 I c.two++Uz " {"=bp I (.ifl c t):=by change _=Uz "if "++(Xe I c++Uz " {");rw[show Uz "if "=Uz "if"++Uz " " by decide,<-hW];simp only[UK]
  rw[<-z]at k;change Q (.str (Uy "if"++Uy " "++S (U0 I c.one)++Uy " "++S (fm c)++Uy " "++S (U0 I c.two)++Uy " {")) H;rw[Ts,Cu,RL,bB,bB,bB,bB,bB,bB,bB];show k
 |whl c t=>
  obtain⟨G,h2⟩:bS ↑I c.one/\bS ↑I c.two:=lo;let O:=bU N G;let V:=bU N h2;let Z:=kC c;show(_,Y,x,_,D,_,_,Y,e,T.ax,T.al,Y,Y,_,Y,bh vc (_,Y,x,_,D,_,_,Y,e,T.ax,T.al,Y,Y,_,Y,bh zx (_,Y,x,_,D,_,_,Y,e,T.ax,T.al,Y,Y,_,Y,bh xu (_,Y,x,_,D,_,_,Y,e,T.ax,T.al,Y,Y,_,Y,bh CA (_,Y,x,_,D,_,_,Y,e,T.ax,T.al,Y,Y,_,Y,bh zy (_,Y,x,_,D,_,_,Y,e,T.ax,T.al,Y,Y,_,Y,bh zz (_,Y,x,_,D,_,_,Y,e,T.ax,T.al,Y,Y,_,Y,bh CB (_,Y,x,_,D,_,_,Y,e,T.ax,T.al,Y,_,_,Y,Y,by simp only[bR,a9,a8,Ux,yr,eq,eq,eq,sk];lia,_,Y,x,_,D,_,_,Y,e,T.ax,T.bO,Y,_,_,Y,Y,by simp only[bR,a9,a8,Ux,yr,eq,eq,eq,sk];lia,_,_,Y,Y,by simp only[bR,a9,a8,Ux,yr,eq,eq,eq,sk];lia,_,Y,x,_,D,_,_,Y,e,T.ax,T.c_,Y,_,_,Y,Y,by simp only[bR,a9,a8,Ux,yr,eq,eq,eq,sk];lia,_,_,Y,Y,by simp only[bR,a9,a8,Ux,yr,eq,eq,eq,sk];lia,_,Y,x,_,D,_,_,Y,e,T.ax,T.cv,Y,_,_,Y,Y,by simp only[bR,a9,a8,Ux,yr,eq,eq,eq,sk];lia,_,_,Y,Y,by simp only[bR,a9,a8,Ux,yr,eq,eq,eq,sk];lia,?_))))))));let z:Uz "while"++Uz " "++U0 I c.one++Uz " "++fm c++Uz " "++U0 I c.two++Uz " {"=bp I (.whl c t):=by change _=Uz "while "++(Xe I c++Uz " {");rw[show Uz "while "=Uz "while"++Uz " " by decide,<-hW];simp only[UK]
  rw[<-z]at k;change Q (.str (Uy "while"++Uy " "++S (U0 I c.one)++Uy " "++S (fm c)++Uy " "++S (U0 I c.two)++Uy " {")) H;rw[RN,Cu,RL,bB,bB,bB,bB,bB,bB,bB];show k
 |els t=>
  show(_,Y,x,_,D,_,_,Y,e,T.ax,T.al,Y,Y,_,Y,bh xz (_,Y,x,_,D,_,_,Y,e,T.ax,T.al,Y,Y,_,Y,bh CJ (_,Y,x,_,D,_,_,Y,e,T.ax,T.al,Y,Y,_,Y,bh zD (_,Y,x,_,D,_,_,Y,e,T.ax,T.al,Y,Y,_,Y,bh Fj (_,Y,x,_,D,_,_,Y,e,T.ax,T.al,Y,Y,_,Y,bh CK (_,Y,x,_,D,_,_,Y,e,T.ax,T.al,Y,Y,_,Y,dq CM (?_)))))));unfold bp at k;rw[Tu];show k
 |fin t=>
  show(_,Y,x,_,D,_,_,Y,e,T.ax,T.al,Y,Y,_,Y,bh zC (_,Y,x,_,D,_,_,Y,e,T.ax,T.al,Y,Y,_,Y,bh Fg (_,Y,x,_,D,_,_,Y,e,T.ax,T.al,Y,Y,_,Y,bh CI (_,Y,x,_,D,_,_,Y,e,T.ax,T.al,Y,Y,_,Y,bh HD (_,Y,x,_,D,_,_,Y,e,T.ax,T.al,Y,Y,_,Y,bh Fh (_,Y,x,_,D,_,_,Y,e,T.ax,T.al,Y,Y,_,Y,bh Fi (_,Y,x,_,D,_,_,Y,e,T.ax,T.al,Y,Y,_,Y,dq HE (?_))))))));unfold bp at k;rw[Tt];show k
end
end
section
open HM (aj bp rowsText LvOk dep flat)
open VasepBase (nameAt ascii pad joined)
def ux(sep x y:List Nat)(r:List (List Nat)):Xp sep (x::y::r)=x++(sep++Xp sep (y::r)):=by
 change x++((sep++y)++r.flatMap λt=>sep++t)=x++(sep++(y++r.flatMap λt=>sep++t));rw[UK]
def oh(sep:List Nat)(l:List (List Nat)):aaQ (S sep) (l.map S)=S (Xp sep l):=by
 rw[show aaQ (S sep) (l.map S)=abF (S sep) (l.map S)from ZX _ _]
 induction l with
 |nil=>rfl
 |cons x l D=>
  cases l with
  |nil=>change S x=S (x++[]);rw[VB]
  |cons y r=>
   change S x++S sep++abF (S sep) ((y::r).map S)=_;rw[D,ux,bB,bB,UK]
def Bp(l:List (List Nat)):(l.map λx=>V.str (S x))=(l.map S).map V.str:=by rw[VA];rfl
def r6(l:List (List Nat)):aep l=Xp (Uz ", ") l:=by cases l<;>rfl
def Lm:∀{l:List Nat},(∀x∈l,x<=B)->l.sum<=↑l*B
 |[],_=>by simp
 |x::r,h=>by
  let E:=h x UU;let h2:=Lm (l:=r) λy D=>h y (UR _ D)
  rw[List.sum_cons,Ut,Nat.add_mul];lia
def eV{sep:List Nat}:∀{l:List (List Nat)},(∀x∈l,↑x<=B)->↑(Xp sep l)<=↑l*(B+↑sep)
 |[],_=>by simp [Xp]
 |[x],h=>by
  let D:=h x UU;change↑(x++[])<=_;rw[VB,VF];lia
 |x::y::r,h=>by
  let D:=h x UU;let h2:=eV (sep:=sep) (l:=y::r) λz E=>h z (UR _ E)
  rw[ux,Us,Us,Ut (as:=y::r),Nat.add_mul];lia
def Sl(l:List (List Nat)):((l.map S).map (·.length)).sum=(l.map (·.length)).sum:=by
 rw[VA]
 congr 1
def jF{sep:List Nat}{l:List (List Nat)}(h:∀x∈l,↑x<=B)(D:↑l*(B+↑sep)<=16777216):((l.map S).map (·.length)).sum+↑(l.map S)*↑(S sep)<=16777216:=by
 rw[Sl,Uq,a9];have:=Lm (l:=l.map (·.length)) (B:=B) λx E=>by let(y,G,rfl):=U6.mp E;show h y G
 rw[Uq]at this;rw[Nat.mul_add]at D;lia
def E9{I:List (List Nat)}(N:bj I)(h:fM ↑I l):↑(bp I l)<=60:=by
 cases l with
 |set y G=>
  let D:=eG N h.1;let E:=bU N h.2;change↑(nameAt I y++(Uz " = "++(U0 I G++[59])))<=60;simp only[Us,show↑(Uz " = ")=3 by decide,VF];lia
 |read y v f=>
  let D:=eG N h.1;let E:=eG N h.2;let O:=o9 f;change↑(nameAt I y++(Uz " = "++(nameAt I v++(Z3 f++[59]))))<=60;rw[<-lR];simp only[Us,show↑(Uz " = ")=3 by decide,show↑(Uz ".")=1 by decide,VF];lia
 |write y f G=>
  let D:=eG N h.1;let E:=bU N h.2;let O:=o9 f;change↑(nameAt I y++(Z3 f++(Uz " = "++(U0 I G++[59]))))<=60;rw[<-lR];simp only[Us,show↑(Uz " = ")=3 by decide,show↑(Uz ".")=1 by decide,VF];lia
 |new y=>
  let D:=eG N (show y<↑I from h);change↑(nameAt I y++Uz " = new;")<=60;simp only[Us,show↑(Uz " = new;")=7 by decide];lia
 |free y=>
  let D:=eG N (show y<↑I from h);change↑(Uz "free "++(nameAt I y++[59]))<=60;simp only[Us,show↑(Uz "free ")=5 by decide,VF];lia
 |ifl c t=>
  let D:=bU N h.1;let E:=bU N h.2;let O:=kC c;change↑(Uz "if "++(Xe I c++Uz " {"))<=60;rw[<-hW];simp only[Us,show↑(Uz "if ")=3 by decide,show↑(Uz " ")=1 by decide,show↑(Uz " {")=2 by decide];lia
 |whl c t=>
  let D:=bU N h.1;let E:=bU N h.2;let O:=kC c;change↑(Uz "while "++(Xe I c++Uz " {"))<=60;rw[<-hW];simp only[Us,show↑(Uz "while ")=6 by decide,show↑(Uz " ")=1 by decide,show↑(Uz " {")=2 by decide];lia
 |els t=>change↑(Uz "} else {")<=60;decide
 |fin t=>change↑(Uz "}")<=60;decide
def vI(d:Nat):(VX d [32,32]).flatten=pad d:=by
 unfold pad
 induction d with
 |zero=>rfl
 |succ d D=>rw[Yy,WA,D];rfl
def IJ(d:Nat):↑(pad d)=2*d:=by unfold pad;simp
def qi{I:List (List Nat)}(N:bj I):∀(L:List aj)(d:Nat),(∀l∈L,fM ↑I l)->LvOk 6 d L->∀x∈rowsText I d L,↑x<=72
 |[],d,_,_,x,h=>by cases h
 |l::r,d,D,E,x,h=>by
  unfold rowsText at h;rcases UP.mp h with z|z
  .rw[z,Us,IJ];have:=E9 N (D l UU);have:=E.2.1;lia
  .show qi N r _ (λl G=>D l (UR _ G)) E.2.2 x z
def Ow(l:aj):CP (.str (kindOf l)) [.str "else",.str "end"]=l.down:=by rw[Mx];cases l<;>rfl
def Pd(l:aj):CP (.str (kindOf l)) [.str "if",.str "while",.str "else"]=l.up:=by cases l<;>(simp only[kindOf,aj.up];decide+kernel)
section
inductive Al(a:List V)(H:Hp)(Q:VK)(b:XK):Prop|mk(t:List Nat)(_:a=[.str (S t)])(_:t.length<=1000000)(_:js H (t.map fun c=>V.int (c:Nat)) Q)
def uj(T:TX K U a):cf P w K U W cH 1 a.qC ["signs"] [] Al:=by
 show T.Ie.o2 ["signs","sign"] λvs H Q ab h=>?_
 let(t,rfl,hz,k):=h;show(Y,λG an A ap s0 hr=>?_);show(_,ag (am (nL (own:=[("sign",1)]) rfl G (LY (pv 0)) (show il ["signs","sign"] (aP wF) _ [("sign",1)]from K0 ())
  (λ_ _ _ _ _=>cQ (i:=1) G rfl (UT rfl)) (λ_ _ _ _ _=>gv) (λ_ _ _ _ _=>aW FP (by rfl) T.OZ abp (aa (pv 1) af)))),?_)
 unfold mV;show Oo ft (_,Y,t,t.map λc=>V.int (c:Nat),Y,by rw[Ux];lia,by rw[Uq],?_,λD O I f e=>k D O I f e);rintro i x y D ⟨c,hc,rfl⟩ E I R Z;rw[UM,hc]at E;cases E;show(_,Y,_,Y,Y,Z D (bn.refl _))
inductive Gz(a:Ad)(f:List V)(H:Hp)(Q:VK)(j:XK):Prop|mk(e g h i b d:_)(_:f=[.ref e])(_:gJ a H e g h i b (flat 0 d))(_:dep d<=6)(_:js H ((VasepBase.writeProgram {names:=b,body:=d}).map fun c=>V.int (c:Nat)) Q)
def Tr:Uy "vars "=S (Uz "vars "):=()
def E7:Uy ", "=S (Uz ", "):=()
def O_:Uy "\n"=S [10]:=()
def Mi:Uy ""=S []:=()
def Mh:Uy "  "=S [32,32]:=()
def uU(T:TX K U a):cf P w K U W cH 2 a.jg ["program"] [] (Gz a):=by
 let GL:=Cd T;let GB:=uj T;show T.yf.o2 ["program","rows","level","line","row"] λvs H Q cc h=>?_
 let(pr,pm,pl,ls,I,body,rfl,PA,ch,k):=h;show(Y,λnd cd A co s0 hr=>?_);let hu:=Nat.lt_of_succ_lt (fw hr);show(_,ac (aJ (au (L7 hu) (ai (pv 0) rfl) (aS af) (aB _)) (ag (am (aS af))) ay)
  (ac (aA (i:=1) nd rfl (UT rfl) (aS (aa (bI aO (bI aO aD (jy aD (ai (pv 0) rfl))) aD) af)))
  (ac (aA (i:=2) nd rfl (UT rfl) aF)
  (ac (lu Vz rfl (fW (ai (pv 0) rfl)) (cQ (i:=3) nd rfl (UT rfl))
   (ac (aJ (au gi (ai (pv 3) rfl) (cg (aa (pg T.sy) (aa (pg T.Ip) af))) (by with_unfolding_all rfl)) (ag (qm (i:=2) nd rfl (UT rfl) aF QH)) ay)
   (ac (aE (ej UQ U8 Va cn (pv 1) (aa (bI aO (bI N8 aD (pv 2)) (aX GL T.FA hr aq (aa (pv 3) af))) af)))
   (ag (aJ (au gi (ai (pv 3) rfl) (cg (aa (pg T.Nf) (aa (pg T.vA) (aa (pg T.sy) af)))) (by with_unfolding_all rfl)) (ag (qm (i:=2) nd rfl (UT rfl) aF qy)) ay)))))
  (ag (am (aX GB T.xM hr aq (aa (jy aD (nL (own:=[("row",4)]) rfl nd (fW (pv 1)) (show il ["program","rows","level","line","row"] (aP nB) _ [("row",4)]from K0 ())
   (λ_ _ _ _ _=>cQ (i:=4) nd rfl (UT rfl)) (λ_ _ _ _ _=>gv) (λ_ _ _ _ _=>bI aO (pv 4) aD))) af))))))),?_)
 let(dx,ex):=PA.obj;let N:=PA.nm;let cl:=N.few;show(_,Y,pr,_,dx,_,_,Y,ex,T.cM,T.bV,Y,zl,λp0 h0=>(pm,p0,_,Y,Y,bx.of (by rw[ah (ak PA.nml h0)];show PA.nml),ae,_,Y,?_));by_cases hn:I=[]
 .subst hn;show bf (zl,λp1 h1=>?_);show k _ p1 (λb o e=>by rw[ah (ak e ((aC h0).free h1)),ah (ak e h0)];show e) ((aC h0).free h1) ae
 .show bh (by cases I with|nil=>show absurd rfl hn|cons _ _=>rfl) ?_;let x1:bn H (aw H p0 (.lst [])):=aC h0;generalize aw H p0 (.lst [])=H1 at x1⊢;let bm:=PA.ext x1;let bd:∀x∈I,↑x<=12:=N.short;let jl:↑(joined (ascii ", ") I)<=84:=by
   let h1:=eV (sep:=ascii ", ") bd;let h2:↑(ascii ", ")=2:=()
   rw[h2]at h1;lia
  show((_,Y),_,Y,pr,_,dx,_,_,Y,x1 _ _ ex,T.cM,T.bV,Y,_,pm,I.map S,Y,Y,.inl (bx.of (by rw[bm.nml,Bp])),?_,?_)
  .rw[E7];show jF bd (by rw[show↑(ascii ", ")=2 by decide];lia)
  rw[E7,oh];show(_,_,Y,Y,by simp only[a9,show↑(Uy "vars ")=5 by decide+kernel,Ux];lia,_,_,Y,Y,by simp only[bR,a9,show↑(Uy "vars ")=5 by decide+kernel,pD,Ux];lia,zl,λG h2=>?_);rw[Tr,Mm,bB,bB];let hH:↑(ascii "vars "++joined (ascii ", ") I++ascii ";")<=90:=by
   rw[Us,Us,show↑(ascii "vars ")=5 by decide,show↑(ascii ";")=1 by decide];lia
  let a4:ascii "vars "++joined (ascii ", ") I++ascii ";"=ascii "vars "++(aep I++[59]):=by rw[r6,UK];rfl
  generalize ascii "vars "++joined (ascii ", ") I++ascii ";"=E at hH a4;let x2:bn H (aw H1 G (.lst [V.str (S E)])):=x1.trans (aC h2);let b0:H G=UH:=x1.free h2;let e2:aw H1 G (.lst [V.str (S E)]) G=Up (.lst ((E::([]:List (List Nat))).map λt=>V.str (S t))):=ae;change(uG _ _) _ _ (aw H1 G (.lst [V.str (S E)]));generalize aw H1 G (.lst [V.str (S E)])=H2 at x2 e2;let bs:=PA.ext x2;show(_,Y,pr,_,dx,_,_,Y,x2 _ _ ex,T.cM,T.gR,Y,pl,Y,(_,bx.of bs.lst),?_);let a2:LvOk 6 0 (flat 0 body):=by
   have:=HM.lv_flat (B:=6) body 0 0 [] ⋯ Ww;rwa [VB]at this
  generalize hL:flat 0 body=L at PA a2;let a6:↑(rowsText I 0 L)=↑L:=HM.rows_len I L 0;let b4:=qi N L 0 PA.lok a2;show xN (xs:=ls.map V.ref) (λi D H'=>∃(d:Nat)(O:List (List Nat))(v:Option V),D=[Up (.ref pr),Up (.ref G),Up (.int (d:Int)),v,UH]/\bn H H'/\H' G=Up (.lst ((E::O).map λt=>V.str (S t)))/\rowsText I 0 L=O++rowsText I d (L.drop i)/\LvOk 6 d (L.drop i))
   (0,[],UH,Y,x2,e2,Y,a2) (λi D H' _ (d,O,v,_,x,_)=>bx.of (x _ _ PA.lst)) ?_ ?_
  .rintro i y D H' hi ⟨d,O,v,rfl,x3,e3,Z,lv⟩;let(z,hz,rfl):=nZ hi;let a0:i<↑L:=by rw[<-PA.lines.1];show(UO.mp hz).1
   obtain⟨l,hl⟩:∃l,L[i]?=Up l:=(_,UC a0);let av:L.drop i=l::L.drop (i+1):=by
    rw[Yx a0];rw[UC a0]at hl;cases hl;rfl
   rw[av]at Z lv;let lo:=PA.lok l (U3 hl);let(dl,el):=PA.lines.2 i z l hz hl;let b1:↑(rowsText I 0 L)<=5000:=by rw[a6];show PA.few
   let cm:↑O<=5000:=by rw[Z,Us]at b1;lia
   show(_,Y,z,_,dl,_,_,Y,x3 _ _ el,T.ax,T.al,Y,zl,λp4 h4=>?_);show(p4,_,Y,.inr (gK.of ae),Y,Y,_,Y,?_);change if(CP (.str (a8 I l).1) [.str "else",.str "end"])=UB then _ else _
   let x4:bn H' (aw H' p4 (.tup [.str "else",.str "end"])):=aC h4;generalize aw H' p4 (.tup [.str "else",.str "end"])=H4 at x4;let lt:=E9 N lo;rw[ja,Ow];obtain⟨d',ar⟩:∃d',d'=if l.down then d-1 else d:=(_,Y)
   let(b2,b3,ab):=lv;rw[<-ar]at b3 ab;let an:rowsText I 0 L=(O++[pad d'++bp I l])++rowsText I (d'+if l.up then 1 else 0) (L.drop (i+1)):=by
    rw[Z,ar,UK];rfl
   let e4:=x4 _ _ e3;let a3:=x3.trans x4;let ce:↑(S (pad d'))<=12:=by rw[a9,IJ];lia
   let a5:↑((E::O).map λt=>V.str (S t))<U1:=by rw[Uq,Ut,Ux];lia
   let np:∀b o,H b=Up o->b≠G:=λb o e=>ak e b0
   let er:((E::O).map λt=>V.str (S t))++[V.str (S (pad d'++bp I l))]=(E::(O++[pad d'++bp I l])).map λt=>V.str (S t):=by simp
   let x5:bn H (aw H4 G (.lst ((E::(O++[pad d'++bp I l])).map λt=>V.str (S t)))):=λb o e=>by rw[ah (np b o e)];show a3 _ _ e
   let bk:∀p6,aw H4 G (.lst ((E::(O++[pad d'++bp I l])).map λt=>V.str (S t))) p6=UH->bn H (aw (aw H4 G (.lst ((E::(O++[pad d'++bp I l])).map λt=>V.str (S t)))) p6 (.tup [.str "if",.str "while",.str "else"]))/\(aw (aw H4 G (.lst ((E::(O++[pad d'++bp I l])).map λt=>V.str (S t)))) p6 (.tup [.str "if",.str "while",.str "else"])) G=Up (.lst ((E::(O++[pad d'++bp I l])).map λt=>V.str (S t))):=λp6 h6=>(x5.trans (aC h6),aC h6 _ _ ae)
   cases hb:l.down with
   |true=>
    have:=b2 hb;rw[hb]at ar;show bf (_,Y,_,_,Y,Y,?_);let ap:(d:Int)-1=(d':Nat):=by rw[ar,ifp rfl];lia
    show(_,Y,.inl (Y,_,bx.of e4),_,Y,[32,32],d',congrArg V.str Mh,congrArg V.int ap,⋯,(),_,Y,z,I,l,Y,(dl,a3 _ _ el),lo,N,_,_,Y,Y,by rw[vI,a9 (bp I l),Ux];lia,G,_,_,Y,Y,e4,a5,?_);rw[vI,bB,er];show(_,Y,z,_,dl,_,_,Y,x5 _ _ el,T.ax,T.al,Y,zl,λp6 h6=>(p6,_,Y,.inr (gK.of ae),Y,Y,_,Y,?_));change if(CP (.str (a8 I l).1) [.str "if",.str "while",.str "else"])=UB then _ else _
    rw[ja,Pd];let(x6,e6):=bk p6 h6;cases hc:l.up with
    |true=>
     rw[hc]at an ab;show bf (_,Y,_,_,Y,Y,d'+1,_,Up (.ref z),(by change [_,_,Up (V.int ((d:Int)-1+1)),_,_]=_;rw[ap];rfl),x6,e6,an,ab)
    |false=>
     rw[hc]at an ab;show be (d',_,Up (.ref z),(by change [_,_,Up (V.int ((d:Int)-1)),_,_]=_;rw[ap]),x6,e6,an,ab)
   |false=>
    rw[hb]at ar;let ap:(d:Int)=(d':Nat):=by rw[ar,ifn ()]
    show be ?_;show(_,Y,.inl (Y,_,bx.of e4),_,Y,[32,32],d',congrArg V.str Mh,congrArg V.int ap,⋯,(),_,Y,z,I,l,Y,(dl,a3 _ _ el),lo,N,_,_,Y,Y,by rw[vI,a9 (bp I l),Ux];lia,G,_,_,Y,Y,e4,a5,?_);rw[vI,bB,er];show(_,Y,z,_,dl,_,_,Y,x5 _ _ el,T.ax,T.al,Y,zl,λp6 h6=>(p6,_,Y,.inr (gK.of ae),Y,Y,_,Y,?_));change if(CP (.str (a8 I l).1) [.str "if",.str "while",.str "else"])=UB then _ else _
    rw[ja,Pd];let(x6,e6):=bk p6 h6;cases hc:l.up with
    |true=>
     rw[hc]at an ab;show bf (_,Y,_,_,Y,Y,d'+1,_,Up (.ref z),(by change [_,_,Up (V.int ((d:Int)+1)),_,_]=_;rw[ap];rfl),x6,e6,an,ab)
    |false=>
     rw[hc]at an ab;show be (d',_,Up (.ref z),(by change [_,_,Up (V.int ((d:Int))),_,_]=_;rw[ap]),x6,e6,an,ab)
  .rintro D H' ⟨d,O,v,rfl,x3,e3,Z,lv⟩;let av:L.drop ↑(ls.map V.ref)=[]:=by rw[Uq,PA.lines.1,List.drop_length]
   rw[av]at Z;let Z:O=rowsText I 0 L:=by rw[Z];simp [rowsText]
   subst Z;let hz:↑(E::rowsText I 0 L)<=5001:=by rw[Ut,a6];have:=PA.few;lia
   let a1:∀x∈(E::rowsText I 0 L).map (· ++[10]),↑x<=91:=λx hx=>by
    let(y,hy,rfl):=U6.mp hx;rw[Us];rcases UP.mp hy with q|q
    .rw[q];change _+1<=91;lia
    .have:=b4 y q;change _+1<=91;lia
   unfold mV mD bG Rh;show((_,Y),?_);show kU ft (_,Y,G,_,((E::rowsText I 0 L).map (· ++[10])).map λt=>V.str (S t),Y,bx.of e3,by rw[Uq,Ux];lia,by rw[Uq,Uq,Uq],?_,λH5 bl x5 f5 e5=>?_)
   .rintro i x y H5 hx hy x5 R Z;let(t,ht,rfl):=nZ hx;rw[UM,UM,ht]at hy;cases hy;let hm:↑t<=90:=by
     have:=a1 (t++[10]) (U6.mpr (t,U3 ht,Y));rw[Us]at this;let z:↑([10]:List Nat)=1:=rfl;lia
    show(_,Y,_,_,Y,Y,by rw[O_,a9,a9,Ux];change _+1<=_;lia,?_);rw[O_,bB];show Z H5 (bn.refl _)
   .show(_,bl,((E::rowsText I 0 L).map (· ++[10])).map S,Y,Y,.inl (bx.of (by rw[e5,Bp])),?_,?_)
    .rw[Mi];show jF a1 ?_;rw[Uq];have:=Wr (91+↑([]:List Nat)) hz;show Vm this ()
    .rw[Mi,oh];let hj:∀l:List (List Nat),joined [] l=l.flatten:=λl=>by
      cases l with
      |nil=>rfl
      |cons x r=>change x++(r.flatMap λt=>[]++t)=_;rw[WA,ac_];simp
     let bt:joined [] ((E::rowsText I 0 L).map (· ++[10]))=XU {names:=I,body:=body}:=by
      rw[hj,UJ,WA,HM.rows_lines,a4,<-HM.written_eq I body hn,hL];simp
     let bF:↑(joined [] ((E::rowsText I 0 L).map (· ++[10])))<=1000000:=by
      let h1:=eV (sep:=[]) a1;rw[Uq]at h1;let h2:=Wr (91+↑([]:List Nat)) hz;show Vm h1 (Vm h2 ())
     show(_,Y,bF,?_);rw[bt];show λH6 p x6 f6 e6=>k H6 p ((x3.trans x5).trans x6) ((x3.trans x5).free f6) e6
end
end
section
open VasepBase (pieceText)
def vV{I:List (List Nat)}(N:bj I)(h:uD ↑I g):↑(W7 I g)<=12:=by
 cases g with
 |any=>change↑(Uz "any")<=12;decide
 |is e=>show bU N h
def An{I:List (List Nat)}(N:bj I)(h:iN ↑I p):↑(Yv I p)<=60:=by
 cases p with
 |cell e n d=>
  let D:=bU N h.1;let E:=vV N h.2.1;let G:=vV N h.2.2;change↑(Uz "cell "++(U0 I e++(Uz " -> "++(W7 I n++(Uz ", "++W7 I d)))))<=60;simp only[Us,show↑(Uz "cell ")=5 by decide,show↑(Uz " -> ")=4 by decide,show↑(Uz ", ")=2 by decide];lia
 |list e f=>
  let D:=bU N h.1;let E:=bU N h.2;change↑(Uz "list("++(U0 I e++(Uz ", "++(U0 I f++[41]))))<=60;simp only[Us,show↑(Uz "list(")=5 by decide,show↑(Uz ", ")=2 by decide,VF];lia
 |tree e=>
  let D:=bU N (show bS ↑I e from h);change↑(Uz "tree("++(U0 I e++[41]))<=60;simp only[Us,show↑(Uz "tree(")=5 by decide,VF];lia
def FK{I:List (List Nat)}(N:bj I){c:ZV}(h:bS ↑I c.one/\bS ↑I c.two):↑(Xe I c)<=60:=by
 let D:=bU N h.1;let E:=bU N h.2;let G:=kC c;rw[<-hW];simp only[Us,show↑(Uz " ")=1 by decide];lia
def rN:Uy "cell"=S (Uz "cell"):=()
def vP:Uy "list"=S (Uz "list"):=()
def vO:Uy "tree"=S (Uz "tree"):=()
def xo:Uy " -> "=S (Uz " -> "):=()
def uo:Uy "("=S (Uz "("):=()
def IQ:Uy ")"=S (Uz ")"):=()
def Ml:Uy " and "=S (Uz " and "):=()
def IN:Uy " * "=S (Uz " * "):=()
def E6:Uy " : "=S (Uz " : "):=()
def Mj:Uy "emp"=S (Uz "emp"):=()
section
inductive uf(a:Ad)(c:List V)(H:Hp)(Q:VK)(d:XK):Prop|mk(x b p:_)(_:c=[.ref x])(_:dO a H x b p)(_:iN b.length p)(_:bj b)(_:∀H',bn H H'->Q (.str (S (pieceText b p))) H')
def zg(T:TX K U a):cf P w K U W cH 1 a.lZ ["piece"] [] (uf a):=by
 show T.Dm.o2 ["piece"] λvs H Q ab h=>?_
 let(x,I,p,rfl,(D,t,E,e2),G,N,k):=h;show(Y,λnd an A ap s0 hr=>?_);show(_,ac (aJ (au bP (ai (pv 0) rfl) (pg T.qb) (aB _)) (ag (am
   (bI aO (bI aO (bI aO (bI aO (pg T.qb) aD) (c9 cS (ai (pv 0) rfl) aF (λ_ _=>rfl))) aD) (jy aD (fQ oW (ai (pv 0) rfl) (eu aF) vG))))) ay)
  (ag (am (bI aO (bI aO (bI aO (ai (pv 0) rfl) aD) (jy aD (ai (pv 0) rfl))) aD))),?_)
 iterate 2 skip
 show(_,Y,x,_,D,_,_,Y,E,T.dh,T.cR,Y,Y,_,Y,?_);cases p with
 |cell e n d=>
  let Z:=bU N G.1;let l2:=vV N G.2.1;let l3:=vV N G.2.2;let jl:↑(Xp (Uz ", ") [W7 I n,W7 I d])<=26:=by
   change↑(W7 I n++((Uz ", "++W7 I d)++[]))<=26;simp only[Us,show↑(Uz ", ")=2 by decide,Vr];lia
  show dq (by simp only[sL];decide+kernel) ?_;show(_,_,Y,Y,by rw[rN,Cu,a9,a9];decide,_,Y,x,_,D,_,_,Y,E,T.dh,T.dA,Y,t,_,_,_,Y,Y,bx.of e2,b5 (j:=0) rfl,_,_,Y,Y,?_,_,_,Y,Y,?_,(_,Y),_,Y,x,_,D,_,_,Y,E,T.dh,T.dA,Y,_,Y,t,_,Y,bx.of e2,λp hp=>?_)
  .rw[rN,Cu,bB,a9,a9,Us,Ux,show↑(Uz "cell")=4 by decide,show↑(Uz " ")=1 by decide];lia
  .rw[rN,Cu,xo,bB,bB,a9,a9,Us,Us,Ux,show↑(Uz "cell")=4 by decide,show↑(Uz " ")=1 by decide,show↑(Uz " -> ")=4 by decide];lia
  show(_,p,[W7 I n,W7 I d].map S,Y,Y,.inl (bx.of ae),?_,?_)
  .rw[E7];show jF (B:=12) (λx O=>?_) (show 2*(12+↑(Uz ", "))<=16777216 by decide);rcases UP.mp O with q|q
   .rw[q];show l2
   .rcases UP.mp q with q|q
    .rw[q];show l3
    .cases q
  rw[E7,oh];show(_,_,Y,Y,?_,?_)
  .rw[rN,Cu,xo,bB,bB,bB,a9,a9,Us,Us,Us,Ux,show↑(Uz "cell")=4 by decide,show↑(Uz " ")=1 by decide,show↑(Uz " -> ")=4 by decide];lia
  .rw[rN,Cu,xo,bB,bB,bB,bB];let z:Uz "cell"++Uz " "++U0 I e++Uz " -> "++Xp (Uz ", ") [W7 I n,W7 I d]=Yv I (.cell e n d):=by
    change _++(W7 I n++((Uz ", "++W7 I d)++[]))=Uz "cell "++(U0 I e++(Uz " -> "++(W7 I n++(Uz ", "++W7 I d))));rw[show Uz "cell "=Uz "cell"++Uz " " by decide];simp only[UK,VB]
   rw[z];show k _ (aC hp)
 |list e f=>
  let Z:=bU N G.1;let l2:=bU N G.2;let jl:↑(Xp (Uz ", ") [U0 I e,U0 I f])<=26:=by
   change↑(U0 I e++((Uz ", "++U0 I f)++[]))<=26;simp only[Us,show↑(Uz ", ")=2 by decide,Vr];lia
  show bh Pb ?_;show(_,Y,x,_,D,_,_,Y,E,T.dh,T.cR,Y,_,_,Y,Y,by change↑(Uy "list")+_<=_;rw[vP,uo,a9,a9];decide,(_,Y),_,Y,x,_,D,_,_,Y,E,T.dh,T.dA,Y,_,t,[U0 I e,U0 I f].map S,Y,Y,.inl (bx.of e2),?_,?_)
  .rw[E7];show jF (B:=12) (λx O=>?_) (show 2*(12+↑(Uz ", "))<=16777216 by decide);rcases UP.mp O with q|q
   .rw[q];show Z
   .rcases UP.mp q with q|q
    .rw[q];show l2
    .cases q
  rw[E7,oh];show(_,_,Y,Y,?_,_,_,Y,Y,?_,?_)
  .change↑((Uy "list")++_)+_<=_;rw[vP,uo,bB,a9,a9,Us,Ux,show↑(Uz "list")=4 by decide,show↑(Uz "(")=1 by decide];lia
  .change↑((Uy "list")++_++_)+_<=_;rw[vP,uo,IQ,bB,bB,a9,a9,Us,Us,Ux,show↑(Uz "list")=4 by decide,show↑(Uz "(")=1 by decide,show↑(Uz ")")=1 by decide];lia
  .change Q (V.str ((Uy "list")++_++_++_)) _;rw[vP,uo,IQ,bB,bB,bB];let z:Uz "list"++Uz "("++Xp (Uz ", ") [U0 I e,U0 I f]++Uz ")"=Yv I (.list e f):=by
    change _++(U0 I e++((Uz ", "++U0 I f)++[]))++_=Uz "list("++(U0 I e++(Uz ", "++(U0 I f++[41])));rw[show Uz "list("=Uz "list"++Uz "(" by decide,show Uz ")"=[41] by decide];simp only[UK,VB,Ve]
   rw[z];show k _ (bn.refl _)
 |tree e=>
  let Z:=bU N (show bS ↑I e from G);let jl:↑(Xp (Uz ", ") [U0 I e])<=12:=by
   change↑(U0 I e++[])<=12;rw[VB];show Z
  show bh Pa ?_;show(_,Y,x,_,D,_,_,Y,E,T.dh,T.cR,Y,_,_,Y,Y,by change↑(Uy "tree")+_<=_;rw[vO,uo,a9,a9];decide,(_,Y),_,Y,x,_,D,_,_,Y,E,T.dh,T.dA,Y,_,t,[U0 I e].map S,Y,Y,.inl (bx.of e2),?_,?_)
  .rw[E7];show jF (B:=12) (λx O=>?_) (show 1*(12+↑(Uz ", "))<=16777216 by decide);rcases UP.mp O with q|q
   .rw[q];show Z
   .cases q
  rw[E7,oh];show(_,_,Y,Y,?_,_,_,Y,Y,?_,?_)
  .change↑((Uy "tree")++_)+_<=_;rw[vO,uo,bB,a9,a9,Us,Ux,show↑(Uz "tree")=4 by decide,show↑(Uz "(")=1 by decide];lia
  .change↑((Uy "tree")++_++_)+_<=_;rw[vO,uo,IQ,bB,bB,a9,a9,Us,Us,Ux,show↑(Uz "tree")=4 by decide,show↑(Uz "(")=1 by decide,show↑(Uz ")")=1 by decide];lia
  .change Q (V.str ((Uy "tree")++_++_++_)) _;rw[vO,uo,IQ,bB,bB,bB];let z:Uz "tree"++Uz "("++Xp (Uz ", ") [U0 I e]++Uz ")"=Yv I (.tree e):=by
    change _++(U0 I e++[])++_=Uz "tree("++(U0 I e++[41]);rw[show Uz "tree("=Uz "tree"++Uz "(" by decide,show Uz ")"=[41] by decide];simp only[UK,VB,Ve]
   rw[z];show k _ (bn.refl _)
end
end
section
open VasepBase (exprText condText ascii joined pieceText writeAssertion)
abbrev RB(K:UN):V->List V->Hp->VK->Prop:=λx xs H Q=>∃a p,∃ys:List Vp,x=.str a/\xs=[.ref p]/\(bx K H p (ys.map V.str)\/gK K H p (ys.map V.str))/\(ys.map (·.length)).sum+↑ys*↑a<=16777216/\Q (.str (aaQ a ys)) H
def tD(h:∀x∈l,x≠[])(D:l≠[]):Xp sep l≠[]:=by
 cases l with
 |nil=>show absurd rfl D
 |cons x r=>
  have:=h x UU;cases x with
  |nil=>show absurd rfl this
  |cons c x=>show λz=>by cases z
def OE(I:List (List Nat))(c:ZV):Xe I c≠[]:=λz=>by
 have:↑(Xe I c)=0:=by rw[z];rfl
 rw[<-hW]at this;simp only[Us,show↑(Uz " ")=1 by decide]at this;lia
def EA(I:List (List Nat))(p:Yw):Yv I p≠[]:=by cases p<;>show λz=>by cases z
def Q2(h:t≠[]):decide (V.str (S t)=V.str "")=UF:=decide_eq_false λz=>by
 rw[Mi]at z;show h (k9 (V.str.inj z))
def Q1:decide (V.str (S [])=V.str "")=UB:=()
section
inductive Bw(a:Ad)(e:List V)(H:Hp)(Q:VK)(i:XK):Prop|mk(x d f g h b A:_)(_:e=[.ref x])(_:fU a H x d f g h b A)(_:bj b)(_:js H ((writeAssertion b A).map fun c=>V.int (c:Nat)) Q)
def rA(T:TX K U a):cf P w K U W cH 2 a.g_ ["assertion"] [] (Bw a):=by
 let GP:=zg T;let GB:=uj T;show T.tU.o2 ["assertion","plain","pieces","condition","piece"] λvs H Q a2 h=>?_
 let(x,a1,pp,cs,ps,I,A,rfl,R,N,k):=h;show(Y,λG a3 A' a4 s0 hr=>?_);show(_,ac (aA (i:=1) G rfl (UT rfl) (jy aD (nL (own:=[("condition",3)]) (te:=Rh (RB K) (tC (.str " ")) (bJ 3)) rfl G (fW (ai (pv 0) rfl)) (show il ["assertion","plain","pieces","condition","piece"] (aP gO) _ [("condition",3)]from K0 ())
   (λ_ _ _ _ _=>cQ (i:=3) G rfl (UT rfl)) (λ_ _ _ _ _=>gv) (λ_ _ _ _ _=>jy aD (pv 3)))))
  (ac (aA (i:=2) G rfl (UT rfl) (jy aD (nL (own:=[("piece",4)]) (te:=mD (uf a) [] E0 (bG (bJ 4) b8)) rfl G (fW (ai (pv 0) rfl)) (show il ["assertion","plain","pieces","condition","piece"] (aP gO) _ [("piece",4)]from K0 ())
   (λ_ _ _ _ _=>cQ (i:=4) G rfl (UT rfl)) (λ_ _ _ _ _=>gv) (λ_ _ _ _ _=>aX GP T.CY hr aq (aa (pv 4) af)))))
  (ac (aJ (au wW (pv 1) aD (aB _)) (ag (qm (i:=1) G rfl (UT rfl) aD Fn)) ay)
  (ac (aJ (au bP (pv 2) aD (aB _)) (ag (aA (i:=2) G rfl (UT rfl) (pg T.Iq))) ay)
  (ag (am (aX GB T.xM hr aq (aa (bI aO (pv 1) (pv 2)) af))))))),?_)
 iterate 5 skip
 let(dx,ex):=R.obj;let ap:∀t∈A.plains.map (condText I),↑t<=60:=λt ht=>by
  let(c,D,rfl):=U6.mp ht;show FK N (R.cok c D)
 let ar:∀t∈A.pieces.map (pieceText I),↑t<=60:=λt ht=>by
  let(c,D,rfl):=U6.mp ht;show An N (R.pok c D)
 let n1:↑(A.plains.map (condText I))<=6:=by rw[Uq];show R.few.1
 let n2:↑(A.pieces.map (pieceText I))<=6:=by rw[Uq];show R.few.2
 let j1:↑(joined (ascii " and ") (A.plains.map (condText I)))<=400:=by
  let h1:=eV (sep:=ascii " and ") ap;let h2:=Wr (60+↑(ascii " and ")) n1;rw[show↑(ascii " and ")=5 by decide]at h1 h2;lia
 let j2:↑(joined (ascii " * ") (A.pieces.map (pieceText I)))<=400:=by
  let h1:=eV (sep:=ascii " * ") ar;let h2:=Wr (60+↑(ascii " * ")) n2;rw[show↑(ascii " * ")=3 by decide]at h1 h2;lia
 unfold uG Jw Rh;show((_,Y),?_);show kU (gT ft) (_,Y,x,_,dx,_,_,Y,ex,T.dZ,T.dm,Y,a1,_,(A.plains.map (condText I)).map λt=>V.str (S t),Y,bx.of R.cl,by have:=R.few.1;rw[Uq,R.conds.1,Ux];lia,by rw[Uq,Uq,Uq,R.conds.1],?_,λH1 D1 x1 f1 e1=>?_)
 .rintro i y z H' hy E x1 R' hR;let(u,Z,rfl):=nZ hy;rw[VA,UM]at E;cases D:A.plains[i]? with
  |none=>rw[D]at E;cases E
  |some c=>
   rw[D]at E;cases E;let ht:=R.conds.2 i u c Z D;let an:=R.cok c (U3 D);let l1:=bU N an.1;let l2:=bU N an.2;let l3:=kC c;show((_,Y),_,Y,_,u,[exprText I c.one,fm c,exprText I c.two].map S,Y,Y,.inr (gK.of (x1 _ _ ht)),?_,?_)
   .rw[Cu];show jF (B:=12) (λx hx=>?_) (show 3*(12+↑(ascii " "))<=16777216 by decide);rcases UP.mp hx with q|q
    .rw[q];show l1
    .rcases UP.mp q with q|q
     .rw[q];lia
     .rcases UP.mp q with q|q
      .rw[q];show l2
      .cases q
   .rw[Cu,oh];let e:joined (ascii " ") [exprText I c.one,fm c,exprText I c.two]=condText I c:=by
     rw[<-hW];change exprText I c.one++((ascii " "++fm c)++((ascii " "++exprText I c.two)++[]))=_;simp only[UK,VB]
    rw[e];show hR _ (bn.refl _)
 show(_,D1,(A.plains.map (condText I)).map S,Y,Y,.inl (bx.of (by rw[e1,Bp])),?_,?_)
 .rw[Ml];show jF ap ?_;let h2:=Wr (60+↑(ascii " and ")) n1;show Vm h2 ()
 rw[Ml,oh];show((_,Y),?_);let R1:=R.ext x1;show kU (gT ft) (_,Y,x,_,dx,_,_,Y,x1 _ _ ex,T.dZ,T.eB,Y,pp,_,(A.pieces.map (pieceText I)).map λt=>V.str (S t),Y,bx.of R1.pl,by have:=R.few.2;rw[Uq,R.pieces.1,Ux];lia,by rw[Uq,Uq,Uq,R.pieces.1],?_,λH2 D2 x2 f2 e2=>?_)
 .rintro i y z H' hy E x2 R' hR;let(u,Z,rfl):=nZ hy;rw[VA,UM]at E;cases D:A.pieces[i]? with
  |none=>rw[D]at E;cases E
  |some c=>
   rw[D]at E;cases E;show(_,Y,u,I,c,Y,(R1.pieces.2 i u c Z D).ext x2,R.pok c (U3 D),N,λH3 x3=>hR _ x3)
 show(_,D2,(A.pieces.map (pieceText I)).map S,Y,Y,.inl (bx.of (by rw[e2,Bp])),?_,?_)
 .rw[IN];show jF ar ?_;let h2:=Wr (60+↑(ascii " * ")) n2;show Vm h2 ()
 rw[IN,oh];let av:=x1.trans x2;let ab:∀(u v:List Nat),↑u<=410->↑v<=410->u++v=Xg I A->∀{Q':VK},Q'=Q->(mV (mD Al [] E0 (bG (F8 (λx y H Q=>∃i j,x=.str i/\y=.str j/\↑i+↑j<=U1/\Q (.str (i++j)) H) (bJ 1) (bJ 2)) b8))) {nx:=λ_ H'=>Q .non H',rt:=Q'} [Up (.ref x),Up (.str (S u)),Up (.str (S v)),UH,UH] H2:=λu v Z hv a0 Q' hQ=>by
  subst hQ;show(_,Y,_,Y,_,_,Y,Y,by rw[a9,a9,Ux];lia,u++v,by rw[bB];rfl,by rw[Us];lia,?_);rw[a0];show λH3 p x3 f3 e3=>k H3 p (av.trans x3) (av.free f3) e3
 show(_,Y,Y,_,Y,?_);cases hA:A.plains with
 |nil=>
  show bh (by change(!decide (V.str (S [])=V.str ""))=UF;rw[Q1];rfl) (_,Y,Y,_,Y,?_);cases O:A.pieces with
  |nil=>
   show dq Q1 ?_;have:=ab [] (ascii "emp") () () (by unfold Xg;rw[hA,O];rfl) rfl;rw[<-Mj]at this;show this
  |cons p r=>
   show bh (Q2 (tD (λx hx=>by let(c,_,rfl):=U6.mp hx;show EA I c) (by simp))) ?_;rw[O]at j2;show ab [] (joined (ascii " * ") ((p::r).map (pieceText I))) () ⋯ (by unfold Xg;rw[hA,O];rfl) rfl
 |cons c l=>
  show dq (by rw[Q2 (tD (λx hx=>by let(c,_,rfl):=U6.mp hx;show OE I c) (by simp))];rfl) ?_;rw[hA]at j1;show(_,Y,_,_,Y,Y,by rw[E6,a9,a9,Ux,show↑(ascii " : ")=3 by decide];lia,?_);rw[E6,bB];show(_,Y,Y,_,Y,?_);let Z:↑(joined (ascii " and ") ((c::l).map (condText I))++ascii " : ")<=410:=by rw[Us,show↑(ascii " : ")=3 by decide];lia
  cases O:A.pieces with
  |nil=>
   show dq Q1 ?_;have:=ab (joined (ascii " and ") ((c::l).map (condText I))++ascii " : ") (ascii "emp") Z () (by unfold Xg;rw[hA,O];rfl) rfl;rw[<-Mj]at this;show this
  |cons p r=>
   show bh (Q2 (tD (λx hx=>by let(c,_,rfl):=U6.mp hx;show EA I c) (by simp))) ?_;rw[O]at j2;show ab _ (joined (ascii " * ") ((p::r).map (pieceText I))) Z ⋯ (by unfold Xg;rw[hA,O];rfl) rfl
end
end
end HX
namespace L2
open PySem PySem.Spec PyProof.Rows
structure yu (k:Nat) (A:Around):Prop where
 dp:A.depth+3*k+5<recursionLimit
 un:A.units+16*k+200<cLine
def Room.mark{A:VU}(r:Room k A):yu k (A.mark e):=(r.dp,r.un)
def yu.make{A:VU}(r:yu (k+1) A)(C:Uw)(us:List Uv)(D:List (Vp×Uv)):yu k (A.under (.builtin "type.__call__" (.ref C::us,D))):=
 (by have:=r.dp;rw[xk];lia,by have:=r.un;rw[xj];lia)
abbrev SI(P:Program)(w:We)(K:UN)(U:Vp->Option Uv)(W:Heap)(N:List Vp)(I:Vp)(O:XQ)(f:Uw)(cd:Uv)(A:VU)(D:List Env)(s:UE)(H:Hp)(E:XK):Cx:=
 {jt cH P w K U W N I O f cd A D s H E with calm:=UF,xe:=λ_ _=>False}
def M0(P:Program)(w:We)(K:UN)(U:Vp->Option Uv)(W:Heap)(k:Nat)(f:Uw)(fd:YD)(ps:List Vp)(sp:Sp):Prop:=
 (∀vs H Q E,sp vs H Q E->↑vs=↑ps)/\
 ∀(A:VU)(I:List Env)(s:UE)(H:Hp)(D:Args)(us:List Uv)(vs:List V)(Q:VK)(E:XK),yu k A->DH P w K U W A I s H->ads s fd D (ps.zip us)->bq vs us->sp vs H Q E->
  Zw (U_ P w) A (.call (.ref f) D) (CR cH I P w H s Q E) s
def QN{P:Program}{K:UN}{W:Heap}{k:Nat}{dV kV av pm Z ct oc:Uv}{N ps:List Vp}{sp:Sp}(lk:K.lookup f=Up (oc,od,.func (W8 name ap a2 ar I dV kV av pm an Z ct),bk))(a5:Y6 K Z ap=UB)(S:fJ N ps I)(len:∀vs H Q E,sp vs H Q E->↑vs=↑ps)(a4:∀(A:VU)(ab:List Env)(s:UE)(H:Hp)(vs:List V)(Q:VK)(E:XK),sp vs H Q E->
   ∃t,yw (SI P w K U W N ap I f Z A ab s H E) ar t/\t {nx:=λ_ O=>Q .non O,rt:=Q} (start N vs) H):
  M0 P w K U W (k+1) f (W8 name ap a2 ar I dV kV av pm an Z ct) ps sp:=by
 show(len,λA ab s H bl us vs Q E hr D hb r a1=>?_);let hl:=len _ _ _ _ a1;let KX:K.In s.heap:=D.mod.kin.keeps λb o e=>(D.bs b o e).1
 let bd:s.heap.NoLimit:=D.mod.nolimit.keeps λb o e=>(D.bs b o e).1
 let a6:∀y∈ps.zip us,I.names.lookup y.1=Up .local\/(I.names.lookup y.1=Up .cell/\((cellsFrom (s.heap.objs.size+1) I.names []).lookup y.1).isSome=UB):=λ(n,v)hy=>by
  rcases S.par n (ZO hy).1 with q|q
  .show .inl q
  .show .inr (q,Y7 _ _ _ (.inl q))
 show codeAny_call_function (by have:=hr.dp;lia) (KX _ _ lk) rfl S.co S.gen rfl (ach KX a5) (hb _ _ _ _ ?_);show Z6 S.kind a6 λbm he s1 x=>?_
 subst he;show(bd.keeps x.toInCall.keep,codeAny_func ?_);let(t,ht,hq):=a4 A ab s H vs Q E a1;let e1:DH P w K U W {A with handled:=UH} ab s H:=(D.frames,D.mod,D.bs,D.bsz,D.funs,D.frf,D.hok,D.bare);let I0:aZ (jt cH P w K U W N ap I f Z {A with handled:=UH} ab s H E) [] (start N vs) H s1:=AD S rfl e1 hl r x;let a3:aZ (SI P w K U W N ap I f Z A ab s H E) [] (start N vs) H s1:=I0.recast (pn:=[]) (A':=A.deeper (YK ap I s.heap.objs.size f Z)) (cl:=UF) (xe:=λ_ _=>False) (pins':=[]) rfl (λz=>by cases z) (λp hp=>hp);show V9 (ht [] s1 (start N vs) H _ a3 hq) (λfl s' hs=>?_) λe s' hs=>VI hs
 let a0:∀{σ':St}{O:Hp}{v:V}{u:Uv},aZ (SI P w K U W N ap I f Z A ab s H E) [] σ' O s'->bQ v u->Q v O->CE ab P w H s Q u s':=
  λ{σ' O v u}J rv q=>(v,O,J.os,J.bare,J.base,J.hok,rv,q)
 cases fl with
 |ret u=>
  let(v,σ',O,J,rv,q):=hs;show a0 J rv q
 |next=>
  let(σ',O,J,q):=hs;show a0 (v:=V.non) (u:=WL) J rfl q
 |brk=>
  let(_,_,_,q):=hs;show VI q
 |cont=>
  let(_,_,_,q):=hs;show VI q
section
variable {X:Cx} {k:Nat} {f C:Addr} {fd:FuncData} {ps:List Str} {sp:Sp} {dvs:List V} {ds:List Value} {E:XK} {x:Str} {p G:Pos} {e:Expr} {es:List Expr} {t:TA}
def JS{H:Hp}{Q:VK}(M:Mk X.K C f)(F:M0 X.prog X.w X.K X.mg X.base k f fd ps sp)(hr:yu (k+1) X.A)(hb:gM X.K fd ps ds)(hd:bq dvs ds)(U:aZ X O D H s)(r:bq vs us)(h:∀x W,H x=UH->H W=UH->W≠x->sp (.ref x::(vs++dvs)) (aw (aw H W (.own x)) x (.ins C W [])) (λv H2=>v=.non/\Q (.ref x) H2) E):
  Vi (U_ X.prog X.w) X.A (Z9 (.ref C) us) (EP X O D Q) X.xe s:=by
 let hq:=h (s.heap.objs.size+1) s.heap.objs.size (U.hok.fresh (XS _)) (U.hok.fresh (UD _)) (Vl (VW _));let Z:=aZ.made (C:=C) U;let r2:bq (V.ref (s.heap.objs.size+1)::(vs++dvs)) (Vd (s.heap.objs.size+1)::(us++ds)):=.cons rfl (r.append hd);let hl:↑(Vd (s.heap.objs.size+1)::us++ds)=↑ps:=by
  let e:=↑r2;rw[F.1 _ _ _ _ hq]at e;show e.symm
 show Z7 (EY (f:=f) U.kIn M.makes M.init (beq_iff_eq.mp M.fn) (Y3 (F.2 _ X.stack _ _ (Vd (s.heap.objs.size+1)::us,[]) (Vd (s.heap.objs.size+1)::(us++ds)) _ _ E (hr.make C us [])
  (Z.env0.make C us []) (hb _ (Vd (s.heap.objs.size+1)::us) Z.kIn hl) r2 hq) λr s' I=>?_))
 cases r with
 |error e=>show VI I
 |ok fl=>
  cases fl with
  |ret u=>
   let(v,H',I3,rv,ev,q3):=Z.after I;subst ev;show(rv,(V.ref (s.heap.objs.size+1),H',I3,Y,q3))
  |next=>show VI I
  |brk=>show VI I
  |cont=>show VI I
def OO(P:Program)(w:We)(K:UN)(U:Vp->Option Uv)(W:Heap)(k:Nat)(f:Uw)(ps:List Vp)(sp:Sp):Prop:=∃fd,M0 P w K U W k f fd ps sp/\gM K fd ps []
def Qo(M:Mk X.K C f)(F:OO X.prog X.w X.K X.mg X.base k f ps sp)(hm:X.mg x=Up (.ref C))(hr:yu (k+1) X.A)(W:PA X (e::es) t)(hg:Gl X x:=by show rfl)(ab:(x==("__debug__":Vp))=UF:=by decide)(he:Vt (e::es) X.env=(UF,Xq e X.env)::Vt es X.env:=by rfl)(an:(Yk G (Vt es X.env)).any (·.1)=UF:=by rfl):
  PE X (.Call (.Name x p) (e::es) [] G) (qV C sp [] E t):=by
 let(fd,F,Z):=F;intro O s D H Q I h;show wpAny_Call_Name_kw (lN I hg hm ?_ ab);show XW (h₀:=X.base) I.ok.mod.kin M.kp (cW (W G O s D H _ I h) λus s1 (vs,H1,U,r,q)=>(U.kIn,?_)) he an;show JS M F hr Z .nil U r q
end
def bb.okH{P:Program}{K:UN}{W:Heap}{st:Vs}{N ps:List Vp}{k:Nat}{sp:Sp}(F:bb K x O st f ps)(S:fJ N ps (aP st))(len:∀vs H Q E,sp vs H Q E->↑vs=↑ps)(ab:∀(D:Uv)(A:VU)(I:List Env)(s:UE)(H:Hp)(vs:List V)(Q:VK)(E:XK),sp vs H Q E->
   ∃t,yw (SI P w K U W N O (aP st) f D A I s H E) (dY st) t/\t {nx:=λ_ Z=>Q .non Z,rt:=Q} (start N vs) H):OO P w K U W (k+1) f ps sp:=by
 let(fd,F,b):=F.ex;let(oc,od,kV,av,pm,an,D,ct,a0,rfl,lk,ap):=F.ex;show(_,QN lk ap S len λA I s H vs Q E ar=>ab D A I s H vs Q E ar,b)
def OX{X:Cx}{xe:Uv->UE->Prop}(hx:∀e s',M7 (X.bodyOf pn X.xe) I e s'->xe e s'):gf (jL X.prog X.w) (X.bodyOf pn xe) I:=λO D H s e s' W h=>hx e s' (by
 let(ea,C,Z,tr,D,U,e1,J,r):=M7.of W h;show(ea,C,Z,tr,D,U,e1,J.recast (pn:=pn) (A':=X.A) (cl:=X.calm) (xe:=X.xe) (pins':=[]) rfl J.ok.hd (λp hp=>hp),r))
end L2
namespace HX
open PySem PySem.Spec PyProof.Rows L2
section
open Vasepa (faultRow)
def px(D:List Int):List Int:=if Zv D then [-1]else if Wk<↑D then [-2]else []
def lP(n:Int):Bool:=decide (0<=n)&&decide (n<=255)
def ER(D:List Int):Zv D=!D.all lP:=by
 unfold Zv;rw[aaV]
 congr 1
 funext n
 unfold lP;rw[Bool.not_and,<-decide_not,<-decide_not]
 congr 1<;>(apply decide_eq_decide.mpr;lia)
def AS{D:List Int}(h:Zv D=UF):(D.map VY).map (λc:Nat=>V.int (c:Int))=D.map V.int:=by
 rw[ER,acp]at h;rw[VA];show WD λn E=>?_
 have:=XN.mp h n E;unfold lP at this;simp only[Vb,decide_eq_true_eq]at this;change V.int ((n.toNat:Nat):Int)=V.int n;rw[WF this.1]
def mC(I:List (List Nat))(D:List Int):Except (List Int) Zo:=if Zv D then .error [-1]else if Wk<↑D then .error [-2]else match XE I (D.map VY)with
 |.error e=>.error (faultRow 3 e)
 |.ok A=>.ok A
def sN(s:Ya)(D:List Int)(f:Zo->ab3):Zg s D f=match mC s.program.names D with
  |.error r=>r
  |.ok A=>f A:=by
 unfold Zg mC;cases Zv D with
 |true=>rfl
 |false=>
  rw[ifn Ur,ifn Ur];by_cases h:Wk<↑D
  .rw[ifp h,ifp h]
  .rw[ifn h,ifn h];cases XE s.program.names (D.map VY)<;>rfl
def wl(h:mC I D=.error r):r≠[]:=by
 unfold mC at h;split at h
 .cases h;simp
 .split at h
  .cases h;simp
  .split at h
   .cases h;simp [faultRow]
   .cases h
section
inductive JF(K:PySem.W.Frag)(b:List V)(H:Hp)(Q:VK)(c:XK):Prop|mk(l:Addr)(a:List Int)(_:b=[.ref l])(_:bx K H l (a.map V.int))(_:a.length<=17000)(_:js H ((px a).map V.int) Q)
def mG(T:TX K U a):cf P w K U W cH 1 a.jd ["text"] [] (JF K):=by
 show T.yc.o2 ["text","byte"] λvs H Q an h=>?_
 let(l,D,rfl,hl,hz,k):=h;show(Y,λnd ap A ar s0 hr=>?_);show(_,ac (aJ (i6 (cB (aW (MP rfl) (by rfl) T.O0 abq (aa (nL (own:=[("byte",1)]) rfl nd (fW (pv 0)) (show il ["text","byte"] (aP nz) _ [("byte",1)]from K0 ())
   (λ_ _ _ _ _=>cQ (i:=1) nd rfl (UT rfl)) (λ_ _ _ _ _=>gv) (λ_ _ _ _ _=>EB ui ui aF (pv 1) aF)) af)))) (ag (am (aS (aa (pg T.DR) af)))) ay)
  (ac (aJ (au IK (aW aN (by rfl) T.cO U2 (aa (pv 0) af)) (pg T.v_) (aB _)) (ag (am (aS (aa (pg T.Gd) af)))) ay)
  (ag (am (aS af)))),?_)
 iterate 3 skip
 unfold uG Jv Rg tB OR bG;show kU ft (_,Y,l,D.map V.int,(D.map lP).map V.bl,Y,hl,by rw[Uq,Ux];lia,by simp,λi x y Z hx hy O R G=>?_,λZ ab O hD e=>?_)
 .let(n,hn,rfl):=nZ hx;rw[UM,UM,hn]at hy;cases hy;show(_,Y,_,_,Y,Y,_,Y,?_);unfold lP at G;cases h0:decide (0<=n)with
  |false=>rw[h0]at G;show be (G _ (bn.refl _))
  |true=>rw[h0]at G;show bf (_,_,Y,Y,G _ (bn.refl _))
 .show(ab,D.map lP,Y,bx.of e,_,Y,?_);have:(D.map lP).all id=D.all lP:=by rw[acQ];rfl
  change if(!(D.map lP).all id)=UB then _ else _
  rw[this,<-ER];let I:∀(r:List Int),px D=r->∀p,Z p=UH->Q (.ref p) (aw Z p (.lst (r.map V.int))):=λr hr p E=>by
   rw[<-hr];show k _ p (O.trans (aC E)) (O.free E) ae
  unfold px at I;cases hb:Zv D with
  |true=>show bf (zl,λp E=>I [-1] (by rw[hb,ifp rfl]) p E)
  |false=>
   rw[hb,ifn Ur]at I;show be (_,Y,l,_,Y,.inl (O.seq hl),_,_,Y,Y,_,Y,?_);rw[Uq];by_cases h:Wk<↑D
   .rw[decide_eq_true (show(4096:Int)<(↑D:Int) by unfold Wk at h;lia)];show bf (zl,λp E=>I [-2] (by rw[ifp h]) p E)
   .rw[decide_eq_false (show¬(4096:Int)<(↑D:Int) by unfold Wk at h;lia)];show be (zl,λp E=>I [] (by rw[ifn h]) p E)
inductive lj(C:Addr)(b:List V)(H:Hp)(Q:VK)(d:XK):Prop|mk(p a n c:_)(_:b=[.ref p,n,c])(_:H p=some (.ins C a []))(_:Q .non (aw H p (.ins C a [("assertion",n),("refusal",c)])))
def mW:fJ ["self","assertion","refusal"] ["self","assertion","refusal"] (aP ii):=Qd ()
def m8(T:TX K U a):cf P w K U W cH 1 a.df ["self","assertion","refusal"] [] (lj a.aR):=by
 show T.ik.o2 ["self","assertion","refusal"] λvs H Q E h=>?_
 let(p,D,n,c,rfl,e,k):=h;show(Y,λO G A V Z I=>?_);show(_,ac (br (pv 0) (pv 1) rfl) (ag (br (pv 0) (pv 2) rfl)),?_)
 iterate 2 skip
 show(_,Y,_,Y,p,_,D,_,Y,e,T.ba,T.bL,zk,_,Y,_,Y,p,_,D,_,Y,ae,T.ba,T.a7,zk,?_);rw[b_];show k
def lG(T:TX K U a):OO P w K U W 1 a.df ["self","assertion","refusal"] (lj a.aR):=by
 show T.ik.okH mW (λvs H Q E h=>?_) (λG A I O H vs Q E h=>?_)
 .let(p,D,n,c,rfl,_):=h
  rfl
 .let(p,D,n,c,rfl,e,k):=h;show(_,ac (br (pv 0) (pv 1) rfl) (ag (br (pv 0) (pv 2) rfl)),?_)
  iterate 2 skip
  show(_,Y,_,Y,p,_,D,_,Y,e,T.ba,T.bL,zk,_,Y,_,Y,p,_,D,_,Y,ae,T.ba,T.a7,zk,?_);rw[b_];show k
end
end
section
open Vasepa (faultRow)
section
def qO(a:Ad)(I:List (List Nat))(H:Hp)(R:Except (List Int) Zo)(Q:VK):Prop:=match R with
 |.error r=>∀D x E p,bn H D->H p=UH->D x=Up (.ins a.aR E [("assertion",.non),("refusal",.ref p)])->D p=Up (.lst (r.map V.int))->Q (.ref x) D
 |.ok A=>∀D x E p y O Z G ps,bn H D->D x=Up (.ins a.aR E [("assertion",.ref y),("refusal",.ref p)])->D p=Up (.lst [])->fU a D y O Z G ps I A->Q (.ref x) D
def qO.no{R:Except (List Int) Zo}(h:qO a I H R Q)(e:R=.error r):qO a I H (.error r) Q:=e▸h
def qO.yes{R:Except (List Int) Zo}(h:qO a I H R Q)(e:R=.ok A):qO a I H (.ok A) Q:=e▸h
inductive PU(K:PySem.W.Frag)(a:Ad)(e:List V)(H:Hp)(Q:VK)(f:XK):Prop|mk(l d:Addr)(c:List Int)(b:List (List Nat))(_:e=[.ref l,.ref d])(_:bx K H l (c.map V.int))(_:c.length<=17000)(_:H d=some (.lst (b.map fun x=>V.str (S x))))(_:qO a b H (mC b c) Q)
def NO(h:px D≠[])(I:List (List Nat)):mC I D=.error (px D):=by
 unfold px mC at*;split
 .rfl
 .split
  .rfl
  .rename_i E h2;rw[ifn E,ifn h2]at h;show absurd rfl h
def vE{D:List Int}(h:px D=[]):Zv D=UF/\↑D<=4096:=by
 unfold px at h;cases E:Zv D with
 |true=>rw[E,ifp rfl]at h;cases h
 |false=>
  rw[E,ifn Ur]at h;by_cases c:Wk<↑D
  .rw[ifp c]at h;cases h
  .show(Y,Nat.le_of_not_lt c)
def Lf{D:List Int}(h:px D=[])(I:List (List Nat)):mC I D=match XE I (D.map VY)with
  |.error e=>.error (faultRow 3 e)
  |.ok A=>.ok A:=by
 let(E,h2):=vE h;unfold mC;rw[E,ifn Ur,ifn (show¬Wk<↑D from acl.mpr h2)]
 all_goals (cases XE I (D.map VY)<;>rfl)
def rW(r:List Int):aaa (.list (r.map WM)) (.list [])=r.isEmpty:=by cases r<;>rfl
def gz(T:TX K U a):cf P w K U W cH 11 a.gW ["text","names"] [] (PU K a):=by
 let GF:=mG T;let GI:=m8 T;let GH:OO P w K U W 1 a.df ["self","assertion","refusal"] (lj a.aR):=lG T;let GR:=rp T;show T.tQ.o2 ["text","names","refusal","assertion","fault"] λvs H Q a5 h=>?_
 let(l,pm,ns,I,rfl,hl,hz,hm,k):=h;show(Y,λnd a6 A' bk s0 hr=>?_);let a3:Room 1 _:=hr.mono ();let ap:Room 2 _:=hr.mono ();show(_,ac (aA (i:=2) nd rfl (UT rfl) (aX GF T.oj a3 aq (aa (pv 0) af)))
  (ac (aJ (au (jQ hr.units) (pv 2) (aS af) (aB _)) (ag (am (dS T.gS GI T.gU ap aq (aa cZ (aa (pv 2) af))))) ay)
  (ac (LV (i:=4) (ts:=mV (qV a.aR (lj a.aR) [] E0 (bG (tC .non) (bG (Np (bG (tC (.int 3)) (bG (D0 K (bJ 4) "kind") (bG (D0 K (bJ 4) "place") b8)))) b8)))) rfl rfl rfl nd rfl rfl rfl T.dX T.bY
    (λEb pn xe G=>ag (aA (i:=3) nd rfl (UT rfl) (aX GR T.tF hr (OX G) (aa (pv 0) (aa (pv 1) af)))))
    (λpn ea=>ag (am (Qo T.gS GH T.gU ap.mark (aa cZ (aa (aS (aa aF (aa (vH (pv 4) rfl) (aa (vH (pv 4) rfl) af)))) af))))))
  (ag (am (dS T.gS GI T.gU ap aq (aa (pv 3) (aa (aS af) af))))))),?_)
 iterate 4 skip
 show(_,Y,l,ns,Y,hl,hz,λH1 p1 x1 f1 e1=>?_);show(_,Y,zl,λp2 h2=>?_);let x2:=aC (o:=.lst []) h2;show(_,_,fG (bx.of (x2 _ _ e1)),jq ae,eF _,Y,_,Y,?_);rw[rW];let an:=x1.trans x2;by_cases Z:px ns=[]
 .show bh (by rw[Z];rfl) ?_;let(a0,a1):=vE Z;let tk:=Lf Z I;show(_,Y,_,Y,l,pm,ns.map VY,I,Y,?_,by rw[Uq];show a1,an _ _ hm,λA hA H3 y pc pp cs ps x3 f3 AA=>?_,λg hg=>?_)
  .rw[AS a0];show an.seq hl
  .rw[hA]at tk;show(_,Y,zl,λp4 h4=>λx D G ab ar=>(x,D,_,_,Y,ae,Y,?_));let O:=aC (o:=.lst []) h4;let E:=bK (C:=a.aR) (o:=.ins a.aR D [("assertion",.ref y),("refusal",.ref p4)]) (o':=.ins a.aR D []) G ab;let a4:=x3.trans (bn.trans O E);show(k.yes tk) _ x D p4 y pc pp cs ps (an.trans a4) ae (E _ _ ae) (AA.ext (bn.trans O E))
  .rw[hg]at tk;rintro bd D H3 ⟨rfl,d,f,rfl,ed,rfl,s3⟩;let x3:bn _ H3:=λb o e=>s3 b o e (λz=>z)
   show(d,Y,Y,λea a2=>?_);let O:=aC (o:=OP ea a.dC d) a2;show(_,Y,ea,_,d,_,_,Y,ae,O _ _ ed,T.bY,T.gB,Y,_,Y,ea,_,d,_,_,Y,ae,O _ _ ed,T.bY,T.f8,Y,zl,λp5 h5=>λx D G ab ar=>(x,D,_,_,Y,ae,Y,?_));let E:=aC (o:=.lst [V.int 3,V.int ((f.1:Nat):Int),V.int ((f.2:Nat):Int)]) h5;let x6:=bK (C:=a.aR) (o:=.ins a.aR D [("assertion",.non),("refusal",.ref p5)]) (o':=.ins a.aR D []) G ab;let av:=an.trans (bn.trans x3 O);show(k.no tk) _ x D p5 (av.trans (bn.trans E x6)) (av.free h5) ae (x6 _ _ ae)
 .show dq (by cases h:px ns with|nil=>show absurd h Z|cons _ _=>rfl) ?_;show(_,Y,λx D G ab ar=>(x,D,_,_,Y,ae,Y,?_));let E:=bK (C:=a.aR) (o:=.ins a.aR D [("assertion",.non),("refusal",.ref p1)]) (o':=.ins a.aR D []) G ab;show(k.no (NO Z I)) _ x D p1 (an.trans E) f1 ae (E _ _ (x2 _ _ e1))
end
end
section
open HM (flat dep)
open Vasepa (State ranRow)
def SK(a:Ad)(H:Hp)(I:List (List Nat)):Option YN->V->Prop
 |none,v=>v=.non
 |some x,v=>∃st pn D,v=.ref st/\bv a H st pn D I x
def vS(pr:Uw)(sv:V):List (Vp×V):=[("program",.ref pr),("store",sv)]
structure HA (a:Ad) (H:Hp) (hp:Addr) (s:State) (dx pr pm pl:Addr) (ls:List Addr) (sv:V):Prop where
 obj:H hp=some (.ins a.bo dx (vS pr sv))
 prog:gJ a H pr pm pl ls s.program.names (flat 0 s.program.body)
 dep:dep s.program.body<=6
 st:SK a H s.program.names s.store sv
def cA(a:Ad)(H:Hp)(hp:Uw)(s:Ya):Prop:=∃dx pr pm pl ls sv,HA a H hp s dx pr pm pl ls sv
section
variable {H H':Hp} {hp dx pr pm pl:Addr} {ls:List Addr} {sv:V} {s:State} {I:List (List Nat)}
def SK.ext(h:SK a H I o sv)(x:bn H H'):SK a H' I o sv:=by
 cases o with
 |none=>show h
 |some y=>let(st,pn,D,e,q):=h;show(st,pn,D,e,q.ext x)
def HA.ext(h:HA a H hp s dx pr pm pl ls sv)(x:bn H H'):HA a H' hp s dx pr pm pl ls sv:=(x _ _ h.obj,h.prog.ext x,h.dep,h.st.ext x)
def cA.ext(h:cA a H hp s)(x:bn H H'):cA a H' hp s:=let(dx,pr,pm,pl,ls,sv,q):=h;(dx,pr,pm,pl,ls,sv,q.ext x)
def HA.none(h:HA a H hp s dx pr pm pl ls sv)(e:s.store=.none):sv=.non:=by have:=h.st;rw[e]at this;show this
def HA.some(h:HA a H hp s dx pr pm pl ls sv)(e:s.store=.some y):∃st pn D,sv=.ref st/\bv a H st pn D s.program.names y:=by have:=h.st;rw[e]at this;show this
end
def DJ(a:Ad)(H:Hp)(hp g:Uw):Prop:=∃dx pr sv D pm pl,H hp=Up (.ins a.bo dx (vS pr sv))/\H pr=Up (.ins a.bN D [("names",.ref pm),("lines",.ref pl)])/\pm≠g/\pl≠g
def DJ.ext(h:DJ a H hp g)(x:bn H H'):DJ a H' hp g:=let(dx,pr,sv,D,pm,pl,E,G,q):=h;(dx,pr,sv,D,pm,pl,x _ _ E,x _ _ G,q)
def HA.sep(A:HA a H hp s dx pr pm pl ls sv)(h:DJ a H hp g):pm≠g/\pl≠g:=by
 let(an,av,a0,ab,ar,ap,D,E,q):=h;let(Z,op):=A.prog.obj;rw[A.obj]at D;let e:=(HO.ins.inj (UI D)).2.2;let e:=V.ref.inj (congrArg Prod.snd (X_ e).1);rw[<-e,op]at E;let e:=(HO.ins.inj (UI E)).2.2;let G:=V.ref.inj (congrArg Prod.snd (X_ e).1);let O:=V.ref.inj (congrArg Prod.snd (X_ (X_ e).2).1);rw[G,O];show q
def HA.mkSep(A:HA a H hp s dx pr pm pl ls sv)(h:pm≠g/\pl≠g):DJ a H hp g:=let(D,op):=A.prog.obj;(dx,pr,sv,D,pm,pl,A.obj,op,h)
def yy(a:Ad)(H:Hp)(hp:Uw)(r:Ya×List Int)(Q:VK):Prop:=∀H' p,eh hp H H'->H p=UH->H' p=Up (.lst (r.2.map V.int))->cA a H' hp r.1->(∀g,DJ a H hp g->(∃o,H g=Up o)->DJ a H' hp g)->Q (.ref p) H'
def yy.newL{r:List Int}(k:yy a H hp (s,r) Q)(h:cA a H hp s):js H (r.map V.int) Q:=λH' p x f e=>k H' p (λb o e _=>x b o e) f e (h.ext x) λg q _=>q.ext x
def js.lay{H D:Hp}{Q:VK}(k:js H xs Q)(x:bn H D)(e:ys=xs):∀p,D p=UH->Q (.ref p) (aw D p (.lst ys)):=λp hp=>k _ p (x.trans (aC hp)) (x.free hp) (by rw[ae,e])
def js.on(k:js H xs Q)(x:bn H D):js D xs Q:=λH' p E f e=>k H' p (x.trans E) (x.free f) e
section
inductive Lu(a:Ad)(d:List V)(H:Hp)(Q:VK)(e:XK):Prop|mk(r c A b L s o:_)(_:d=[.ref r,.ref c])(_:b9 a H r A b L s)(_:A_ L s o)(_:L.length<=5000)(_:H c=some (.lst (b.map fun x=>V.str (S x))))(_:js H ((ranRow ⟨o,s.steps,s.store⟩).map V.int) Q)
def N6(o:Y1):↑(YH o)<=3:=by cases o<;>(simp [YH])
def yH(N:bj I)(h:jJ I s):↑(acY s)<=43:=by
 let D:=lQ h.up h.bd;let h2:=h.len;let E:=N.few;unfold acY;rw[Us,Uq];lia
def pL(T:TX K U a):cf P w K U W cH 3 a.lV ["run","names"] [] (Lu a):=by
 let GE:=lI T;let GS:=uS T;show T.Di.o2 ["run","names"] λvs H Q ap h=>?_
 let(r,pm,A,I,L,s,o,rfl,R,EI,hL,hm,k):=h;show(Y,λnd ar A' av s0 O=>?_);let ab:Room 1 _:=O.mono ();show(_,ag (am (bI lC (bI lC (bI lC (aS (aa aF af)) (bu (pv 0) T.aH T.o6 GE ab aq)) (aS (aa (ai (pv 0) rfl) af)))
  (aX GS T.xJ O aq (aa (ai (pv 0) rfl) (aa (pv 1) af))))),?_)
 let(dx,pw,E,_):=R.obj;let ho:=N6 o;let hs:=yH R.nm R.store.ok;show(zl,λp1 h1=>?_);let G:=aC (o:=.lst [V.int 0]) h1;show(_,Y,r,dx,_,Y,G _ _ E,Y,r,A,I,L,s,o,Y,R.ext G,EI,hL,λH2 p2 x2 f2 e2=>?_);show(p1,p2,_,_,Y,Y,x2 _ _ ae,e2,by rw[Uq,Ux];change 1+_<=_;lia,λp3 h3=>?_);let an:=bn.trans G x2;let x3:=aC (o:=.lst ([V.int 0]++(YH o).map V.int)) h3;let Z:=an.trans x3;show(_,Y,r,_,dx,_,_,Y,Z _ _ E,T.aH,T.eS,Y,zl,λp4 h4=>?_);let x4:=aC (o:=.lst [V.int ((s.steps:Nat):Int)]) h4;show(p3,p4,_,_,Y,Y,x4 _ _ ae,ae,by rw[Us,Uq,Ux];change 1+_+1<=_;lia,λp5 h5=>?_);let x5:=aC (o:=.lst ([V.int 0]++(YH o).map V.int++[V.int ((s.steps:Nat):Int)])) h5;let D:=Z.trans (bn.trans x4 x5);show(_,Y,r,_,dx,_,_,Y,D _ _ E,T.aH,T.bc,Y,_,Y,A.st,A.pn,A.pc,pm,I,s.store,Y,R.store.ext D,R.nm,D _ _ hm,λH6 p6 x6 f6 e6=>?_);show(p5,p6,_,_,Y,Y,x6 _ _ ae,e6,by rw[Us,Us,Uq,Uq,Ux];change 1+_+1+_<=_;lia,k.lay (D.trans x6) ?_);change _=(0::YH o++((s.steps:Int)::acY s.store)).map V.int;rw[Vj,UJ,UJ];simp
inductive Ix(a:Ad)(f:State->List Int)(c:List V)(H:Hp)(Q:VK)(d:XK):Prop|mk(b s:_)(_:c=[.ref b])(_:cA a H b s)(_:js H ((f s).map V.int) Q)
inductive Qc(a:Ad)(f:State->Int->List Int)(c:List V)(H:Hp)(Q:VK)(d:XK):Prop|mk(b s n:_)(_:c=[.ref b,.int n])(_:cA a H b s)(_:js H ((f s n).map V.int) Q)
inductive wx(a:Ad)(f:State->List Int->List Int)(d:List V)(H:Hp)(Q:VK)(e:XK):Prop|mk(c s l b:_)(_:d=[.ref c,.ref l])(_:cA a H c s)(_:H l=some (.lst (b.map V.int)))(_:b.length<=5000)(_:js H ((f s b).map V.int) Q)
def LX{I:List (List Nat)}(N:bj I)(ab:∀l∈flat 0 body,fM ↑I l)(O:↑(flat 0 body)<=5000)(hd:dep body<=6):↑(XU {names:=I,body:=body})<=600000:=by
 by_cases G:I=[]
 .subst G;change 0<=600000;decide
 let an:HM.LvOk 6 0 (flat 0 body):=by
  have:=HM.lv_flat (B:=6) body 0 0 [] ⋯ Ww;rwa [VB]at this
 let ap:=qi N (flat 0 body) 0 ab an;let jl:↑(aep I)<=84:=by
  let D:=eV (sep:=Uz ", ") N.short;let h2:↑(Uz ", ")=2:=()
  let E:=N.few;rw[r6];rw[h2]at D;lia
 let hs:∀x∈(HM.rowsText I 0 (flat 0 body)).map (· ++[10]),↑x<=73:=λx hx=>by
  let(y,hy,rfl):=U6.mp hx;have:=ap y hy;rw[Us];change _+1<=73;lia
 let Z:∀l:List (List Nat),Xp [] l=l.flatten:=λl=>by
  cases l with
  |nil=>rfl
  |cons x r=>change x++(r.flatMap λt=>[]++t)=_;rw[WA,ac_];simp
 let D:=eV (sep:=[]) hs;rw[Z,HM.rows_lines,Uq,HM.rows_len]at D;let h2:=Wr (73+↑([]:List Nat)) O;let E:=HM.written_eq I body G;rw[<-E];simp only[Us,Ut,Vr]at*;let h5:↑(Uz "vars ")=5:=()
 let h6:↑(Uz ";\n")=2:=()
 lia
def sW(T:TX K U a):cf P w K U W cH 3 a.iE ["self"] [] (Ix a λs=>0::ZA (XU s.program)):=by
 let G:=uU T;show T.vt.o2 ["self"] λvs H Q ab h=>?_
 let(hp,s,rfl,(dx,pr,pm,pl,ls,sv,A),k):=h;show(Y,λnd an A' ap s0 hr=>?_);show(_,ag (am (bI lC (aS (aa aF af)) (aX G T.xL hr aq (aa (ai (pv 0) rfl) af)))),?_);let hl:=LX A.prog.nm A.prog.lok A.prog.few A.dep;show(zl,λp1 Z=>?_);let D:=aC (o:=.lst [V.int 0]) Z;show(_,Y,hp,_,dx,_,_,Y,D _ _ A.obj,T.aK,T.bi,Y,pr,pm,pl,ls,s.program.names,s.program.body,Y,A.prog.ext D,A.dep,λH2 p2 E f2 O=>?_);show(p1,p2,_,_,Y,Y,E _ _ ae,O,by rw[Uq,Ux];change 1+_<=_;lia,k.lay (bn.trans D E) ?_);change V.int 0::_=V.int 0::_;unfold ZA;rw[VA]
 rfl
end
end
section
open Vasepa (after_ touchesOf touchRow)
def Ag(l:List (Nat×Nat)):↑(eO l)=2*↑l:=by
 unfold eO
 induction l with
 |nil=>rfl
 |cons x l D=>rw[XA,Us,D];change 2+_=2*(↑l+1);lia
def Jq(l:List afd):eO (l.map Gk)=(l.flatMap touchRow).map V.int:=by
 unfold eO
 induction l with
 |nil=>rfl
 |cons x l D=>
  rw[UJ,XA,XA,Vj,D];cases x<;>rfl
def lF{s:Ya}(h:s.store=UH)(f:YN->ab3):X6 s f=[-6]:=by unfold X6;rw[h]
def lE{s:Ya}(h:s.store=Up y)(f:YN->ab3):X6 s f=f y:=by unfold X6;rw[h]
section
def oS(s:Ya)(n:Int):List Int:=X6 s λx=>if n<0\/(Vasepa.STEPS:Int)<n then [-7]else adb (after_ s.program x n.toNat)
def qM(s:Ya):List Int:=X6 s λx=>0::(↑(touchesOf s.program x):Int)::(touchesOf s.program x).flatMap touchRow
def DC(s:Ya):List Int:=X6 s λx=>0::ZA (↑(aah x)::aah x)
def nX(T:TX K U a):cf P w K U W cH 7 a.kh ["self","most"] [] (Qc a oS):=by
 let GR:=kL T;let GA:=pL T;show T.z5.o2 ["self","most"] λvs H Q an h=>?_
 let(I,s,n,rfl,(D,pr,pm,pl,ls,sv,A),k):=h;show(Y,λnd ap A' ar s0 Z=>?_);let ab:Room 3 _:=Z.mono ();show(_,ac (aJ (au io (ai (pv 0) rfl) cZ (aB _)) (ag (am (aS (aa (pg T.fj) af)))) ay)
  (ac (aJ (wO (au nN (pv 1) aF (aB _)) (sJ (au IK (pv 1) (pg T.dR) (aB _)))).pt (ag (am (aS (aa (pg T.ph) af)))) ay)
  (ag (am (aX GA T.rR ab aq (aa (aX GR T.jc Z aq (aa (ai (pv 0) rfl) (aa (ai (pv 0) rfl) (aa (pv 1) af)))) (aa (ai (ai (pv 0) rfl) rfl) af)))))),?_)
 iterate 3 skip
 show(_,Y,I,_,D,_,_,Y,A.obj,T.aK,T.aT,Y,Y,_,Y,?_);unfold oS at k;cases O:s.store with
 |none=>
  rw[lF O]at k;rw[A.none O];show bf (zl,k.lay (bn.refl _) rfl)
 |some y=>
  rw[lE O]at k;let(st,pn,pc,e,SR):=A.some O;subst e;let(dp,op):=A.prog.obj;show be (_,Y,_,_,Y,Y,_,Y,?_);by_cases E:n<0
  .rw[ifp (.inl E)]at k;rw[decide_eq_true E];show bf (bf (zl,k.lay (bn.refl _) rfl))
  .rw[decide_eq_false E];show be (_,Y,_,_,Y,Y,_,Y,?_);by_cases G:(300:Int)<n
   .rw[ifp (.inr G)]at k;rw[decide_eq_true G];show bf (zl,k.lay (bn.refl _) rfl)
   .rw[ifn (λz=>z.elim E G)]at k;rw[decide_eq_false G];let en:n=((n.toNat:Nat):Int):=(WF ⋯).symm;show be (_,Y,I,_,D,_,_,Y,A.obj,T.aK,T.bi,Y,_,Y,I,_,D,_,_,Y,A.obj,T.aK,T.aT,Y,_,Y,
     pr,pm,pl,ls,s.program.names,s.program.body,st,pn,pc,y,n.toNat,by rw[<-en];rfl,⋯,A.prog,SR,λH1 r1 A1 s1 V f1 f2 R1 t1 t2 t3 t4=>?_)
    show(_,Y,I,_,D,_,_,Y,V _ _ A.obj,T.aK,T.bi,Y,pr,_,dp,_,_,Y,V _ _ op,T.cM,T.bV,Y,
     r1,pm,A1,s.program.names,_,s1,_,Y,R1,t3,A.prog.few,V _ _ A.prog.nml,?_)
    rw[t1,t2];show k.on V
def Cg(T:TX K U a):cf P w K U W cH 8 a.oG ["self"] [] (Ix a λs=>X6 s λx=>adb (acr s.program x)):=by
 let G:=nX T;show T.F1.o2 ["self"] λvs H Q ab h=>?_
 let(E,s,rfl,(D,Z,V,pl,O,sv,A),k):=h;show(Y,λnd an A' ap s0 I=>?_);show(_,ag (am (bg (pv 0) T.aK T.pP G I aq (aa (pg T.dR) af))),?_);show(_,Y,E,D,_,Y,A.obj,Y,E,s,300,Y,(D,Z,V,pl,O,sv,A),?_);let e:oS s 300=X6 s λx=>adb (acr s.program x):=by
  unfold oS
  congr 1
 rw[e];show k
def sX(T:TX K U a):cf P w K U W cH 7 a.iF ["self"] [] (Ix a qM):=by
 let GR:=kL T;show T.vx.o2 ["self","run"] λvs H Q ab h=>?_
 let(O,s,rfl,(I,pr,pm,pl,ls,sv,A),k):=h;show(Y,λnd an A' ap s0 hr=>?_);show(_,ac (aJ (au io (ai (pv 0) rfl) cZ (aB _)) (ag (am (aS (aa (pg T.fj) af)))) ay)
  (ac (aA (i:=1) nd rfl (UT rfl) (aX GR T.jc hr aq (aa (ai (pv 0) rfl) (aa (ai (pv 0) rfl) (aa (pg T.dR) af)))))
  (ag (am (bI lC (aS (aa aF (aa (bI N_ (aW aN (by rfl) T.cO U2 (aa (ai (pv 1) rfl) af)) aF) af))) (ai (pv 1) rfl))))),?_)
 iterate 3 skip
 show(_,Y,O,_,I,_,_,Y,A.obj,T.aK,T.aT,Y,Y,_,Y,?_);unfold qM at k;cases E:s.store with
 |none=>
  rw[lF E]at k;rw[A.none E];show bf (zl,k.lay (bn.refl _) rfl)
 |some y=>
  rw[lE E]at k;let(st,pn,pc,e,SR):=A.some E;subst e;show be (_,Y,O,_,I,_,_,Y,A.obj,T.aK,T.bi,Y,_,Y,O,_,I,_,_,Y,A.obj,T.aK,T.aT,Y,
   pr,pm,pl,ls,s.program.names,s.program.body,st,pn,pc,y,300,Y,(),A.prog,SR,λH1 r1 A1 G x1 f1 f2 D t1 t2 t3 t4=>?_)
  let(d1,w1,o1,_):=D.obj;let hm:=D.most;let hf:=D.few;show(_,Y,r1,_,d1,_,_,Y,o1,T.aH,T.fq,Y,A1.pt,_,Y,.inl (bx.of D.tch),_,_,Y,Y,((),()),zl,λp2 h2=>?_);change(Bo K (bJ 1) "touched") _ (aw H1 p2 (.lst [V.int 0,V.int (((↑(eO G.touched):Nat):Int)/2)])) _;rw[Ag,show((2*↑G.touched:Nat):Int)/2=((↑G.touched:Nat):Int) by lia];let Z:=aC (o:=.lst [V.int 0,V.int ((↑G.touched:Nat):Int)]) h2;show(_,Y,r1,_,d1,_,_,Y,Z _ _ o1,T.aH,T.fq,Y,p2,A1.pt,_,_,Y,Y,ae,Z _ _ D.tch,by rw[Ag,Ux];change 2+_<=_;lia,k.lay (x1.trans Z) ?_);rw[t4,Jq,Uq]
  rfl
def Mn(h:jJ I s):↑(aah s)<=12:=by
 have:=dM h.up h.bd;unfold aah;show Vm (WK _ _) (by rw[Uq];show this)
def zm(T:TX K U a):cf P w K U W cH 2 a.mi ["self"] [] (Ix a DC):=by
 let GL:=rq T;show T.Dv.o2 ["self","lost"] λvs H Q ab h=>?_
 let(Z,s,rfl,(G,pr,pm,pl,ls,sv,A),k):=h;show(Y,λnd an A' ap s0 hr=>?_);show(_,ac (aJ (au io (ai (pv 0) rfl) cZ (aB _)) (ag (am (aS (aa (pg T.fj) af)))) ay)
  (ac (aA (i:=1) nd rfl (UT rfl) (aX GL T.tG hr aq (aa (ai (pv 0) rfl) af)))
  (ag (am (bI lC (aS (aa aF (aa (aW aN (by rfl) T.cO U2 (aa (pv 1) af)) af))) (pv 1))))),?_)
 iterate 3 skip
 show(_,Y,Z,_,G,_,_,Y,A.obj,T.aK,T.aT,Y,Y,_,Y,?_);unfold DC at k;cases D:s.store with
 |none=>
  rw[lF D]at k;rw[A.none D];show bf (zl,k.lay (bn.refl _) rfl)
 |some y=>
  rw[lE D]at k;let(st,pn,pc,e,E):=A.some D;subst e;let hl:=Mn E.ok;let O:↑((ZA (aah y)).map V.int)=↑(aah y):=by unfold ZA;rw[Uq,Uq]
  show be (_,Y,Z,_,G,_,_,Y,A.obj,T.aK,T.aT,Y,st,pn,pc,s.program.names,y,Y,E,A.prog.nm,λH1 p1 x1 f1 I=>?_);show(_,Y,p1,_,Y,.inl (bx.of I),zl,λp2 h2=>?_);rw[O];let x2:=aC (o:=.lst [V.int 0,V.int ((↑(aah y):Nat):Int)]) h2;show(_,Y,p2,p1,_,_,Y,Y,ae,x2 _ _ I,by rw[O,Ux];change 2+_<=_;lia,k.lay (x1.trans x2) ?_)
  rfl
end
end
section
open HM (flat)
def ql:ck "store" v (vS pr sv)=vS pr v:=rfl
def JV:ck "program" (.ref D) (vS pr sv)=vS D sv:=rfl
section
variable {H H':Hp} {hp dx:Addr} {pr:Addr} {sv:V} {I:List (List Nat)}
def Fq(o:H hp=Up (.ins a.bo dx (vS pr sv)))(e:H b=Up (.ins C d ((f,v)::D)))(E:f≠Uy "program"):b≠hp:=λz=>by
 rw[z,o]at e;let e:=HO.ins.inj (UI e);let e:=(X_ e.2.2).1;show E (congrArg adU e).symm
def du.keepX(o:H hp=Up (.ins a.bo dx (vS pr sv)))(D:eh hp H H')(h:du a H x I l):du a H' x I l:=let(d,e):=h;(d,D _ _ e (Fq o e ()))
def gJ.keepX(o:H hp=Up (.ins a.bo dx (vS pr sv)))(D:eh hp H H')(h:gJ a H O G pl E I L):gJ a H' O G pl E I L:=by
 let(d,e):=h.obj;show((d,D _ _ e (Fq o e ())),D _ _ h.nml (aV h.nml o (by intro z;cases z)),D _ _ h.lst (aV h.lst o (by intro z;cases z)),(h.lines.1,λi y l Z h2=>(h.lines.2 i y l Z h2).keepX o D),h.nm,h.lok,h.few)
def bv.keepX{st pn G:Uw}(o:H hp=Up (.ins a.bo dx (vS pr sv)))(D:eh hp H H')(h:bv a H st pn G I s):bv a H' st pn G I s:=by
 let(d,e):=h.obj;let(Z,E,O):=h.cel;show((d,D _ _ e (Fq o e ())),D _ _ h.num (aV h.num o (by intro z;cases z)),(Z,D _ _ E (aV E o (by intro z;cases z)),O.keep λb xs q=>D _ _ q (aV q o (by intro z;cases z))),h.ok)
def kY:eh hp H (aw H hp o):=λb u e D=>by rw[ah D];show e
def bn.transX(x:bn H D)(y:eh hp D E):eh hp H E:=λb o e G=>y _ _ (x _ _ e) G
def eh.trans(x:eh hp H D)(y:bn D E):eh hp H E:=λb o e G=>y _ _ (x _ _ e G)
def yy.newX{r:List Int}(k:yy a H hp (s,r) Q)(x:eh hp H H')(h:cA a H' hp s)(sp:∀g,DJ a H hp g->(∃o,H g=Up o)->DJ a H' hp g):js H' (r.map V.int) Q:=λE p D f e=>by
 show k E p (x.trans D) ?_ e (h.ext D) λg G O=>(sp g G O).ext D
 cases q:H p with
 |none=>rfl
 |some o=>
  by_cases z:p=hp
  .let(_,_,_,_,_,_,A):=h;rw[z,A.obj]at f;cases f
  .rw[x _ _ q z]at f;cases f
end
section
inductive Tb(a:Ad)(c:Vasepa.Call)(d:List V)(H:Hp)(Q:VK)(e:XK):Prop|mk(b s:_)(_:d=[.ref b])(_:cA a H b s)(_:yy a H b (Vasepa.step s c) Q)
inductive OT(a:Ad)(c:List Int->Vasepa.Call)(e:List V)(H:Hp)(Q:VK)(f:XK):Prop|mk(b s l d:_)(_:e=[.ref b,.ref l])(_:cA a H b s)(_:H l=some (.lst (d.map V.int)))(_:d.length<=5000)(_:yy a H b (Vasepa.step s (c d)) Q)
def EL(T:TX K U a):cf P w K U W cH 7 a.qF ["self"] [] (Tb a .goOn):=by
 let GR:=kL T;let GA:=pL T;show T.Ii.o2 ["self","run"] λvs H Q a2 h=>?_
 let(hp,s,rfl,(dx,pr,pm,pl,ls,sv,A),k):=h;show(Y,λnd a3 A' a4 s0 hr=>?_);let av:Room 3 _:=hr.mono ();show(_,ac (aJ (au io (ai (pv 0) rfl) cZ (aB _)) (ag (am (aS (aa (pg T.fj) af)))) ay)
  (ac (aA (i:=1) nd rfl (UT rfl) (aX GR T.jc hr aq (aa (ai (pv 0) rfl) (aa (ai (pv 0) rfl) (aa (pg T.dR) af)))))
  (ac (br (pv 0) (ai (pv 1) rfl) rfl)
  (ag (am (aX GA T.rR av aq (aa (pv 1) (aa (ai (ai (pv 0) rfl) rfl) af))))))),?_)
 iterate 4 skip
 show(_,Y,hp,_,dx,_,_,Y,A.obj,T.aK,T.aT,Y,Y,_,Y,?_);cases hs:s.store with
 |none=>
  let e:XO s .goOn=(Prod.mk (s) ([-6])):=by change(match s.store with|none=>(Prod.mk (s) ([-6]))|some x=>_)=_;rw[hs]
  rw[e]at k;rw[A.none hs];show bf (zl,(k.newL (dx,pr,pm,pl,ls,sv,A)).lay (bn.refl _) rfl)
 |some y=>
  let e:XO s .goOn=(Prod.mk ({s with store:=Up (acr s.program y).store}) (adb (acr s.program y))):=by change(match s.store with|none=>(Prod.mk (s) ([-6]))|some x=>_)=_;rw[hs]
  rw[e]at k;let(st,pn,pc,e,SR):=A.some hs;subst e;let(dp,op):=A.prog.obj;show be (_,Y,hp,_,dx,_,_,Y,A.obj,T.aK,T.bi,Y,_,Y,hp,_,dx,_,_,Y,A.obj,T.aK,T.aT,Y,
   pr,pm,pl,ls,s.program.names,s.program.body,st,pn,pc,y,300,Y,(),A.prog,SR,λZ r1 E s1 x1 f1 f2 D t1 t2 t3 t4=>?_)
  let(d1,w1,o1,ap,a0,a1):=D.obj;let G:=A.ext x1;show(_,Y,r1,_,d1,_,_,Y,o1,T.aH,T.bc,Y,_,Y,hp,_,dx,_,Y,G.obj,T.aK,T.aT,zk,?_);let O:eh hp Z (aw Z hp (.ins a.bo dx (vS pr (.ref E.st)))):=kY;let ab:(aw Z hp (.ins a.bo dx (vS pr (.ref E.st)))) hp=Up (.ins a.bo dx (vS pr (.ref E.st))):=ae;rw[ql];generalize aw Z hp (.ins a.bo dx (vS pr (.ref E.st)))=H2 at O ab;let ar:=G.prog.keepX G.obj O;let nr:∀b o,Z b=Up o->(∀C d fs,o≠.ins C d fs)->H2 b=Up o:=λb o e h=>O _ _ e (aV e G.obj (h _ _ _))
  let R2:b9 a H2 r1 E s.program.names (flat 0 s.program.body) s1:=((d1,w1,O _ _ o1 (Fq G.obj o1 ()),O _ _ ap (aV ap G.obj (by intro z;cases z)),a0,a1),O _ _ D.lst (aV D.lst G.obj (by intro z;cases z)),
   (D.lines.1,λi z l h1 h2=>(D.lines.2 i z l h1 h2).keepX G.obj O),D.store.keepX G.obj O,O _ _ D.tch (aV D.tch G.obj (by intro z;cases z)),D.nm,D.lok,D.few,D.most,D.pt_pl,D.pn_pc)
  show(_,Y,_,Y,hp,_,dx,_,_,Y,ab,T.aK,T.bi,Y,pr,_,dp,_,_,Y,O _ _ (x1 _ _ op) (Fq G.obj (x1 _ _ op) ()),T.cM,T.bV,Y,
   r1,pm,E,s.program.names,_,s1,_,Y,R2,t3,A.prog.few,ar.nml,?_)
  rw[t1,t2];let an:HA a H2 hp {s with store:=Up (acr s.program y).store} dx pr pm pl ls (.ref E.st):=(ab,ar,A.dep,(E.st,E.pn,E.pc,Y,?_));show k.newX (x1.transX O) (dx,pr,pm,pl,ls,_,an) λg q _=>an.mkSep (A.sep q)
  change bv a H2 E.st E.pn E.pc s.program.names (acr s.program y).store;rw[show(acr s.program y).store=s1.store from t1.symm];show R2.store
def tY(s:Ya)(l:List Int):List Int:=X6 s λx=>acW s x l
def uY(T:TX K U a):cf P w K U W cH 8 a.jn ["self","told"] [] (wx a tY):=by
 let GC:=pM T;let GH:=nS T;let GK:=B_ T;show T.yl.o2 ["self","told","cells"] λvs H Q av h=>?_
 let(hp,s,l,ns,rfl,(dx,pr,pm,pl,ls,sv,A),hl,hz,k):=h;show(Y,λnd a0 A' a2 s0 hr=>?_);let ap:Room 1 _:=hr.mono ();let ar:Room 2 _:=hr.mono ();show(_,ac (aJ (au io (ai (pv 0) rfl) cZ (aB _)) (ag (am (aS (aa (pg T.fj) af)))) ay)
  (ac (aA (i:=2) nd rfl (UT rfl) (aX GC T.rV ar aq (aa (pv 1) af)))
  (ac (aJ (au io (pv 2) cZ (aB _)) (ag (am (aS (aa (pg T.jw) af)))) ay)
  (ac (aJ (cB (aX GH T.pU ap aq (aa (ai (pv 0) rfl) (aa (pv 2) af)))) (ag (am (aS (aa (pg T.uE) af)))) ay)
  (ag (am (aS (aa (gy (cB (aX GK T.Fw hr aq (aa (ai (pv 0) rfl) (aa (ai (pv 0) rfl) (aa (pv 2) af))))) aF aF) af))))))),?_)
 iterate 5 skip
 show(_,Y,hp,_,dx,_,_,Y,A.obj,T.aK,T.aT,Y,Y,_,Y,?_);unfold tY at k;cases G:s.store with
 |none=>
  rw[lF G]at k;rw[A.none G];show bf (zl,k.lay (bn.refl _) rfl)
 |some y=>
  rw[lE G]at k;let(st,pn,pc,e,O):=A.some G;subst e;unfold acW at k;show be (_,Y,l,ns,Y,bx.of hl,⋯,?_);cases hc:W3 0 ns with
  |none=>
   rw[hc]at k;intro H1 E;show(_,Y,Y,_,Y,bf (zl,k.lay E rfl))
  |some h=>
   rw[hc]at k;intro H1 q Z E f1 e1 C1 o1;let(up,bd,_):=HM.cellsFrom_ok _ _ _ _ (UD _) hc;let M1:qP H1 q Z h:=(e1,C1,o1,up,bd);let(a1,e0,_):=O.cel;let an:pc≠q:=ak e0 f1;show(_,Y,Y,_,Y,be (_,Y,hp,_,dx,_,_,Y,E _ _ A.obj,T.aK,T.aT,Y,_,Y,st,pn,pc,s.program.names,y,q,Z,h,Y,O.ext E,M1,an,λH2 x2=>(_,Y,?_)));let D:=E.trans x2;let k:js H ((if abO y.heap h=UB then [if acd s.program y h=UB then 1 else 0]else [-5]).map V.int) Q:=k;cases ha:abO y.heap h with
   |false=>
    rw[ha,ifn Ur]at k;show bf (zl,k.lay D rfl)
   |true=>
    rw[ha,ifp rfl]at k;show be (_,Y,hp,_,dx,_,_,Y,D _ _ A.obj,T.aK,T.bi,Y,_,Y,hp,_,dx,_,_,Y,D _ _ A.obj,T.aK,T.aT,Y,_,Y,
     pr,pm,pl,ls,s.program.names,s.program.body,st,pn,pc,y,q,Z,h,Y,A.prog.ext D,O.ext D,M1.ext x2,λH3 x3=>(_,Y,?_))
    let ab:=D.trans x3;cases hb:acd s.program y h with
    |true=>
     rw[hb,ifp rfl]at k;show bf (zl,k.lay ab rfl)
    |false=>
     rw[hb,ifn Ur]at k;show be (zl,k.lay ab rfl)
def qN(s:Ya)(r:List Int):List Int:=X6 s λx=>if r.any (λi=>decide (i<0))||!adi (r.map VY)then [-12]else [if Z2 s.program x (r.map VY)then 1 else 0]
def sY(T:TX K U a):cf P w K U W cH 8 a.iG ["self","row"] [] (wx a qN):=by
 let GI:=JY T;let GK:=zi T;show T.vy.o2 ["self","row"] λvs H Q ar h=>?_
 let(hp,s,l,D,rfl,(dx,pr,pm,pl,ls,sv,A),Z,hz,k):=h;show(Y,λnd av A' a0 s0 hr=>?_);let an:Room 1 _:=hr.mono ();show(_,ac (aJ (au io (ai (pv 0) rfl) cZ (aB _)) (ag (am (aS (aa (pg T.fj) af)))) ay)
  (ac (aJ (i6 (cB (aX GI T.MF an aq (aa (pv 1) af)))) (ag (am (aS (aa (pg T.K9) af)))) ay)
  (ag (am (aS (aa (gy (cB (aX GK T.C0 hr aq (aa (ai (pv 0) rfl) (aa (ai (pv 0) rfl) (aa (pv 1) af))))) aF aF) af))))),?_)
 iterate 3 skip
 show(_,Y,hp,_,dx,_,_,Y,A.obj,T.aK,T.aT,Y,Y,_,Y,?_);unfold qN at k;cases O:s.store with
 |none=>
  rw[lF O]at k;rw[A.none O];show bf (zl,k.lay (bn.refl _) rfl)
 |some y=>
  rw[lE O]at k;let(st,pn,pc,e,SR):=A.some O;subst e;show be (_,Y,l,D,Y,bx.of Z,λH1 E=>(_,Y,?_));let ap:(D.any (λi=>decide (i<0))||!adi (D.map VY))=!BY D:=by unfold BY;rw[Bool.not_not]
  rw[ap]at k;change if(!BY D)=true then _ else _
  cases G:BY D with
  |false=>
   rw[G]at k;show bf (zl,k.lay E rfl)
  |true=>
   rw[G]at k;let(RO,hV):=Qk G;rw[hV]at Z;let k:js H ([if Z2 s.program y (D.map VY)=true then 1 else 0].map V.int) Q:=k;show be (_,Y,hp,_,dx,_,_,Y,E _ _ A.obj,T.aK,T.bi,Y,_,Y,hp,_,dx,_,_,Y,E _ _ A.obj,T.aK,T.aT,Y,_,Y,
    pr,pm,pl,ls,s.program.names,s.program.body,st,pn,pc,y,l,_,Y,A.prog.ext E,SR.ext E,E _ _ Z,RO,λH3 x3=>(_,Y,?_))
   let ab:=E.trans x3;cases G:Z2 s.program y (D.map VY)with
   |true=>
    rw[G,ifp rfl]at k;show bf (zl,k.lay ab rfl)
   |false=>
    rw[G,ifn Ur]at k;show be (zl,k.lay ab rfl)
end
end
section
open Vasepa (leftRow)
def Ij{x V Z:Uw}(R:fU a H x V Z G ps I A)(N:bj I):↑(Xg I A)<=1000:=by
 let ab:∀t∈A.plains.map (Xe I),↑t<=60:=λt E=>by
  let(c,D,rfl):=U6.mp E;show FK N (R.cok c D)
 let an:∀t∈A.pieces.map (Yv I),↑t<=60:=λt E=>by
  let(c,D,rfl):=U6.mp E;show An N (R.pok c D)
 let O:=eV (sep:=Uz " and ") ab;let h2:=eV (sep:=Uz " * ") an;rw[Uq,show↑(Uz " and ")=5 by decide]at O;rw[Uq,show↑(Uz " * ")=3 by decide]at h2;let f:=R.few;let e1:↑(if A.plains.isEmpty=UB then []else Xp (Uz " and ") (A.plains.map (Xe I))++Uz " : ")<=393:=by
  split
  .change 0<=393;decide
  .rw[Us,show↑(Uz " : ")=3 by decide];lia
 let e2:↑(if A.pieces.isEmpty=UB then Uz "emp" else Xp (Uz " * ") (A.pieces.map (Yv I)))<=393:=by
  split
  .decide
  .omega
 unfold Xg;rw[Us];lia
section
def yq(s:Ya)(t:List Int):List Int:=X6 s λx=>Zg s t λa=>[if ZI a x then 1 else 0]
def DE(s:Ya)(t:List Int):List Int:=Zg s t λa=>0::ZA (Xg s.program.names a)
def DD(s:Ya)(t:List Int):List Int:=X6 s λx=>Zg s t λa=>leftRow x a
def Ci{r:List Int}(h:r≠[]):(!r.isEmpty)=UB:=by cases r with|nil=>show absurd rfl h|cons _ _=>rfl
def w_(T:TX K U a):cf P w K U W cH 12 a.kg ["self","text"] [] (wx a yq):=by
 let GT:=gz T;let GI:=L8 T;show T.z4.o2 ["self","text","told"] λvs H Q av h=>?_
 let(Z,s,l,ns,rfl,(O,pr,pm,pl,ls,sv,A),hl,hz,k):=h;show(Y,λnd a0 A' a1 s0 hr=>?_);let ap:Room 6 _:=hr.mono ();show(_,ac (aJ (au io (ai (pv 0) rfl) cZ (aB _)) (ag (am (aS (aa (pg T.fj) af)))) ay)
  (ac (aA (i:=2) nd rfl (UT rfl) (aX GT T.gV hr aq (aa (pv 1) (aa (ai (ai (pv 0) rfl) rfl) af))))
  (ac (aJ (au (jQ hr.units) (ai (pv 2) rfl) (aS af) (aB _)) (ag (am (ai (pv 2) rfl))) ay)
  (ag (am (aS (aa (gy (cB (aX GI T.OA ap aq (aa (ai (pv 0) rfl) (aa (ai (pv 2) rfl) af)))) aF aF) af)))))),?_)
 iterate 4 skip
 show(_,Y,Z,_,O,_,_,Y,A.obj,T.aK,T.aT,Y,Y,_,Y,?_);unfold yq at k;cases I:s.store with
 |none=>
  rw[lF I]at k;rw[A.none I];show bf (zl,k.lay (bn.refl _) rfl)
 |some y=>
  rw[lE I,sN]at k;let(st,pn,pc,e,SR):=A.some I;subst e;let(dp,op):=A.prog.obj;show be (_,Y,_,Y,Z,_,O,_,_,Y,A.obj,T.aK,T.bi,Y,pr,_,dp,_,_,Y,op,T.cM,T.bV,Y,l,pm,ns,s.program.names,Y,bx.of hl,⋯,A.prog.nml,?_);cases ht:mC s.program.names ns with
  |error r=>
   rw[ht]at k;intro H1 x d p x1 f1 E G;show(_,Y,x,_,d,_,_,Y,E,T.ba,T.a7,Y,zl,λp2 h2=>?_);let D:=aC (o:=.lst []) h2;show(_,_,fG (bx.of (D _ _ G)),jq ae,eF _,Y,_,Y,?_);rw[rW];show dq (Ci (wl ht)) (_,Y,x,_,d,_,_,Y,D _ _ E,T.ba,T.a7,Y,k _ p (x1.trans D) f1 (D _ _ G))
  |ok B=>
   rw[ht]at k;intro H1 x d p z ar pp cs ps x1 E G AA;show(_,Y,x,_,d,_,_,Y,E,T.ba,T.a7,Y,zl,λp2 h2=>?_);let D:=aC (o:=.lst []) h2;let ab:=x1.trans D;show(_,_,jq (D _ _ G),jq ae,Y,Y,_,Y,be ?_);show(_,Y,Z,_,O,_,_,Y,ab _ _ A.obj,T.aK,T.aT,Y,_,Y,x,_,d,_,_,Y,D _ _ E,T.ba,T.bL,Y,
    z,ar,pp,cs,ps,s.program.names,B,st,pn,pc,y,Y,AA.ext D,SR.ext ab,A.prog.nm,λH3 x3=>(_,Y,?_))
   let an:=ab.trans x3;let k:js H ([if ZI B y=UB then 1 else 0].map V.int) Q:=k;cases hb:ZI B y with
   |true=>
    rw[hb,ifp rfl]at k;show bf (zl,k.lay an rfl)
   |false=>
    rw[hb,ifn Ur]at k;show be (zl,k.lay an rfl)
def zr(T:TX K U a):cf P w K U W cH 12 a.mo ["self","text"] [] (wx a DE):=by
 let GT:=gz T;let GF:=rA T;show T.DA.o2 ["self","text","told"] λvs H Q ar h=>?_
 let(hp,s,l,ns,rfl,(dx,pr,pm,pl,ls,sv,A),hl,hz,k):=h;show(Y,λnd av A' a1 s0 I=>?_);let ab:Room 2 _:=I.mono ();show(_,ac (aA (i:=2) nd rfl (UT rfl) (aX GT T.gV I aq (aa (pv 1) (aa (ai (ai (pv 0) rfl) rfl) af))))
  (ac (aJ (au (jQ I.units) (ai (pv 2) rfl) (aS af) (aB _)) (ag (am (ai (pv 2) rfl))) ay)
  (ag (am (bI lC (aS (aa aF af)) (aX GF T.tH ab aq (aa (ai (pv 2) rfl) af)))))),?_)
 iterate 3 skip
 unfold DE at k;rw[sN]at k;let(dp,op):=A.prog.obj;show(_,Y,_,Y,hp,_,dx,_,_,Y,A.obj,T.aK,T.bi,Y,pr,_,dp,_,_,Y,op,T.cM,T.bV,Y,l,pm,ns,s.program.names,Y,bx.of hl,⋯,A.prog.nml,?_);cases O:mC s.program.names ns with
 |error r=>
  rw[O]at k;intro H1 x d p Z f1 E G;show(_,Y,x,_,d,_,_,Y,E,T.ba,T.a7,Y,zl,λp2 h2=>?_);let D:=aC (o:=.lst []) h2;show(_,_,fG (bx.of (D _ _ G)),jq ae,eF _,Y,_,Y,?_);rw[rW];show dq (Ci (wl O)) (_,Y,x,_,d,_,_,Y,D _ _ E,T.ba,T.a7,Y,k _ p (Z.trans D) f1 (D _ _ G))
 |ok B=>
  rw[O]at k;intro H1 x d p z an pp cs ps Z E G AA;show(_,Y,x,_,d,_,_,Y,E,T.ba,T.a7,Y,zl,λp2 h2=>?_);let D:=aC (o:=.lst []) h2;let ap:=Z.trans D;show(_,_,jq (D _ _ G),jq ae,Y,Y,_,Y,be ?_);show(zl,λp3 h3=>?_);let x3:=aC (o:=.lst [V.int 0]) h3;let a0:=Ij AA A.prog.nm;show(_,Y,x,_,d,_,_,Y,x3 _ _ (D _ _ E),T.ba,T.bL,Y,z,an,pp,cs,ps,s.program.names,B,Y,AA.ext (bn.trans D x3),A.prog.nm,λH4 p4 x4 f4 e4=>?_);show(p3,p4,_,_,Y,Y,x4 _ _ ae,e4,by rw[Uq,Ux];change 1+_<=_;lia,k.lay (ap.trans (bn.trans x3 x4)) ?_);change V.int 0::_=V.int 0::_;unfold ZA;rw[VA]
  rfl
def zo(T:TX K U a):cf P w K U W cH 12 a.mm ["self","text"] [] (wx a DD):=by
 let GT:=gz T;let GK:=rn T;let GC:=gj T;let GH:=nR T;show T.Dy.o2 ["self","text","told","taking"] λvs H Q a2 h=>?_
 let(hp,s,l,ns,rfl,(O,pr,pm,pl,ls,sv,A),hl,hz,k):=h;show(Y,λnd a3 A' a5 s0 I=>?_);let av:Room 1 _:=I.mono ();let a0:Room 3 _:=I.mono ();let a1:Room 5 _:=I.mono ();show(_,ac (aJ (au io (ai (pv 0) rfl) cZ (aB _)) (ag (am (aS (aa (pg T.fj) af)))) ay)
  (ac (aA (i:=2) nd rfl (UT rfl) (aX GT T.gV I aq (aa (pv 1) (aa (ai (ai (pv 0) rfl) rfl) af))))
  (ac (aJ (au (jQ I.units) (ai (pv 2) rfl) (aS af) (aB _)) (ag (am (ai (pv 2) rfl))) ay)
  (ac (aA (i:=3) nd rfl (UT rfl) (aX GK T.uA a1 aq (aa (ai (pv 2) rfl) (aa (ai (pv 0) rfl) af))))
  (ag (am (bI lC (aS (aa aF (aa (aX GC T.gD a0 aq (aa (ai (pv 2) rfl) (aa (ai (pv 0) rfl) af))) (aa (ai (pv 3) rfl) af))))
   (aX GH T.pT av aq (aa (ai (pv 3) rfl) af)))))))),?_)
 iterate 5 skip
 show(_,Y,hp,_,O,_,_,Y,A.obj,T.aK,T.aT,Y,Y,_,Y,?_);unfold DD at k;cases hs:s.store with
 |none=>
  rw[lF hs]at k;rw[A.none hs];show bf (zl,k.lay (bn.refl _) rfl)
 |some y=>
  rw[lE hs,sN]at k;let(st,pn,pc,e,SR):=A.some hs;subst e;let(dp,op):=A.prog.obj;show be (_,Y,_,Y,hp,_,O,_,_,Y,A.obj,T.aK,T.bi,Y,pr,_,dp,_,_,Y,op,T.cM,T.bV,Y,l,pm,ns,s.program.names,Y,bx.of hl,⋯,A.prog.nml,?_);cases ht:mC s.program.names ns with
  |error r=>
   rw[ht]at k;intro H1 x d p x1 f1 G e1;show(_,Y,x,_,d,_,_,Y,G,T.ba,T.a7,Y,zl,λp2 h2=>?_);let D:=aC (o:=.lst []) h2;show(_,_,fG (bx.of (D _ _ e1)),jq ae,eF _,Y,_,Y,?_);rw[rW];show dq (Ci (wl ht)) (_,Y,x,_,d,_,_,Y,D _ _ G,T.ba,T.a7,Y,k _ p (x1.trans D) f1 (D _ _ e1))
  |ok B=>
   rw[ht]at k;intro H1 x d p z ap pp cs ps x1 G e1 AA;show(_,Y,x,_,d,_,_,Y,G,T.ba,T.a7,Y,zl,λp2 h2=>?_);let D:=aC (o:=.lst []) h2;let ab:=x1.trans D;show(_,_,jq (D _ _ e1),jq ae,Y,Y,_,Y,be ?_);show(_,Y,x,_,d,_,_,Y,D _ _ G,T.ba,T.bL,Y,_,Y,hp,_,O,_,_,Y,ab _ _ A.obj,T.aK,T.aT,Y,
    z,ap,pp,cs,ps,s.program.names,B,st,pn,pc,y,Y,AA.ext D,SR.ext ab,A.prog.nm,λH3 t dt pd Z x3 f3 o3 E=>?_)
   let an:=ab.trans x3;let ar:=bn.trans D x3;show(_,Y,x,_,d,_,_,Y,ar _ _ G,T.ba,T.bL,Y,_,Y,hp,_,O,_,_,Y,an _ _ A.obj,T.aK,T.aT,Y,
    z,ap,pp,cs,ps,s.program.names,B,st,pn,pc,y,Y,AA.ext ar,SR.ext an,A.prog.nm,_,Y,t,_,dt,_,_,Y,o3,T.cz,T.dP,Y,zl,λp4 h4=>?_)
   let x4:=aC (o:=.lst [V.int 0,V.int (((B.plains.findIdx λc=>!WH y c):Nat):Int),V.int (((WI y 0 y.heap B.pieces).1:Nat):Int)]) h4;show(_,Y,t,_,dt,_,_,Y,x4 _ _ o3,T.cz,T.e_,Y,pd,Z,_,Y,x4 _ _ E.at_,E.cel.keep λb xs e=>x4 _ _ e,E.up,E.bd,λH5 p5 x5 f5 e5=>?_);let a4:=lQ E.up E.bd;show(p4,p5,_,_,Y,Y,x5 _ _ ae,e5,by rw[Uq,Ux];change 3+_<=_;lia,k.lay (an.trans (bn.trans x4 x5)) ?_)
   rfl
end
end
section
open Vasepa (faultRow)
def Mo(h:px D≠[]):XO s (.load D)=(Prod.mk (s) (px D)):=by
 change(if Zv D then(Prod.mk (s) ([-1]))else if Wk<↑D then(Prod.mk (s) ([-2]))else _)=_;unfold px at*;split
 .rfl
 .split
  .rfl
  .rename_i E h2;rw[ifn E,ifn h2]at h;show absurd rfl h
def Ke{D:List Int}(h:px D=[]):XO s (.load D)=match YM (D.map VY)with
  |.error f=>(Prod.mk (s) (faultRow 1 f))
  |.ok p=>(Prod.mk ({program:=p,store:=UH}) (0::ZA [↑p.names])):=by
 let(E,h2):=vE h;change(if Zv D then(Prod.mk (s) ([-1]))else if Wk<↑D then(Prod.mk (s) ([-2]))else _)=_;rw[E,ifn Ur,ifn (show¬Wk<↑D from acl.mpr h2)];cases YM (D.map VY)<;>rfl
section
def zn(T:TX K U a):cf P w K U W cH 10 a.mj ["self","text"] [] (OT a .load):=by
 let GF:=mG T;let GR:=uT T;show T.Dx.o2 ["self","text","refusal","program","fault"] λvs H Q bd h=>?_
 let(E,s,l,ns,rfl,HH,hl,hz,k):=h;show(Y,λnd bk A' bm s0 hr=>?_);let(D,pr,pm,pl,ls,sv,A):=id HH;let a6:Room 1 _:=hr.mono ();show(_,ac (aA (i:=2) nd rfl (UT rfl) (aX GF T.oj a6 aq (aa (pv 1) af)))
  (ac (aJ (au (jQ hr.units) (pv 2) (aS af) (aB _)) (ag (am (pv 2))) ay)
  (ac (LV (i:=4) (ts:=mV (Np (bG (tC (.int 1)) (bG (D0 K (bJ 4) "kind") (bG (D0 K (bJ 4) "place") b8))))) rfl rfl rfl nd rfl rfl rfl T.dX T.bY
    (λEb pn xe hx=>ag (aA (i:=3) nd rfl (UT rfl) (aX GR T.xK hr (OX hx) (aa (pv 1) af))))
    (λpn ea=>ag (am (aS (aa aF (aa (vH (pv 4) rfl) (aa (vH (pv 4) rfl) af)))))))
  (ac (br (pv 0) (pv 3) rfl)
  (ac (br (pv 0) cZ rfl)
  (ag (am (aS (aa aF (aa (aW aN (by rfl) T.cO U2 (aa (ai (pv 3) rfl) af)) af))))))))),?_)
 iterate 6 skip
 show(_,Y,l,ns,Y,bx.of hl,⋯,λH1 p1 x1 f1 e1=>?_);show(_,Y,zl,λp2 h2=>?_);let x2:=aC (o:=.lst []) h2;show(_,_,fG (bx.of (x2 _ _ e1)),jq ae,eF _,Y,_,Y,?_);rw[rW];let Z:=x1.trans x2;by_cases V:px ns=[]
 .show bh (by rw[V];rfl) ?_;let(a3,a4):=vE V;let tk:=Ke (s:=s) V;show(_,Y,l,ns.map VY,Y,?_,by rw[Uq];show a4,λp ap O G ab a1 ar x3 f3 f4 f5 PA=>?_,λg hg=>?_)
  .rw[AS a3];show Z.seq (bx.of hl)
  .rw[ap]at tk;rw[tk]at k;let a2:=Z.trans x3;let A3:=A.ext a2;show(_,Y,_,Y,E,_,D,_,Y,A3.obj,T.aK,T.bi,zk,_,Y,E,_,D,_,Y,ae,T.aK,T.aT,zk,?_);rw[b_,JV,ql];let I:eh E O (aw O E (.ins a.bo D (vS G .non))):=kY;let a0:(aw O E (.ins a.bo D (vS G .non))) E=Up (.ins a.bo D (vS G .non)):=ae;generalize aw O E (.ins a.bo D (vS G .non))=H4 at I a0;let P4:=PA.keepX A3.obj I;let(dp,op):=P4.obj;show(_,Y,G,_,dp,_,_,Y,op,T.cM,T.bV,Y,ab,_,Y,.inl (bx.of P4.nml),zl,?_);rw[Uq];let an:HA a H4 E {program:=p,store:=UH} D G ab a1 ar .non:=(a0,P4,HM.dep_program ap,Y);let av:∀g b,(∃o,H g=Up o)->(aw H1 p2 (.lst [])) b=UH->b≠g:=λg b (o,e) h z=>by rw[z,Z _ _ e]at h;cases h
   show(k.newX (a2.transX I) (D,G,ab,a1,ar,.non,an) λg _ q=>an.mkSep (av g _ q f4,av g _ q f5)).lay (bn.refl _) rfl
  .rw[hg]at tk;rw[tk]at k;rintro bl d0 O ⟨rfl,d,f,rfl,ed,rfl,s3⟩;let x3:bn _ O:=λb o e=>s3 b o e (λz=>z)
   show(d,Y,Y,λea a5=>?_);let I:=aC (o:=OP ea a.dC d) a5;show(_,Y,ea,_,d,_,_,Y,ae,I _ _ ed,T.bY,T.gB,Y,_,Y,ea,_,d,_,_,Y,ae,I _ _ ed,T.bY,T.f8,Y,zl,(k.newL HH).lay (Z.trans (bn.trans x3 I)) rfl)
 .rw[Mo V]at k;show dq (Ci V) (_,Y,k.newL HH _ p1 Z f1 (x2 _ _ e1))
def uX(T:TX K U a):cf P w K U W cH 4 a.jm ["self","numbers"] [] (OT a .input):=by
 let GS:=zc T;show T.yk.o2 ["self","numbers","store"] λvs H Q ap h=>?_
 let(E,s,l,I,rfl,HH,hl,hz,k):=h;show(Y,λnd ar A' a0 s0 hr=>?_);let(D,G,pm,pl,ls,sv,A):=id HH;show(_,ac (aA (i:=2) nd rfl (UT rfl) (aX GS T.CU hr aq (aa (pv 1) (aa (ai (ai (pv 0) rfl) rfl) af))))
  (ac (aJ (au io (pv 2) cZ (aB _)) (ag (am (aS (aa (pg T.jw) af)))) ay)
  (ac (br (pv 0) (pv 2) rfl)
  (ag (am (aS (aa aF af)))))),?_)
 iterate 4 skip
 let(dp,op):=A.prog.obj;show(_,Y,_,Y,E,_,D,_,_,Y,A.obj,T.aK,T.bi,Y,G,_,dp,_,_,Y,op,T.cM,T.bV,Y,l,pm,I,s.program.names,Y,bx.of hl,⋯,A.prog.nml,A.prog.nm,?_);cases ht:acX s.program.names I with
 |none=>
  let e:XO s (.input I)=(Prod.mk (s) ([-4])):=by change(match acX s.program.names I with|none=>(Prod.mk (s) ([-4]))|some y=>_)=_;rw[ht]
  rw[e]at k;intro O Z;show(_,Y,Y,_,Y,bf (zl,(k.newL HH).lay Z rfl))
 |some y=>
  let e:XO s (.input I)=(Prod.mk ({s with store:=Up y}) ([0])):=by change(match acX s.program.names I with|none=>(Prod.mk (s) ([-4]))|some y=>_)=_;rw[ht]
  rw[e]at k;intro O st pn pc Z f1 av SR;let V:=A.ext Z;show(_,Y,Y,_,Y,be (_,Y,_,Y,E,_,D,_,Y,V.obj,T.aK,T.aT,zk,?_));rw[ql];let x4:eh E O (aw O E (.ins a.bo D (vS G (.ref st)))):=kY;let an:(aw O E (.ins a.bo D (vS G (.ref st)))) E=Up (.ins a.bo D (vS G (.ref st))):=ae;generalize aw O E (.ins a.bo D (vS G (.ref st)))=H4 at x4 an;let ab:HA a H4 E {s with store:=Up y} D G pm pl ls (.ref st):=(an,V.prog.keepX V.obj x4,A.dep,(st,pn,pc,Y,SR.keepX V.obj x4));show(zl,(k.newX (Z.transX x4) (D,G,pm,pl,ls,_,ab) λg q _=>ab.mkSep (A.sep q)).lay (bn.refl _) rfl)
inductive Ed(a:Ad)(b:List V)(H:Hp)(Q:VK)(d:XK):Prop|mk(p c:_)(_:b=[.ref p])(_:H p=some (.ins a.bo c []))(_:∀H',eh p H H'->cA a H' p Vasepa.start->Q .non H')
def zq(T:TX K U a):cf P w K U W cH 3 a.mn ["self"] [] (Ed a):=by
 let GP:=mI T;show T.Dz.o2 ["self"] λvs H Q ar h=>?_
 let(p,G,rfl,e,k):=h;show(Y,λnd av A' a1 s0 hr=>?_);show(_,ac (br (pv 0) (dS T.xh GP T.xI hr aq (aa (aS af) (aa (aS af) af))) rfl) (ag (br (pv 0) cZ rfl)),?_)
 iterate 2 skip
 show(zl,λD h1=>(zl,λE h2=>λx d hx hd a0=>(x,d,_,_,Y,ae,Y,?_)));let x1:=aC (o:=.lst []) h1;let x2:=aC (o:=.lst []) h2;let I:=bK (C:=a.bN) (o:=.ins a.bN d [("names",.ref D),("lines",.ref E)]) (o':=.ins a.bN d []) hx hd;let an:bn H _:=bn.trans x1 x2;let ab:bn H _:=bn.trans an I;let Z:(aw (aw (aw (aw (aw H D (.lst [])) E (.lst [])) d (.own x)) x (.ins a.bN d [])) x (.ins a.bN d [("names",.ref D),("lines",.ref E)])) D=Up (.lst []):=I _ _ (x2 _ _ ae);let e2:(aw (aw (aw (aw (aw H D (.lst [])) E (.lst [])) d (.own x)) x (.ins a.bN d [])) x (.ins a.bN d [("names",.ref D),("lines",.ref E)])) E=Up (.lst []):=I _ _ ae;let e3:(aw (aw (aw (aw (aw H D (.lst [])) E (.lst [])) d (.own x)) x (.ins a.bN d [])) x (.ins a.bN d [("names",.ref D),("lines",.ref E)])) x=Up (.ins a.bN d [("names",.ref D),("lines",.ref E)]):=ae;let ap:x≠p:=λz=>by rw[z,an _ _ e]at hx;cases hx
 generalize(aw (aw (aw (aw (aw H D (.lst [])) E (.lst [])) d (.own x)) x (.ins a.bN d [])) x (.ins a.bN d [("names",.ref D),("lines",.ref E)]))=H3 at I ab Z e2 e3⊢;let V:=ab _ _ e;show(_,Y,p,_,G,_,Y,V,T.aK,T.bi,zk,_,Y,p,_,G,_,Y,ae,T.aK,T.aT,zk,?_);rw[b_];let O:eh p H3 (aw H3 p (.ins a.bo G (vS x .non))):=kY;show k _ (ab.transX O) (G,x,D,E,[],.non,ae,((d,O _ _ e3 ap),O _ _ Z (aV Z V (by intro z;cases z)),O _ _ e2 (aV e2 V (by intro z;cases z)),(Y,(λi y l h=>nomatch h)),(abJ,(λx h=>nomatch h),(),(λx h=>nomatch h),(λx h=>nomatch h)),(λl h=>nomatch h),()),(),Y)
end
end
section
open HM (flat)
open Vasepa (State)
def Pf(D:Uw)(n:Nat):List (Vp×V):=[("numbers",.ref D),("at",.int (n:Nat))]
def Je.sq(h:Je K H l xs):bx K H l xs:=h.elim (λh=>.inl (.inr h)) .inr
def Je.ext(h:Je K H l xs)(x:bn H H'):Je K H' l xs:=h.elim (λ(o,h)=>.inl (o,x _ _ h)) .inr
def Je.keep{H H':Hp}(h:Je K H l xs)(x:∀o u,H l=Up (.frz o u)->H' l=Up (.frz o u)):Je K H' l xs:=h.elim (λ(o,h)=>.inl (o,x _ _ h)) .inr
structure fC (K:PySem.W.Frag) (a:Ad) (H:Hp) (row:Addr) (all:List Int) (n:Nat):Prop where
 ex:Q8 fun dx lc=>Um (H row=some (.ins a.bW dx (Pf lc n))) (Je K H lc (all.map V.int))
def xB{H:Hp}{D E:List (Vp×V)}(o:H r=Up (.ins C d D))(e:H b=Up (.ins G d' E))(h:D.map adU≠E.map adU):b≠r:=λz=>by
 rw[z,o]at e;show h (congrArg (·.map adU) (HO.ins.inj (UI e)).2.2)
def wp{H H':Hp}(h:Je K H l xs)(o:H r=Up (.ins C d D))(x:eh r H H'):Je K H' l xs:=h.keep λu v e=>x _ _ e (aV e o (by intro z;cases z))
def IE:ck "at" v (Pf D n)=([("numbers",.ref D),("at",v)]:List (Vp×V)):=rfl
section
variable {H H':Hp} {row hp:Addr} {all:List Int} {n:Nat} {s:State}
def fC.ext(R:fC K a H row all n)(x:bn H H'):fC K a H' row all n:=let(D,E,o,q):=R.ex;⟨(D,E,x _ _ o,q.ext x)⟩
def He(o:H hp=Up (.ins a.bo D (vS E G)))(R:fC K a H row all n):row≠hp:=by
 let(d,I,q,_):=R.ex;show xB o q (show [Uy "program",Uy "store"]≠[Uy "numbers",Uy "at"] by decide+kernel)
def fC.keepX(R:fC K a H row all n)(h:cA a H hp s)(x:eh hp H H'):fC K a H' row all n:=by
 let(G,V,O,pl,I,Z,A):=h;let E:=He A.obj R;let(d,D,o,q):=R.ex;show⟨(d,D,x _ _ o E,wp q A.obj x)⟩
def cA.keepR(h:cA a H hp s)(R:fC K a H row all n)(x:eh row H H'):cA a H' hp s:=by
 let(dx,V,O,pl,I,sv,A):=h;let ne:=He A.obj R;let(d,lc,o,q):=R.ex;let(dp,op):=A.prog.obj;let kp:gJ a H' V O pl I s.program.names (flat 0 s.program.body):=
  ((dp,x _ _ op (xB o op (show [Uy "numbers",Uy "at"]≠[Uy "names",Uy "lines"] by decide+kernel))),x _ _ A.prog.nml (aV A.prog.nml o (by intro z;cases z)),x _ _ A.prog.lst (aV A.prog.lst o (by intro z;cases z)),
   (A.prog.lines.1,λi y l h1 h2=>let(d2,D):=A.prog.lines.2 i y l h1 h2;(d2,x _ _ D (xB o D (λz=>absurd (show 2=5 from congrArg Xc z) ())))),A.prog.nm,A.prog.lok,A.prog.few)
 show(dx,V,O,pl,I,sv,x _ _ A.obj (λz=>ne z.symm),kp,A.dep,?_);let st:=A.st;revert st;cases s.store with
 |none=>show λz=>z
 |some y=>
  rintro⟨st,pn,pc,e,S⟩;let(d3,E):=S.obj;let(Z,G,hc):=S.cel;show(st,pn,pc,e,(d3,x _ _ E (xB o E (show [Uy "numbers",Uy "at"]≠[Uy "numbers",Uy "cells"] by decide+kernel))),x _ _ S.num (aV S.num o (by intro z;cases z)),(Z,x _ _ G (aV G o (by intro z;cases z)),hc.keep λb xs q=>x _ _ q (aV q o (by intro z;cases z))),S.ok)
def DJ.keepR(h:DJ a H hp g)(R:fC K a H row all n)(x:eh row H H'):DJ a H' hp g:=by
 let(I,Z,sv,G,V,pl,D,E,q):=h;let O:=He D R;let(d,lc,o,_):=R.ex;show(I,Z,sv,G,V,pl,x _ _ D (λz=>O z.symm),x _ _ E (xB o E (show [Uy "numbers",Uy "at"]≠[Uy "names",Uy "lines"] by decide+kernel)),q)
end
def tM{all r:List Int}(h:all.drop n=c::r):all[n]?=Up c/\all.drop (n+1)=r:=by
 let D:(all.drop n)[0]?=Up c:=by rw[h];rfl
 rw[WP,Wy]at D;show(D,?_);have:(all.drop n).drop 1=r:=by rw[h];rfl
 rw[V6]at this;show this
def OD{D:List Int}(E:i<=j)(h2:j<=↑D):rZ (D.map V.int) (Up (i:Int)) (Up (j:Int))=((D.drop i).take (j-i)).map V.int:=by
 unfold rZ;rw[HT.sIx_nat,HT.sIx_nat,Uq,WZ h2,WZ (Vm E h2),aaD,aaE]
section
inductive JE(a:Ad)(d:List V)(H:Hp)(Q:VK)(e:XK):Prop|mk(p b c:_)(_:d=[.ref p,.ref c])(_:H p=some (.ins a.bW b []))(_:Q .non (aw H p (.ins a.bW b (Pf c 0))))
def uZ(T:TX K U a):cf P w K U W cH 1 a.jp ["self","numbers"] [] (JE a):=by
 show T.yo.o2 ["self","numbers"] λvs H Q E h=>?_
 let(p,D,c,rfl,e,k):=h;show(Y,λO G A V Z I=>?_);show(_,ac (br (pv 0) (pv 1) rfl) (ag (br (pv 0) aF rfl)),?_)
 iterate 2 skip
 show(_,Y,_,Y,p,_,D,_,Y,e,T.bC,T.eT,zk,_,Y,p,_,D,_,Y,ae,T.bC,T.d8,zk,?_);rw[b_];show k
inductive Qa(K:PySem.W.Frag)(a:Ad)(d:List V)(H:Hp)(Q:VK)(e:XK):Prop|mk(b c n:_)(_:d=[.ref b])(_:fC K a H b c n)(_:Q (.bl (decide (n=c.length))) H)
def qt(T:TX K U a):cf P w K U W cH 1 a.gH ["self"] [] (Qa K a):=by
 show T.sh.o2 ["self"] λvs H Q G h=>?_
 let(row,all,n,rfl,(D,E,o,q),k):=h;show(Y,λZ I A ab s0 O=>?_);show(_,ag (am (dv bP (ai (pv 0) rfl) (aW aN (by rfl) T.cO U2 (aa (ai (pv 0) rfl) af)) (aB _))),?_);show(_,Y,row,_,D,_,_,Y,o,T.bC,T.d8,Y,_,Y,row,_,D,_,_,Y,o,T.bC,T.eT,Y,E,_,Y,.inl q.sq,Y,?_);rw[Uq];let e:decide (V.int ((n:Nat):Int)=V.int ((↑all:Nat):Int))=decide (n=↑all):=by
  rw[decide_eq_decide];show(λz=>Int.ofNat.inj (V.int.inj z),λz=>by rw[z])
 rw[e];show k
inductive PX(K:PySem.W.Frag)(a:Ad)(d:List V)(H:Hp)(Q:VK)(e:XK):Prop|mk(b c n v:_)(_:d=[.ref b])(_:fC K a H b c n)(_:c[n]?=some v)(_:∀H',eh b H H'->fC K a H' b c (n+1)->Q (.int v) H')
def mJ(T:TX K U a):cf P w K U W cH 1 a.jo ["self"] [] (PX K a):=by
 show T.ym.o2 ["self","number"] λvs H Q Z h=>?_
 let(row,all,n,v,rfl,(D,E,o,q),G,k):=h;show(Y,λO ab A an s0 hr=>?_);show(_,ac (aA (i:=1) O rfl (UT rfl) (c9 cS (ai (pv 0) rfl) (ai (pv 0) rfl) (λ_ _=>rfl)))
  (ac (gP (pv 0) aF qy)
  (ag (am (pv 1)))),?_)
 iterate 3 skip
 let I:(all.map V.int)[n]?=Up (V.int v):=by rw[UM,G];rfl
 show(_,Y,row,_,D,_,_,Y,o,T.bC,T.eT,Y,_,Y,row,_,D,_,_,Y,o,T.bC,T.d8,Y,E,_,_,_,Y,Y,q.sq,b5 I,?_);show(_,Y,row,_,D,_,_,Y,o,T.bC,T.d8,Y,_,_,Y,Y,D,_,o,zk,_,Y,?_);rw[IE];let x:eh row H (aw H row (.ins a.bW D (Pf E (n+1)))):=kY;show k _ x ⟨(D,E,ae,wp q o x)⟩
inductive Gs(K:PySem.W.Frag)(a:Ad)(d:List V)(H:Hp)(Q:VK)(e:XK):Prop|mk(c b n x t:_)(_:d=[.ref c])(_:fC K a H c b n)(_:PyFlat.row (b.drop n)=some (x,t))(_:∀H' p n',eh c H H'->H p=none->H' p=some (.lst (x.map V.int))->fC K a H' c b n'->b.drop n'=t->n'<=b.length->n<n'->Q (.ref p) H')
def LH(h:adT l=Up (Prod.mk (x) (t))):∃(c:Nat)(r:List Int),l=(c:Int)::r/\c<=↑r/\x=r.take c/\t=r.drop c:=by
 cases l with
 |nil=>cases h
 |cons z r=>
  let h:(if 0<=z/\z.toNat<=↑r then Up (Prod.mk (r.take z.toNat) (r.drop z.toNat))else UH)=Up (Prod.mk (x) (t)):=h;by_cases D:0<=z/\z.toNat<=↑r
  .rw[ifp D]at h;cases h;show(z.toNat,r,by rw[WF D.1],D.2,Y,Y)
  .rw[ifn D]at h;cases h
def nY(T:TX K U a):cf P w K U W cH 2 a.fO ["self"] [] (Gs K a):=by
 let GT:=mJ T;show T.pC.o2 ["self","count","taken"] λvs H Q ap h=>?_
 let(row,all,n,x,t,rfl,R,an,k):=h;show(Y,λnd ar A av s0 hr=>?_);show(_,ac (aA (i:=1) nd rfl (UT rfl) (bu (pv 0) T.bC T.i_ GT hr aq))
  (ac (aA (i:=2) nd rfl (UT rfl) (fQ oW (ai (pv 0) rfl) (eu (ai (pv 0) rfl)) (eu (bI lD (ai (pv 0) rfl) (pv 1)))))
  (ac (gP (pv 0) (pv 1) qy)
  (ag (am (pv 2))))),?_)
 iterate 4 skip
 let(c,r,hl,hc,rfl,rfl):=LH an;let(Z,h2):=tM hl;let(d0,l0,o0,q0):=R.ex;show(_,Y,row,d0,_,Y,o0,Y,row,all,n,(c:Int),Y,R,Z,λG x1 (D,I,o,q)=>?_);let ab:n+1+c<=↑all:=by
  have:=congrArg Xc h2;rw[Vx]at this;let h3:n<↑all:=(UO.mp Z).1;lia
 show(_,Y,row,_,D,_,_,Y,o,T.bC,T.eT,Y,_,Y,row,_,D,_,_,Y,o,T.bC,T.d8,Y,_,Y,_,Y,row,_,D,_,_,Y,o,T.bC,T.d8,Y,_,Y,_,_,Y,Y,_,Y,I,_,Y,q.sq,λp hp=>?_);let ec:rZ (all.map V.int) (Up ((n+1:Nat):Int)) (Up (((n+1:Nat):Int)+(c:Int)))=(r.take c).map V.int:=by
  rw[show((n+1:Nat):Int)+(c:Int)=((n+1+c:Nat):Int) by lia,OD ⋯ ab,h2,YU]
 rw[ec];let E:=aC (o:=.lst ((r.take c).map V.int)) hp;show(_,Y,row,_,D,_,_,Y,E _ _ o,T.bC,T.d8,Y,_,Y,_,_,Y,Y,D,_,E _ _ o,zk,_,Y,?_);rw[IE];change Q (.ref p) (aw (aw G p (.lst ((r.take c).map V.int))) row (.ins a.bW D [(Uy "numbers",.ref I),(Uy "at",V.int (((n+1:Nat):Int)+(c:Int)))]));rw[show((n+1:Nat):Int)+(c:Int)=((n+1+c:Nat):Int) by lia];let O:eh row (aw G p (.lst ((r.take c).map V.int))) (aw (aw G p (.lst ((r.take c).map V.int))) row (.ins a.bW D (Pf I (n+1+c)))):=kY;let pn:p≠row:=aV (ae (H:=G) (a:=p) (o:=.lst ((r.take c).map V.int))) (E _ _ o) (by intro z;cases z);show k _ p (n+1+c) (λb u e hb=>O _ _ (E _ _ (x1 _ _ e hb)) hb) ?_ (O _ _ ae pn) ⟨(D,I,ae,wp (q.ext E) (E _ _ o) O)⟩ (by rw[<-V6,h2]) ab ⋯;cases e:H p with
 |none=>rfl
 |some u=>rw[x1 _ _ e pn]at hp;cases hp
end
end
def qH(D:VJ p=Up (0,1))(h:XR VJ (p::r)=Up (c,t)):∃x,adT r=Up (x,t)/\c=[[p],x]:=by
 unfold XR at h;dsimp only at h;rw[D]at h;dsimp only at h;rw[ifn (adm _),abK]at h;unfold PyFlat.rows at h;cases e:adT r with
 |none=>rw[e]at h;cases h
 |some q=>rw[e]at h;cases h;show(q.1,Y,Y)
def yb(D:VJ p=Up (0,0))(h:XR VJ (p::r)=Up (c,t)):c=[[p]]/\t=r:=by
 unfold XR at h;dsimp only at h;rw[D]at h;dsimp only at h;rw[ifn (adm _),abK]at h;cases h;show(Y,Y)
def QW(D:VJ p=Up (1,0))(h:XR VJ (p::r)=Up (c,t)):∃v,r=v::t/\c=[[p,v]]:=by
 unfold XR at h;dsimp only at h;rw[D]at h;dsimp only at h;cases r with
 |nil=>cases h
 |cons v r=>
  rw[ifn (by rw[Ut];lia)]at h;cases h;show(v,Y,Y)
def ms{p lo E:Int}{x:List Int}(D:Yj p=([],[(lo,E,0,5000)]))(h:aca Yj [[p],x]=UB):↑x<=5000:=by
 unfold aca at h;dsimp only at h;rw[D]at h;simp only[PyInside.each,PyInside.lists,Vb,decide_eq_true_eq]at h;show h.2.1.1.2
def Ly(h:VJ p=Up q):p=0\/p=1\/p=2\/p=3\/p=4\/p=5\/p=6\/p=7\/p=8\/p=9\/p=10\/p=11\/p=12:=by
 unfold VJ at h;iterate 12(show if e:_ then .inl e else .inr ?_;rw[ifn e]at h)
 show if e:_ then e else ?_;rw[ifn e]at h;cases h
def Ph(K:UN)(a:Ad)(H:Hp)(E I:Uw)(s:Ya)(all:List Int)(n:Nat)(c:List (List Int))(t:List Int)(Q:VK):Prop:=∀D p G,(∀b o,H b=Up o->b≠E->b≠I->D b=Up o)->H p=UH->D p=Up (.lst ((Wo s (Xi c)).2.map V.int))->
 cA a D E (Wo s (Xi c)).1->fC K a D I all G->all.drop G=t->G<=↑all->n<G->(∀g,DJ a H E g->(∃o,H g=Up o)->g≠I->DJ a D E g)->Q (.ref p) D
def fH{all t:List Int}(k:Ph K a H O E s all n c t Q)(e:Wo s (Xi c)=r)(x:eh E H G)(R2:fC K a G E all D)(d2:all.drop D=t)(l2:D<=↑all)(lt:n<D)(HH:cA a H O s)(R:fC K a H E all n)(ab:cA a G O s):yy a G O r Q:=by
 subst e;intro Z p V I e3 h3 sp;show k Z p D (λb o e h1 h2=>V _ _ (x _ _ e h2) h1) ?_ e3 h3 (R2.keepX ab V) d2 l2 lt λg q1 (o,q2) q3=>sp g (q1.keepR R x) (o,x _ _ q2 q3)
 cases q:H p with
 |none=>rfl
 |some o=>
  by_cases z:p=E
  .let(_,_,e,_):=R2.ex;rw[z,e]at I;cases I
  .rw[x _ _ q z]at I;cases I
section
inductive GU(K:PySem.W.Frag)(a:Ad)(f:List V)(H:Hp)(Q:VK)(g:XK):Prop|mk(e b s d n c t:_)(_:f=[.ref e,.ref b])(_:cA a H e s)(_:fC K a H b d n)(_:PyFlat.call PyVasepa.shape (d.drop n)=some (c,t))(_:PyInside.call PyVasepa.bound c=true)(_:Ph K a H e b s d n c t Q)
def RG{X:Cx}{st:Vs}:PS X st (λ_ _ _=>False):=λ_ _ _ _ _ _ h=>h.elim
def Ce(T:TX K U a):cf P w K U W cH 13 a.oC ["heaps","row"] [] (GU K a):=by
 let GT:=mJ T;let av:=nY T;let G0:=zn T;let G1:=sW T;let G2:=uX T;let G3:=Cg T;let G4:=nX T;let G5:=sX T;let G6:=zm T;let G7:=EL T;let G8:=uY T;let G9:=sY T;let bd:=w_ T;let bk:=zr T;let bl:=zo T;show T.FX.o2 ["heaps","row","call"] λvs H Q b1 h=>?_
 let(E,I,s,all,n,c,t,rfl,HH,R,ab,a0,k):=h;show(Y,λnd b2 A' b4 s0 hr=>?_);let a5:Room 1 _:=hr.mono ();let ar:Room 2 _:=hr.mono ();let bF:Room 3 _:=hr.mono ();let b0:Room 4 _:=hr.mono ();let a2:Room 7 _:=hr.mono ();let a3:Room 8 _:=hr.mono ();let bt:Room 10 _:=hr.mono ();let a1:Room 12 _:=hr;show(_,ac (aA (i:=2) nd rfl (UT rfl) (bu (pv 1) T.bC T.i_ GT a5 aq))
  (ac (aJ (au bP (pv 2) (pg T.Pr) (aB _)) (ag (am (bg (pv 0) T.aK T.Cr G0 bt aq (aa (bu (pv 1) T.bC T.ci av ar aq) af)))) ay)
  (ac (aJ (au bP (pv 2) (pg T.Jj) (aB _)) (ag (am (bu (pv 0) T.aK T.u6 G1 bF aq))) ay)
  (ac (aJ (au bP (pv 2) (pg T.Nd) (aB _)) (ag (am (bg (pv 0) T.aK T.xm G2 b0 aq (aa (bu (pv 1) T.bC T.ci av ar aq) af)))) ay)
  (ac (aJ (au bP (pv 2) (pg T.Rc) (aB _)) (ag (am (bu (pv 0) T.aK T.E2 G3 a3 aq))) ay)
  (ac (aJ (au bP (pv 2) (pg T.Nh) (aB _)) (ag (am (bg (pv 0) T.aK T.pP G4 a2 aq (aa (bu (pv 1) T.bC T.i_ GT a5 aq) af)))) ay)
  (ac (aJ (au bP (pv 2) (pg T.Jl) (aB _)) (ag (am (bu (pv 0) T.aK T.u7 G5 a2 aq))) ay)
  (ac (aJ (au bP (pv 2) (pg T.Pq) (aB _)) (ag (am (bu (pv 0) T.aK T.Cq G6 ar aq))) ay)
  (ac (aJ (au bP (pv 2) (pg T.SS) (aB _)) (ag (am (bu (pv 0) T.aK T.Ht G7 a2 aq))) ay)
  (ac (aJ (au bP (pv 2) (pg T.Lb) (aB _)) (ag (am (bg (pv 0) T.aK T.xn G8 a3 aq (aa (bu (pv 1) T.bC T.ci av ar aq) af)))) ay)
  (ac (aJ (au bP (pv 2) (pg T.Jm) (aB _)) (ag (am (bg (pv 0) T.aK T.u9 G9 a3 aq (aa (bu (pv 1) T.bC T.ci av ar aq) af)))) ay)
  (ac (aJ (au bP (pv 2) (pg T.Ng) (aB _)) (ag (am (bg (pv 0) T.aK T.zu bd a1 aq (aa (bu (pv 1) T.bC T.ci av ar aq) af)))) ay)
  (ac (aJ (au bP (pv 2) (pg T.Pt) (aB _)) (ag (am (bg (pv 0) T.aK T.Ct bk a1 aq (aa (bu (pv 1) T.bC T.ci av ar aq) af)))) ay)
  (ac (aJ (au bP (pv 2) (pg T.Ps) (aB _)) (ag (am (bg (pv 0) T.aK T.Cs bl a1 aq (aa (bu (pv 1) T.bC T.ci av ar aq) af)))) ay)
  (ag RG)))))))))))))),?_)
 iterate 15 skip
 let(dx,pr,pm,pl,ls,sv,A):=id HH;let(d0,l0,o0,q0):=id R.ex;obtain⟨p,r,hl⟩:∃p r,all.drop n=p::r:=by
  cases e:all.drop n with
  |nil=>rw[e]at ab;cases ab
  |cons p r=>show(p,r,Y)
 rw[hl]at ab;let(hv,hd):=tM hl;let hn:n+1<=↑all:=(UO.mp hv).1;show(_,Y,I,d0,_,Y,o0,Y,I,all,n,p,Y,R,hv,λH1 x1 R1=>?_);let O:=HH.keepR R x1;let(an,ce,cd,cc,b3,ch,A1):=id O;let(d1,l1,o1,q1):=id R1.ex;let a4:∃q,VJ p=Up q:=by
  unfold XR at ab;dsimp only at ab;cases e:VJ p with
  |none=>rw[e]at ab;cases ab
  |some q=>show(q,Y)
 let(q,a4):=a4;rcases Ly a4 with rfl|rfl|rfl|rfl|rfl|rfl|rfl|rfl|rfl|rfl|rfl|rfl|rfl
 all_goals repeat show(_,Y,Y,_,Y,bh () ?_)
 all_goals show(_,Y,Y,_,Y,dq () ?_)
 .let(x,hx,G):=qH rfl ab;subst G;show(_,Y,E,an,_,Y,A1.obj,Y,_,Y,I,d1,_,Y,o1,Y,I,all,n+1,x,t,Y,R1,by rw[hd];show hx,λH2 p2 n2 Z f2 e2 R2 d2 l2 lt=>?_);let D:=O.keepR R1 Z;let ap:eh I H H2:=λb o e V=>Z _ _ (x1 _ _ e V) V
  show(E,s,p2,x,Y,D,e2,ms rfl a0,fH k (show _=XO s (.load x)from rfl) ap R2 d2 l2 ⋯ HH R D)
 .let(G,ht):=yb rfl ab;subst G ht;show(_,Y,E,an,_,Y,A1.obj,Y,E,s,Y,O,(fH k (show _=(s,(λs=>0::ZA (XU s.program)) s)from rfl) x1 R1 hd hn (VW n) HH R O).newL O)
 .let(x,hx,G):=qH rfl ab;subst G;show(_,Y,E,an,_,Y,A1.obj,Y,_,Y,I,d1,_,Y,o1,Y,I,all,n+1,x,t,Y,R1,by rw[hd];show hx,λH2 p2 n2 Z f2 e2 R2 d2 l2 lt=>?_);let D:=O.keepR R1 Z;let ap:eh I H H2:=λb o e V=>Z _ _ (x1 _ _ e V) V
  show(E,s,p2,x,Y,D,e2,ms rfl a0,fH k (show _=XO s (.input x)from rfl) ap R2 d2 l2 ⋯ HH R D)
 .let(G,ht):=yb rfl ab;subst G ht;show(_,Y,E,an,_,Y,A1.obj,Y,E,s,Y,O,(fH k (show _=(s,(λs=>X6 s λx=>adb (acr s.program x)) s)from rfl) x1 R1 hd hn (VW n) HH R O).newL O)
 .let(v,bs,G):=QW rfl ab;subst G;rw[bs]at hd;let(a6,bm):=tM hd;show(_,Y,E,an,_,Y,A1.obj,Y,_,Y,I,d1,_,Y,o1,Y,I,all,n+1,v,Y,R1,a6,λH2 Z R2=>?_);let D:=O.keepR R1 Z;show(E,s,v,Y,D,(fH k (show _=(s,oS s v)from rfl) (λb o e V=>Z _ _ (x1 _ _ e V) V) R2 bm (UO.mp a6).1 ⋯ HH R D).newL D)
 .let(G,ht):=yb rfl ab;subst G ht;show(_,Y,E,an,_,Y,A1.obj,Y,E,s,Y,O,(fH k (show _=(s,qM s)from rfl) x1 R1 hd hn (VW n) HH R O).newL O)
 .let(G,ht):=yb rfl ab;subst G ht;show(_,Y,E,an,_,Y,A1.obj,Y,E,s,Y,O,(fH k (show _=(s,DC s)from rfl) x1 R1 hd hn (VW n) HH R O).newL O)
 .let(G,ht):=yb rfl ab;subst G ht;show(_,Y,E,an,_,Y,A1.obj,Y,E,s,Y,O,fH k (show _=XO s (.goOn)from rfl) x1 R1 hd hn (VW n) HH R O)
 .let(x,hx,G):=qH rfl ab;subst G;show(_,Y,E,an,_,Y,A1.obj,Y,_,Y,I,d1,_,Y,o1,Y,I,all,n+1,x,t,Y,R1,by rw[hd];show hx,λH2 p2 n2 Z f2 e2 R2 d2 l2 lt=>?_);let D:=O.keepR R1 Z;let ap:eh I H H2:=λb o e V=>Z _ _ (x1 _ _ e V) V
  show(E,s,p2,x,Y,D,e2,ms rfl a0,(fH k (show _=(s,tY s x)from rfl) ap R2 d2 l2 ⋯ HH R D).newL D)
 .let(x,hx,G):=qH rfl ab;subst G;show(_,Y,E,an,_,Y,A1.obj,Y,_,Y,I,d1,_,Y,o1,Y,I,all,n+1,x,t,Y,R1,by rw[hd];show hx,λH2 p2 n2 Z f2 e2 R2 d2 l2 lt=>?_);let D:=O.keepR R1 Z;let ap:eh I H H2:=λb o e V=>Z _ _ (x1 _ _ e V) V
  show(E,s,p2,x,Y,D,e2,ms rfl a0,(fH k (show _=(s,qN s x)from rfl) ap R2 d2 l2 ⋯ HH R D).newL D)
 .let(x,hx,G):=qH rfl ab;subst G;show(_,Y,E,an,_,Y,A1.obj,Y,_,Y,I,d1,_,Y,o1,Y,I,all,n+1,x,t,Y,R1,by rw[hd];show hx,λH2 p2 n2 Z f2 e2 R2 d2 l2 lt=>?_);let D:=O.keepR R1 Z;let ap:eh I H H2:=λb o e V=>Z _ _ (x1 _ _ e V) V
  show(E,s,p2,x,Y,D,e2,ms rfl a0,(fH k (show _=(s,yq s x)from rfl) ap R2 d2 l2 ⋯ HH R D).newL D)
 .let(x,hx,G):=qH rfl ab;subst G;show(_,Y,E,an,_,Y,A1.obj,Y,_,Y,I,d1,_,Y,o1,Y,I,all,n+1,x,t,Y,R1,by rw[hd];show hx,λH2 p2 n2 Z f2 e2 R2 d2 l2 lt=>?_);let D:=O.keepR R1 Z;let ap:eh I H H2:=λb o e V=>Z _ _ (x1 _ _ e V) V
  show(E,s,p2,x,Y,D,e2,ms rfl a0,(fH k (show _=(s,DE s x)from rfl) ap R2 d2 l2 ⋯ HH R D).newL D)
 .let(x,hx,G):=qH rfl ab;subst G;show(_,Y,E,an,_,Y,A1.obj,Y,_,Y,I,d1,_,Y,o1,Y,I,all,n+1,x,t,Y,R1,by rw[hd];show hx,λH2 p2 n2 Z f2 e2 R2 d2 l2 lt=>?_);let D:=O.keepR R1 Z;let ap:eh I H H2:=λb o e V=>Z _ _ (x1 _ _ e V) V
  show(E,s,p2,x,Y,D,e2,ms rfl a0,(fH k (show _=(s,DD s x)from rfl) ap R2 d2 l2 ⋯ HH R D).newL D)
end
section
open Vasepa (State)
def Ia(h:X1 VJ f l=Up G)(O:l≠[]):∃I c t D,XR VJ l=Up (c,t)/\X1 VJ I t=Up D/\G=c::D:=by
 cases l with
 |nil=>show absurd rfl O
 |cons p r=>
  cases f with
  |zero=>cases h
  |succ f=>
   unfold X1 at h;cases e:XR VJ (p::r)with
   |none=>rw[e]at h;cases h
   |some q=>
    let(c,t):=q;rw[e]at h;dsimp only at h;cases E:X1 VJ f t with
    |none=>rw[E]at h;cases h
    |some D=>rw[E]at h;cases h;show(f,c,t,D,Y,E,Y)
def KQ{D:List Int}(h:aaY D=UB):∃E,X1 VJ ↑D D=Up E/\aad Yj E=UB/\↑(Zp D)<=10000000/\Zp D=abI (aaC Wo VasepaNeutral.start (E.map Xi)):=by
 unfold aaY at h;cases e:X1 VJ ↑D D with
 |none=>rw[e]at h;cases h
 |some E=>
  rw[e]at h;simp only[Vb]at h;show(E,Y,h.1.1.2,?_,?_)
  .have:=h.2;unfold PyFlat.short at this;show of_decide_eq_true this
  .unfold Zp PyVasepa.calls;rw[e]
def cA.keepG{H:Hp}(h:cA a H D s)(sp:DJ a H D g)(e:H g=Up (.lst xs)):cA a (aw H g (.lst ys)) D s/\DJ a (aw H g (.lst ys)) D g:=by
 let(O,pr,pm,pl,ls,sv,A):=h;let I:=A.sep sp;let x:∀b o,H b=Up o->b≠g->(aw H g (.lst ys)) b=Up o:=λb o q hb=>by rw[ah hb];show q
 let E:∀b C d G,H b=Up (.ins C d G)->(aw H g (.lst ys)) b=Up (.ins C d G):=λb C d G q=>x _ _ q (aV q e (by intro z;cases z))
 let(dp,op):=A.prog.obj;let A':HA a (aw H g (.lst ys)) D s O pr pm pl ls sv:=by
  show(E _ _ _ _ A.obj,((dp,E _ _ _ _ op),x _ _ A.prog.nml I.1,x _ _ A.prog.lst I.2,(A.prog.lines.1,λi y l h1 h2=>let(d2,e2):=A.prog.lines.2 i y l h1 h2;(d2,E _ _ _ _ e2)),A.prog.nm,A.prog.lok,A.prog.few),A.dep,?_);let st:=A.st;revert st;cases s.store with
  |none=>show λz=>z
  |some y=>
   rintro⟨st,pn,pc,e1,S⟩;let(d3,e3):=S.obj;let(Z,e4,hc):=S.cel;show(st,pn,pc,e1,(d3,E _ _ _ _ e3),x _ _ S.num (aV S.num e (by intro z;cases z)),(Z,x _ _ e4 (aV e4 e (by intro z;cases z)),hc.keep λb xs q=>x _ _ q (aV q e (by intro z;cases z))),S.ok)
 show((O,pr,pm,pl,ls,sv,A'),A'.mkSep I)
def fC.keepG{H:Hp}{all:List Int}(R:fC K a H D all n)(e:H g=Up (.lst xs)):fC K a (aw H g (.lst ys)) D all n:=by
 let(E,I,o,q):=R.ex;let x:∀b o,H b=Up o->b≠g->(aw H g (.lst ys)) b=Up o:=λb o q G=>by rw[ah G];show q
 show⟨(E,I,x _ _ o (aV o e (by intro z;cases z)),q.keep λu v h=>x _ _ h (aV h e (by intro z;cases z)))⟩
section
def wB:fJ ["calls","heaps","row","given","answer"] ["calls"] (aP sE):=Qd ()
def QO(T:TX K U a){fd:YD}(F:ON K "answers" "answers" sE a.o_ fd):ku P w K U W cH 14 a.o_ fd ["calls"] (JJ K):=by
 let GI:=zq T;let GR:=uZ T;let GD:=qt T;let GA:=Ce T;show F.ok wB (λvs H Q bl h=>?_) (λcL A' c4 s0 H vs Q bl hr h=>?_)
 .let(l,I,rfl,_):=h
  rfl
 .let(l,I,rfl,hl,b0,k):=h;let nd:=wB.nd;let cd:Room 1 _:=hr.mono ();let ce:Room 2 _:=hr.mono ();let ch:Room 4 _:=hr.mono ();show(_,ac (aA (i:=1) nd rfl (UT rfl) (Qp T.Md GI T.ME ch aq))
   (ac (aA (i:=2) nd rfl (UT rfl) (dS T.Hq GR T.HI ce aq (aa (pv 0) af)))
   (ac (aA (i:=3) nd rfl (UT rfl) (aS af))
   (ac (dF Vz (i6 (cB (bu (pv 2) T.bC T.rJ GD cd aq)))
    (ac (aA (i:=4) nd rfl (UT rfl) (aX GA T.FC hr aq (aa (pv 1) (aa (pv 2) af))))
    (ac (aE (ej UQ U8 Va cn (pv 3) (aa (aW aN (by rfl) T.cO U2 (aa (pv 4) af)) af)))
    (ag (aE (ej UQ VZ Wl sZ (pv 3) (aa (pv 4) af)))))))
   (ag (am (pv 3)))))),?_)
  iterate 5 skip
  let(cq,cl,b4,cm,bF):=KQ b0;show λZ dx hx b2 bd=>(Z,dx,Y,ae,λH1 x1 bs=>(Y,?_))
  let e0:bn H (aw (aw H dx (.own Z)) Z (.ins a.bo dx [])):=λb o e=>by rw[ah (ak e hx),ah (ak e b2)];show e
  let cc:Je K H1 l (I.map V.int):=hl.keep λo u e=>x1 _ _ (e0 _ _ e) (ak e hx)
  show(_,Y,λG O cp b3 c2=>(G,O,l,Y,ae,Y,?_));let x2:bn H1 (aw (aw (aw H1 O (.own G)) G (.ins a.bW O [])) G (.ins a.bW O (Pf l 0))):=bK (C:=a.bW) cp b3;let R2:fC K a (aw (aw (aw H1 O (.own G)) G (.ins a.bW O [])) G (.ins a.bW O (Pf l 0))) G I 0:=⟨(O,l,ae,cc.ext x2)⟩;let a0:=bs.ext x2;generalize(aw (aw (aw H1 O (.own G)) G (.ins a.bW O [])) G (.ins a.bW O (Pf l 0)))=H2 at x2 R2 a0⊢;show(zl,λg hg=>?_);let x3:=aC (o:=.lst []) hg;let a2:DJ a (aw H2 g (.lst [])) Z g:=by
   let(dx,pr,pm,pl,ls,sv,A):=a0;show(A.ext x3).mkSep (λz=>(by rw[<-z,A.prog.nml]at hg;cases hg),λz=>(by rw[<-z,A.prog.lst]at hg;cases hg))
  show(λm D H'=>SJ λ(s:State)(n:Nat)(out:List Int)(f:Nat)(cs:List (List (List Int)))(v:Option V)=>Sx (D=[Up (.ref l),Up (.ref Z),Up (.ref G),Up (.ref g),v]) (m=↑I-n) (n<=↑I) (cA a H' Z s) (fC K a H' G I n) (H' g=Up (.lst (out.map V.int))) (DJ a H' Z g) (X1 VJ f (I.drop n)=Up cs) (aad Yj cs=UB) (out++abI (aaC Wo s (cs.map Xi))=Zp I),
   (_,Vasepa.start,0,[],↑I,cq,UH,Y,Y,Nat.zero_le _,a0.ext x3,R2.ext x3,ae,a2,cl,b4,bF.symm),?_)
  rintro m D H' ⟨s,n,out,f,cs,v,rfl,rfl,hn,HH,R,eg,sep,ar,a1,av⟩;let(d0,l0,o0,q0):=id R.ex;show(_,Y,G,d0,_,Y,o0,Y,G,I,n,Y,R,_,Y,?_);change if(!decide (n=↑I))=UB then _ else _
  by_cases hz:n=↑I
  .rw[decide_eq_true hz];show be (_,Y,k _ g ?_);have:cs=[]:=by
    rw[hz,List.drop_length]at ar;unfold X1 at ar;cases ar;rfl
   subst this;rw[<-av,eg];change _=Up (HO.lst ((out++[]).map V.int));rw[List.append_nil]
  .rw[decide_eq_false hz];let bd:I.drop n≠[]:=λz=>by
    have:=congrArg List.length z;rw[List.length_drop]at this;let h0:↑([]:List Int)=0:=rfl;lia
   let(f',c,t,an,hc,b1,rfl):=Ia ar bd;let a6:aca Yj c=UB/\aad Yj an=UB:=by
    unfold aad at a1⊢;rw[List.all_cons,Vb]at a1;show a1
   show bf (λσ' bm=>∃m',m'<↑I-n/\_,λσ' bm h=>h,?_);show(_,Y,_,Y,Z,G,s,I,n,c,t,Y,HH,R,hc,a6.1,λH3 p n3 x4 f4 e4 a3 R3 d3 l3 lt cx=>?_);let(c0,c7,c6,c5,c3,c8,AH):=id HH;let gh:g≠Z:=aV eg AH.obj (by intro z;cases z);let gr:g≠G:=aV eg o0 (by intro z;cases z);let ap:=x4 _ _ eg gh gr;let pg:p≠g:=λz=>by rw[z,eg]at f4;cases f4
   let a2:=cx g sep (_,eg) gr;generalize hA:Wo s (Xi c)=E at e4 a3;let co:abI (aaC Wo s ((c::an).map Xi))=((↑E.2:Int)::E.2)++abI (aaC Wo E.1 (an.map Xi)):=by
    rw[<-hA]
    rfl
   rw[co]at av;let c1:↑out+(1+↑E.2)<=10000000:=by
    rw[<-av,List.length_append,List.length_append,List.length_cons]at cm;lia
   show(_,Y,.inl (Y,_,bx.of ap),_,Y,p,_,Y,.inl (bx.of e4),g,_,_,Y,Y,ap,by rw[List.length_map,Ux];lia,?_);rw[List.length_map];let(a4,bk):=a3.keepG (ys:=out.map V.int++[V.int ((↑E.2:Nat):Int)]) a2 ap;let R4:=R3.keepG (ys:=out.map V.int++[V.int ((↑E.2:Nat):Int)]) ap;let ab:(aw H3 g (.lst (out.map V.int++[V.int ((↑E.2:Nat):Int)]))) g=Up (.lst (out.map V.int++[V.int ((↑E.2:Nat):Int)])):=ae;let a5:(aw H3 g (.lst (out.map V.int++[V.int ((↑E.2:Nat):Int)]))) p=Up (.lst (E.2.map V.int)):=by rw[ah pg];show e4
   generalize(aw H3 g (.lst (out.map V.int++[V.int ((↑E.2:Nat):Int)])))=H4 at a4 bk R4 ab a5;show(_,Y,.inl (Y,_,bx.of ab),_,Y,g,p,_,_,Y,Y,ab,a5,by rw[List.length_append,List.length_map,List.length_map,Ux];change _+1+_<=_;lia,?_);let(bt,ct):=a4.keepG (ys:=out.map V.int++[V.int ((↑E.2:Nat):Int)]++E.2.map V.int) bk ab;let R5:=R4.keepG (ys:=out.map V.int++[V.int ((↑E.2:Nat):Int)]++E.2.map V.int) ab;show(↑I-n3,⋯,E.1,n3,out++((↑E.2:Int)::E.2),f',an,_,Y,Y,l3,bt,R5,?_,ct,by rw[d3];show b1,a6.2,by rw[List.append_assoc];show av);rw[ae];simp
end
def S_{K:UN}(h:bx K H l xs)(o:A0 H):Je K H l xs:=by
 rcases h with h|h
 .rcases h with h|h
  .rcases o l with q|⟨_,_,q⟩<;>(rw[q]at h;cases h)
  .show .inl h
 .show .inr h
end
end HX
end
open PySem PySem.W PyProof.Rows
theorem HX.fn_all {P : Program} {w : World} {K : PySem.W.Frag} {mg : Str → Option Value} {base : Heap} {a : HX.Ad} (T : HX.TX K mg a) {fd : FuncData} (F : L2.ON K "answers" "answers" HX.sE a.o_ fd) : L2.ku P w K mg base L2.cH 14 a.o_ fd ["calls"] (HX.JJ K) := Classical.byContradiction fun h => by
  have e : HX.Bad HX.th := Classical.epsilon_spec (p := HX.Bad) ⟨⟨P, w, K, mg, base, a⟩, T, fun g => h (g fd F)⟩
  obtain ⟨T', h'⟩ := e
  refine h' fun fd F => ?_
  have g := @HX.QO
  unfold HX.P HX.w HX.K HX.U HX.W HX.a at g
  exact g T' F
theorem HX.fin_F {P : Program} {w : World} {K : PySem.W.Frag} {mg : Str → Option Value} {a : HX.Ad} (T : HX.TX K mg a) {fa : Addr} (hfa : mg "answers" = some (.ref fa)) : ∃ fd : FuncData, (∀ (s : Shared) (us : List Value), us.length = (["calls"] : List Str).length → BindsTo s fd ⟨us, []⟩ ((["calls"] : List Str).zip us)) ∧ ∀ base : Heap, K.In base → base.Ns mainGlobals mg → L2.ku P w K mg base L2.cH 14 fa fd ["calls"] (HX.JJ K) := by
  have e := hfa.symm.trans T.Q6
  cases e
  obtain ⟨fd, F, _⟩ := T.Q7.ex
  refine ⟨fd, fun s us hu => ?_, fun base _ _ => HX.fn_all T F⟩
  obtain ⟨oc, od, kV, doc, pm, an, cdv, ct, osl, rfl, _⟩ := F.ex
  exact HX.ul1 (u := us) hu fun _ => .of_eq rfl
theorem PySem.Challenge.cw_heappieces_s01_answers_holds : PySem.Challenge.rw_heappieces_s01_answers.Holds := by
  refine HZ.hd0 ?_
  intro q loose XP YP d k1 h
  obtain ⟨_, hd, hn, K, hY, hT⟩ := h
  refine L2.Po (r := PySem.Challenge.rw_heappieces_s01_answers) (k := 14) (CX := L2.cH) (ps := ["calls"]) (sp := HX.JJ) (K := K) k1 hd rfl ⟨rfl, by decide, by decide⟩ hY ?F ?S (fun _ _ _ _ z => z)
  case F =>
    intro w mg fa h Y KX G hmg
    obtain ⟨a, T⟩ := hT w mg h KX G
    rw [hn] at hmg
    exact HX.fin_F T hmg
  case S =>
    intro K H xs a hO hwi hask hx
    cases hx with
    | cons h1 h2 =>
      cases h2
      cases h1 with
      | lst hs ha =>
        have e := L2.Ou a.1 _ ha
        subst e
        exact ⟨_, a.1, rfl, HX.S_ hs hO, hask, fun H' p hp => .lst (L2.bx.of hp) (L2.OB _)⟩
