import PyProof.Rows.All
import Wide.All
import OpenK.AllK
import Wide.FinOn
import Lean
import PyProof.EqAt
import PyProof.EqKinds
import PyProof.TupleCall
import PyProof.ReprRoads
import PyProof.ReprBulk
import PyProof.EnumMake
import PyProof.EnumFor
import KE.KRevSl
import KE.KDictList
import PyProof.ZipIter
import PyProof.AttrMissHeap
import KE.KDictOf
import KE.KItemsList
import PyProof.Rows.ZipGen
import PyProof.CallFns
import PyProof.NsDelKeeps
import PyProof.StrWalks
import PyProof.FString5
import KE.KSortTup
import PyProof.SetRoads
import PyProof.SetNew
import PyProof.Rows.SetFrom
import PyProof.WalksMore
import PyProof.ForAny
import PyProof.DictWalks
import PyProof.MeetsDict
import KE.KEqDict
import PyProof.AutoSeq1
import PyProof.DictItemsLoops
import KE.KPairComp
import PySem.Challenge.RW_parentlines_k45_whole_rounds_cut_and_clo
set_option Elab.async false
set_option linter.all false
set_option maxRecDepth 100000
set_option maxHeartbeats 4000000
set_option compiler.extract_closed false
noncomputable section
local macro_rules|`($f:ident^$a)=>`($f $a)|`(.$f:ident^$a)=>`(.$f:ident $a)|`($f $x*^$a)=>`($f $x* $a)
local macro_rules|`(#[$a,*])=>`(⟨$a,*⟩)
local macro_rules|`(#v[$a,*])=>`(List.toArray [$a,*])
local macro_rules|`(())=>`(by omega)
local macro_rules|`(∅)=>`(by decide)
local macro_rules|`(⋯)=>`(by decide +kernel)
local macro_rules|`(⇑$a)=>`(by simpa using $a)
theorem Z{α:Sort _}{a:α}:a=a:=rfl
abbrev am:=@List
abbrev a2:=@Option
open Option renaming some->ih,map->ZZ,getD_none->aag,none->aaV
open PySem renaming Value->i',Addr->FG,Str->Gd,Shared->UJ,wpAny->UL,sizeLine->UM,PyData->UN,model->U0,mainGlobals->U5,starEach->Vc,Stmt->Vm,bootBuiltins->VA,Expr->VH,Paired->VT,compareOp->X2,FuncData->X3,Heap->Yb,DictEntry->Yf,Program->Yg,Builtin->Yh,World->Yo,Str->Yp,Around->Yq,NameKind->Yt,binaryOp->YA,Value->YB,Obj->YC,Within->YI,IsItemIter->YJ,Addr->YL,ExceptHandler->YY,cLine->YZ,Scope->Y0,Sem->Zi,SetTable->Zj,Env->Zq,IsPart->Zs,Shared->Zv,Result->ZC,Heap->ZE,frameOf->ZG,Model->ZI,Fin->ZJ,BindsTo->ZO,CmpOp->ZS,GenState->ZT,Pos->Z4,call->Z6,IsItemIterOut->Z8,ElemsOf->aa7,World->aba,Stmt->abj,Expr->abk,Obj->abE,Env->abF,Operator->ab9
open Sum renaming inr->n',inl->Zx
open PySem.Value renaming ref->UZ,none->Vv,type->Yn,isStrOf->YG,bool->YK,builtin->YO,str->YX,int->Y8,isInt->ZV,float->ZW,isInt_shape->aae,bytes->aa9
open PySem.W renaming Frag->U2,emptyDict->X7,findIn->Yd,findIn->Yk,instObj->Yl,fnOf->Ym,Frag->Ys,keepIn->Yv,keepIn->Yw,codeIn->YW,plainGet->Y6,lookIn->Zg,methodObj->Zm,hasDictIn->Zn,takerIn->Zy,isFn->ZH,plainOver->Z0,handedIn->Z',Looks->aad,makesIn->aaf,OpenLaw->aai
open PySem.NameKind renaming free->Ve,cell->X6
open False renaming elim->Vn
open PySem.PyData renaming depthAll->Vs,str->VB,strOk->VI,eqv->X8,canLayAll0->X',depth->Yi,eqvAll->YF,leavesShortAll->ZM,showableAll->Z1,hasDictAll->aaa,bulkAll->aal,bulk->aaU
open True renaming intro->VL
open List renaming lookup->VP,range->VQ,replicate->YD,getD->Y1,length->Y5,nodup_range->aan,mem_reverse->aao,getElem_inj->aap,append_inj'->aaq,range_succ->aaA,length_set->aaB,forIn_cons->aaC,map_take->aaW,all_cons->aaX,map_nil->abb,not_lt->abm
open PySem.Obj renaming mapSeq->X4,mapFields->Y9,putSet->Zt,data_mapFields->aak
open PySem.Heap renaming SameBut->X5,FlyingW->YE,IsKeyIter->aaM,ExtBut->abn,get?->acb
open ForInStep renaming yield->X9,done->acI
open PySem.Builtin.Dict_items renaming ownsTuple->Ya,ownedTupleIsFree->Y2,ownedTupleFields->Y3,pairFromOwner->Y7,newIterator->aat,dictOf->aau
open PySem.Txt renaming slice->Yc,join->aaT
open PySem.Builtin.List renaming listExtendWith->Ye,listTooLong->Yy,listLengthHint->Zp,listSameRef->Zw
open PySem.Str renaming ofString->Yj,empty->ZP,length->aca
open PyProof.Rows renaming StrsAre->Yr,IsTup->Yz,AllBare->Zf,Subscript_->ZU,IntsAre->aaj,lt_str->abW,iadd_int->abX,floordiv_int->abY,Constant_none->ach
open PySem.Builtin.Slice renaming slicePlaces->Yu,sliceAdjust->YR,sliceApplied->Zo,slicePartIndex->abA,sliceFields->abB
open PySem.Builtin.Tuple renaming tupleExact->Yx,tupleItemsOf->YM
open PySem.Builtin.Dict renaming showsAll->YH,updateFrom->Zz,pairItems->ZA,selfAndRest->ab2,noArgs->ab3,dictSlotNone->ab4,addKeywords->ab5
open PySem.Builtin.Str renaming strSliceIndices->YN,glued->acg
open PySem.SetTable.below renaming go->YQ
open Or renaming inr->YS,inl->aa6
open List.Perm renaming swap->YT,of_eq->Z2,trans->acG,map->acH
open PySem.SetTable renaming grown->YU,below->YV
open PySem.Shared renaming TypeIs->Y4
open Int renaming toNat->Y'
open List.Pairwise renaming nil->Zh,and_mem->abz
open PySem.pickOrder renaming go->Zk
open And renaming intro->Zl
open PySem.Around renaming under->Zr
open PySem.SeqAt renaming readOf->Zu,list_indexAt->Z9,EqAt->abi
open PySem.Heap.IsSliceOf renaming new->ZD
open Nat renaming strongRecOn->ZF,mod_eq_of_lt->aaw,min_eq_right->aax,le_max_right->aay,le_add_right->aaz,min_eq_left->aaK,le_max_left->aaL,le_of_eq->abl,one_mul->abG
open PySem.SeqAt.EqAt renaming str_int->ZK,int_str->ZL,str_str->acj,str_none->ack,str_bool->acm,same->acn,none_str->aco,none_int->acp,none_bool->acq,int_none->acr,int_int->acs,int_bool->acu,bool_str->acv,bool_none->acw,bool_int->acx,bool_bool->acy
open PySem.Calls renaming callWith_builtin->ZN,spliced_cons->aac,spliced_nil->aah
open PySem.Code renaming isFrame->ZQ,isGuard->abf,frames->abo
open PySem.Heap.DictOf renaming new->ZR
open PySem.Heap.Ns1 renaming of_empty->ZX
open Classical renaming choose->ZY,not_forall->acK,choose_spec->acL
open PyProof.Rows.F renaming entry_set_update_loop->Z3
open PySem.Walks renaming list->Z5,dictKeys->aav
open PySem.W.Looks renaming here->Z7,here->abp
open PySem.F renaming slot_dict_items_iter->aab,args_list_index_2->aar,args_dict_items_1->aas,entry_list_index->aaD,entry_dict_items->aaE,type_dict_items->aaN,slot_list_index->aaO,plainAttrs_dict->aaP,slot_dict_iter->aaY,entry_list_pop->aaZ,entry_any_loop->aa0,slot_set_iter->abc,slot_list_pop->abd,plain_set_new->abe
open Prod.mk renaming injEq->aam,inj->aaJ
open PySem.Builtin.Frozenset renaming updateFrom->aaF,slot0->aaG,sizeOf->aaH,newClass->aaI
open Array renaming mem_def->aaQ,toList->aa2,ext->abH
open Std.Legacy.Range renaming size->aaR,forIn_eq_forIn_range'->aaS
open Bool renaming and_true->aa1,true_or->abh
open PySem.Challenge renaming rw_parentlines_k45_whole_rounds_cut_and_clo->aa3,pw_parentlines_k45_whole_rounds_cut_and_clo->aa4
open PySem.W.WShape renaming has->aa8
open PySem.CmpOp renaming NotIn->abg,In->ace
open PySem.EqMixed renaming ne_str_int->abq,ne_str_bool->abr,ne_int_str->abt,ne_bool_str->abu,eq_str_int->abv,eq_str_bool->abw,eq_int_str->abx,eq_bool_str->aby
open PySem.Builtin.Range renaming rangeSize->abC
open PySem.W.WData renaming int->abD
open PySem.EqNone renaming ne_str_none->abI,ne_none_str->abJ,ne_none_none->abK,ne_none_int->abL,ne_none_bool->abM,ne_int_none->abN,ne_bool_none->abO,eq_str_none->abP,eq_none_str->abQ,eq_none_none->abR,eq_none_int->abS,eq_none_bool->abT,eq_int_none->abU,eq_bool_none->abV
open List.Sublist renaming refl->abZ,map->ab0
open PySem.Heap.SameBut renaming refl->ab1
open PySem.Flow renaming next->acd
open Option.some renaming injEq->acf
open Std.Legacy renaming Range->aci
open PySem.EntryCells renaming newEntry->acz
open PySem.Value.ref renaming inj->acD
open PySem.IsL renaming update->acE
open PySem.PassesOwn renaming leaving->acF
open PySem.DictEntry renaming refKey->acJ
open PySem renaming wpAny_bind->ae,wpAny_pure->ak,sizeLine_eq->aV,wpAny_holding->ed,boot_len->ew,wpAny_newObj_type->e4,wpAny_call_entry->gE,wpAny_truthy_bool->hI,wpAny_setState_of->hO,wpAny_mono->ir,codeAny_builtin->iu,wpAny_askSetting->iT,wpAny_setField_rec->iW,wpAny_rule->jv,mem_of_lookup->jx,wpAny_typeOf->jy,plainId_quiet->jB,wpAny_standAt->ku,wpAny_call->kz,codeAny_mono->lJ,wpAny_field->lK,wpAny_passesOwn->m7,wpAny_Call_Name_kw->m8,wpAny_callSpecial?_slot->nc,call_meets->ni,wpAny_attempt->nu,wpAny_execs_nil->o9,wpAny_load->pb,wpAny_dictEntries->px,wpAny_dictEpoch->pz,wpAny_pyIter_list->sb,wpAny_loadPart_at->se,wpAny_throw->sj,wpAny_fieldsOf->so,wpAny_pyIter_slot->sq,wpAny_loadPart->wG,seqIndex_of->wJ,codeAny_of_tree->wK,codeAny_call_builtin->wL,wpAny_getItem_str_slice->wO,post_val_or_str->wQ,tupleKind_room_in1->w1,wpAny_newList->w5,fits_of_scanBound->w6,wpAny_of_eq->w7,wpAny_isInstance->w8,wpAny_typeNameOf_keyiter->Aa,wpAny_typeNameOfWhole_itemiter->Ad,wpAny_typeNameOf_itemiter->Ae,wpAny_eqBool_str->Fu,noFill_tuple_add->FH,seq_tuple_add->FJ,evalPart_none->FQ,slot_list_getitem->FR,evalArgs_none->FU,wpAny_noRaise->FX,wpAny_comprehension_free->FY,typeLookup_type->F8,builtinLookup_eq_fast->F9,wpAny_notOrdered_dict->Ga,wpAny_runValue->Gg,isSubtype_type->Gh,wpAny_handled->Gi,isSubtype_stop->Gj,wpAny_ite_split->Gk,wpAny_updateSeq->Gm,wpAny_setField->Gn,size_of_entries->Gp,wpAny_isOneOf_itemiter->Gq,plainObj_wpAny_Assign_Attribute->US,wpAny_getItem_list_slice->U1
open List renaming length_map->aE,mem_cons_self->aY,mem_map->a8,mem_cons_of_mem->bh,map_append->bj,getElem?_eq_getElem->bG,mem_cons->bL,mem_singleton->bR,mem_append->bT,map_cons->bY,getElem?_eq_some_iff->b4,size_toArray->b5,length_append->cz,take_length->cF,length_take->cH,length_cons->c4,getElem?_map->c5,nodup_append->dz,lookup_cons->dM,take_succ->dQ,map_map->dY,nodup_cons->d6,mem_filter->eb,mem_append_right->et,mem_of_getElem?->eu,getElem_mem->eJ,append_nil->e6,nodup_nil->ff,mem_append_left->gj,length_filter_le->gn,filter_append->gp,getD_eq_getElem?_getD->gG,take_sublist->iS,mem_range->ju,any_cons->jz,length_nil->jA,not_mem_nil->jC,nodup_iff_pairwise_ne->jE,length_pos_iff->jG,pairwise_map->kC,filter_cons->kD,length_singleton->lL,drop_eq_getElem_cons->lN,any_eq_true->lO,eq_nil_of_length_eq_zero->lR,map_congr_left->lS,map_drop->lT,length_drop->m9,append_assoc->nj,all_eq_true->ny,mem_of_mem_take->nD,mem_filterMap->o7,find?_cons->pj,filter_cons_of_pos->pB,mem_of_mem_drop->pC,mem_flatMap->pD,flatMap_append->pE,getElem?_eq_none->sk,filter_nil->sv,filter_cons_of_neg->sx,head?_map->sA,any_eq_false->wF,length_replicate->wH,any_map->wV,getElem_of_mem->wY,drop_zero->wZ,getElem_toArray->w0,take_append_drop->w4,mem_iff_getElem->zZ,map_id->Ac,sum_cons->Af,drop_length->Ag,filterMap_cons->Fv,getElem?_set_self->Fw,getElem?_set_ne->Fx,of_mem_zip->FD,getElem?_append_left->FE,length_dropLast->FV,lookup_append->FW,length_range->F0,length_erase_of_mem->F1,length_pos_of_mem->F2,mem_erase_of_ne->F3,length_reverse->F5,cons_append->F6,ext_getElem->Gb,length_eq_one_iff->Gr,take_of_length_le->Gs,replicate_succ'->Gu,flatMap_cons->Gx,getElem?_append_right->UY,reverse_cons->U3,eraseIdxIfInBounds_toArray->U4,drop_of_length_le->U9,length_eraseIdx->Vf,getElem?_inj->Vo,cons_lt_cons_iff->VC,countP_eq_length_filter->VD,perm_ext_iff_of_nodup->VE,filter_eq_self->VF,drop_sublist->VJ,prefix_cons_inj->VS
open Nat renaming le_refl->aP,zero_le->bF,ne_of_lt->bK,le_trans->ec,lt_of_lt_of_le->eZ,le_succ->gm,lt_irrefl->jt,ne_of_gt->jw,lt_succ_self->kx,lt_trans->lM,lt_succ_of_lt->lQ,le_of_lt->o8,not_lt_zero->pq,add_mul->sy,le_antisymm->w3,mod_lt->w9,lt_of_succ_lt_succ->xZ,mul_le_mul->Ak,not_lt->F4,sub_zero->F7,le_succ_of_le->Ge,lt_of_le_of_lt->Vu
open Ne renaming symm->aS
open PySem.Heap renaming get?_push_of_some->a9,lt_size->bA,get?_push_size->bU,size_push->hJ,get?_update_other->kA,get?_update_self->ng,get?_none_of_le->r9
open Bool renaming false_ne_true->b7,and_eq_true->gW,eq_iff_iff->lI,and_eq_true_iff->nq,false_eq_true->ph,false_or->wW,or_false->FT
open PySem.Paired renaming length->cy,snoc->gX
open Option.some renaming inj->cQ
open PySem.PassesOwn renaming never->dZ
open Sum.inr renaming inj->fZ
open Array renaming length_toList->gk,getD_eq_getD_getElem?->iV,getElem?_eq_getElem->nA,getElem?_toList->pe,getElem?_eq_none->pw,size_append->sh,toList_inj->wR,getElem?_eq_some_iff->wU,find?_toList->UP,mem_of_getElem?->Va,perm_iff_toList_perm->Vb,toList_push->Vd
open Int renaming toNat_natCast->gD,eq_ofNat_of_zero_le->gY,emod_nonneg->Ai,emod_lt_of_pos->Aj,natCast_add->Gy,fdiv_eq_ediv_of_nonneg->UO,lt_of_lt_of_le->Vy
open Option renaming map_eq_some_iff->gF,map_some->r8,isSome_iff_exists->sd,isSome_map->si,bind_some->wN,map_map->Ah,isSome_some->U6,map_eq_none_iff->VG
open PySem.F renaming plainAttrs_list->hQ,called_set->lP,slot_list_append->nB,type_list_append->nC,store_object->sg,slot_dict_keyiterator_next->sr,slot_dict_itemiterator_next->su,plain_any_loop->wX,plain_list_iadd->yZ,slot_dict_items->Ab,slot_tuple_add->FK,entry_tuple_add->FL,args_tuple_add_2->FO,slot_list_pop->Gv,type_list_pop->Gw,attrBase_ValueError->U7,excBase_ValueError->U8,plain_extend_loop->Vh,entry_proto_collect->Vi,plain_proto_collect->Vj,entry_list_iadd->Vk,slot_tuple_index->Vp,entry_dict_keyiterator_next->Vq,args_dict_keyiterator_next_1->Vr,entry_dict_itemiterator_next->Vw,args_dict_itemiterator_next_1->Vx,slot_list_index->VM,type_list_index->VN
open PySem.W renaming kia_one->iR,mg_of->jF,any_some->sf,looks_mroIn->wM,plainGet_of->Fz,callWith_K->FC,set_plain->UQ,kitx_list->UT,kitx_dict->UU,methodCall_KW->UW,cellsFrom_some->UX
open PySem.Around renaming under_plainId->iU
open List.Perm renaming refl->kB,append_left->Vg
open PySem.Heap.SameBut renaming update->nz
open PyProof.Rows renaming slot_tuple_getitem->pd,callWith_type1->wD,assignInOrder_cons->Fy,callWith_builtin1->FF
open List.cons renaming inj->pA
open Prod renaming ext->wI
open PySem.Heap.UpToSlots renaming trans->w2
open PySem.Value renaming isStrOf_shape->Ft
open PySem.Code renaming quiet_builtin->FZ
open PyProof.Rows.F renaming plain_set_update_loop->Gf
open PySem.Calls renaming Name_function_global->UK,call_function_entry->Vl
open PySem.Within renaming cons->UR
open PySem.AutoSeq1 renaming wpAny_loadPart'->Vt
open List.Pairwise renaming map->Vz
open PySem.SeqAt renaming eqv_refl->VR
def ao:=@if_neg
def aB:=@if_pos
def cb:=@decide_eq_true
def dy:=@congrArg
def dA:=@of_decide_eq_true
def dJ:=@beq_iff_eq
def er:=@decide_eq_false
def hK:=@if_false
def hM:=@if_true
def iq:=@beq_eq_false_iff_ne
def jD:=@or_false
def pf:=@beq_self_eq_true
def z':=@PySem.wpAny_typeNameOfWhole_keyiter
def F':=@PySem.F.slot_tuple_getattribute
def U':=@Nat.le_of_succ_le
def VO:=@not_false_eq_true
variable{us its:am YB}{x n name qual q cn kd wh:Yp}{u cd Qe pm Qb ct oc vl vu dv:YB}{a b l it D p C f R sl B fI d I fL fD fN fS fE tt fC ow fT M fG fK wd fO dk td db d1 ln:YL}{o ox ol:abE}{i t' j n1 ep U:Nat}{h h' g base h0:ZE}{items:Array YB}{P prog:PySem.Program}{w:aba}{e c tg iter value Qo:abk}{L Ps:Yp->List Yp}{J:am (YL×abE)}{s s' s1 s2:Zv}{ch fp:am YL}{N ys ns ps Qs N' ks r NU rn NS:am Yp}{A:PySem.Around}{E:YB->Zv->Prop}{pos Qj Qg Qk tp:PySem.Pos}{K:U2}{st:abj}{es Qh Qw:am abk}{body:am abj}{lo m z bg:Int}{dx an od:a2 YL}{mA mg:Yp->Option YB}{Qt:Bool}{kw:am (Yp×YB)}{env:abF}{outer:am abF}{fd dL dD dN dS dI dW dE dC dT dG dR dK dO:PySem.FuncData}{kindOf:Yp->Option PySem.NameKind}{sc scope:PySem.Scope}{Qn:Array (Option YB)}{T:String}{hi:a2 Int}{XP:(Yp->Option YB)->ZE->Prop}{YP:aba->ZE->Prop}{cells:am (Yp×YL)}{Qf:am (Option Nat)}{tn:Nat->ZE->Prop}{RR:YB->YL->PySem.Result->Zv->Prop}{tk:PySem.Tok}{rest rows:am (List Yp)}{av:YL->Prop}{Qc:am (Yp×List Yp)}{dn:Yp->Bool}
open PySem
namespace L2
open Spec PyProof.Rows
abbrev Key:=Sum Int Gd
def mD:Key->i'->Bool
 |.inl k,v=>ZV k v
 |.inr x,v=>YG x v
def Ot(w:Yo):Key->Int
 |.inl k=>hashInt k
 |.inr x=>hashStr w x
theorem iY:∀{k:Key}{v:i'},mD k v=true->(∃i t,k=Zx i/\v=Y8 i t)\/(∃x t,k=n' x/\v=YX x t)
 |.inl i,v,h=>by
  obtain⟨t,e⟩:=aae (k:=i) (v:=v) h;exact .inl #[i,t,Z,e]
 |.inr x,v,h=>by
  obtain⟨t,e⟩:=Ft (x:=x) (v:=v) h;exact .inr #[x,t,Z,e]
theorem Iq(i:Int)(t:Tok):mD (.inl i)^.int i t=true:=by simp[mD,ZV]
theorem Ir(x:Gd)(t:Tok):mD (.inr x)^.str x t=true:=by simp[mD,YG]
theorem LU(a b:Int):decide ((Zx a:Key)=Zx b)=(a==b):=by
 by_cases e:a=b
 .subst e;simp
 .have h : ¬ (Zx a:Key)=Zx b:=λq=>e^Sum.inl.inj q
  rw[er h];exact(iq.mpr e).symm
theorem LV(a b:Gd):decide ((n' a:Key)=n' b)=decide (a=b):=by
 by_cases e:a=b
 .subst e;simp
 .have h : ¬ (n' a:Key)=n' b:=λq=>e^fZ q
  rw[er h,er e]
theorem LW(a:Int)(b:Gd):decide ((Zx a:Key)=n' b)=false:=er^λq=>nomatch q
theorem LX(a:Gd)(b:Int):decide ((n' a:Key)=Zx b)=false:=er^λq=>nomatch q
def cp(prog:Yg)(w:Yo):PySem.KeyKind prog w Key where
 is:=mD
 hash:=Ot w
 inj:=λv a b ha hb=>by
  rcases iY ha with⟨i,t,rfl,rfl⟩|⟨x,t,rfl,rfl⟩
  ·rcases iY hb with⟨j,u,rfl,e⟩|⟨y,u,rfl,e⟩
   ·injection e with e1 _;rw[e1]
   ·exact nomatch e
  ·rcases iY hb with⟨j,u,rfl,e⟩|⟨y,u,rfl,e⟩
   ·exact nomatch e
   ·injection e with e1 _;rw[e1]
 byValue:=λk v h=>by
  rcases iY h with⟨i,t,rfl,rfl⟩|⟨x,t,rfl,rfl⟩ <;> rfl
 pyHash:=λhv h=>by
  rcases iY hv with⟨i,t,rfl,rfl⟩|⟨x,t,rfl,rfl⟩
  ·exact wpAny_pyHash_int h
  ·exact wpAny_pyHash_str h
 eqBool:=λhu hv h=>by
  rcases iY hu with⟨i,t,rfl,rfl⟩|⟨x,t,rfl,rfl⟩
  ·rcases iY hv with⟨j,u,rfl,rfl⟩|⟨y,u,rfl,rfl⟩
   ·rw[LU]at h;exact wpAny_eqBool_int h
   ·rw[LW]at h;exact ZL i t y u _ _ _ _ h
  ·rcases iY hv with⟨j,u,rfl,rfl⟩|⟨y,u,rfl,rfl⟩
   ·rw[LX]at h;exact ZK x t j u _ _ _ _ h
   ·rw[LV]at h;exact Fu h
 «strs» :=λk x t v h=>by
  rcases iY h with⟨i,u,rfl,e⟩|⟨y,u,rfl,e⟩
  ·exact nomatch e
  ·injection e with e1 _
   subst e1;cases v <;> rfl
theorem Hc(prog:Yg)(w:Yo)(i:Int)(t:Tok):(cp prog w).is (.inl i)^.int i t=true:=Iq i t
theorem Hd(prog:Yg)(w:Yo)(x:Gd)(t:Tok):(cp prog w).is (.inr x)^.str x t=true:=Ir x t
inductive V where
 |aK|bl (b:Bool)|int (i:Int)|str (x:Gd)|gi (b:Array UInt8)|j7 (b:UInt64)|ref (a:FG)|ty (n:String)
 deriving DecidableEq
def RelV:V->i'->Prop
 |.aK,u=>u=Vv
 |.bl b,u=>u=YK b
 |.int i,u=>∃t,u=Y8 i t
 |.str x,u=>∃t,u=YX x t
 |.gi b,u=>∃t,u=aa9 b t
 |.j7 b,u=>∃t,u=ZW b t
 |.ref a,u=>u=UZ a
 |.ty n,u=>u=Yn n
abbrev Vals:List V->List i'->Prop:=VT RelV
theorem Vals.length{xs:am V}(r:Vals xs us):xs.length=us.length:=cy r
theorem Vals.get:∀{xs:am V}{us:am i'}{i:Nat}{x:V},Vals xs us->xs[i]?=ih x ->∃u,us[i]?=ih u/\RelV x u
 |_,_,_,_,.nil,e=>by simp at e
 |_,_,0,_,.cons r _,e=>by simp at e;subst e;exact#[_,Z,r]
 |_,_,i+1,x,.cons _ t,e=>by
  obtain⟨u,h1,h2⟩:=Vals.get (i:=i) (x:=x) t ⇑e
  exact#[u,⇑h1,h2]
theorem Vals.set{x:V}{u:i'}(r:RelV x u):∀{xs:am V}{us:am i'} (i:Nat),Vals xs us->Vals (xs.set i x)^us.set i u
 |_,_,_,.nil=>.nil
 |_,_,0,.cons _ t=>.cons r t
 |_,_,i+1,.cons q t=>.cons q^Vals.set r i t
theorem Vals.append:∀{xs ys:am V}{us ws:am i'},Vals xs us->Vals ys ws->Vals (xs++ys) (us++ws)
 |_,_,_,_,.nil,s=>s
 |_,_,_,_,.cons r t,s=>.cons r^Vals.append t s
theorem Vals.take:∀{xs:am V}{us:am i'} (n:Nat),Vals xs us->Vals (xs.take n)^us.take n
 |_,_,0,_=>.nil
 |_,_,_+1,.nil=>.nil
 |_,_,n+1,.cons r t=>.cons r^Vals.take n t
theorem Vals.drop:∀{xs:am V}{us:am i'} (n:Nat),Vals xs us->Vals (xs.drop n)^us.drop n
 |_,_,0,r=>r
 |_,_,_+1,.nil=>.nil
 |_,_,n+1,.cons _ t=>Vals.drop n t
def ez:Option V->Option i'->Prop
 |some v,ih u=>RelV v u
 |none,none=>True
 |_,_=>False
def KV{κ:Type}:List (κ×V)->List (κ×i')->Prop:=VT λ(p:κ×V) (q:κ×i')=>p.1=q.1/\RelV p.2 q.2
def kV:Key->V
 |.inl i=>.int i
 |.inr x=>.str x
inductive HO where
 |lst (xs:List V)
 |tup (xs:List V)
 |dK (kvs:List (Key×V))|dT (kvs:List (List Key×V))
 |set (S:Int->Bool) (n:Nat)
 |ins (C dx:FG) (fs:List (Gd×V))
 |own (x:FG)
 |xd (fs:List (Gd×V))
 |met (f x:FG)
 |oS (lo hi:Int)
 |bf (o:YC) (u:HO)
 |jn (ps:Array i')
 |ext (φ:Yb->Prop)
abbrev bn(x:List V):Option HO:=ih (.tup x)
abbrev ce(x:List V):Option HO:=ih (.lst x)
abbrev cr(x:List (Key×V)):Option HO:=ih (.dK x)
abbrev cs(x:List (List Key×V)):Option HO:=ih (.dT x)
abbrev bd(x:FG):Option V:=ih (.ref x)
abbrev Hp:=FG->Option HO
def upd(H:Hp)(a:FG)(o:HO):Hp:=λb=>if b=a then ih o else H b
theorem ah{H:Hp}{o:HO}:upd H a o a=ih o:=by unfold upd;rw[aB Z]
theorem ag{H:Hp}{o:HO}(h:b≠a):upd H a o b=H b:=by unfold upd;rw[ao h]
theorem fJ{H:Hp}{o u:HO}:upd (upd H a o) a u=upd H a u:=by
 funext b;unfold upd;split <;> rfl
theorem iy{l:am Gd}{x:V}(h:(l.map V.str)[i]?=ih x):∃h:i<l.length,V.str l[i]=x:=by
 have a:i<l.length:=by simpa using (b4.mp h).1
 exact#[a,by simpa [a] using h]
theorem aq{H:Hp}{o u:HO}(h:H a=ih o)(h':H b=ih u)(d:o≠u:=by intro z;cases z):a≠b:=by
 intro e;subst e;rw[h]at h';exact d^cQ h'
theorem aA{H:Hp}{o:HO}(h:H a=ih o)(h':H b=none):a≠b:=by
 intro e;subst e;rw[h]at h';cases h'
def jh(h:Yb)(a:FG)(items:Array i'):Prop:= ∃o,h.get? a=ih o/\o.cls=.type "tuple" /\∃n,o.data=.seq items n/\o.dict=none
theorem jh.is(x:jh h a items):Yz h a items:=let ⟨o,e,c,n,d,_⟩:=x;#[o,e,c,n,d]
theorem jh.new(h:Yb)(items:Array i'):jh (h.push { cls:=.type "tuple",data:=.seq items }) h.objs.size items:=#[_,bU _ Z,Z,_,Z,Z]
section
variable(P:Yg)(w:Yo)
def bH(H:Hp)(h:Yb)(a:FG):HO->Prop
 |.lst xs=>xs.length<=UM /\∃(its:List i') (n:Nat),Vals xs its/\h.get? a=ih { cls:=.type "list",data:=.seq its.toArray n }
 |.tup xs=>xs.length<=UM /\∃its:List i',Vals xs its/\jh h a its.toArray
 |.dK kvs=>kvs.length<=UM/\(a==sysModules)=false /\∃vs,KV kvs vs/\h.DictOf (cp P w) a vs
 |.dT kvs=>kvs.length<=UM/\(a==sysModules)=false /\∃xs:List (List Key×FG×i'),
   VT (λ(p:List Key×V) (q:List Key×FG×i')=>p.1=q.1/\H q.2.1=ih (.tup (p.1.map kV))/\RelV p.2 q.2.2) kvs xs /\
   ∃o es ep,h.get? a=ih o/\o.ExactDict/\o.data=.dict es ep/\es.toList=xs.map (entryOfKey (tupleKind (cp P w)))/\(xs.map (·.1)).Nodup
 |.set S n=>h.SetOf (intKind P w) a S n
 |.ins C dx fs=>H dx=ih (.own a)/\fs.length<=1000/\dx≠a/\h.get? a=ih (Yl C dx) /\
   ∃mA,h.Ns1 dx mA/\(∀f,ez (fs.lookup f) (mA f))/\YI mA (fs.map (·.1))
 |.own _=>∃o,h.get? a=ih o
 |.xd fs=>∃mA,h.Ns1 a mA /\∀f,ez (fs.lookup f) (mA f)
 |.oS lo hi=>∃t u v,h.get? a=ih { cls:=.type "range",data:=.fields #v[.int lo t,.int hi u,.int 1 v] }
 |.bf o u=>h.get? a=ih o/\bH H h a u
 |.jn ps=>h.get? a=ih { cls:=.none,data:=.fields ps }
 |.met f x=>h.get? a=ih (Zm (.ref f) (.ref x))
 |.ext φ=>φ h/\(∃o,h.get? a=ih o) /\∀h1 h2:Yb,φ h1->(∀o,h1.get? a=ih o->h2.get? a=ih o)->φ h2
def cu(H:Hp)(h:Yb):Prop:= ∀a o,H a=ih o->bH P w H h a o
end
section
variable{H H':Hp}{o:HO}
theorem bH.lt(x:bH P w H h a o):a<h.objs.size:=by
 cases o with
 |lst xs=>obtain⟨_,_,_,_,e⟩:=x;exact bA e
 |tup xs=>obtain⟨_,_,_,p⟩:=x;exact p.is.lt
 |dK kvs=>obtain⟨_,_,_,_,o,_,_,e,_⟩:=x;exact bA e
 |dT kvs=>obtain⟨_,_,_,_,o,_,_,e,_⟩:=x;exact bA e
 |set S n=>obtain⟨o,_,_,_,e,_⟩:=x;exact bA e
 |ins C dx fs=>obtain⟨_,_,_,e,_⟩:=x;exact bA e
 |own y=>obtain⟨_,e⟩:=x;exact bA e
 |xd fs=>obtain⟨_,⟨_,_,_,e,_⟩,_⟩:=x;exact bA e
 |oS lo hi=>obtain⟨_,_,_,e⟩:=x;exact bA e
 |bf b u=>obtain⟨e,_⟩:=x;exact bA e
 |jn ps=>exact bA (show h.get? a=ih _ from x)
 |met f y=>exact bA (show h.get? a=ih _ from x)
 |ext c=>obtain⟨_,⟨_,e⟩,_⟩:=x;exact bA e
theorem Paired.qU{α β:Type}{F G:α->β->Prop}:∀{c:am α}{d:am β},VT F c d->(∀a b,F a b->G a b)->VT G c d
 |_,_,.nil,_=>.nil
 |_,_,.cons r t,f=>.cons (f _ _ r)^Paired.qU t f
theorem Paired.imp'{α β:Type}{F G:α->β->Prop}(f:∀a b,F a b->G a b){c:am α}{d:am β}(r:VT F c d):VT G c d:=Paired.qU r f
theorem bH.eF(x:bH P w H h a o)(k:∀b u,(b=a\/H b=ih^.own a)->h.get? b=ih u->h'.get? b=ih u)
  (i:∀b,H b=ih^.own a->H' b=ih^.own a) (j:∀b xs,H b=bn xs->H' b=bn xs):bH P w H' h' a o:=by
 induction o with
 |lst xs=>obtain⟨z,its,n,r,e⟩:=x;exact#[z,its,n,r,k _ _ (.inl Z) e]
 |tup xs=>obtain⟨z,its,r,g,e,c⟩:=x;exact#[z,its,r,g,k _ _ (.inl Z) e,c]
 |dK kvs=>obtain⟨z,y,vs,r,g,es,ep,e,c⟩:=x;exact#[z,y,vs,r,g,es,ep,k _ _ (.inl Z) e,c]
 |dT kvs =>
  obtain⟨z,y,xs,r,g,es,ep,e,c⟩:=x;exact#[z,y,xs,Paired.qU r λp q z=>#[z.1,j _ _ z.2.1,z.2.2],g,es,ep,k _ _ (.inl Z) e,c]
 |set S n=>obtain⟨g,es,ep,t,e,c⟩:=x;exact#[g,es,ep,t,k _ _ (.inl Z) e,c]
 |ins C dx fs =>
  obtain⟨d,z,ne,e,mA,⟨od,es,ep,e2,c⟩,r⟩:=x;exact#[i _ d,z,ne,k _ _ (.inl Z) e,mA,#[od,es,ep,k _ _ (.inr d) e2,c],r]
 |own y=>obtain⟨g,e⟩:=x;exact#[g,k _ _ (.inl Z) e]
 |xd fs=>obtain⟨mA,⟨od,es,ep,e,c⟩,r⟩:=x;exact#[mA,#[od,es,ep,k _ _ (.inl Z) e,c],r]
 |oS lo hi=>obtain⟨t,u,v,e⟩:=x;exact#[t,u,v,k _ _ (.inl Z) e]
 |bf g u l=>obtain⟨e,q⟩:=x;exact#[k _ _ (.inl Z) e,l q]
 |jn ps =>
  have e:h.get? a=ih { cls:=.none,data:=.fields ps }:=x;show h'.get? a=ih { cls:=.none,data:=.fields ps };exact k a _ (.inl Z) e
 |met f y =>
  have e:h.get? a=ih^Zm (.ref f)^.ref y:=x;show h'.get? a=ih^Zm (.ref f)^.ref y;exact k a _ (.inl Z) e
 |ext m=>obtain⟨p,⟨o,e⟩,st⟩:=x;exact#[st _ _ p λo q=>k _ _ (.inl Z) q,#[o,k _ _ (.inl Z) e],st]
theorem cu.lt(x:cu P w H h)(e:H a=ih o):a<h.objs.size:=(x a o e).lt
theorem cu.fresh(x:cu P w H h)(e:h.objs.size<=a):H a=none:=by
 cases q:H a with
 |none=>rfl
 |some u=>exact absurd (eZ (x.lt q) e)^jt _
theorem cu.kept(x:cu P w H h)(k:∀b u,h.get? b=ih u->h'.get? b=ih u):cu P w H h':=λa o e =>
 (x a o e).eF (λb u _ q=>k b u q) (λ_ q=>q) λ_ _ q=>q
theorem cu.laid(x:cu P w H h)(k:∀b u,h.get? b=ih u->h'.get? b=ih u)(g:h.objs.size<=a)(new:bH P w (upd H a o) h' a o):cu P w (upd H a o) h':=λb u e=>by
 have d:=x.fresh g
 by_cases f:b=a
 .subst f;rw[ah]at e;cases e;exact new
 .rw[ag f]at e
  exact(x b u e).eF (λc v _ q=>k c v q) (λc q=>by rw[ag^aA q d];exact q) λc xs q=>by rw[ag^aA q d];exact q
end
def Rd(H:Hp)(a:FG)(u:HO):Prop:=H a=ih u \/∃o,H a=ih (.bf o u)
theorem Rd.of{H:Hp}{u:HO}(h:H a=ih u):Rd H a u:=.inl h
theorem Rd.ok{H:Hp}{u:HO}(r:Rd H a u)(x:cu P w H h):bH P w H h a u:=by
 rcases r with r|⟨o,r⟩
 .exact x a u r
 .obtain⟨_,q⟩:=x a _ r
  exact q
def oT:Option HO->Prop
 |some (.lst _)=>True
 |some (.dK _)=>True
 |some (.dT _)=>True
 |some (.set _ _)=>True
 |some (.ins _ _ _)=>True
 |some (.ext _)=>True
 |_=>False
section
variable{H:Hp}{x e:FG}{o':HO}
theorem cu.write(ok:cu P w H h)(d:oT^H x)(i:e=x\/H e=ih^.own x)(k:∀b u,b≠e->h.get? b=ih u->h'.get? b=ih u)(m:∃u,h'.get? e=ih u)
  (new:bH P w (upd H x o') h' x o'):cu P w (upd H x o') h':=λb u q=>by
 have g:∀c y,H c=ih^.own y->c≠x:=λc y r z=>by subst z;rw[r]at d;exact d
 have l:∀c xs,H c=bn xs->c≠x:=λc xs r z=>by subst z;rw[r]at d;exact d
 by_cases f:b=x
 .subst f;rw[ah]at q;cases q;exact new
 .rw[ag f]at q
  by_cases a:b=e
  .have j:H b=ih^.own x:=by
    rcases i with z|z
    .exact absurd (a.trans z) f
    .rw[a];exact z
   rw[q]at j;cases j;obtain⟨v,n⟩:=m;exact#[v,by rw[a];exact n]
  .refine(ok b u q).eF (λc v hc r=>k c v ?_ r) (λc r=>by rw[ag^g c b r];exact r) λc xs r=>by rw[ag^l c xs r];exact r
   rcases hc with rfl|hc
   .exact a
   .rintro rfl
    rcases i with z|z
    .exact g c b hc z
    .rw[hc]at z;cases z;exact f Z
end
structure Un(fs ex:List FG)(H H':Hp)(h h':Yb):Prop where
 keep:∀b o,h.get? b=ih o->H b=none->b ∉ fs->b ∉ ex->h'.get? b=ih o
 slot:∀b o,h.get? b=ih o->H b=none->b∈fs->b ∉ ex ->∃sl,h'.get? b=ih { o with slots:=sl }
 free:∀b o,h.get? b=ih o->H b=none->b ∉ ex->H' b=none
 there:∀b o,h.get? b=ih o->b ∉ ex ->∃o',h'.get? b=ih o'
 gy:∀b xs,H b=ih (.tup xs)->H' b=ih (.tup xs)
 gN:∀b o u,H b=ih (.bf o u)->H' b=ih (.bf o u)
 g8:∀b ps,H b=ih (.jn ps) ->∃Ou,H' b=ih (.jn (ps++Ou))
section
variable{fs Qp ex Ze:am FG}{H Y H2:Hp}{h1 h2:Yb}{x e:FG}{o:HO}
theorem Un.any(u:Un fs ex H Y h h1){a:YC}(q:h.get? b=ih a)(n:H b=none)(c:b ∉ ex):∃sl,h1.get? b=ih { a with slots:=sl }:=by
 by_cases d:b∈fs
 .exact u.slot b a q n d c
 .exact#[a.slots,u.keep b a q n d c]
theorem Un.kept(k:∀b u,h.get? b=ih u->h'.get? b=ih u):Un fs ex H H h h':=
 #[λb a q _ _ _=>k b a q,λb a q _ _ _=>#[a.slots,k b a q],λ_ _ _ n _=>n,λb a q _=>#[a,k b a q],λ_ _ q=>q,λ_ _ _ q=>q,λ_ ps q=>#[#v[],by rw[q];simp]]
theorem Un.refl:Un fs ex H H h h:=Un.kept λ_ _ q=>q
theorem Un.laid(k:∀b u,h.get? b=ih u->h'.get? b=ih u)(d:h.objs.size<=a)(c:H a=none):Un fs ex H (upd H a o) h h' where
 keep:=λb u q _ _ _=>k b u q
 slot:=λb u q _ _ _=>#[u.slots,k b u q]
 free:=λb u q n _=>by rw[ag^bK^eZ (bA q) d];exact n
 there:=λb u q _=>#[u,k b u q]
 gy:=λb xs q=>by rw[ag^aA q c];exact q
 gN:=λb u xs q=>by rw[ag^aA q c];exact q
 g8:=λb ps q=>#[#v[],by rw[ag^aA q c,q];simp]
theorem Un.write(a:oT^H x)(j:e=x\/H e=ih^.own x)(k:∀b u,b≠e->h.get? b=ih u->h'.get? b=ih u)(i:∃u,h'.get? e=ih u):Un fs ex H (upd H x o) h h':=by
 have f:∀b,H b=none->b≠x:=λb n z=>by subst z;rw[n]at a;exact a
 have g:∀b,H b=none->b≠e:=λb n z=>by
  subst z;rcases j with r|r
  .exact f b n r
  .rw[n]at r;cases r
 have c:∀b u,H b=ih u ->¬ oT^ih u->b≠x:=λb u q l z=>by subst z;rw[q]at a;exact l a
 refine#[λb u q n _ _=>k b u (g b n) q,λb u q n _ _=>#[u.slots,k b u (g b n) q],λb u q n _=>by rw[ag^f b n];exact n,λb u q _=>?_,
  λb xs q=>by rw[ag^c b _ q λz=>z];exact q,λb u xs q=>by rw[ag^c b _ q λz=>z];exact q,λb ps q=>#[#v[],by rw[ag^c b _ q λz=>z,q];simp]]
 by_cases d:b=e
 .subst d;exact i
 .exact#[u,k b u d q]
end
def hE(h:Yb)(H:Hp):List FG:=(VQ h.objs.size).filter λa=>(H a).isSome
def ji(h:Yb)(H:Hp):Yb:=PySem.W.hideAll h (hE h H)
theorem Iu(h:Yb)(H:Hp):(ji h H).objs.size=h.objs.size:=PySem.W.hideAll_size _ _
theorem Jk{H:Hp}(e:h.get? b=ih o)(n:H b=none):(ji h H).get? b=ih o:=
 PySem.W.hideAll_get _ e λa=>by
  have q:(H b).isSome=true:=(eb.mp a).2;rw[n]at q;simp at q
theorem Kx{H:Hp}(e:(ji h H).get? b=ih o):h.get? b=ih o/\H b=none:=by
 have a:h.get? b=ih o:=PySem.W.of_hideAll (hE h H) e;refine#[a,?_];cases q:H b with
 |none=>rfl
 |some x =>
  have c:b∈hE h H:=eb.mpr #[ju.mpr^bA a,by simp[q]]
  have z:(ji h H).get? b=none:=PySem.W.hideAll_none (hE h H) c;rw[z]at e;cases e
def tX(g h:Yb)(L:FG):List (FG×YC):=(VQ h.objs.size).filterMap λa=>if a=L\/(g.get? a).isSome=true then none else (h.get? a).map λo=>(a,o)
theorem Av{L:FG}(h1:a≠L)(h2:g.get? a=none)(b:h.get? a=ih o):(a,o)∈tX g h L:=
 o7.mpr #[a,ju.mpr^bA b,by simp[h1,h2,b]]
theorem sD{L:FG}{p:FG×YC}(c:p∈tX g h L):p.1≠L/\g.get? p.1=none/\h.get? p.1=ih p.2:=by
 obtain⟨b,_,e⟩:=o7.mp c;split at e
 .cases e
 .rename_i a
  cases q:h.get? b with
  |none=>rw[q]at e;simp at e
  |some u =>
   rw[q]at e;simp only[r8,acf]at e;subst e;refine#[λz=>a^.inl z,?_,q];show g.get? b=none;cases r:g.get? b with
   |none=>rfl
   |some v=>exact(a^.inr^by simp[r]).elim
theorem Jl{L:FG}:News g L h^tX g h L:=λp d=>let ⟨a,b,c⟩:=sD d;#[c,a,b]
structure Mod(K:U2)(mg:Gd->Option i')(base:Yb):Prop where
 lB:K.In base
 glob:base.Ns U5 mg
 blt:∃mb,base.Ns builtinsNs mb /\∀x:Gd,x ≠ "__name__" -> mb x=VA x
 nolimit:base.NoLimit
structure Cx where
 prog:Yg
 w:Yo
 K:U2
 mg:Gd->Option i'
 base:Yb
 A:Yq
 N:List Gd
 eg:UJ
 g9:Hp
 env:Zq
 outer:List Zq
 stack:List Zq
 ex:List FG
 fn:Gd->Bool
 calm:Bool
 pn:List (FG×YC)
 xe:i'->UJ->Prop
abbrev Cx.dt(X:Cx):=U0 X.prog X.w
abbrev wA{α:Type}(X:Cx):=UL (α:=α) X.dt X.A
end L2
abbrev PySem.Shared.aj(s:Zv):YL:=s.heap.objs.size
namespace L2
open Spec PyProof.Rows W
def ej(l:List Zq):List FG:=l.filterMap (·.frame)
abbrev Cx.fs(X:Cx):List FG:=ej X.outer
def vQ(sc:Y0)(x:Gd):Prop:=sc.names.lookup x=ih .local\/sc.names.lookup x=ih .cell\/sc.names.lookup x=ih .free
def Loc(sc:Y0)(x:Gd):Prop:=sc.names.lookup x=ih .local\/sc.names.lookup x=ih .cell
def Look(env:Zq)(h:Yb)(m:Gd->Option i')(x:Gd)(u:i'):Prop:=
 (env.kindOf x=ih .local/\m x=ih u)\/((env.kindOf x=ih .cell\/env.kindOf x=ih .free) /\∃c,env.cells.lookup x=ih c/\h.IsCell c (ih u))
structure Cx.Ok(X:Cx):Prop where
 mod:Mod X.K X.mg X.base
 kind:X.env.scope.kind=.function
 glob:X.env.globals=U5
 blt:X.env.builtins=builtinsNs
 above:X.eg.heap.objs.size<=X.env.locals
 inj:∀x y c,X.env.cells.lookup x=ih c->X.env.cells.lookup y=ih c->x=y
 has:∀x,(X.env.kindOf x=ih .cell\/X.env.kindOf x=ih .free) ->∃c,X.env.cells.lookup x=ih c
 j8:∀x c,X.fn x=true->X.env.cells.lookup x=ih c->X.eg.heap.objs.size<=c
 hd:X.calm=true->X.A.handled=none
 frames:X.A.frames=ih X.stack
 lC:X.stack=X.outer\/(X.stack=X.env::X.outer/\X.env.frame=ih X.env.locals)
 lD:∀b∈X.ex,b≠X.env.locals /\∀x c,X.env.cells.lookup x=ih c->c≠b
 bs:∀b o,X.base.get? b=ih o->X.eg.heap.get? b=ih o/\X.g9 b=none
 ib:X.base.objs.size<=X.eg.heap.objs.size
 jZ:∀b o,X.base.get? b=ih o->b ∉ X.ex
 j0:∀b∈X.ex,b ∉ X.fs
 fV:X.eg.heap.FunFrames X.base X.outer
 iO:∀b∈X.fs,X.g9 b=none
structure Inv(X:Cx)(J:List (FG×YC))(σ:List (Option V))(H:Hp)(s:UJ):Prop where
 ok:X.Ok
 os:s.os=X.eg.os
 bare:Zf s.gens
 base:Un X.fs X.ex X.g9 H X.eg.heap s.heap
 loc:∃m,s.heap.Ns X.env.locals m /\∀(i:Nat) (x:Gd) (v:V),X.N[i]?=ih x->σ[i]?=ih (ih v)->vQ X.env.scope x ->∃u,RelV v u/\Look X.env s.heap m x u
 cell:∀x c,X.env.cells.lookup x=ih c ->∃v,s.heap.IsCell c v
 free:H X.env.locals=none
 eR:∀x c,X.env.cells.lookup x=ih c->H c=none
 pin:∀p∈X.pn++J,s.heap.get? p.1=ih p.2/\H p.1=none/\p.1≠X.env.locals/\p.1 ∉ X.fs /\∀v,p.2.data ≠ .cell v
 aH:cu X.prog X.w H s.heap
 len:σ.length=X.N.length
section
variable{X:Cx}{σ:am (Option V)}{H H':Hp}
theorem Cx.Ok.qV(ok:X.Ok)(e:X.base.get? b=ih o):b ∉ X.fs:=λa=>by
 have:=(ok.fV.mem a).1;rw[e]at this;cases this
theorem Inv.bs(I:Inv X J σ H s):∀b o,X.base.get? b=ih o->s.heap.get? b=ih o/\H b=none:=λb o e =>
 #[I.base.keep b o (I.ok.bs b o e).1 (I.ok.bs b o e).2 (I.ok.qV e)^I.ok.jZ b o e,I.base.free b o (I.ok.bs b o e).1 (I.ok.bs b o e).2^I.ok.jZ b o e]
theorem Inv.bk(I:Inv X J σ H s):∀b o,X.base.get? b=ih o->s.heap.get? b=ih o:=λb o e=>(I.bs b o e).1
theorem Inv.mod(I:Inv X J σ H s):Mod X.K X.mg X.base:=I.ok.mod
theorem Inv.bX(I:Inv X J σ H s):X.K.In s.heap:=I.ok.mod.lB.keeps I.bk
theorem Inv.lt(I:Inv X J σ H s):X.env.locals<s.aj:=let ⟨_,a,_⟩:=I.loc;a.lt
theorem Inv.sz(I:Inv X J σ H s):X.eg.heap.objs.size<=s.aj:=ec I.ok.above^o8 I.lt
theorem Inv.Ov(I:Inv X J σ H s)(h:s.aj<=a):a ∉ X.fs:=λb=>by
 obtain⟨_,o,c,_⟩:=I.ok.fV.mem b;exact absurd (eZ (bA c)^ec I.sz h)^jt _
theorem Inv.ic(I:Inv X J σ H s):∀x c,X.env.cells.lookup x=ih c->c≠X.env.locals:=λx c e z=>by
 obtain⟨v,o,a,b⟩:=I.cell x c e;obtain⟨m,⟨o',es,ep,d,f,_⟩,_⟩:=I.loc;rw[z,d]at a;cases a;rw[f]at b;cases b
theorem Inv.fV(I:Inv X J σ H s):s.heap.FunFrames X.base X.outer:=by
 have all:∀(l:am Zq),(∀b∈ej l,b∈X.fs)->X.eg.heap.FunFrames X.base l->s.heap.FunFrames X.base l:=by
  intro l
  induction l with
  |nil=>intro _ _;trivial
  |cons env r g =>
   rintro f ⟨i,⟨L,o,a,j,k,m⟩,n⟩;have c:L∈X.fs:=f L (by unfold ej;rw[Fv,a];exact aY)
   obtain⟨sl,e⟩:=I.base.slot L o k (I.ok.iO L c) c λz=>I.ok.j0 L z c;exact#[i,#[L,_,a,j,e,m],g (λb d=>f b^by unfold ej;rw[Fv,a];exact bh _ d) n]
 exact all X.outer (λ_ d=>d) I.ok.fV
theorem Inv.stack(I:Inv X J σ H s):s.heap.FunFrames X.base X.stack:=by
 rcases I.ok.lC with e|⟨e,a⟩
 .rw[e];exact I.fV
 .rw[e]
  obtain⟨m,b,_⟩:=I.loc;refine .cons (by rw[I.ok.kind];decide) a b ?_ I.fV
  exact r9^ec I.ok.ib I.ok.above
theorem Inv.qt(I:Inv X J σ H s):∀b∈ej X.stack,b∈X.env.locals::X.fs:=λb a=>by
 rcases I.ok.lC with e|⟨e,c⟩
 .rw[e]at a;exact bh _ a
 .rw[e]at a
  unfold ej at a;rw[Fv,c]at a;exact a
theorem Inv.tY(I:Inv X J σ H s):∀b∈ej X.stack,H b=none:=λb hb=>by
 rcases bL.mp^I.qt b hb with e|hb
 .rw[e];exact I.free
 .obtain⟨_,o,a,_⟩:=I.ok.fV.mem hb
  exact I.base.free b o a (I.ok.iO b hb) λz=>I.ok.j0 b z hb
theorem Inv.step{g':Array ZT}{d':Drawn}(I:Inv X J σ H s)
  (h:∀b∈ch,(b∈X.ex\/X.eg.heap.objs.size<=b)/\b≠X.env.locals/\(∀x c,X.env.cells.lookup x=ih c->c≠b) /\∀p∈X.pn++J,p.1≠b)
  (keep:∀b o,b≠X.env.locals->b ∉ X.fs->b ∉ ch->s.heap.get? b=ih o->H b=none->h'.get? b=ih o)
  (B:∀b o,b≠X.env.locals->b∈X.fs->b ∉ ch->s.heap.get? b=ih o->H b=none ->∃sl,h'.get? b=ih { o with slots:=sl }) (free:∀b o,b ∉ ch->s.heap.get? b=ih o->H b=none->H' b=none)
  (there:∀b o,b ∉ ch->s.heap.get? b=ih o ->∃o',h'.get? b=ih o')
  (G:∀b xs,H b=bn xs->H' b=bn xs) (K:∀b o u,H b=ih^.bf o u->H' b=ih^.bf o u) (L:∀b ps,H b=ih^.jn ps ->∃M,H' b=ih^.jn (ps++M))
  (ns:∀m,s.heap.Ns X.env.locals m->h'.Ns X.env.locals m) (N:cu X.prog X.w H' h') (P:Zf g') :
  Inv X J σ H' { s with heap:=h',gens:=g',drawn:=d',toks:=t' }:=by
 have C:∀b o,X.eg.heap.get? b=ih o->b≠X.env.locals:=λb o e=>bK^eZ (bA e) I.ok.above;have t:∀b o,X.eg.heap.get? b=ih o->b ∉ X.ex->b ∉ ch:=λb o e a f=>by
  rcases (h b f).1 with z|z
  .exact a z
  .exact absurd (eZ (bA e) z)^jt _
 have A:∀x c,X.env.cells.lookup x=ih c ->∀v,s.heap.IsCell c v->h'.IsCell c v:=λx c e v ⟨o,g,y⟩=>by
  have j:c ∉ ch:=λz=>(h c z).2.2.1 x c e Z
  by_cases D:c∈X.fs
  .obtain⟨sl,q⟩:=B c o (I.ic x c e) D j g^I.eR x c e
   exact#[_,q,y]
  .exact#[o,keep c o (I.ic x c e) D j g^I.eR x c e,y]
 refine#[I.ok,I.os,P,#[λb o e n f a=>?_,λb o e n f a=>?_,λb o e n a=>?_,λb o e a=>?_,λb xs e=>G b xs^I.base.gy b xs e,λb o xs e=>K b o xs^I.base.gN b o xs e,λb ps e=>?_],?_,λx c e=>?_,?_,λx c e=>?_,λp E=>?_,N,I.len]
 .exact keep b o (C b o e) f (t b o e a) (I.base.keep b o e n f a)^I.base.free b o e n a
 .obtain⟨sl,e1⟩:=I.base.slot b o e n f a
  obtain⟨O,e2⟩:=B b _ (C b o e) f (t b o e a) e1^I.base.free b o e n a;exact#[O,e2]
 .obtain⟨o',e1⟩:=I.base.there b o e a
  exact free b o' (t b o e a) e1^I.base.free b o e n a
 .obtain⟨o',e1⟩:=I.base.there b o e a
  exact there b o' (t b o e a) e1
 .obtain⟨Q,e1⟩:=I.base.g8 b ps e
  obtain⟨R,e2⟩:=L b _ e1;exact#[Q++R,by rw[e2,Array.append_assoc]]
 .obtain⟨m,S,T⟩:=I.loc
  refine#[m,ns m S,λi x v e1 e2 e3=>?_];obtain⟨u,r,l⟩:=T i x v e1 e2 e3;refine#[u,r,?_];rcases l with l|⟨k,c,e,z⟩
  .exact .inl l
  .exact .inr #[k,c,e,A x c e _ z]
 .obtain⟨v,z⟩:=I.cell x c e
  exact#[v,A x c e v z]
 .obtain⟨m,⟨o,_,_,g,_⟩,_⟩:=I.loc
  exact free _ o (λz=>(h _ z).2.1 rfl) g I.free
 .obtain⟨v,o,g,y⟩:=I.cell x c e
  exact free c o (λz=>(h c z).2.2.1 x c e Z) g^I.eR x c e
 .obtain⟨e,n,ne,F,d⟩:=I.pin p E
  have j:p.1 ∉ ch:=λz=>(h p.1 z).2.2.2 p E Z;exact#[keep p.1 p.2 ne F j e n,free p.1 p.2 j e n,ne,F,d]
theorem Inv.un(I:Inv X J σ H s)(u:Un X.fs [] H H' s.heap h')(f:cu X.prog X.w H' h'):Inv X J σ H' { s with heap:=h',toks:=t' }:=by
 obtain⟨m,⟨o,es,ep,d,r⟩,_⟩:=id I.loc;obtain⟨sl,i⟩:=u.any d I.free (by simp)
 exact I.step (g':=s.gens) (d':=s.drawn) (ch:=[]) (λ_ z=>nomatch z) (λb o _ a _ e n=>u.keep b o e n a^by simp) (λb o _ a _ e n=>u.slot b o e n a^by simp) (λb o _ e n=>u.free b o e n^by simp) (λb o _ e=>u.there b o e^by simp) u.gy u.gN u.g8 (λl j=>by
  obtain⟨o',g,h,c,k⟩:=j;rw[d]at c;cases c;exact#[_,g,h,i,k]) f I.bare
theorem Inv.call{g':Array ZT}{d':Drawn}(I:Inv X J σ H s)(u:Un (ej X.stack) ch H H' s.heap h')(i:cu X.prog X.w H' h')(l:Zf g')
  (f:∀b∈ch,(b∈X.ex\/X.eg.heap.objs.size<=b)/\b≠X.env.locals/\(∀x c,X.env.cells.lookup x=ih c->c≠b) /\∀p∈X.pn++J,p.1≠b) :
  Inv X J σ H' { s with heap:=h',gens:=g',drawn:=d',toks:=t' }:=by
 obtain⟨m,⟨o,es,ep,h,r⟩,_⟩:=id I.loc;obtain⟨sl,d⟩:=u.any h I.free λz=>(f _ z).2.1 rfl;exact I.step (ch:=ch) f (λb o d q a e n=>u.keep b o e n (λz=>(bL.mp^I.qt b z).elim d q) a) (λb o _ _ a e n=>u.any e n a) (λb o a e n=>u.free b o e n a) (λb o a e=>u.there b o e a) u.gy u.gN u.g8 (λy t=>by
  obtain⟨o',j,k,g,v⟩:=t;rw[h]at g;cases g;exact#[_,j,k,d,v]) i l
theorem Inv.turned(I:Inv X J σ H s)(k:∀b o,b≠it->s.heap.get? b=ih o->h'.get? b=ih o)(g:H it=none)(f:it≠X.env.locals)
  (h1:it∈X.ex\/X.eg.heap.objs.size<=it) (h2:∀x c,X.env.cells.lookup x=ih c->c≠it) (h:∀p∈X.pn++J,p.1≠it):Inv X J σ H { s with heap:=h',toks:=t' }:=by
 have d:∀b u,H b=ih u->b≠it:=λb u e z=>by rw[z,g]at e;cases e
 refine I.step (g':=s.gens) (d':=s.drawn) (ch:=[it]) (λb i=>?_) (λb o _ _ a e _=>k b o (λz=>a^by simp[z]) e) (λb o _ _ a e _=>#[o.slots,k b o (λz=>a^by simp[z]) e]) (λ_ _ _ _ n=>n)
  (λb o a e=>#[o,k b o (λz=>a^by simp[z]) e]) (λ_ _ e=>e) (λ_ _ _ e=>e) (λb ps e=>#[#v[],by rw[e];simp]) (λm j=>?_) (λb u e=>?_) I.bare
 .have e:b=it:=by simpa using i
  subst e;exact#[h1,f,h2,h]
 .obtain⟨o,es,ep,l,r⟩:=j
  exact#[o,es,ep,k _ o (aS f) l,r]
 .refine(I.aH b u e).eF (λc v a q=>k c v ?_ q) (λ_ q=>q) λ_ _ q=>q
  rcases a with z|z
  .rw[z];exact d b u e
  .exact d c _ z
theorem Inv.tok(I:Inv X J σ H s)(t:Nat):Inv X J σ H { s with toks:=t }:=I.un (h':=s.heap) (t':=t) Un.refl I.aH
theorem Inv.kept(I:Inv X J σ H s)(k:∀b u,s.heap.get? b=ih u->h'.get? b=ih u):Inv X J σ H { s with heap:=h',toks:=t' }:=I.un (Un.kept k)^I.aH.kept k
theorem Inv.laid{o:HO}(I:Inv X J σ H s)(k:∀b u,s.heap.get? b=ih u->h'.get? b=ih u)(c:s.aj<=a)(new:bH X.prog X.w (upd H a o) h' a o) :
  Inv X J σ (upd H a o) { s with heap:=h',toks:=t' }:=I.un (Un.laid k c^I.aH.fresh c)^I.aH.laid k c new
theorem Inv.write{x e:FG}{o:HO}(I:Inv X J σ H s)(c:oT^H x)(d:e=x\/H e=ih^.own x)(k:∀b u,b≠e->s.heap.get? b=ih u->h'.get? b=ih u)(a:∃u,h'.get? e=ih u)
  (new:bH X.prog X.w (upd H x o) h' x o):Inv X J σ (upd H x o) { s with heap:=h',toks:=t' }:=I.un (Un.write c d k a)^I.aH.write c d k a new
theorem Inv.CP{Qr:am (FG×YC)}(I:Inv X J σ H s)(h:∀p∈Qr,s.heap.get? p.1=ih p.2/\H p.1=none/\p.1≠X.env.locals/\p.1 ∉ X.fs /\∀v,p.2.data ≠ .cell v):Inv X Qr σ H s:=
 #[I.ok,I.os,I.bare,I.base,I.loc,I.cell,I.free,I.eR,λp a=>(bT.mp a).elim (λz=>I.pin p^gj _ z)^h p,I.aH,I.len]
theorem tH(c:N.Nodup)(a:N[i]?=ih x)(b:N[j]?=ih x):i=j:=by
 obtain⟨h1,e1⟩:=b4.mp a;obtain⟨h2,e2⟩:=b4.mp b;exact(aap c).mp (e1.trans e2.symm)
theorem Bb{M:ZI}{v:V}{Q:Unit->UJ->Prop}(I:Inv X J σ H s)(xa:X.N.Nodup)(hi:X.N[i]?=ih x)(g:Loc X.env.scope x)(r:RelV v u)
  (h:∀s',Inv X J (σ.set i^ih v) H s'->(∃a,X5 a s.heap s'.heap/\(a=X.env.locals\/X.env.cells.lookup x=ih a))->Q Unit.unit s') (xc:X.fn x=true\/X.env.scope.names.lookup x=ih .local:=by first|exact .inl rfl|exact .inr rfl|assumption):UL M A (storeName X.env x u) Q E s:=by
 obtain⟨m,F,ya⟩:=id I.loc;have za:(X.env.scope.kind == .class||(X.env.scope.kind == .module&&X.env.locals != X.env.globals))=false:=by rw[I.ok.kind];rfl
 have T:i<σ.length:=by rw[I.len];exact(b4.mp hi).1
 have ic:=I.ic;have R:∀{a:FG}{h':Yb},(∃o,s.heap.get? a=ih o/\H a=none)->X5 a s.heap h'->cu X.prog X.w H h':=λ{a h'} yc f b zc e=>by
  obtain⟨_,_,S⟩:=yc;refine(I.aH b zc e).eF (λc B hc q=>(f.2 c ?_).trans q) (λ_ q=>q) λ_ _ q=>q;rintro rfl;rcases hc with rfl|hc
  .rw[S]at e;cases e
  .rw[S]at hc;cases hc
 rcases g with hk|hk
 .refine wpAny_storeName_local hk F (λh' yb f=>?_) za
  obtain⟨xd,_,_,zb,_⟩:=id F;refine h _ #[I.ok,I.os,I.bare,#[λb o e n l g=>?_,λb o e n l g=>?_,I.base.free,λb o e g=>?_,I.base.gy,I.base.gN,I.base.g8],#[_,yb,λj y G e1 e2 e3=>?_],λy c e=>?_,I.free,I.eR,λp K=>?_,R #[xd,zb,I.free] f,⇑I.len] #[_,f,.inl Z]
  .exact(f.2 b^bK^eZ (bA e) I.ok.above).trans (I.base.keep b o e n l g)
  .obtain⟨sl,e1⟩:=I.base.slot b o e n l g
   exact#[sl,(f.2 b^bK^eZ (bA e) I.ok.above).trans e1]
  .obtain⟨o',e1⟩:=I.base.there b o e g
   exact#[o',(f.2 b^bK^eZ (bA e) I.ok.above).trans e1]
  .by_cases t:j=i
   .subst t
    rw[hi]at e1;cases e1;rw[Fw T]at e2;cases e2
    exact#[u,r,.inl #[hk,by simp]]
   .rw[Fx^aS t]at e2
    obtain⟨L,O,q⟩:=ya j y G e1 e2 e3;refine#[L,O,?_];rcases q with⟨k,e⟩|⟨k,c,e,z⟩
    .refine .inl #[k,?_]
     have:y≠x:=λe=>t^tH xa e1 (e ▸ hi);simp[this,e]
    .exact .inr #[k,c,e,z.sameBut f^ic y c e]
  .obtain⟨B,z⟩:=I.cell y c e
   exact#[B,z.sameBut f^ic y c e]
  .obtain⟨e,n,ne,P,d⟩:=I.pin p K
   exact#[(f.2 p.1 ne).trans e,n,ne,P,d]
 .have D:X.fn x=true:=by
   rcases xc with z|z
   .exact z
   .rw[z]at hk;cases hk
  obtain⟨c,hc⟩:=I.ok.has x^.inl hk;obtain⟨B,z⟩:=I.cell x c hc;refine wpAny_storeName_cell I.ok.kind hk hc z^λh' U f=>?_;obtain⟨oc,W,xb⟩:=id z;refine h { s with heap:=h' } #[I.ok,I.os,I.bare,#[λb o e n l g=>?_,λb o e n l g=>?_,I.base.free,λb o e g=>?_,I.base.gy,I.base.gN,I.base.g8],#[m,F.sameBut f^aS^ic x c hc,λj y G e1 e2 e3=>?_],λy C e=>?_,I.free,I.eR,λp K=>?_,R #[oc,W,I.eR x c hc] f,⇑I.len] #[c,f,.inr hc]
  .exact(f.2 b^bK^eZ (bA e)^I.ok.j8 x c D hc).trans (I.base.keep b o e n l g)
  .obtain⟨sl,e1⟩:=I.base.slot b o e n l g
   exact#[sl,(f.2 b^bK^eZ (bA e)^I.ok.j8 x c D hc).trans e1]
  .obtain⟨o',e1⟩:=I.base.there b o e g
   exact#[o',(f.2 b^bK^eZ (bA e)^I.ok.j8 x c D hc).trans e1]
  .by_cases t:j=i
   .subst t
    rw[hi]at e1;cases e1;rw[Fw T]at e2;cases e2
    exact#[u,r,.inr #[.inl hk,c,hc,U]]
   .rw[Fx^aS t]at e2
    obtain⟨L,O,q⟩:=ya j y G e1 e2 e3;refine#[L,O,?_];rcases q with q|⟨k,C,e,yd⟩
    .exact .inl q
    .refine .inr #[k,C,e,yd.sameBut f ?_]
     rintro rfl;exact t^tH xa e1 (I.ok.inj _ _ _ e hc ▸ hi)
  .by_cases Y:C=c
   .subst Y;exact#[_,U]
   .obtain⟨zd,z2⟩:=I.cell y C e
    exact#[zd,z2.sameBut f Y]
  .obtain⟨e,n,ne,P,d⟩:=I.pin p K
   refine#[(f.2 p.1 ?_).trans e,n,ne,P,d];intro q;rw[q,W]at e;have xe:oc=p.2:=cQ e;exact d B (by rw[<-xe];exact xb)
theorem nP{M:ZI}{v:V}{Q:Unit->UJ->Prop}(I:Inv X J σ H s)(a:X.N.Nodup)(hi:X.N[i]?=ih x)(b:Loc X.env.scope x)(r:RelV v u)
  (h:∀s',Inv X J (σ.set i^ih v) H s'->Q Unit.unit s') (c:X.fn x=true\/X.env.scope.names.lookup x=ih .local:=by first|exact .inl rfl|exact .inr rfl|assumption):UL M A (storeName X.env x u) Q E s:=
 Bb I a hi b r (λs' d _=>h s' d) c
theorem Inv.uS(I:Inv X J σ H s)(f:s'.os=s.os)(u:Un (ej X.stack) ch H H' s.heap s'.heap)(a:cu X.prog X.w H' s'.heap)(g:Zf s'.gens)
  (d:∀b∈ch,(b∈X.ex\/X.eg.heap.objs.size<=b)/\b≠X.env.locals/\(∀x c,X.env.cells.lookup x=ih c->c≠b) /\∀p∈X.pn++J,p.1≠b):Inv X J σ H' s':=by
 obtain⟨h',g',d',t',o'⟩:=s';have e:o'=s.os:=f;subst e;exact I.call (g':=g') (t':=t') (d':=d') u a g d
end
abbrev XK:=i'->Option FG->Hp->Prop
abbrev St:=List (Option V)
abbrev VK:=V->Hp->Prop
abbrev TE:=St->Hp->VK->Prop
abbrev TT:=St->Hp->(Bool->Hp->Prop)->Prop
abbrev TA:=St->Hp->(List V->Hp->Prop)->Prop
structure Ends where
 nx:St->Hp->Prop
 rt:VK
 bk:St->Hp->Prop:=λ_ _=>False
 ct:St->Hp->Prop:=λ_ _=>False
abbrev TS:=Ends->St->Hp->Prop
end L2
variable{xs vs ws wb wt lv:am L2.V}{H H' Y H2 H0:L2.Hp}{X:L2.Cx}{σ e7:L2.St}{v y:L2.V}{Q:L2.VK}{ta te tl tv:L2.TE}{tb:L2.TS}{ti:L2.TT}{kvs kt Qd:am (L2.Key×L2.V)}{O:L2.HO}{kh kk kq:am (List L2.Key×L2.V)}
namespace L2
open Spec PyProof.Rows W
def EP(X:Cx)(J:List (FG×YC))(σ:St)(Q:VK)(u:i')(s':UJ):Prop:= ∃v H',Inv X J σ H' s'/\RelV v u/\Q v H'
def TP(X:Cx)(J:List (FG×YC))(σ:St)(Q:Bool->Hp->Prop)(b:Bool)(s':UJ):Prop:= ∃H',Inv X J σ H' s'/\Q b H'
def AP(X:Cx)(J:List (FG×YC))(σ:St)(Q:List V->Hp->Prop)(us:List i')(s':UJ):Prop:= ∃vs H',Inv X J σ H' s'/\Vals vs us/\Q vs H'
def SP(X:Cx)(J:List (FG×YC))(D:Ends)(f:Flow)(s':UJ):Prop:=
 match f with
 |.next=>∃cM H',Inv X J cM H' s'/\D.nx cM H'
 |.brk=>∃cM H',Inv X J cM H' s'/\D.bk cM H'
 |.cont=>∃cM H',Inv X J cM H' s'/\D.ct cM H'
 |.ret u=>∃v cM H',Inv X J cM H' s'/\RelV v u/\D.rt v H'
def PE(X:Cx)(e:VH)(t:TE):Prop:=
 ∀J s σ H (Q:VK),Inv X J σ H s->t σ H Q->wA X (eval e X.env) (EP X J σ Q) X.xe s
def PT(X:Cx)(e:VH)(t:TT):Prop:=
 ∀J s σ H (Q:Bool->Hp->Prop),Inv X J σ H s->t σ H Q->wA X (isTrue e X.env (eval e X.env)) (TP X J σ Q) X.xe s
def PW(X:Cx)(e:VH)(t:TT):Prop:=
 ∀(MV:Zi i') J s σ H (Q:Bool->Hp->Prop),Inv X J σ H s->t σ H Q->wA X (isTrue e X.env MV) (TP X J σ Q) X.xe s
theorem PW.pt{t:TT}(h:PW X e t):PT X e t:=h _
def PA(X:Cx)(es:List VH)(t:TA):Prop:=
 ∀(pos:Z4) J s σ H (Q:List V->Hp->Prop),Inv X J σ H s->t σ H Q->wA X (spliced (backTo pos (Vc es X.env))) (AP X J σ Q) X.xe s
def PS(X:Cx)(st:Vm)(t:TS):Prop:=
 ∀J s σ H (D:Ends),Inv X J σ H s->t D σ H->wA X (exec st X.env) (SP X J D) X.xe s
def dH(X:Cx)(st:List Vm)(t:TS):Prop:=
 ∀J s σ H (D:Ends),Inv X J σ H s->t D σ H->wA X (execs st X.env) (SP X J D) X.xe s
theorem aG{α:Type}{t:Zi α}{Q b:α->UJ->Prop}{M:ZI}(h:UL M A t Q E s)(c:∀a s,Q a s->b a s):UL M A t b E s:=ir h c λ_ _ x=>x
end L2
namespace L2
open Spec PyProof.Rows
section
def gO(i:Nat):TE:=λσ H Q=>∃v,σ[i]?=ih (ih v)/\Q v H
def tC(v:V):TE:=λ_ H Q=>Q v H
theorem LY(j:X.N[i]?=ih x)(k:vQ X.env.scope x)(b:(x==("__debug__" : Gd))=false:=by decide)(g:(x==("__classdict__" : Gd))=false:=by decide):PE X (.Name x pos)^gO i:=by
 rintro J s σ H Q I ⟨v,e,h⟩;obtain⟨m,n,o⟩:=I.loc;obtain⟨u,r,l⟩:=o i x v j e k;have a:EP X J σ Q u s:=#[v,H,I,r,h];rcases l with⟨hk,p⟩|⟨hk,c,f,d⟩
 .exact wpAny_Name (wpAny_loadName_local I.ok.kind hk n p a) b
 .rcases hk with hk|hk
  .exact wpAny_Name (wpAny_loadName_cell I.ok.kind hk f d a) b
  .exact wpAny_Name (wpAny_loadName_free I.ok.kind hk f d a g) b
theorem aw{i j pos}:PE X (.Constant (.int i) j pos)^tC^.int i:=λ_ _ _ H _ I h=>wpAny_Constant_int #[.int i,H,I.tok _,#[_,Z],h]
theorem g7{b j pos}:PE X (.Constant (.bool b) j pos)^tC^.bl b:=λ_ _ _ H _ I h=>Constant_bool #[.bl b,H,I,Z,h]
theorem d3{j pos}:PE X (.Constant .none j pos)^tC .aK:=λ_ _ _ H _ I h=>ach #[.aK,H,I,Z,h]
theorem br{x j pos}:PE X (.Constant (.str x) j pos)^tC^.str x:=λ_ _ _ H _ I h=>Calls.Constant_str #[.str x,H,I.tok _,#[_,Z],h]
def Gl(X:Cx)(x:Gd):Prop:=X.env.kindOf x=ih .globalImplicit
theorem md{Q:i'->UJ->Prop}(I:Inv X J σ H s)(a:Gl X x)(b:X.mg x=ih u)(h:Q u s)
  (c:(x==("__debug__" : Gd))=false:=by decide):wA X (eval (.Name x pos) X.env) Q E s:=
 UK I.ok.kind a (Calls.loadGlobal_global (by rw[I.ok.glob];exact I.mod.glob.keeps I.bk) b h) c
theorem kQ{Q:i'->UJ->Prop}(I:Inv X J σ H s)(a:Gl X x)(b:X.mg x=none)(c:VA x=ih u)(h:Q u s)
  (d:x ≠ "__name__" :=by decide) (e:(x==("__debug__" : Gd))=false:=by decide):wA X (eval (.Name x pos) X.env) Q E s:=by
 obtain⟨f,h1,h2⟩:=I.mod.blt;exact UK I.ok.kind a (Calls.loadGlobal_builtin (by rw[I.ok.glob];exact I.mod.glob.keeps I.bk) b (by rw[I.ok.blt];exact h1.keeps I.bk) ((h2 x d).trans c) h) e
theorem me(a:Gl X x)(b:X.mg x=none)(c:VA x=ih u)(r:RelV v u)(d:x ≠ "__name__" :=by decide)(e:(x==("__debug__" : Gd))=false:=by decide):PE X (.Name x pos)^tC v:=
 λ_ _ _ H _ I h=>kQ I a b c #[v,H,I,r,h] d e
variable{a b:VH}{tb:TE}
def PC(X:Cx)(op:ZS)(a b:VH)(t:TE):Prop:=
 ∀J s σ H (Q:VK),Inv X J σ H s->t σ H Q ->
  wA X (eval a X.env) (λv Ow=>wA X (eval b X.env) (λu Ox=>wA X (X2 op v u) (EP X J σ Q) X.xe Ox) X.xe Ow) X.xe s
theorem B1(b:VH){op:ZS}(h:op ≠ .In)(h2:op ≠ .NotIn):behindInMarks op b=false:=by
 have e1:(op==ace)=false:=by cases op <;> first|rfl|exact absurd rfl h
 have e2:(op==abg)=false:=by cases op <;> first|rfl|exact absurd rfl h2
 cases b <;> simp[behindInMarks,e1,e2]
def MW(ta:TE):TE:=λσ H Q=>ta σ H λx Y=>Q (.bl (!decide (x=.aK))) Y
theorem RelV.Jm{x:V}{v:i'}(r:RelV x v):(v==Vv)=decide (x=.aK):=by
 cases x with
 |aK=>cases r;rfl
 |bl _=>cases r;rfl
 |int _=>obtain⟨t,rfl⟩:=r;rfl
 |str _=>obtain⟨t,rfl⟩:=r;rfl
 |gi _=>obtain⟨t,rfl⟩:=r;rfl
 |j7 _=>obtain⟨t,rfl⟩:=r;rfl
 |ref _=>cases r;rfl
 |ty _=>cases r;rfl
theorem tZ{j Qj}(b:PE X a ta):PC X .IsNot a (.Constant .none j Qj)^MW ta:=by
 intro J s σ H Q I h;refine aG (b J s σ H _ I h) λv s1 f=>?_;obtain⟨x,Y,c,d,e⟩:=f;exact ach^isnot_none_gen #[.bl _,Y,c,by rw[d.Jm];rfl,e]
def tB(t:TE):TT:=λσ H Q=>t σ H λx Y=>∃c,x=.bl c/\Q c Y
theorem LZ{op:ZS}{t:TE}(h:PC X op a b t)(h1:behindInMarks op b=false:=by first|exact B1 _ ∅ ∅|rfl):PE X (.Compare a [op] [b] pos) t:=λJ s σ H Q I c=>wpAny_Compare1 (h J s σ H Q I c) h1
theorem gr{op:ZS}{t:TE}(h:PC X op a b t)(h1:behindInMarks op b=false:=by first|exact B1 _ ∅ ∅|rfl):PT X (.Compare a [op] [b] pos)^tB t:=by
 intro J s σ H Q I e;refine wpAny_isTrue_Compare1 (aG (h J s σ H _ I e) λv s1 h1=>aG h1 λu s2 h2=>aG h2 λc j k=>?_) h1;obtain⟨x,Y,f,g,i⟩:=k;obtain⟨d,rfl,q⟩:=i;cases g
 exact hI #[Y,f,q]
theorem gu{t:TE}(h:PE X e t)(b:∀a,isTrue e X.env a=(do let v <- a;standAt e.pos;holding [v]^truthy v):=by intro _;rfl):PT X e^tB t:=by
 intro J s σ H Q I c;refine isTrue_plain (aG (h J s σ H _ I c) λv s1 j=>?_)^b _;obtain⟨x,Y,f,g,i⟩:=j;obtain⟨d,rfl,q⟩:=i;cases g
 exact hI #[Y,f,q]
variable{tA Qz:TT}{rest:am VH}
def vj(t u:TT):TT:=λσ H Q=>t σ H λc Y=>if c=true then u σ Y Q else Q false Y
def vR(t u:TT):TT:=λσ H Q=>t σ H λc Y=>if c=true then Q true Y else u σ Y Q
def Oy(t:TT):TT:=λσ H Q=>t σ H λc Y=>Q (!c) Y
theorem pw_and1(b:PT X a tA):PW X (.BoolOp .And [a] pos) tA:=by
 intro wh J s σ H Q I h;refine isTrue_and^aG (b J s σ H Q I h) λc s1 e=>?_;cases c with
 |true=>exact isTrue_and_nil e
 |false=>exact e
theorem pw_or1(b:PT X a tA):PW X (.BoolOp .Or [a] pos) tA:=by
 intro wh J s σ H Q I h;refine isTrue_or^aG (b J s σ H Q I h) λc s1 e=>?_;cases c with
 |false=>exact isTrue_or_nil e
 |true=>exact e
theorem pw_and(f:PT X a tA)(g:PW X (.BoolOp .And (b::rest) pos) Qz):PW X (.BoolOp .And (a::b::rest) pos)^vj tA Qz:=by
 intro wh J s σ H Q I h;refine isTrue_and^aG (f J s σ H _ I h) λc s1 i=>?_;obtain⟨Y,d,e⟩:=i;cases c with
 |true=>exact g wh J s1 σ Y Q d e
 |false=>exact#[Y,d,e]
theorem pw_or(f:PT X a tA)(g:PW X (.BoolOp .Or (b::rest) pos) Qz):PW X (.BoolOp .Or (a::b::rest) pos)^vR tA Qz:=by
 intro wh J s σ H Q I h;refine isTrue_or^aG (f J s σ H _ I h) λc s1 i=>?_;obtain⟨Y,d,e⟩:=i;cases c with
 |true=>exact#[Y,d,e]
 |false=>exact g wh J s1 σ Y Q d e
theorem gv(b:PT X a tA):PT X (.UnaryOp .Not a pos)^Oy tA:=by
 intro J s σ H Q I h;exact isTrue_not^b J s σ H (λc Y=>Q (!c) Y) I h
def MX(ta tb:TE):TE:=λσ H Q=>ta σ H λx Y=>∃c,x=.bl c/\if c=true then tb σ Y Q else Q (.bl false) Y
def Oz(ta tb:TE):TE:=λσ H Q=>ta σ H λx Y=>∃c,x=.bl c/\if c=true then Q (.bl true) Y else tb σ Y Q
def MY(ta:TE):TE:=λσ H Q=>ta σ H λx Y=>∃c,x=.bl c/\Q (.bl (!c)) Y
theorem qu{op}{t:TE}(h:PE X a t):PE X (.BoolOp op [a] pos) t:=λJ s σ H Q I b=>BoolOp_one^h J s σ H Q I b
theorem uA(f:PE X a ta)(g:PE X (.BoolOp .And (b::rest) pos) tb):PE X (.BoolOp .And (a::b::rest) pos)^MX ta tb:=by
 intro J s σ H Q I h;refine BoolOp_and^aG (f J s σ H _ I h) λv s1 j=>?_;obtain⟨x,Y,e,i,d⟩:=j;obtain⟨c,rfl,d⟩:=d;cases i
 refine hI ?_;cases c with
 |true=>exact g J s1 σ Y Q e d
 |false=>exact#[.bl false,Y,e,Z,d]
theorem MZ(f:PE X a ta)(g:PE X (.BoolOp .Or (b::rest) pos) tb):PE X (.BoolOp .Or (a::b::rest) pos)^Oz ta tb:=by
 intro J s σ H Q I h;refine BoolOp_or^aG (f J s σ H _ I h) λv s1 j=>?_;obtain⟨x,Y,e,i,d⟩:=j;obtain⟨c,rfl,d⟩:=d;cases i
 refine hI ?_;cases c with
 |false=>exact g J s1 σ Y Q e d
 |true=>exact#[.bl true,Y,e,Z,d]
theorem L0(d:PE X a ta):PE X (.UnaryOp .Not a pos)^MY ta:=by
 intro J s σ H Q I h;refine UnaryOp_^aG (d J s σ H _ I h) λv s1 g=>?_;obtain⟨x,Y,e,f,b⟩:=g;obtain⟨c,rfl,b⟩:=b;cases f
 exact not_of^hI #[.bl (!c),Y,e,Z,b]
def PV(t:TT)(ta tb:TE):TE:=λσ H Q=>t σ H λc Y=>if c=true then ta σ Y Q else tb σ Y Q
theorem Jn(g:PT X c tA)(i:PE X a ta)(j:PE X b tb):PE X (.IfExp c a b pos)^PV tA ta tb:=by
 intro J s σ H Q I h;refine wpAny_IfExp^aG (g J s σ H _ I h) λd s1 k=>?_;obtain⟨Y,e,f⟩:=k;cases d with
 |true=>exact i J s1 σ Y Q e f
 |false=>exact j J s1 σ Y Q e f
end
def au(K:U2)(H:Hp)(a:FG)(xs:List V):Prop:=
 Rd H a (.lst xs) \/
  ∃(o:YC) (its:Array i') (n:Nat),K.lookup a=ih o/\o.cls=.type "list" /\ o.dict=none/\o.data=.seq its n/\its.size<=UM/\Vals xs its.toList
def aX(K:U2)(H:Hp)(a:FG)(xs:List V):Prop:=
 Rd H a (.tup xs) \/
  ∃(o:YC) (its:Array i') (n:Nat),K.lookup a=ih o/\o.cls=.type "tuple" /\ o.data=.seq its n/\its.size<=UM/\Vals xs its.toList
def OA:i'->Option V
 |.none=>ih .aK
 |.bool b=>ih (.bl b)
 |.int i _=>ih (.int i)
 |.str x _=>ih (.str x)
 |.bytes b _=>ih (.gi b)
 |.float b _=>ih (.j7 b)
 |.ref a=>ih (.ref a)
 |.type n=>ih (.ty n)
 |_=>none
theorem RelV.abs{x:V}(r:RelV x u):OA u=ih x:=by
 cases x with
 |aK=>cases r;rfl
 |bl _=>cases r;rfl
 |int _=>obtain⟨t,rfl⟩:=r;rfl
 |str _=>obtain⟨t,rfl⟩:=r;rfl
 |gi _=>obtain⟨t,rfl⟩:=r;rfl
 |j7 _=>obtain⟨t,rfl⟩:=r;rfl
 |ref _=>cases r;rfl
 |ty _=>cases r;rfl
theorem RelV.inj{x:V}(r:RelV x u)(q:RelV y u):x=y:=cQ^r.abs.symm.trans q.abs
theorem Vals.inj:∀{xs ys:am V}{us:am i'},Vals xs us->Vals ys us->xs=ys
 |_,_,_,.nil,.nil=>rfl
 |_,_,_,.cons r t,.cons a t'=>by rw[r.inj a,Vals.inj t t']
section
variable{ys:am V}
theorem au.of(h:H a=ce xs):au K H a xs:=.inl^.inl h
theorem aX.of(h:H a=bn xs):aX K H a xs:=.inl^.inl h
theorem Inv.list(I:Inv X J σ H s)(h:au X.K H a xs):∃its:am i',Vals xs its/\PlainL s.heap a its.toArray/\xs.length<=UM:=by
 rcases h with h|⟨o,its,n,b,c,d,f,g,r⟩
 .obtain⟨z,its,n,r,e⟩:=h.ok I.aH
  exact#[its,r,#[_,n,e,Z,Z,Z],z]
 .refine#[its.toList,r,#[o,n,I.bX a o b,c,d,⇑f],?_]
  have e:=r.length;simp only[gk]at e;omega
theorem Inv.tuple(I:Inv X J σ H s)(h:aX X.K H a xs):∃its:am i',Vals xs its/\Yz s.heap a its.toArray/\xs.length<=UM:=by
 rcases h with h|⟨o,its,n,b,c,d,f,r⟩
 .obtain⟨z,its,r,p⟩:=h.ok I.aH
  exact#[its,r,p.is,z]
 .refine#[its.toList,r,#[o,I.bX a o b,c,n,⇑d],?_]
  have e:=r.length;simp only[gk]at e;omega
theorem Inv.B4(I:Inv X J σ H s)(h:au X.K H a xs)(h':au X.K H a ys):xs=ys:=by
 obtain⟨its,r,⟨o,n,e,_,_,d⟩,_⟩:=I.list h;obtain⟨f,g,⟨o',i,b,_,_,c⟩,_⟩:=I.list h';rw[e]at b;cases b;rw[d]at c;injection c with d1 _;have:its=f:=by simpa using dy aa2 d1
 subst this;exact r.inj g
theorem Inv.Iv(I:Inv X J σ H s)(h:aX X.K H a xs)(h':aX X.K H a ys):xs=ys:=by
 obtain⟨its,r,⟨o,e,_,n,d⟩,_⟩:=I.tuple h;obtain⟨f,g,⟨o',b,_,i,c⟩,_⟩:=I.tuple h';rw[e]at b;cases b;rw[d]at c;injection c with d1 _;have:its=f:=by simpa using dy aa2 d1
 subst this;exact r.inj g
end
abbrev Cx.iH(X:Cx)(E:i'->UJ->Prop):Cx:={ X with xe:=E }
abbrev Cx.lE(X:Cx):Cx:=X.iH λ_ _=>False
theorem Cx.Ok.iH(ok:X.Ok)(E:i'->UJ->Prop):(X.iH E).Ok:=
 #[ok.mod,ok.kind,ok.glob,ok.blt,ok.above,ok.inj,ok.has,ok.j8,ok.hd,ok.frames,ok.lC,ok.lD,ok.bs,ok.ib,ok.jZ,ok.j0,ok.fV,ok.iO]
theorem Cx.Ok.jT(ok:(X.iH E).Ok):X.Ok:=
 #[ok.mod,ok.kind,ok.glob,ok.blt,ok.above,ok.inj,ok.has,ok.j8,ok.hd,ok.frames,ok.lC,ok.lD,ok.bs,ok.ib,ok.jZ,ok.j0,ok.fV,ok.iO]
theorem Inv.iH(I:Inv X J σ H s)(E:i'->UJ->Prop):Inv (X.iH E) J σ H s:=#[I.ok.iH E,I.os,I.bare,I.base,I.loc,I.cell,I.free,I.eR,I.pin,I.aH,I.len]
theorem Inv.jT(I:Inv (X.iH E) J σ H s):Inv X J σ H s:=#[I.ok.jT,I.os,I.bare,I.base,I.loc,I.cell,I.free,I.eR,I.pin,I.aH,I.len]
theorem SP.jT{D:Ends}{f:Flow}(h:SP (X.iH E) J D f s'):SP X J D f s':=by
 cases f with
 |next=>obtain⟨a,H',I,q⟩:=h;exact#[a,H',I.jT,q]
 |brk=>obtain⟨a,H',I,q⟩:=h;exact#[a,H',I.jT,q]
 |cont=>obtain⟨a,H',I,q⟩:=h;exact#[a,H',I.jT,q]
 |ret u=>obtain⟨v,a,H',I,r,q⟩:=h;exact#[v,a,H',I.jT,r,q]
theorem dH.lE{st:am Vm}{t:TS}(h:dH X.lE st t):dH X st t:=λJ s σ H D I a =>
 ir (h J s σ H D (I.iH _) a) (λ_ _ q=>q.jT) λ_ _ z=>Vn z
section
variable{rest:am Vm}{t u:TS}
def M0:TS:=λD σ H=>D.nx σ H
def qW(t u:TS):TS:=λD σ H=>t { D with nx:=u D } σ H
theorem bE:dH X [] M0:=λ_ _ σ H _ I h=>o9 #[σ,H,I,h]
theorem ar(h1:PS X st t)(h2:dH X rest u):dH X (st::rest)^qW t u:=by
 intro J s σ H D I h;refine wpAny_execs_cons^aG (h1 J s σ H { D with nx:=u D } I h) λf s1 q=>?_;cases f with
 |next =>
  obtain⟨a,H',b,q⟩:=q;exact h2 J s1 a H' D b q
 |ret v=>exact q
 |brk=>exact q
 |cont=>exact q
theorem ay(h1:PS X st t):dH X [st] t:=by
 intro J s σ H D I h;refine wpAny_execs_cons^aG (h1 J s σ H D I h) λf s1 q=>?_;cases f with
 |next=>exact o9 q
 |ret v=>exact q
 |brk=>exact q
 |cont=>exact q
theorem Inv.quiet(I:Inv X J σ H s):interactive X.env=false:=by simp[interactive,I.ok.kind]
def M1(te:TE):TS:=λD σ H=>te σ H λ_ Y=>D.nx σ Y
theorem eL(a:PE X e te)(b:swapsWith e none pos.line X.env=pure false:=by rfl):PS X (.Expr e pos)^M1 te:=by
 intro J s σ H D I h;exact wpAny_Expr_any (aG (a J s σ H _ I h) λv s1 ⟨x,Y,c,f,d⟩=>#[σ,Y,c,d]) I.quiet b
def OB(te:TE):TS:=λD σ H=>te σ H D.rt
theorem a3(a:PE X e te):PS X (.Return (ih e) pos)^OB te:=by
 intro J s σ H D I h;exact wpAny_Return_some^aG (a J s σ H _ I h) λv s1 ⟨x,Y,b,c,d⟩=>#[x,σ,Y,b,c,d]
def M3:TS:=λD _ H=>D.rt .aK H
theorem Ky:PS X (.Return none pos) M3:=λ_ _ σ H _ I h=>wpAny_Return_none #[.aK,σ,H,I,Z,h]
def vm(c:TT)(t u:TS):TS:=λD σ H=>c σ H λb Y=>if b=true then t D σ Y else u D σ Y
theorem bo{a b:am Vm}{tc:TT}(g:PT X c tc)(i:dH X a t)(j:dH X b u):PS X (.If c a b pos)^vm tc t u:=by
 intro J s σ H D I h;refine wpAny_If^aG (g J s σ H _ I h) λd s1 k=>?_;obtain⟨Y,e,f⟩:=k;cases d with
 |true=>exact i J s1 σ Y D e f
 |false=>exact j J s1 σ Y D e f
def Dw:TS:=λ_ _ _=>False
theorem Jo:PS X st Dw:=λ_ _ _ _ _ _ h=>h.elim
theorem s8{a:am Vm}:dH X a Dw:=λ_ _ _ _ _ _ h=>h.elim
end
abbrev TG:=V->St->Hp->(St->Hp->Prop)->Prop
abbrev j9:=List V->St->Hp->(St->Hp->Prop)->Prop
def PG(X:Cx)(L1:VH)(t:TG):Prop:=
 ∀J s σ H (v:V) (u:i') (Q:St->Hp->Prop),Inv X J σ H s->RelV v u->t v σ H Q ->
  wA X (assign L1 X.env u) (λ_ s'=>∃cM H',Inv X J cM H' s'/\Q cM H') X.xe s
def oU(X:Cx)(ts:List VH)(t:j9):Prop:=
 ∀J s σ H (vs:List V) (us:List i') (Q:St->Hp->Prop),Inv X J σ H s->Vals vs us->t vs σ H Q ->
  wA X (assignInOrder ((assignEach ts X.env).map (·.2)) us) (λ_ s'=>∃cM H',Inv X J cM H' s'/\Q cM H') X.xe s
abbrev vn:=V->V->V->Hp->(Hp->Prop)->Prop
def Ea(X:Cx)(t:vn):Prop:=
 ∀J s σ H (o i v:V) (ov iv u:i') (Q:Hp->Prop),Inv X J σ H s->RelV o ov->RelV i iv->RelV v u->t o i v H Q ->
  wA X (setItem ov iv u) (λ_ s'=>∃H',Inv X J σ H' s'/\Q H') X.xe s
def iE(i:Nat):TG:=λv σ H Q=>Q (σ.set i (ih v)) H
theorem qf(a:X.N.Nodup)(hi:X.N[i]?=ih x)(b:Loc X.env.scope x)(c:X.fn x=true\/X.env.scope.names.lookup x=ih .local:=by first|exact .inl rfl|exact .inr rfl|assumption):PG X (.Name x pos)^iE i:=by
 intro J s σ H v u Q I r h;exact wpAny_assign_Name^nP I a hi b r (λs' d=>#[_,H,d,h]) c
theorem ba(i:Nat)(a:X.N.Nodup)(hi:X.N[i]?=ih x:=by exact rfl)(b:Loc X.env.scope x:=by exact aa6 Z)(c:X.fn x=true\/X.env.scope.names.lookup x=ih .local:=by first|exact .inl rfl|exact .inr rfl|assumption):PG X (.Name x pos)^iE i:=qf a hi b c
def OC:j9:=λvs σ H Q=>vs=[]/\Q σ H
def M4(t:TG)(u:j9):j9:=λvs σ H Q=>∃v r,vs=v::r/\t v σ H λcM H'=>u r cM H' Q
theorem fM:oU X [] OC:=by
 rintro J s σ H vs us Q I r ⟨e,h⟩;subst e;cases r
 exact assignInOrder_nil #[σ,H,I,h]
theorem cA{t:TG}{u:j9}(h1:PG X e t)(h2:oU X es u)
  (b:(assignEach (e::es) X.env).map (·.2)=assign e X.env::(assignEach es X.env).map (·.2):=by rfl):oU X (e::es)^M4 t u:=by
 rintro J s σ H vs us Q I r ⟨v,g,e1,h⟩;subst e1;cases r with
 |cons r c =>
  rw[b];refine Fy^aG (h1 J s σ H _ _ _ I r h) λ_ s1 i=>?_;obtain⟨a,Y,d,f⟩:=i;exact h2 J s1 a Y _ _ Q d c f
def Eb(K:U2)(n:Nat)(t:j9):TG:=λv σ H Q=>∃a xs,v=.ref a/\aX K H a xs/\xs.length=n/\t xs σ H Q
theorem gH{k:Nat}{t:j9}{n:Nat}(g:X.calm=true)(h:oU X es t)
  (i:(assignEach es X.env).length=n:=by rfl) (f:(assignEach es X.env).findIdx? (·.1)=none:=by rfl):PG X (.Tuple es k pos)^Eb X.K n t:=by
 rintro J s σ H v u Q I r ⟨a,xs,e1,j,l,c⟩;subst e1;cases r
 obtain⟨its,d,m,w⟩:=I.tuple j;refine assign_Tuple_tuple (I.ok.hd g) m (by simp[i,<-l,d.length]) f λh' p=>?_
 have q:Inv X J σ H { s with heap:=h' }:=I.kept (t':=s.toks) λb o e=>p b o (bK^bA e) e;exact h J _ σ H xs _ Q q ⇑d c
def OD(to ti:TE)(t:vn):TG:=λv σ H Q=>to σ H λo Y=>ti σ Y λi H2=>t o i v H2 λH3=>Q σ H3
theorem Dx{o i:VH}{to ti:TE}{t:vn}(c:PE X o to)(hi:PE X i ti)(d:Ea X t)
  (e:∀v,assign (.Subscript o i pos) X.env v=(do
   let a <- holding [v]^eval o X.env
   let b <- holding [v,a] (eval i X.env)
   standAt pos
   holding [v,a,b] (setItem a b v)
   release [v,a,b] []):=by intro _;rfl):PG X (.Subscript o i pos)^OD to ti t:=by
 intro J s σ H v u Q I r h;rw[e];refine ae^ed^aG (c J s σ H _ I h) λa s1 z=>?_;obtain⟨x,Y,f,g,j⟩:=z;refine ae^ed^aG (hi J s1 σ Y _ f j) λb s2 z=>?_;obtain⟨y,H2,k,l,m⟩:=z;refine ae^ku^ae^ed^aG (d J s2 σ H2 x y v a b u _ k g l r m) λ_ w z=>?_;obtain⟨n,p,q⟩:=z;exact wpAny_release #[σ,n,p,q]
def qX(te:TE)(g:TG):TS:=λD σ H=>te σ H λx Y=>g x σ Y D.nx
theorem g6{g:TG}(a:PE X e te)(b:PG X tg g)(c:swapsWithSole [tg] e pos.line X.env=pure false:=by rfl)(d:swappedStores [tg] e X.env=pure none:=by rfl)
  (h1:(assignEach [tg] X.env).map (·.2)=[assign tg X.env]:=by rfl):PS X (.Assign [tg] e pos)^qX te g:=by
 intro J s σ H D I h;refine wpAny_Assign_stores (aG (a J s σ H _ I h) λv s1 k=>?_) c d;obtain⟨x,Y,f,i,j⟩:=k;rw[h1];exact aG (b J s1 σ Y x v _ f i j) λ_ s2 q=>q
theorem iA(a:X.N.Nodup)(hi:X.N[i]?=ih x)(b:Loc X.env.scope x)(c:PE X e te)(d:swapsWith e (ih^.Name x Qj) pos.line X.env=pure false:=by rfl)(f:X.fn x=true\/X.env.scope.names.lookup x=ih .local:=by first|exact .inl rfl|exact .inr rfl|assumption) :
  PS X (.Assign [.Name x Qj] e pos)^qX te^iE i:=by
 intro J s σ H D I h;refine wpAny_Assign_Name (aG (c J s σ H _ I h) λv s1 m=>?_) d;obtain⟨y,Y,g,j,k⟩:=m;exact nP g a hi b j (λs2 l=>#[_,Y,l,k]) f
theorem a4(i:Nat)(a:X.N.Nodup)(b:PE X e te)(hi:X.N[i]?=ih x:=by exact rfl)(c:Loc X.env.scope x:=by exact aa6 Z)(d:swapsWith e (ih^.Name x Qj) pos.line X.env=pure false:=by rfl)(f:X.fn x=true\/X.env.scope.names.lookup x=ih .local:=by first|exact .inl rfl|exact .inr rfl|assumption):PS X (.Assign [.Name x Qj] e pos)^qX te^iE i:=iA a hi c b d f
def OE(i j:Nat)(ta:TA):TS:=λD σ H=>ta σ H λvs Y=>∃v w,vs=[v,w]/\D.nx ((σ.set i (ih v)).set j (ih w)) Y
theorem L3{y:Gd}{a b:VH}{ta:TA}{g k pt:Z4}{kt l f}(C:X.calm=true)(n:X.N.Nodup)(hi:X.N[i]?=ih x)(E:X.N[j]?=ih y)(z:i≠j)
  (r:X.env.scope.names.lookup x=ih .local) (t:X.env.scope.names.lookup y=ih .local) (F:PA X [a,b] ta)
  (G:swappedStores [.Tuple [.Name x g,.Name y k] kt pt] (.Tuple [a,b] l f) X.env=pure^ih [x,y])
  (K:swapsWithSole [.Tuple [.Name x g,.Name y k] kt pt] (.Tuple [a,b] l f) pos.line X.env=pure false:=by rfl) :
  PS X (.Assign [.Tuple [.Name x g,.Name y k] kt pt] (.Tuple [a,b] l f) pos)^OE i j ta:=by
 intro J s σ H D I h;rw[exec_Assign_arm];refine ae^ku ?_;rw[K];refine ae^ak ?_;rw[ao ∅]
 refine ae^Tuple_^aG (F _ J s σ H _ I h) λus s1 V=>?_;obtain⟨vs,Y,L,M,m⟩:=V;obtain⟨v,w,e1,m⟩:=m;subst e1;obtain⟨c,d,rfl,O,A⟩:∃c d,us=[c,d]/\RelV v c/\RelV w d:=by
  cases M with
  |cons p q =>
   cases q with
   |cons P Q =>
    cases Q
    exact#[_,_,Z,p,P]
 refine e4 ?_ (by show 2<=UM;decide)
 have R:Inv X J σ Y { s1 with heap:=s1.heap.push { cls:=.type "tuple",data:=.seq [c,d].toArray } }:=L.kept (t':=s1.toks) λb o e=>a9 _ e;rw[G];refine ae^ak ?_;show wA X (do rule "assign.swapped-stores"; let items <- unpackItems (.ref s1.aj) 2 none;assignInOrder [λv=>bindName X.env y v,λv=>bindName X.env x v] items.reverse;pure acd) _ _ _;refine ae^jv^ae^unpackItems_tuple (items:= #v[c,d]) (I.ok.hd C) (IsTup.new s1.heap _) λh' B=>?_;have S:=R.kept (h':=h') (t':=s1.toks) λb o e=>B b o (bK^bA e) e;show UL _ _ (assignInOrder [λv=>bindName X.env y v,λv=>bindName X.env x v] [d,c] >>= λ_=>pure acd) _ _ _;refine ae^Fy^wpAny_bindName^nP S n E (.inl t) A (λs2 T=>?_)^.inr t;refine Fy^wpAny_bindName^nP T n hi (.inl r) O (λU u=>assignInOrder_nil^ak ?_)^.inr r;rw[List.set_comm _ _^aS z]at u;exact#[_,Y,u,m]
def L4(c:TT)(tb:TS):TS:=λD σ H=>∃W:Nat->St->Hp->Prop,(∃m,W m σ H) /\∀m σ H,W m σ H ->
 c σ H λb Y=>if b=true then ∃N:St->Hp->Prop,(∀cM H',N cM H' ->∃m',m'<m/\W m' cM H')/\tb { D with nx:=N,ct:=N,bk:=D.nx } σ Y else D.nx σ Y
theorem nQ{tc:TT}(q:PassesOwn X.dt X.A X.env X.xe)(w:PT X c tc)(x:dH X body tb):PS X (.While c body [] pos)^L4 tc tb:=by
 rintro J s σ H D I ⟨W,⟨y,z⟩,u⟩;refine wpAny_While^codeAny_whileLoop (λn s'=>∃p H',Inv X J p H' s'/\W n p H') ?_ y #[σ,H,I,z];rintro n s1 ⟨e,Y,B,C⟩;refine m7 q^aG (w J s1 e Y _ B^u n e Y C) λb s2 F=>?_;obtain⟨H2,r,g⟩:=F;cases b with
 |true =>
  obtain⟨N,t,g⟩:=g;rw[aB Z];refine m7 q^aG (x J s2 e H2 _ r g) λf E i=>?_;cases f with
  |next =>
   obtain⟨a,d,j,k⟩:=i;obtain⟨l,m,o⟩:=t a d k;exact#[l,m,a,d,j,o]
  |cont =>
   obtain⟨a,d,j,k⟩:=i;obtain⟨l,m,o⟩:=t a d k;exact#[l,m,a,d,j,o]
  |brk=>exact i
  |ret v=>exact i
 |false =>
  rw[ao b7];exact o9 #[e,H2,r,g]
structure It where
 go:Nat->Hp->Prop
 ie:Nat->Hp->V->Hp->Prop
 stop:Nat->Hp->Prop
def gb(X:Cx)(J:List (FG×YC))(H:Hp)(b:FG):Prop:=
 H b=none/\b≠X.env.locals/\b ∉ X.fs/\(b∈X.ex\/X.eg.heap.objs.size<=b)/\(∀x c,X.env.cells.lookup x=ih c->c≠b) /\∀p∈X.pn++J,p.1≠b
theorem Inv.hg(I:Inv X J σ H s)(a:s.aj<=b)(d:H' b=none):gb X J H' b:=by
 refine#[d,jw^eZ I.lt a,I.Ov a,.inr^ec I.sz a,λx c e z=>?_,λp f z=>?_]
 .obtain⟨v,q⟩:=I.cell x c e
  exact absurd (eZ q.lt^by rw[z];exact a)^jt _
 .exact absurd (eZ (bA (I.pin p f).1)^by rw[z];exact a)^jt _
structure Turn(P:Yg)(w:Yo)(K:U2)(tg:VH)(J9:It)(fp:List FG)(it:FG)(tn:Nat->Yb->Prop):Prop where
 mem:it∈fp
 obj:∀i h,tn i h ->∀b∈fp,∃o,h.get? b=ih o /\∀v,o.data ≠ .cell v
 keep:∀i h h',tn i h->(∀b∈fp,∀o,h.get? b=ih o->h'.get? b=ih o)->tn i h'
 item:∀(X:Cx),X.prog=P->X.w=w->X.K=K->X.calm=true ->∀(i:Nat) J s σ H (E:i'->UJ->Prop),Inv X J σ H s->(∀b∈fp,gb X J H b)->tn i s.heap->J9.go i H ->
  UL (U0 P w) X.A (pyNext (.ref it)) (λr s1=>∃u,r=ih u /\
   UL (U0 P w) X.A (letOwnedTupleGo tg (.ref it) u) (λ_ s2=>∃x H',Inv X J σ H' s2/\RelV x u/\J9.ie i H x H'/\tn (i+1) s2.heap /\∀b∈fp,H' b=none) E s1) E s
 done:∀(X:Cx),X.prog=P->X.w=w->X.K=K->X.calm=true ->∀(i:Nat) J s σ H (E:i'->UJ->Prop),Inv X J σ H s->(∀b∈fp,gb X J H b)->tn i s.heap->J9.stop i H ->
  UL (U0 P w) X.A (pyNext (.ref it)) (λr s1=>r=none/\Inv X J σ H s1) E s
 self:∀(A:Yq) (i:Nat) (s:UJ) (Q:i'->UJ->Prop) (E:i'->UJ->Prop),tn i s.heap->Q (.ref it) s->UL (U0 P w) A (pyIter (.ref it)) Q E s
abbrev TI:=St->Hp->(It->Hp->Prop)->Prop
def vS(X:Cx)(J:List (FG×YC))(σ:St)(tg:VH)(R:It->Hp->Prop)(PX:i')(s2:UJ):Prop:=
 ∃(it:FG) (fp:List FG) (tn:Nat->Yb->Prop) (J9:It) (H':Hp),PX=.ref it/\Inv X J σ H' s2/\Turn X.prog X.w X.K tg J9 fp it tn/\tn 0 s2.heap/\(∀b∈fp,gb X J H' b)/\R J9 H'
def PI(X:Cx)(tg iter:VH)(wi:TI):Prop:=
 ∀J s σ H (R:It->Hp->Prop),Inv X J σ H s->wi σ H R ->
  wA X (eval iter X.env) (λv s1=>wA X (pyIter v) (vS X J σ tg R) X.xe s1) X.xe s
theorem mE{M:ZI}{n:String}{vs:Array i'}{Q:Unit->UJ->Prop}(b:s.heap.get? it=ih o)(c:o.cls=.type n)(d:o.data=.fields vs)
  (e : ["enumerate","zip","dict_itemiterator","dict_reverseitemiterator","odict_iterator","itertools.zip_longest","itertools.pairwise"].contains n=false) (a:Q Unit.unit s):UL M A (letOwnedTupleGo tg (.ref it) u) Q E s:=by
 unfold letOwnedTupleGo;cases tg <;> first
  |exact ak a
  |(cases u <;> first
    |exact ak a
    |(refine ae (pb b ?_);rw[c,d];show UL M A (if (["enumerate","zip","dict_itemiterator","dict_reverseitemiterator","odict_iterator","itertools.zip_longest","itertools.pairwise"].contains n&&vs[0]? == ih (rawInt _))=true then _ else _) Q E s;rw[ao (by intro h;rw[e,Bool.false_and]at h;cases h)];exact ak a))
def j'(K:U2)(a:FG):It:=
 ⟨λi H=>∃xs x,au K H a xs/\xs[i]?=ih x,λi H x H'=>H'=H /\∀xs,au K H a xs->xs[i]?=ih x,λi H=>∃xs,au K H a xs/\xs.length<=i⟩
def jo(K:U2)(a:FG):It:=
 ⟨λi H=>∃xs x,aX K H a xs/\xs[i]?=ih x,λi H x H'=>H'=H /\∀xs,aX K H a xs->xs[i]?=ih x,λi H=>∃xs,aX K H a xs/\xs.length<=i⟩
def kb(lo:Int)(n:Nat):It:=⟨λi _=>i<n,λi H x H'=>H'=H/\x=.int (lo+i),λi _=>n<=i⟩
theorem Iw(a it:FG):Turn P w K tg (j' K a) [it] it (λi h=>h.IsListIter it a i) where
 mem:=by simp
 obj:=λi h st b f=>by
  have e:b=it:=by simpa using f
  subst e;obtain⟨o,e,c,d⟩:=st;exact#[o,e,λv z=>by rw[d]at z;cases z]
 keep:=λi h h' st k=>st.at λo e=>k it (by simp) o e
 item:=by
  intro X l m n F i J s σ H E I g st q;subst l m n;obtain⟨xs,x,j,r⟩:=q;obtain⟨its,t,p,G⟩:=I.list j;obtain⟨u,L,M⟩:=t.get r;obtain⟨f0,y,N,A,B,C⟩:=g it (by simp)
  refine wpAny_pyNext_list_item st p.isList (x:=u) ⇑L λh' D O=>?_
  have Q:Inv X J σ H { s with heap:=h' }:=I.turned (t':=s.toks) (λb o f e=>(O.2 b f).trans e) f0 y A B C;obtain⟨o,e,c,d⟩:=id D;exact#[u,Z,mE (s:={ s with heap:=h' }) e c d ∅ #[x,H,Q,M,#[Z,λys R=>by rw[I.B4 R j];exact r],D,λb f=>(g b f).1]]
 done:=by
  intro X l m n F i J s σ H E I g st q;subst l m n;obtain⟨xs,j,r⟩:=q;obtain⟨its,t,p,G⟩:=I.list j;obtain⟨f0,y,N,A,B,C⟩:=g it (by simp)
  have T:=t.length;exact wpAny_pyNext_list_end (I.ok.hd F) st p.isList (by simp;omega) λh' S=>#[Z,I.turned (t':=s.toks) (λb o f e=>S b o f e) f0 y A B C]
 self:=λ_ _ _ _ _ st h=>wpAny_pyIter_listiter st h
theorem HC(a it:FG):Turn P w K tg (jo K a) [it] it (λi h=>h.IsTupleIter it a i) where
 mem:=by simp
 obj:=λi h st b f=>by
  have e:b=it:=by simpa using f
  subst e;obtain⟨o,e,c,d⟩:=st;exact#[o,e,λv z=>by rw[d]at z;cases z]
 keep:=λi h h' st k=>st.at λo e=>k it (by simp) o e
 item:=by
  intro X l m n F i J s σ H E I g st q;subst l m n;obtain⟨xs,x,j,r⟩:=q;obtain⟨its,t,p,G⟩:=I.tuple j;obtain⟨u,L,M⟩:=t.get r;obtain⟨f0,y,N,A,B,C⟩:=g it (by simp)
  refine wpAny_pyNext_tuple_item st (show s.heap.IsTuple a its.toArray from p) (x:=u) ⇑L λh' D O=>?_
  have Q:Inv X J σ H { s with heap:=h' }:=I.turned (t':=s.toks) (λb o f e=>(O.2 b f).trans e) f0 y A B C;obtain⟨o,e,c,d⟩:=id D;exact#[u,Z,mE (s:={ s with heap:=h' }) e c d ∅ #[x,H,Q,M,#[Z,λys R=>by rw[I.Iv R j];exact r],D,λb f=>(g b f).1]]
 done:=by
  intro X l m n F i J s σ H E I g st q;subst l m n;obtain⟨xs,j,r⟩:=q;obtain⟨its,t,p,G⟩:=I.tuple j;obtain⟨f0,y,N,A,B,C⟩:=g it (by simp)
  have T:=t.length;exact wpAny_pyNext_tuple_end (I.ok.hd F) st (show s.heap.IsTuple a its.toArray from p) (by simp;omega) λh' S=>#[Z,I.turned (t':=s.toks) (λb o f e=>S b o f e) f0 y A B C]
 self:=λ_ _ _ _ _ st h=>wpAny_pyIter_tupleiter st h
theorem HD(it:FG)(lo:Int)(n:Nat):Turn P w K tg (kb lo n) [it] it (λi h=>IsRangeIter h it (lo+(i:Nat) * 1) ((n:Int) - (i:Nat)) 1) where
 mem:=by simp
 obj:=λi h st b a=>by
  have e:b=it:=by simpa using a
  subst e;exact#[_,st,λv z=>by
   have x:Data.fields _=Data.cell v:=z;cases x]
 keep:=λi h h' st k=>k it (by simp) _ st
 item:=by
  intro X d f g j i J s σ H E I c st l;subst d f g;obtain⟨f0,m,y,p,q,r⟩:=c it (by simp)
  have W:=Walks.range (prog:=X.prog) (w:=X.w) (I.ok.hd j) it lo 1 n;refine W.item i s _ _ l st λv h' tk A u kk=>?_;obtain⟨t,rfl⟩:=A;have B:Inv X J σ H { s with heap:=h',toks:=tk }:=I.turned (λb o a e=>kk b o ⇑a e) f0 m p q r
  refine#[_,Z,mE (s:={ s with heap:=h',toks:=tk }) (n:= "range_iterator") u Z Z ∅ #[.int (lo+i),H,B,#[t,?_],#[Z,Z],u,λb a=>(c b a).1]]
  rw[Int.mul_one]
 done:=by
  intro X d f g j i J s σ H E I c st l;subst d f g;obtain⟨f0,m,y,p,q,r⟩:=c it (by simp)
  exact wpAny_pyNext_range_end (I.ok.hd j) st (by have:n<=i:=l;omega) λh' C=>#[Z,I.turned (t':=s.toks) (λb o a e=>C b o a e) f0 m p q r]
 self:=λ_ _ _ _ _ st h=>wpAny_pyIter_rangeiter st h
def DO(K:U2)(tl:TE):TI:=λσ H R=>tl σ H λx Y=>∃a,x=.ref a/\(∃xs,au K Y a xs)/\R (j' K a) Y
def Ec(K:U2)(tl:TE):TI:=λσ H R=>tl σ H λx Y=>∃a,x=.ref a/\(∃xs,aX K Y a xs)/\R (jo K a) Y
theorem c7{l:VH}(d:PE X l tl):PI X tg l^DO X.K tl:=by
 intro J s σ H R I h;refine aG (d J s σ H _ I h) λv s1 n=>?_;obtain⟨x,Y,c,f,g⟩:=n;obtain⟨a,e,⟨xs,i⟩,q⟩:=g;subst e;cases f
 obtain⟨its,k,p,m⟩:=c.list i;refine sb p.isList ?_;refine#[s1.aj,[s1.aj],_,_,Y,Z,c.kept (t':=s1.toks) λb o e=>a9 _ e,Iw a _,#[_,bU _ Z,Z,Z],λb j=>?_,q];have e:b=s1.aj:=by simpa using j
 subst e;exact c.hg (aP _)^c.aH.fresh^aP _
theorem kR{l:VH}(d:PE X l tl):PI X tg l^Ec X.K tl:=by
 intro J s σ H R I h;refine aG (d J s σ H _ I h) λv s1 n=>?_;obtain⟨x,Y,c,f,g⟩:=n;obtain⟨a,e,⟨xs,i⟩,q⟩:=g;subst e;cases f
 obtain⟨its,k,p,m⟩:=c.tuple i;refine wpAny_pyIter_tuple (show s1.heap.IsTuple a its.toArray from p) ?_;refine#[s1.aj,[s1.aj],_,_,Y,Z,c.kept (t':=s1.toks) λb o e=>a9 _ e,HC a _,#[_,bU _ Z,Z,Z],λb j=>?_,q];have e:b=s1.aj:=by simpa using j
 subst e;exact c.hg (aP _)^c.aH.fresh^aP _
theorem B5{R:It->Hp->Prop}{hi:Int}{t u v:Tok}{tk:Nat}(I:Inv X J σ H s)(h1 : -(2 ^ 62)<=lo)(h2:lo<2 ^ 62)(c : -(2 ^ 62)<=hi)(d:hi<2 ^ 62)
  (q:R (kb lo (hi - lo).toNat) H):wA X (pyIter^.ref s.heap.objs.size) (vS X J σ tg R) E { s with heap:=s.heap.push { cls:=.type "range",data:=.fields #v[.int lo t,.int hi u,.int 1 v] },toks:=tk }:=by
 refine wpAny_pyIter_range (IsRange.new ..) (small_one h1 h2 c d) ?_;have a:Inv X J σ H { s with heap:=s.heap.push { cls:=.type "range",data:=.fields #v[.int lo t,.int hi u,.int 1 v] },toks:=tk }:=I.kept λb o e=>a9 _ e;refine#[(s.heap.push { cls:=.type "range",data:=.fields #v[.int lo t,.int hi u,.int 1 v] }).objs.size,[(s.heap.push { cls:=.type "range",data:=.fields #v[.int lo t,.int hi u,.int 1 v] }).objs.size],_,_,H,Z,
  a.kept (t':=tk) λb o e=>a9 _ e,HD _ lo (hi - lo).toNat,?_,λb f=>?_,q]
 .have e1:lo+((0:Nat):Int) * 1=lo:=by simp
  have e2:(((hi - lo).toNat:Nat):Int) - ((0:Nat):Int)=abC lo hi 1:=by rw[rangeSize_one];split <;> omega
  show IsRangeIter _ _ (lo+((0:Nat):Int) * 1) ((((hi - lo).toNat:Nat):Int) - ((0:Nat):Int)) 1;rw[e1,e2];exact bU _ Z
 .have e:b=(s.heap.push { cls:=.type "range",data:=.fields #v[.int lo t,.int hi u,.int 1 v] }).objs.size:=by simpa using f
  subst e;exact a.hg (aP _)^a.aH.fresh^aP _
def M5(ta:TA):TI:=λσ H R=>ta σ H λvs Y=>∃j:Int,vs=[.int j] /\ -(2 ^ 62)<=j/\j<2 ^ 62/\R (kb 0 j.toNat) Y
def M6(ta:TA):TI:=λσ H R=>ta σ H λvs Y=>∃i j:Int,vs=[.int i,.int j]/\(-(2 ^ 62)<=i/\i<2 ^ 62 /\ -(2 ^ 62)<=j/\j<2 ^ 62)/\R (kb i (j - i).toNat) Y
theorem iZ{a:VH}{ta:TA}{p:Z4}(c:Gl X "range")(d:X.mg "range" = none)(f:PA X [a] ta)(g:Vc [a] X.env=[(false,eval a X.env)]:=by rfl):PI X tg (.Call (.Name "range" p) [a] [] pos)^M5 ta:=by
 intro J s σ H R I h;refine Call_^kQ I c d boot_range^wD (aG (f pos J s σ H _ I h) λus s1 n=>?_) g Z;obtain⟨vs,Y,i,k,b⟩:=n;obtain⟨j,e,b,l,q⟩:=b;subst e;cases k with
 |cons r m =>
  cases m
  obtain⟨t,rfl⟩:=r;exact call_range_1^B5 i () () b l ⇑q
theorem Iy{a b:VH}{ta:TA}{p:Z4}(g:Gl X "range")(k:X.mg "range" = none)(l:PA X [a,b] ta)(m:Vc [a,b] X.env=[(false,eval a X.env),(false,eval b X.env)]:=by rfl)(f:Vc [b] X.env=[(false,eval b X.env)]:=by rfl) :
  PI X tg (.Call (.Name "range" p) [a,b] [] pos)^M6 ta:=by
 intro J s σ H R I h;refine Call_ (kQ I g k boot_range^wD (aG (l pos J s σ H _ I h) λus s1 ⟨vs,Y,n,o,c⟩=>?_) (by rw[m,f])^by rw[f];rfl)
 obtain⟨i,j,e,⟨c,u,v,w⟩,q⟩:=c;subst e;cases o with
 |cons r d =>
  cases d with
  |cons x d =>
   cases d
   obtain⟨t,rfl⟩:=r;obtain⟨t',rfl⟩:=x;exact call_range_2^B5 n c u v w q
def OF(wi:TI)(g:TG)(tb:TS):TS:=λD σ H=>wi σ H λJ9 Y=>∃W:Nat->Nat->St->Hp->Prop,(∃m,W 0 m σ Y) /\∀i m σ H,W i m σ H ->
 (J9.stop i H/\D.nx σ H)\/(J9.go i H /\∃N:St->Hp->Prop,(∀cM H',N cM H' ->∃m',m'<m/\W (i+1) m' cM H') /\∀x H',J9.ie i H x H'->g x σ H' λPY H2=>tb { D with nx:=N,ct:=N,bk:=D.nx } PY H2)
def oh(fp:List FG)(h:Yb):List (FG×YC):=fp.filterMap λb=>(h.get? b).map λo=>(b,o)
theorem pK(a:b∈fp)(e:h.get? b=ih o):(b,o)∈oh fp h:=o7.mpr #[b,a,by rw[e];rfl]
theorem Iz{p:FG×YC}(a:p∈oh fp h):p.1∈fp/\h.get? p.1=ih p.2:=by
 obtain⟨b,c,e⟩:=o7.mp a;cases q:h.get? b with
 |none=>rw[q]at e;cases e
 |some o =>
  rw[q]at e;have d:(b,o)=p:=cQ e;subst d;exact#[c,q]
theorem Inv.pinned(I:Inv X J σ H s)(f:∀b∈fp,gb X J H b)(g:∀b∈fp,∃o,s.heap.get? b=ih o /\∀v,o.data ≠ .cell v):Inv X (J++oh fp s.heap) σ H s:=
 I.CP λp h=>(bT.mp h).elim (λz=>I.pin p^et _ z) λz=>by
  obtain⟨a,e⟩:=Iz z;obtain⟨f0,i,j,_⟩:=f p.1 a;obtain⟨o,c,d⟩:=g p.1 a;rw[e]at c;cases c;exact#[e,f0,i,j,d]
theorem Inv.pX{pl:am (FG×YC)}(I:Inv X (J++pl) σ H s):Inv X J σ H s:=I.CP λp a=>I.pin p^et _^gj _ a
theorem ee{wi:TI}{g:TG}(t:PassesOwn X.dt X.A X.env X.xe)(K:X.calm=true)(hi:PI X tg iter wi)(xa:PG X tg g)(c:dH X body tb)
  (ya:∀x,foldedSetIterable iter X.env x=pure x:=by intro _;rfl):PS X (.For tg iter body [] pos)^OF wi g tb:=by
 intro J s σ H D I h;refine wpAny_For (aG (hi J s σ H _ I h) λv s1 h1=>aG h1 λyh s2 h2=>?_) ya;obtain⟨it,fp,tn,zh,H2,e,za,T,S,L,W,⟨xb,yb⟩,R⟩:=h2;subst e;have z:∀{H':Hp},(∀b∈fp,H' b=none) ->∀b∈fp,gb X J H' b:=λzb b c=>#[zb b c,(L b c).2];refine codeAny_forLoop_any (λn s'=>∃i p H',Inv X J p H' s'/\tn i s'.heap/\(∀b∈fp,H' b=none)/\W i n p H') ?_ xb #[0,σ,H2,za,S,λb c=>(L b c).1,yb];rintro n M ⟨i,q,y,O,F,G,xc⟩;rcases R i n q y xc with⟨stop,qn⟩|⟨go,N,yc,step⟩
 .refine m7 t^aG (T.done X Z Z Z K i J M q y X.xe O (z G) F stop) λr zc ⟨C,xd⟩=>?_
  subst C;exact o9 #[q,y,xd,qn]
 .refine m7 t^aG (T.item X Z Z Z K i J M q y X.xe O (z G) F go) λr zc aa=>?_;obtain⟨u,C,yd⟩:=aa
  subst C;refine m7 t^aG yd λ_ P aa=>?_;obtain⟨x,Q,zd,ye,y5,B,U⟩:=aa;have V:=zd.pinned (z U)^T.obj _ _ B;refine m7 t^aG (xa _ P q Q x u _ V ye^step x Q y5) λ_ ze aa=>?_;obtain⟨Y,xf,yf,zf⟩:=aa;refine m7 t^aG (c _ ze Y xf _ yf zf) λf E l=>?_;have again:∀{a:St}{j:Hp},Inv X (J++oh fp P.heap) a j E->N a j ->∃m,m<n /\∃i p H',Inv X J p H' E/\tn i E.heap/\(∀b∈fp,H' b=none)/\W i m p H':=λ{a j} k w=>by
   obtain⟨xg,yg,zg⟩:=yc a j w;refine#[xg,yg,i+1,a,j,k.pX,T.keep _ _ _ B λb c o e=>(k.pin (b,o)^et _^et _^pK c e).1,λb c=>?_,zg];obtain⟨o,e,d⟩:=T.obj _ _ B b c;exact(k.pin (b,o)^et _^et _^pK c e).2.1
  cases f with
  |next=>obtain⟨a,j,k,w⟩:=l;exact again k w
  |cont=>obtain⟨a,j,k,w⟩:=l;exact again k w
  |brk=>obtain⟨a,j,k,l⟩:=l;exact#[a,j,k.pX,l]
  |ret v=>obtain⟨x7,a,j,k,xh,l⟩:=l;exact#[x7,a,j,k.pX,xh,l]
theorem gZ{g:TG}{D:Ends}(Pv:Nat->St->Hp->Prop)(h0:Pv 0 σ H)(h:∀i σ H,i<=xs.length->Pv i σ H->au K H a xs)
  (j:∀i x σ H,xs[i]?=ih x->Pv i σ H->g x σ H λb H2=>tb { D with nx:=Pv (i+1),ct:=Pv (i+1),bk:=D.nx } b H2) (k:∀σ H,Pv xs.length σ H->D.nx σ H) :
  ∃W:Nat->Nat->St->Hp->Prop,(∃m,W 0 m σ H) /\∀i m σ H,W i m σ H ->
   ((j' K a).stop i H/\D.nx σ H)\/((j' K a).go i H /\∃N:St->Hp->Prop,(∀c H',N c H' ->∃f,f<m/\W (i+1) f c H') /\∀x H',(j' K a).ie i H x H'->g x σ H' λb H2=>tb { D with nx:=N,ct:=N,bk:=D.nx } b H2):=by
 refine#[λi m σ H=>m=xs.length - i/\i<=xs.length/\Pv i σ H,#[xs.length,by simp,bF _,h0],?_]
 rintro i m σ H ⟨rfl,hi,p⟩;have q:=h i σ H hi p
 by_cases d:i<xs.length
 .refine .inr #[#[xs,xs[i],q,by simp[d]],Pv (i+1),λc H' l=>#[xs.length - (i+1),(),Z,d,l],λx H' y=>?_]
  obtain⟨e,y⟩:=y;subst e;exact j i x σ _ (y xs q) p
 .have e:i=xs.length:=()
  subst e;exact .inl #[#[xs,q,aP _],k σ H p]
theorem Kz{g:TG}{D:Ends}(Pv:Nat->St->Hp->Prop)(h0:Pv 0 σ H)(h:∀i σ H,i<=xs.length->Pv i σ H->aX K H a xs)
  (j:∀i x σ H,xs[i]?=ih x->Pv i σ H->g x σ H λb H2=>tb { D with nx:=Pv (i+1),ct:=Pv (i+1),bk:=D.nx } b H2) (k:∀σ H,Pv xs.length σ H->D.nx σ H) :
  ∃W:Nat->Nat->St->Hp->Prop,(∃m,W 0 m σ H) /\∀i m σ H,W i m σ H ->
   ((jo K a).stop i H/\D.nx σ H)\/((jo K a).go i H /\∃N:St->Hp->Prop,(∀c H',N c H' ->∃f,f<m/\W (i+1) f c H') /\∀x H',(jo K a).ie i H x H'->g x σ H' λb H2=>tb { D with nx:=N,ct:=N,bk:=D.nx } b H2):=by
 refine#[λi m σ H=>m=xs.length - i/\i<=xs.length/\Pv i σ H,#[xs.length,by simp,bF _,h0],?_]
 rintro i m σ H ⟨rfl,hi,p⟩;have q:=h i σ H hi p
 by_cases d:i<xs.length
 .refine .inr #[#[xs,xs[i],q,by simp[d]],Pv (i+1),λc H' l=>#[xs.length - (i+1),(),Z,d,l],λx H' y=>?_]
  obtain⟨e,y⟩:=y;subst e;exact j i x σ _ (y xs q) p
 .have e:i=xs.length:=()
  subst e;exact .inl #[#[xs,q,aP _],k σ H p]
theorem l0{n:Nat}{g:TG}{D:Ends}(Pv:Nat->St->Hp->Prop)(h0:Pv 0 σ H)
  (f:∀i σ H,i<n->Pv i σ H->g (.int (lo+i)) σ H λa H2=>tb { D with nx:=Pv (i+1),ct:=Pv (i+1),bk:=D.nx } a H2) (h:∀σ H,Pv n σ H->D.nx σ H) :
  ∃W:Nat->Nat->St->Hp->Prop,(∃m,W 0 m σ H) /\∀i m σ H,W i m σ H ->
   ((kb lo n).stop i H/\D.nx σ H)\/((kb lo n).go i H /\∃N:St->Hp->Prop,(∀b H',N b H' ->∃d,d<m/\W (i+1) d b H') /\∀x H',(kb lo n).ie i H x H'->g x σ H' λa H2=>tb { D with nx:=N,ct:=N,bk:=D.nx } a H2):=by
 refine#[λi m σ H=>m=n - i/\i<=n/\Pv i σ H,#[n,by simp,bF _,h0],?_]
 rintro i m σ H ⟨rfl,hi,p⟩
 by_cases c:i<n
 .refine .inr #[c,Pv (i+1),λb H' j=>#[n - (i+1),(),Z,c,j],λx H' y=>?_]
  obtain⟨e,y⟩:=y;subst e y;exact f i σ _ c p
 .have e:i=n:=()
  subst e;exact .inl #[aP _,h σ H p]
abbrev R2:=V->V->Hp->VK->Prop
def cw(X:Cx)(f:i'->i'->Zi i')(r:R2):Prop:=
 ∀J s σ H (x y:V) (v u:i') (Q:VK),Inv X J σ H s->RelV x v->RelV y u->r x y H Q ->
  wA X (f v u) (EP X J σ Q) X.xe s
def vT(X:Cx)(f:i'->Zi i')(r:V->Hp->VK->Prop):Prop:=
 ∀J s σ H (x:V) (v:i') (Q:VK),Inv X J σ H s->RelV x v->r x H Q ->
  wA X (f v) (EP X J σ Q) X.xe s
def cU(X:Cx)(f:i')(r:List V->Hp->VK->Prop):Prop:=
 ∀J s σ H (xs:List V) (us:List i') (Q:VK),Inv X J σ H s->Vals xs us->r xs H Q ->
  wA X (call f us) (EP X J σ Q) X.xe s
def OG(X:Cx)(r:V->Hp->(Bool->Hp->Prop)->Prop):Prop:=
 ∀J s σ H (x:V) (v:i') (Q:Bool->Hp->Prop),Inv X J σ H s->RelV x v->r x H Q ->
  wA X (truthy v) (TP X J σ Q) X.xe s
def kc(r:R2)(ta tb:TE):TE:=λσ H Q=>ta σ H λx Y=>tb σ Y λy H2=>r x y H2 Q
def PZ(r:V->Hp->VK->Prop)(ta:TE):TE:=λσ H Q=>ta σ H λx Y=>r x Y Q
def rI(C:Int->Int->Prop)(g:Int->Int->V):R2:=λx y H Q=>∃i j,x=.int i/\y=.int j/\C i j/\Q (g i j) H
def lF(g:Int->Int->V):R2:=λx y H Q=>∃i j,x=.int i/\y=.int j/\Q (g i j) H
def rU(g:Int->V):V->Hp->VK->Prop:=λx H Q=>∃i,x=.int i/\Q (g i) H
section
variable{a b:VH}{tb tc:TE}
theorem vo(e:PE X a ta)(g:PE X b tb){R:V->V->Hp->Prop}(I:Inv X J σ H s)
  (h:ta σ H λx Y=>tb σ Y λy H2=>R x y H2) {Q:i'->UJ->Prop}{f:i'->i'->Zi i'}
  (i:∀v u s2 x y H2,Inv X J σ H2 s2->RelV x v->RelV y u->R x y H2->wA X (f v u) Q X.xe s2) :
  wA X (eval a X.env) (λv c=>wA X (eval b X.env) (λu d=>wA X (f v u) Q X.xe d) X.xe c) X.xe s:=by
 refine aG (e J s σ H _ I h) λv s1 p=>?_;obtain⟨x,Y,j,k,l⟩:=p;refine aG (g J s1 σ Y _ j l) λu s2 p=>?_;obtain⟨y,H2,m,n,o⟩:=p;exact i v u s2 x y H2 m k n o
theorem bN{op:ab9}{r:R2}(c:cw X (YA op) r)(d:PE X a ta)(e:PE X b tb):PE X (.BinOp a op b pos)^kc r ta tb:=by
 intro J s σ H Q I h;exact wpAny_BinOp^vo d e I h λv u s2 x y H2 f g i q=>c J s2 σ H2 x y v u Q f g i q
theorem uT{op:UnaryOp}{r:V->Hp->VK->Prop}(b:vT X (unaryOp op) r)(c:PE X a ta):PE X (.UnaryOp op a pos)^PZ r ta:=by
 intro J s σ H Q I h;exact UnaryOp_^aG (c J s σ H _ I h) λv s1 ⟨x,Y,d,e,f⟩=>b J s1 σ Y x v Q d e f
theorem mW{f:i'->i'->Zi i'}{C:Int->Int->Prop}{g:Int->Int->Int}
  (rule:∀(i j:Int) (t u:Tok) (s:UJ) (Q:i'->UJ->Prop) (E:i'->UJ->Prop),C i j->Q (.int (g i j) s.toks) { s with toks:=s.toks+1 }->wA X (f (.int i t)^.int j u) Q E s) :
  cw X f (rI C λi j=>.int^g i j):=by
 rintro J s σ H x y v u Q I a b ⟨i,j,rfl,rfl,c,q⟩;obtain⟨t,rfl⟩:=a;obtain⟨t',rfl⟩:=b;exact rule i j t t' s _ _ c #[.int^g i j,H,I.tok _,#[_,Z],q]
theorem Ed{f:i'->i'->Zi i'}{g:Int->Int->Int}
  (rule:∀(i j:Int) (t u:Tok) (s:UJ) (Q:i'->UJ->Prop) (E:i'->UJ->Prop),Q (.int (g i j) s.toks) { s with toks:=s.toks+1 }->wA X (f (.int i t)^.int j u) Q E s) :
  cw X f (lF λi j=>.int^g i j):=by
 rintro J s σ H x y v u Q I a b ⟨i,j,rfl,rfl,q⟩;obtain⟨t,rfl⟩:=a;obtain⟨t',rfl⟩:=b;exact rule i j t t' s _ _ #[.int^g i j,H,I.tok _,#[_,Z],q]
theorem vp{f:i'->i'->Zi i'}{g:Int->Int->Bool}
  (rule:∀(i j:Int) (t u:Tok) (s:UJ) (Q:i'->UJ->Prop) (E:i'->UJ->Prop),Q (.bool^g i j) s->wA X (f (.int i t)^.int j u) Q E s) :
  cw X f (lF λi j=>.bl^g i j):=by
 rintro J s σ H x y v u Q I a b ⟨i,j,rfl,rfl,q⟩;obtain⟨t,rfl⟩:=a;obtain⟨t',rfl⟩:=b;exact rule i j t t' s _ _ #[.bl^g i j,H,I,Z,q]
def OH(i j:Int):Prop:=0<j/\j<1073741824
def OI(i j:Int):Prop:=0<=j/\j<=1000000/\i.natAbs<2 ^ 64
def oJ(i j:Int):Prop:=(-(2 ^ 64)<i/\i<2 ^ 64)\/(-(2 ^ 64)<j/\j<2 ^ 64)
theorem oJ.ok{i j:Int}(h:oJ i j):IntMulOk i j:=by
 rcases h with⟨h1,h2⟩|⟨h1,h2⟩
 .exact .of_left^intBits_le_64 h1 h2
 .exact .of_right^intBits_le_64 h1 h2
theorem fq:cw X (YA .Add) (lF λi j=>.int (i+j)):=Ed λ_ _ _ _ _ _ _ q=>add_int q
theorem kS:cw X (YA .Sub) (lF λi j=>.int (i - j)):=Ed λ_ _ _ _ _ _ _ q=>sub_int q
theorem oi:cw X (YA .Mult) (rI oJ λi j=>.int (i * j)):=mW λ_ _ _ _ _ _ _ a q=>mul_int q a.ok
theorem KA:cw X (YA .FloorDiv) (rI OH λi j=>.int (i / j)):=mW λi j _ _ _ _ _ a q=>by
 have h1:(0:Int)<j:=a.1;have h2:j<1073741824:=a.2;exact floordiv_int () (by rw[UO i ()];exact q)^.inl^PyProof.noPylong_small ()
theorem kT:cw X (YA .Mod) (rI (λ_ j=>0<j) λi j=>.int (i % j)):=mW λi j _ _ _ _ _ a q=>by
 have h1:(0:Int)<j:=a;exact mod_int' () (by rw[Int.fmod_eq_emod_of_nonneg i ()];exact q)
theorem uB:cw X (YA .Pow) (rI OI λi j=>.int ((i) ^ j.toNat)):=mW λ_ _ _ _ _ _ _ a q=>pow_int_small a.1 a.2.1 a.2.2 q
theorem KC:cw X (inplaceOp .Mult) (rI oJ λi j=>.int (i * j)):=mW λ_ _ _ _ _ _ _ a q=>imul_int q a.ok
theorem P0{f:i'->Zi i'}{g:Int->Int}
  (rule:∀(i:Int) (t:Tok) (s:UJ) (Q:i'->UJ->Prop) (E:i'->UJ->Prop),Q (.int (g i) s.toks) { s with toks:=s.toks+1 }->wA X (f^.int i t) Q E s) :
  vT X f (rU λi=>.int^g i):=by
 rintro J s σ H x v Q I a ⟨i,rfl,q⟩;obtain⟨t,rfl⟩:=a;exact rule i t s _ _ #[.int^g i,H,I.tok _,#[_,Z],q]
theorem uC:vT X (unaryOp .USub) (rU λi=>.int (-i)):=P0 λ_ _ _ _ _ q=>neg_int q
end
def Ee:V->V->Bool
 |.aK,.aK=>true|.aK,.int _=>true|.int _,.aK=>true|.aK,.bl _=>true|.bl _,.aK=>true|.aK,.str _=>true|.str _,.aK=>true
 |.int _,.int _=>true|.bl _,.bl _=>true|.str _,.str _=>true|.gi _,.gi _=>true
 |.int _,.str _=>true|.str _,.int _=>true|.bl _,.str _=>true|.str _,.bl _=>true
 |_,_=>false
def P1:R2:=λx y H Q=>Ee x y=true/\Q (.bl (decide (x=y))) H
def P2:R2:=λx y H Q=>Ee x y=true/\Q (.bl (!decide (x=y))) H
theorem CQ{i j:Int}:decide (V.int i=V.int j)=(i==j):=by
 rw[lI];simp
theorem Dy{i j:Bool}:decide (V.bl i=V.bl j)=(i==j):=by
 rw[lI];simp
theorem CS{i j:Gd}:decide (V.str i=V.str j)=(i==j):=by
 rw[lI];simp
theorem CT{i j:Array UInt8}:decide (V.gi i=V.gi j)=(i.toList==j.toList):=by
 rw[lI];cases i
 cases j
 simp
section
variable{a b:VH}{tb tc:TE}
theorem cI{k a:Bool}(I:Inv X J σ H s)(q:Q (.bl k) H)(e:k=a):EP X J σ Q (.bool a) s:=by
 subst e;exact#[.bl k,H,I,Z,q]
theorem dg:cw X (X2 .Eq) P1:=by
 rintro J s σ H x y v u Q I c a ⟨b,q⟩;cases x with
 |aK =>
  cases c
  cases y with
  |aK=>cases a;exact abR (cI I q^by simp)
  |bl j=>cases a;exact abT (cI I q^by simp)
  |int j=>obtain⟨t',rfl⟩:=a;exact abS (cI I q^by simp)
  |str j=>obtain⟨t',rfl⟩:=a;exact abQ (cI I q^by simp)
  |_=>exact absurd (show false=true from b) b7
 |bl i =>
  cases c
  cases y with
  |aK=>cases a;exact abV (cI I q^by simp)
  |bl j=>cases a;exact eq_bool^cI I q Dy
  |str j=>obtain⟨t',rfl⟩:=a;exact aby (cI I q^by simp)
  |_=>exact absurd (show false=true from b) b7
 |int i =>
  obtain⟨t,rfl⟩:=c;cases y with
  |aK=>cases a;exact abU (cI I q^by simp)
  |int j=>obtain⟨t',rfl⟩:=a;exact eq_int^cI I q CQ
  |str j=>obtain⟨t',rfl⟩:=a;exact abx (cI I q^by simp)
  |_=>exact absurd (show false=true from b) b7
 |str i =>
  obtain⟨t,rfl⟩:=c;cases y with
  |aK=>cases a;exact abP (cI I q^by simp)
  |bl j=>cases a;exact abw (cI I q^by simp)
  |int j=>obtain⟨t',rfl⟩:=a;exact abv (cI I q^by simp)
  |str j=>obtain⟨t',rfl⟩:=a;exact eq_str^cI I q CS
  |_=>exact absurd (show false=true from b) b7
 |gi i =>
  obtain⟨t,rfl⟩:=c;cases y with
  |gi j=>obtain⟨t',rfl⟩:=a;exact PySem.W.eq_bytes^cI I q CT
  |_=>exact absurd (show false=true from b) b7
 |_=>cases y <;> exact absurd (show false=true from b) b7
theorem je:cw X (X2 .NotEq) P2:=by
 rintro J s σ H x y v u Q I c a ⟨b,q⟩;cases x with
 |aK =>
  cases c
  cases y with
  |aK=>cases a;exact abK (cI I q^by simp)
  |bl j=>cases a;exact abM (cI I q^by simp)
  |int j=>obtain⟨t',rfl⟩:=a;exact abL (cI I q^by simp)
  |str j=>obtain⟨t',rfl⟩:=a;exact abJ (cI I q^by simp)
  |_=>exact absurd (show false=true from b) b7
 |bl i =>
  cases c
  cases y with
  |aK=>cases a;exact abO (cI I q^by simp)
  |bl j=>cases a;exact ne_bool^cI I q^dy not Dy
  |str j=>obtain⟨t',rfl⟩:=a;exact abu (cI I q^by simp)
  |_=>exact absurd (show false=true from b) b7
 |int i =>
  obtain⟨t,rfl⟩:=c;cases y with
  |aK=>cases a;exact abN (cI I q^by simp)
  |int j=>obtain⟨t',rfl⟩:=a;exact ne_int^cI I q^dy not CQ
  |str j=>obtain⟨t',rfl⟩:=a;exact abt (cI I q^by simp)
  |_=>exact absurd (show false=true from b) b7
 |str i =>
  obtain⟨t,rfl⟩:=c;cases y with
  |aK=>cases a;exact abI (cI I q^by simp)
  |bl j=>cases a;exact abr (cI I q^by simp)
  |int j=>obtain⟨t',rfl⟩:=a;exact abq (cI I q^by simp)
  |str j=>obtain⟨t',rfl⟩:=a;exact ne_str^cI I q^dy not CS
  |_=>exact absurd (show false=true from b) b7
 |gi i =>
  obtain⟨t,rfl⟩:=c;cases y with
  |gi j=>obtain⟨t',rfl⟩:=a;exact PySem.W.ne_bytes^cI I q^dy not CT
  |_=>exact absurd (show false=true from b) b7
 |_=>cases y <;> exact absurd (show false=true from b) b7
theorem uU:cw X (X2 .Lt) (lF λi j=>.bl (decide (i<j))):=vp λ_ _ _ _ _ _ _ q=>lt_int q
theorem DP:cw X (X2 .LtE) (lF λi j=>.bl (decide (i<=j))):=vp λ_ _ _ _ _ _ _ q=>le_int q
theorem DQ:cw X (X2 .Gt) (lF λi j=>.bl (decide (j<i))):=vp λ_ _ _ _ _ _ _ q=>gt_int q
theorem gI:cw X (X2 .Is) (λx y H Q=>y=.aK/\Q (.bl (decide (x=.aK))) H):=by
 rintro J s σ H x y v u Q I a b ⟨rfl,q⟩;cases b
 refine is_none_gen^cI I q ?_;cases x <;> first
  |(cases a;rfl)
  |(obtain⟨t,rfl⟩:=a;rfl)
theorem bC(b:VH){op:ZS}(h:op ≠ .In:=by decide)(h2:op ≠ .NotIn:=by decide):behindInMarks op b=false:=by
 have e1:(op==ace)=false:=by cases op <;> first|rfl|exact absurd rfl h
 have e2:(op==abg)=false:=by cases op <;> first|rfl|exact absurd rfl h2
 cases b <;> simp[behindInMarks,e1,e2]
theorem jO{op:ZS}{r:R2}(c:cw X (X2 op) r)(d:PE X a ta)(e:PE X b tb)(f:behindInMarks op b=false):PE X (.Compare a [op] [b] pos)^kc r ta tb:=by
 intro J s σ H Q I h;exact wpAny_Compare1 (vo d e I h λv u s2 x y H2 g i j q=>c J s2 σ H2 x y v u Q g i j q) f
def qG(t:TE):TT:=λσ H Q=>t σ H λx H'=>∃k,x=.bl k/\Q k H'
theorem bx{op:ZS}{r:R2}(d:cw X (X2 op) r)(f:PE X a ta)(g:PE X b tb)(i:behindInMarks op b=false):PT X (.Compare a [op] [b] pos)^qG^kc r ta tb:=by
 intro J s σ H Q I h;refine wpAny_isTrue_Compare1 (aG (f J s σ H _ I h) λv s1 ⟨x,Y,j,l,m⟩=>aG (g J s1 σ Y _ j m) λu s2 ⟨y,H2,n,o,p⟩ =>
  aG (d J s2 σ H2 x y v u _ n l o p) λc B ⟨z,q,t,w,k,e,A⟩=>?_) i
 subst e;cases w
 exact hI #[q,t,A]
def Dz(r r':R2)(ta tb tc:TE):TE:=λσ H Q=>ta σ H λx Y=>tb σ Y λy H2=>r x y H2 λz H3=>∃k,z=.bl k /\
 (if k=true then tc σ H3 λw' H4=>r' y w' H4 Q else Q (.bl false) H3)
theorem Jp{op f:ZS}{r g:R2}(o:cw X (X2 op) r)(n:cw X (X2 f) g)(p:PE X a ta)(q:PE X b tb)(t:PE X c tc)
  (w:lastMarks [op,f] [b,c]=false:=by with_unfolding_all rfl):PE X (.Compare a [op,f] [b,c] pos)^Dz r g ta tb tc:=by
 intro J s σ H Q I h;refine Compare_chain (aG (p J s σ H _ I h) λv s1 ⟨x,Y,A,B,C⟩=>chain_link (aG (q J s1 σ Y _ A C) λu s2 ⟨y,H2,D,i,E⟩ =>
  aG (o J s2 σ H2 x y v u _ D B i E) λd F ⟨z,j,l,G,k,e,m⟩=>?_)) w
 subst e;cases G
 refine hI ?_;cases k with
 |false=>exact ite_ff #[.bl false,j,l,Z,m]
 |true=>exact ite_tt^chain_last^aG (t J F σ j _ l m) λK L ⟨M,N,O,P,R⟩=>n J L σ N y M u K Q O i P R
theorem Jq{op f:ZS}{r g:R2}(o:cw X (X2 op) r)(n:cw X (X2 f) g)(p:PE X a ta)(q:PE X b tb)(t:PE X c tc)
  (w:lastMarks [op,f] [b,c]=false:=by with_unfolding_all rfl):PT X (.Compare a [op,f] [b,c] pos)^qG^Dz r g ta tb tc:=by
 intro J s σ H Q I h;refine isTrue_chain (aG (p J s σ H _ I h) λv s1 ⟨x,Y,A,B,C⟩=>test_link (aG (q J s1 σ Y _ A C) λu s2 ⟨y,H2,D,i,E⟩ =>
  aG (o J s2 σ H2 x y v u _ D B i E) λd F ⟨z,j,l,G,k,e,m⟩=>?_)) w
 subst e;cases G
 refine hI ?_;cases k with
 |false =>
  obtain⟨ya,K,L⟩:=m;cases K
  exact ite_ff #[j,l,L]
 |true =>
  refine ite_tt^test_last^aG (t J F σ j _ l m) λM N ⟨O,P,R,S,T⟩=>aG (n J N σ P y O u M _ R i S T) λza xb aa=>?_;obtain⟨z2,U,V,W,yb,e2,xa⟩:=aa;subst e2;cases W
  exact hI #[U,V,xa]
def Ef(K:U2)(x:V)(H:Hp)(k:Bool):Prop:=
 match x with
 |.aK=>k=false
 |.bl b=>k=b
 |.int i=>k=(i != 0)
 |.str y=>y.length<=UM/\k=((y.length:Int) != 0)
 |.gi y=>y.size<=UM/\k=((y.size:Int) != 0)
 |.ref p=>(∃xs,au K H p xs/\k = !xs.isEmpty)\/(∃xs,aX K H p xs/\k = !xs.isEmpty) \/∃kvs,H p=ih (.dK kvs)/\k = !kvs.isEmpty
 |_=>False
theorem HE{κ:Type}{kvs:am (κ×V)}{vs:am (κ×i')}(r:KV kvs vs):(!vs.isEmpty) = !kvs.isEmpty:=by
 cases r <;> rfl
theorem sP(r:Vals xs its):(!its.toArray.isEmpty) = !xs.isEmpty:=by
 cases r <;> simp
theorem kU:(UM:Nat)<2 ^ 63:=by rw[aV];decide
theorem L5:OG X (λx H Q=>∃k,Ef X.K x H k/\Q k H):=by
 rintro J s σ H x v Q I c ⟨k,e,q⟩;have o:=kU;have u:UM=16777216:=aV;cases x with
 |aK =>
  cases c
  have a:k=false:=e;subst a;exact truthy_none #[H,I,q]
 |bl b =>
  cases c
  have a:k=b:=e;subst a;exact hI #[H,I,q]
 |int i =>
  obtain⟨t,rfl⟩:=c;have a:k=(i != 0):=e;subst a;exact PySem.P.truthy_int #[H,I,q]
 |str y =>
  obtain⟨t,rfl⟩:=c;obtain⟨l,a⟩:y.length<=UM/\k=((y.length:Int) != 0):=e;subst a;exact PySem.P.truthy_str () #[H,I.tok _,q]
 |gi y =>
  obtain⟨t,rfl⟩:=c;obtain⟨l,a⟩:y.size<=UM/\k=((y.size:Int) != 0):=e;subst a;exact PySem.W.truthy_bytes () #[H,I.tok _,q]
 |ref p =>
  cases c
  have a:(∃xs,au X.K H p xs/\k = !xs.isEmpty)\/(∃xs,aX X.K H p xs/\k = !xs.isEmpty) \/∃kvs,H p=cr kvs/\k = !kvs.isEmpty:=e;rcases a with⟨xs,d,a⟩|⟨xs,d,a⟩|⟨kvs,d,a⟩
  .subst a
   obtain⟨its,r,f,j⟩:=I.list d;have g:=r.length;exact wpAny_truthy_list f.isList (by simp only[b5];omega) #[H,I.tok _,by rw[sP r];exact q]
  .subst a
   obtain⟨its,r,f,j⟩:=I.tuple d;have g:=r.length;exact truthy_tuple f (by simp only[b5];omega) #[H,I.tok _,by rw[sP r];exact q]
  .subst a
   obtain⟨j,n,vs,r,m⟩:kvs.length<=UM/\(p==sysModules)=false /\∃vs,KV kvs vs/\s.heap.DictOf (cp X.prog X.w) p vs:=I.aH p _ d;have g:kvs.length=vs.length:=cy r;exact wpAny_truthy_dict n m () #[H,I.tok _,by rw[HE r];exact q]
 |_=>exact(show False from e).elim
theorem kI(c:PE X a ta)(d:∀b,isTrue a X.env b=(do let v <- b;standAt a.pos;holding [v]^truthy v)) :
  PT X a (λσ H Q=>ta σ H λx H'=>∃k,Ef X.K x H' k/\Q k H'):=by
 intro J s σ H Q I h;exact isTrue_plain (aG (c J s σ H _ I h) λv s1 ⟨x,Y,e,f,g⟩=>L5 J s1 σ Y x v Q e f g)^d _
theorem AH:cw X (YA .Add) (λx y H Q=>∃i j,x=.str i/\y=.str j/\i.length+j.length<=UM/\Q (.str (i++j)) H):=by
 rintro J s σ H x y v u Q I a b ⟨i,j,rfl,rfl,c,q⟩;obtain⟨t,rfl⟩:=a;obtain⟨t',rfl⟩:=b;exact add_str (λt' tk=>#[.str (i++j),H,I.tok _,#[_,Z],q]) c
theorem vals1{x:V}(r:Vals [x] us):∃u,us=[u]/\RelV x u:=by
 cases r with
 |cons a b=>cases b;exact#[_,Z,a]
theorem vals2{x:V}(r:Vals [x,y] us):∃u a,us=[u,a]/\RelV x u/\RelV y a:=by
 cases r with
 |cons b c =>
  cases c with
  |cons d e=>cases e;exact#[_,_,Z,b,d]
theorem B6:cU X (.builtin "abs") (λxs H Q=>∃i,xs=[.int i]/\Q (.int (if i<0 then -i else i)) H):=by
 rintro J s σ H xs us Q I r ⟨i,rfl,q⟩;obtain⟨u,rfl,t,rfl⟩:=vals1 r;exact call_abs_int λu tk=>#[.int (if i<0 then -i else i),H,I.tok _,#[_,Z],q]
theorem Bc(b:X.calm=true):cU X (.builtin "max") (λxs H Q=>∃i j,xs=[.int i,.int j]/\Q (.int (if j>i then j else i)) H):=by
 rintro J s σ H xs us Q I r ⟨i,j,rfl,q⟩;obtain⟨u,c,rfl,⟨t,rfl⟩,⟨t',rfl⟩⟩:=vals2 r;refine max_two_ints (I.ok.hd b) λh' tk k=>#[_,H,I.kept k,?_,q]
 by_cases a:j>i
 .rw[aB a,aB a];exact#[_,Z]
 .rw[ao a,ao a];exact#[_,Z]
theorem Bd(b:X.calm=true):cU X (.builtin "min") (λxs H Q=>∃i j,xs=[.int i,.int j]/\Q (.int (if j<i then j else i)) H):=by
 rintro J s σ H xs us Q I r ⟨i,j,rfl,q⟩;obtain⟨u,c,rfl,⟨t,rfl⟩,⟨t',rfl⟩⟩:=vals2 r;refine min_two_ints (I.ok.hd b) λh' tk k=>#[_,H,I.kept k,?_,q]
 by_cases a:j<i
 .rw[aB a,aB a];exact#[_,Z]
 .rw[ao a,ao a];exact#[_,Z]
end
structure lg(h:Yb)(x dx C:FG)(mA:Gd->Option i'):Prop where
 obj:h.get? x=ih (Yl C dx)
 ns:h.Ns1 dx mA
 ne:dx≠x
theorem pN{dx:FG}(n:h.Ns1 dx mA):∃od,h.get? dx=ih od /\∀name,Zg name od=ih^mA name:=by
 obtain⟨o,es,ep,c,d,f,_,g⟩:=n;refine#[o,c,λname=>?_];have e:=g name;unfold nsFind findBy at e;rw[<-UP]at e;unfold Zg;rw[d]
 dsimp only
 split
 .rename_i y q
  rw[q]at e;exact dy ih e
 .rename_i q
  rw[q]at e;have a:es.toList.any (·.refKey)=false:=by
   rw[wF];intro y i;obtain⟨z,t,b⟩:=f y^Array.mem_toList_iff.mp i;simp[acJ,b]
  have j : ¬ es.toList.any (·.refKey)=true:=by rw[a];exact b7
  rw[ao j];exact dy ih e
theorem lg.look{x dx:FG}(I:lg h x dx C mA):∃od,PySem.W.InstAt h x (Yl C dx) C^ih od /\∀name,Zg name od=ih^mA name:=
 let ⟨od,a,b⟩:=pN I.ns
 #[od,#[I.obj,Z,Z,a],b]
section
variable{x dx:FG}{v:i'}
theorem get_map{Q:i'->UJ->Prop}(X:K.In s.heap)(I:lg s.heap x dx C mA)(b:Y6 K C name=true)(c:Zn K C=true)
  (d:Yd K (.ref C) name=ih none) (e:mA name=ih v) (a:Z' v=true) (h:Q v { s with toks:=s.toks+1 }) :
  UL (U0 prog w) A (getAttr (.ref x) name Qt) Q E s:=by
 obtain⟨od,f,g⟩:=I.look;exact PySem.W.get_value X f (Fz b).1 (PySem.W.findObj_own c d Z^by rw[g,e]) a h
theorem Jr{pl:Zi Bool}{Q:i'×List i'->UJ->Prop}(X:K.In s.heap)(I:lg s.heap x dx C mA)(a:Y6 K C name=true)
  (b:Yd K (.ref C) name=ih^ih^.ref f) (c:ZH K^.ref f=true) (d:mA name=none) (h:Q (.ref f,[.ref x]) s) :
  UL (U0 prog w) A (getMethod (.ref x) name pl) Q E s:=by
 obtain⟨od,e,g⟩:=I.look;exact PySem.W.method_fn X e (Fz a).1 (Fz a).2 b (dJ.mp c) (by show(Zg name od).map (·.isSome)=ih false;rw[g,d];rfl) h
theorem KG{Q:Unit->UJ->Prop}(X:K.In s.heap)(I:lg s.heap x dx C mA)
  (k:Yd K (.ref C) "__setattr__" = ih^ih^.builtin "object.__setattr__") (l:Z0 K C=true) (m:Zy K C name=ih none) (n:Zn K C=true)
  (o:YI mA ns) (hsz:ns.length<=UM)
  (h:∀h',lg h' x dx C (λy=>if y=name then ih v else mA y)->X5 dx s.heap h'->Q Unit.unit { s with heap:=h',toks:=s.toks+2 }) :
  UL (U0 prog w) A (setAttr (.ref x) name v) Q E s:=by
 obtain⟨od,e,z⟩:=I.look;refine UQ X e k^PySem.W.osa_open (s:={ s with toks:=s.toks+1 }) (r:=none) X e l m λb=>?_;obtain⟨cd,p,f⟩:=PySem.W.any_some n;have q:s.heap.get? x=ih #[.ref C,ih dx,.plain,#v[]]:=I.obj;refine ae^ak^ae^ae^wG q^ae^abp (s:={ s with toks:=s.toks+1 }) (PySem.W.looks_clsIn X p) ?_;rw[f];refine ak (a:=ih dx)^ae^ak^ae ?_;refine wpAny_nsSet1 (s:={ s with toks:=s.toks+1 }) I.ns λh' c d=>?_;obtain⟨B,t,u,g,i,j⟩:=c.count^UR name v o;refine ae^wpAny_lookBehind g (by rw[i];exact pastItsLine_dict^ec j^by rw[c4];omega) ?_
 exact ak^h _ #[(d.2 _^aS I.ne).trans I.obj,c,I.ne] d
theorem Js{R:ZC->UJ->Prop}{vs:am i'}(X:K.In s.heap)(a:aaf K C=true)
  (hi:Yd K (.ref C) "__init__" = ih^ih^.ref f) (b:PySem.W.typeIn K^.ref f=ih^.type "function")
  (h:codeAny (U0 prog w) (A.under^.builtin "type.__call__" #[.ref C::vs,kw]) (.call (.ref f) #[.ref (s.aj+1)::vs,kw]) (PySem.W.InitBack (s.aj+1) R)
   { s with heap:=(s.heap.push X7).push (Yl C s.aj) }) :
  codeAny (U0 prog w) A (.call (.ref C) #[vs,kw]) R s:=by
 obtain⟨c,g,d,t,os⟩:=s;exact PySem.W.make_core (PySem.W.makes_of X a) (PySem.W.looks_findIn X hi) (λself=>PySem.W.bind_fn X self b) (.inl Z) h
end
def b'(f:Gd)(v:V):List (Gd×V)->List (Gd×V)
 |[]=>[(f,v)]
 |(g,x)::r=>if g=f then (g,v)::r else (g,x)::b' f v r
theorem Aw(f g:Gd)(v:V):∀fs:am (Gd×V),(b' f v fs).lookup g=if g=f then ih v else fs.lookup g
 |[]=>by
  show VP g [(f,v)]=_
  by_cases h:g=f
  .have a:(g==f)=true:=dJ.mpr h
   simp only[VP,a,aB h]
  .have a:(g==f)=false:=iq.mpr h
   simp only[VP,a,ao h]
 |(k,x)::r=>by
  have c:=Aw f g v r;rw[show b' f v ((k,x)::r)=(if k=f then (k,v)::r else (k,x)::b' f v r) from rfl]
  by_cases b:k=f
  .rw[aB b]
   by_cases h:g=k
   .have a:(g==k)=true:=dJ.mpr h
    simp only[VP,a,aB^h.trans b]
   .have a:(g==k)=false:=iq.mpr h
    simp only[VP,a,ao^λe:g=f=>h^e.trans b.symm]
  .rw[ao b]
   by_cases h:g=k
   .have a:(g==k)=true:=dJ.mpr h
    simp only[VP,a,ao^λe:g=f=>b^h.symm.trans e]
   .have a:(g==k)=false:=iq.mpr h
    simp only[VP,a];exact c
theorem s9(f:Gd)(v:V):∀fs:am (Gd×V),f∈(b' f v fs).map (·.1) /\∀g,g∈fs.map (·.1)->g∈(b' f v fs).map (·.1)
 |[]=>#[by simp[b'],λg h=>by simp at h]
 |(k,x)::r=>by
  obtain⟨b,c⟩:=s9 f v r;rw[show b' f v ((k,x)::r)=(if k=f then (k,v)::r else (k,x)::b' f v r) from rfl]
  by_cases a:k=f
  .rw[aB a]
   subst a;exact#[by simp,λg h=>by simpa using h]
  .rw[ao a]
   refine#[?_,λg h=>?_]
   .rw[bY]
    exact bh _ b
   .rw[bY]at h⊢
    rcases bL.mp h with e|e
    .exact bL.mpr^.inl e
    .exact bh _^c g e
theorem Ax(f:Gd)(v:V):∀fs:am (Gd×V),(b' f v fs).length<=fs.length+1
 |[]=>by simp[b']
 |(k,x)::r=>by
  have b:=Ax f v r;rw[show b' f v ((k,x)::r)=(if k=f then (k,v)::r else (k,x)::b' f v r) from rfl]
  by_cases a:k=f
  .rw[aB a,c4,c4];omega
  .rw[ao a,c4,c4];omega
theorem ez.some_of{o:a2 i'}(r:ez (ih v) o):∃u,o=ih u/\RelV v u:=by
 cases o with
 |none=>exact(show False from r).elim
 |some u=>exact#[u,Z,r]
theorem ez.none_of{o:a2 i'}(r:ez none o):o=none:=by
 cases o with
 |none=>rfl
 |some u=>exact(show False from r).elim
theorem Be(r:RelV v u):Z' u=true:=by
 cases v with
 |aK=>cases (show u=Vv from r);rfl
 |bl b=>cases (show u=YK b from r);rfl
 |int i=>obtain⟨t,e⟩:=(show ∃t,u=Y8 i t from r);cases e;rfl
 |str x=>obtain⟨t,e⟩:=(show ∃t,u=YX x t from r);cases e;rfl
 |gi b=>obtain⟨t,e⟩:=(show ∃t,u=aa9 b t from r);cases e;rfl
 |j7 b=>obtain⟨t,e⟩:=(show ∃t,u=ZW b t from r);cases e;rfl
 |ref a=>cases (show u=UZ a from r);rfl
 |ty n=>cases (show u=Yn n from r);rfl
section
variable{dx:FG}{fs Qp:am (Gd×V)}
theorem qg(b:cu P w H h)(e:H a=ih^.ins C dx fs):∃mA,lg h a dx C mA/\(∀f,ez (fs.lookup f)^mA f)/\YI mA^fs.map (·.1)/\fs.length<=1000/\H dx=ih^.own a:=by
 obtain⟨d,z,ne,c,mA,n,r,q⟩:=(show bH P w H h a^.ins C dx fs from b a _ e);exact#[mA,#[c,n,ne],r,q,z,d]
end
structure gA(K:U2)(C:FG):Prop where
 pg:Y6 K C ZP=true
 hd:Zn K C=true
 po:Z0 K C=true
 sa:Yd K (.ref C) "__setattr__" = ih (ih (.builtin "object.__setattr__"))
theorem gA.get(c:gA K C)(f:Gd):Y6 K C f=true:=c.pg
def ef(K:U2)(C:FG)(f:Gd):Prop:=Yd K (.ref C) f=ih none
theorem ef.M7{f:Gd}(n:ef K C f):Zy K C f=ih none:=by
 unfold Zy;rw[show Yd K (.ref C) f=ih none from n]
 rfl
structure Meth(K:U2)(C:FG)(m:Gd)(f:FG):Prop where
 at_:Yd K (.ref C) m=ih (ih (.ref f))
 fn:ZH K (.ref f)=true
 kp:Yw K (.ref f)=true
section
variable{dx:FG}{fs:am (Gd×V)}{f:Gd}
theorem AI{b:Bool}{Q:i'->UJ->Prop}(I:Inv X J σ H s)(e:H a=ih^.ins C dx fs)(c:gA X.K C)(n:ef X.K C f)(l:fs.lookup f=ih v)
  (h:∀u s',Inv X J σ H s'->RelV v u->Q u s'):UL X.dt A (getAttr (.ref a) f b) Q E s:=by
 obtain⟨mA,O,r,_,_,_⟩:=qg I.aH e;obtain⟨u,g,d⟩:=ez.some_of (v:=v) (o:=mA f) (by rw[<-l];exact r f)
 exact get_map I.bX O (c.get f) c.hd n g (Be d)^h u _ (I.tok _) d
theorem AJ{m:Gd}{g:FG}{pl:Zi Bool}{Q:i'×List i'->UJ->Prop}(I:Inv X J σ H s)(e:H a=ih^.ins C dx fs)(c:gA X.K C)(k:Meth X.K C m g)(l:fs.lookup m=none)
  (h:Q (.ref g,[.ref a]) s):UL X.dt A (getMethod (.ref a) m pl) Q E s:=by
 obtain⟨mA,O,r,_,_,_⟩:=qg I.aH e;have b:mA m=none:=ez.none_of (by rw[<-l];exact r m)
 exact Jr I.bX O (c.get m) k.at_ k.fn b h
theorem AK{Q:Unit->UJ->Prop}(I:Inv X J σ H s)(e:H a=ih^.ins C dx fs)(c:gA X.K C)(n:ef X.K C f)(w:fs.length<1000)(j:RelV y u)
  (h:∀s',Inv X J σ (upd H a^.ins C dx^b' f y fs) s'->Q Unit.unit s'):UL X.dt A (setAttr (.ref a) f u) Q E s:=by
 obtain⟨mA,O,r,wi,_,i⟩:=qg I.aH e;have k:(fs.map (·.1)).length<=UM:=by rw[aE,aV];omega
 refine KG I.bX O c.sa c.po n.M7 c.hd wi k λh' d l=>h _ ?_;have m:∃o,h'.get? dx=ih o:=let ⟨o,_,_,p,_⟩:=d.ns;#[o,p];refine I.write (x:=a) (e:=dx) (by rw[e];exact VL) (.inr i) (λb q t z=>(l.2 b t).trans z) m ?_
 refine#[by rw[ag O.ne];exact i,?_,O.ne,d.obj,_,d.ns,λg=>?_,λg v=>?_]
 .have:=Ax f y fs;omega
 .show ez ((b' f y fs).lookup g) (if g=f then ih u else mA g)
  rw[Aw]
  by_cases q:g=f
  .rw[aB q,aB q];exact j
  .rw[ao q,ao q];exact r g
 .by_cases q:g=f
  .rw[q];exact(s9 f y fs).1
  .refine(s9 f y fs).2 g^wi g λz=>v ?_
   show(if g=f then ih u else mA g)=none;rw[ao q];exact z
theorem Inv.made(I:Inv X J σ H s):Inv X J σ (upd (upd H s.aj^.own (s.aj+1)) (s.aj+1)^.ins C s.aj [])
  { s with heap:=(s.heap.push X7).push (Yl C s.aj) }:=by
 have e1:(s.heap.push X7).get? s.aj=ih X7:=bU s.heap Z;have e2:((s.heap.push X7).push (Yl C s.aj)).get? (s.aj+1)=ih^Yl C s.aj:=by
  have:=bU (s.heap.push X7) (o:=Yl C s.aj) Z
  rwa [hJ]at this
 have e3:(s.heap.push X7).Ns s.aj (λ_=>none):=#[X7,#v[],_,e1,Z,(λe c=>absurd c^by simp),λ_=>rfl]
 have d:=I.laid (a:=s.aj) (o:=.own (s.aj+1)) (h':=s.heap.push X7) (t':=s.toks) (λb u q=>a9 _ q) (aP _) #[_,e1];refine d.laid (a:=s.aj+1) (o:=.ins C s.aj []) (t':=s.toks) (λb u q=>a9 _ q) (abl^hJ _ _) ?_;have ne:s.aj≠s.aj+1:=bK^kx _;refine#[by rw[ag ne,ah],bF _,ne,e2,λ_=>none,(ZX e3).at λo q=>a9 _ q,λ_=>VL,λy f=>absurd Z f]
theorem CU{f:Gd}{Q:i'->UJ->Prop}(b:attributeBase e f env^eval e env=eval e env)
  (h:UL (U0 prog w) A (eval e env) (λo a=>UL (U0 prog w) A (getAttr o f true) Q E a) E s):UL (U0 prog w) A (eval (.Attribute e f pos) env) Q E s:=
 Attribute_any_ h (by rw[arm_eval_Attribute,b])
end
def vq(K:U2)(ta:TE)(f:Gd):TE:=λσ H Q=>ta σ H λx Y=>∃a C dx fs v,x=.ref a/\Y a=ih (.ins C dx fs)/\gA K C/\ef K C f/\fs.lookup f=ih v/\Q v Y
def OJ(K:U2)(ta tv:TE)(f:Gd):TS:=λD σ H=>tv σ H λy Y=>ta σ Y λx H2=>∃a C dx fs,x=.ref a/\H2 a=ih (.ins C dx fs)/\gA K C/\ef K C f/\fs.length<1000 /\
 D.nx σ (upd H2 a (.ins C dx (b' f y fs)))
def vr(X:Cx)(op:ab9)(rd:V->V->Hp->VK->Prop):Prop:=
 ∀J s σ H (x y:V) (u v:i') (Q:VK),Inv X J σ H s->RelV x u->RelV y v->rd x y H Q->wA X (inplaceOp op u v) (EP X J σ Q) X.xe s
def KH(K:U2)(ta tv:TE)(rd:V->V->Hp->VK->Prop)(f:Gd):TS:=λD σ H=>ta σ H λx Y=>∃a C dx fs v,x=.ref a/\Y a=ih (.ins C dx fs)/\gA K C/\ef K C f/\fs.lookup f=ih v /\
 tv σ Y λy H2=>rd v y H2 λz H3=>∃EY Qp,H3 a=ih (.ins C EY Qp)/\Qp.length<1000/\D.nx σ (upd H3 a (.ins C EY (b' f z Qp)))
section
variable{o:VH}{f:Gd}{Qx:Z4}
theorem cq(b:PE X e ta)(d:attributeBase e f X.env^eval e X.env=eval e X.env):PE X (.Attribute e f pos)^vq X.K ta f:=by
 intro J s σ H Q I h;refine CU d^aG (b J s σ H _ I h) λu s1 p=>?_;obtain⟨x,Y,g,i,a,C,dx,fs,v,ex,j,c,n,l,q⟩:=p;subst ex;obtain rfl:u=UZ a:=i;exact AI g j c n l λo s2 k m=>#[v,Y,k,m,q]
theorem f6(b:PE X o ta)(d:PE X value tv)(e:swapsWith value (ih^.Attribute o f Qj) pos.line X.env=pure false):PS X (.Assign [.Attribute o f Qj] value pos)^OJ X.K ta tv f:=by
 intro J s σ H D I h;refine US (aG (d J s σ H _ I h) λu s1 ⟨y,Y,g,i,q⟩=>aG (b J s1 σ Y _ g q) λj s2 w=>?_) e;obtain⟨x,H2,k,m,a,C,dx,fs,ex,p,c,n,l,r⟩:=w;subst ex;obtain rfl:j=UZ a:=m;exact AK k p c n l i λv t=>#[σ,_,t,r]
theorem nL{op:ab9}{b:V->V->Hp->VK->Prop}(g:PE X o ta)(i:PE X value tv)(d:vr X op b):PS X (.AugAssign (.Attribute o f Qx) op value pos)^KH X.K ta tv b f:=by
 intro J s σ H D I h;refine wpAny_AugAssign_AttributeAny^aG (g J s σ H _ I h) λj s1 U=>?_;obtain⟨x,Y,k,m,a,C,dx,fs,v,ex,p,c,n,l,q⟩:=U;subst ex;obtain rfl:j=UZ a:=m;refine AI k p c n l λu s2 r t=>aG (i J s2 σ Y _ r q) λw A ⟨y,H2,B,E,F⟩=>aG (d J A σ H2 v y u w _ B t E F) λQ R U=>?_;obtain⟨z,S,G,L,P,Qp,e,M,N⟩:=U;exact AK G e c n M L λT O=>#[σ,_,O,N]
def OK:V->V->Hp->VK->Prop:=λx y H Q=>∃i j,x=.int i/\y=.int j/\Q (.int (i+j)) H
theorem qv:vr X .Add OK:=by
 rintro J s σ H x y u v Q I a b ⟨i,j,rfl,rfl,q⟩;obtain⟨t,rfl⟩:=(show ∃t,u=Y8 i t from a);obtain⟨t',rfl⟩:=(show ∃t',v=Y8 j t' from b);exact abX #[.int (i+j),H,I.tok _,#[_,Z],q]
end
section
variable{Q:i'->UJ->Prop}{c:i'}{b:Bool}
inductive gP(K:U2)(H:Hp):V->i'->Prop where
 |aK:gP K H .aK (.type "NoneType")
 |bl (x:Bool):gP K H (.bl x) (.type "bool")
 |int (i:Int):gP K H (.int i) (.type "int")
 |str (x:Gd):gP K H (.str x) (.type "str")
 |j7 (x:UInt64):gP K H (.j7 x) (.type "float")
 |lst {a:FG}{xs:List V} (e:H a=ih (.lst xs)):gP K H (.ref a) (.type "list")
 |bf {a:FG}{o:YC}{xs:List V} (e:H a=ih (.bf o (.lst xs))):gP K H (.ref a) (.type "list")
 |tup {a:FG}{xs:List V} (e:H a=ih (.tup xs)):gP K H (.ref a) (.type "tuple")
 |dK {a:FG}{kvs:List (Key×V)} (e:H a=ih (.dK kvs)):gP K H (.ref a) (.type "dict")
 |dT {a:FG}{kvs:List (List Key×V)} (e:H a=ih (.dT kvs)):gP K H (.ref a) (.type "dict")
 |ins {a C dx:FG}{fs:List (Gd×V)} (e:H a=ih (.ins C dx fs)) (cl:gA K C) (ha:Yd K (.ref C) "__class__" = ih (ih (.builtin "object.__class__")))
   (hn:PySem.W.specialIn K (.builtin "object.__class__") "__get__" = ih (ih (.builtin "getset_descriptor.__get__"))) (VW:PySem.W.takesIn K (.builtin "object.__class__")=ih true)
   (hm:PySem.W.mroIn K C (.type "object")=ih true):gP K H (.ref a) (.ref C)
theorem IA{x:V}{t:i'}(I:Inv X J σ H s)(d:RelV x u)(ty:gP X.K H x t)(e:PySem.W.kitOne X.K t c=ih b)(h:∀tk,Q (.bool b) { s with toks:=tk }) :
  UL X.dt A (call (.builtin "isinstance") [u,c]) Q E s:=by
 cases ty with
 |aK=>cases (show u=Vv from d);exact iR PySem.W.kitx_none I.bX VL e (λz=>nomatch z) h
 |bl y=>cases (show u=YK y from d);exact iR PySem.W.kitx_bool I.bX VL e (λz=>nomatch z) h
 |int i=>obtain⟨t,q⟩:=(show ∃t,u=Y8 i t from d);cases q;exact iR PySem.W.kitx_int I.bX VL e (λz=>nomatch z) h
 |str y=>obtain⟨t,q⟩:=(show ∃t,u=YX y t from d);cases q;exact iR PySem.W.kitx_str I.bX VL e (λz=>nomatch z) h
 |j7 y=>obtain⟨t,q⟩:=(show ∃t,u=ZW y t from d);cases q;exact iR PySem.W.kitx_float I.bX VL e (λz=>nomatch z) h
 |@lst a xs f =>
  cases (show u=UZ a from d)
  obtain⟨_,_,n,_,h1⟩:=(show bH X.prog X.w H s.heap a^.lst xs from I.aH a _ f);exact iR UT I.bX #[_,h1,Z] e (λz=>nomatch z) h
 |@bf a k xs f =>
  cases (show u=UZ a from d)
  obtain⟨_,_,_,n,_,h1⟩:=(show bH X.prog X.w H s.heap a^.bf k^.lst xs from I.aH a _ f);exact iR UT I.bX #[_,h1,Z] e (λz=>nomatch z) h
 |@tup a xs f =>
  cases (show u=UZ a from d)
  obtain⟨_,_,_,p⟩:=(show bH X.prog X.w H s.heap a^.tup xs from I.aH a _ f);obtain⟨o,h1,h2,_⟩:=p;exact iR PySem.W.kitx_tuple I.bX #[o,h1,h2] e (λz=>nomatch z) h
 |@dK a kvs f =>
  cases (show u=UZ a from d)
  obtain⟨_,_,vs,_,p⟩:=(show bH X.prog X.w H s.heap a^.dK kvs from I.aH a _ f);obtain⟨o,es,ep,h1,h2,_⟩:=p;exact iR UU I.bX #[o,h1,h2.1] e (λz=>nomatch z) h
 |@dT a kvs f =>
  cases (show u=UZ a from d)
  obtain⟨_,_,xs,_,o,es,ep,h1,h2,_⟩:=(show bH X.prog X.w H s.heap a^.dT kvs from I.aH a _ f);exact iR UU I.bX #[o,h1,h2.1] e (λz=>nomatch z) h
 |@ins a C dx fs f g l m j r =>
  cases (show u=UZ a from d)
  obtain⟨mA,O,_⟩:=qg I.aH f;obtain⟨od,v,_⟩:=O.look;exact iR (PySem.W.kitx_own (g.get _) g.hd l m j r) I.bX v e (λz=>nomatch z) h
end
structure aZ(k:Nat)(A:Yq):Prop where
 hd:A.handled=none
 dp:A.depth+3 * k+5<recursionLimit
 un:A.units+16 * k+200<YZ
 gd:A.guards=ih []
theorem aZ.mono{k:Nat}(r:aZ k A)(h:j<=k):aZ j A:=#[r.hd,by have:=r.dp;omega,by have:=r.un;omega,r.gd]
theorem aZ.deeper{k:Nat}(r:aZ (k+1) A)(env:Zq):aZ k^A.deeper env:=
 #[r.hd,by have:=r.dp;show A.depth+1+3 * k+5<_;omega,by have:=r.un;show A.units+3+16 * k+200<_;omega,by first|exact r.gd|simp[Around.deeper,r.gd]]
theorem HF:(A.under^.builtin "type.__call__" #[.ref C::us,kw]).depth=A.depth+1:=by
 first|rfl|simp[Zr,Code.weight,Code.isCreation,abf,Code.isCaller,abo,ZQ,guardIds]
theorem HG:(A.under^.builtin "type.__call__" #[.ref C::us,kw]).units=A.units+1:=by
 first|rfl|simp[Zr,Code.cUnits,abo,ZQ]
theorem He(h:A.guards=ih []):(A.under^.builtin "type.__call__" #[.ref C::us,kw]).guards=ih []:=by
 first|exact h|(simp[Zr,Code.guards,abf,guardIds,pushGuards,h])
theorem aZ.make{k:Nat}(r:aZ (k+1) A)(C:FG)(us:am i')(kw:am (Gd×i')):aZ k^A.under^.builtin "type.__call__" #[.ref C::us,kw]:=
 #[r.hd,by have:=r.dp;rw[HF];omega,by have:=r.un;rw[HG];omega,He r.gd]
theorem aZ.depth{k:Nat}(r:aZ k A):A.depth<recursionLimit:=by have:=r.dp;omega
theorem aZ.units{k:Nat}(r:aZ k A):A.units+64<YZ:=by have:=r.un;omega
def vt:TA:=λ_ H Q=>Q [] H
def uV(ta:TE)(tr:TA):TA:=λσ H Q=>ta σ H λx Y=>tr σ Y λxs H2=>Q (x::xs) H2
section
variable{t:TA}
theorem ai:PA X [] vt:=λ_ _ _ _ H Q I h=>aah #[[],H,I,.nil,h]
theorem aa(a:PE X e te)(b:PA X es t)(c:Vc (e::es) X.env=(false,eval e X.env)::Vc es X.env:=by rfl):PA X (e::es)^uV te t:=by
 intro pos J s σ H Q I h;rw[c];show UL _ _ (spliced ((false,eval e X.env)::backTo pos^Vc es X.env)) _ _ s;refine aac^aG (a J s σ H _ I h) λu s1 l=>?_;obtain⟨x,Y,d,f,g⟩:=l;exact aG (b pos J s1 σ Y _ d g) λus s2 ⟨xs,H2,i,j,k⟩=>#[x::xs,H2,i,.cons f j,k]
def OL(t:TA):TE:=λσ H Q=>t σ H λxs Y=>xs.length<=UM /\∀p,Y p=none->Q (.ref p) (upd Y p (.tup xs))
def OM(t:TA):TE:=λσ H Q=>t σ H λxs Y=>xs.length<=UM /\∀p,Y p=none->Q (.ref p) (upd Y p (.lst xs))
theorem cc{c}(h:PA X es t):PE X (.Tuple es c pos)^OL t:=by
 intro J s σ H Q I d;refine wpAny_Tuple_spliced^aG (h pos J s σ H _ I d) λus s1 ⟨xs,Y,a,r,z,q⟩=>#[by rw[<-r.length];exact z,?_]
 have f:Y s1.aj=none:=a.aH.fresh^aP _;refine#[.ref s1.aj,upd Y s1.aj^.tup xs,a.laid (t':=s1.toks) (λb u e=>a9 _ e) (aP _) ?_,Z,q _ f];exact#[z,us,r,#[_,bU _ Z,Z,_,Z,Z]]
theorem eN(h:PA X es t):PE X (.List es pos)^OM t:=by
 intro J s σ H Q I c;refine wpAny_List_spliced^aG (h pos J s σ H _ I c) λus s1 ⟨xs,Y,a,r,z,q⟩=>#[by rw[<-r.length];exact z,?_]
 have d:Y s1.aj=none:=a.aH.fresh^aP _;refine#[.ref s1.aj,upd Y s1.aj^.lst xs,a.laid (t':=s1.toks) (λb u e=>a9 _ e) (aP _) ?_,Z,q _ d];exact#[z,us,0,r,bU _ Z]
end
abbrev Sp:=List V->Hp->VK->XK->Prop
end L2
variable{sp:L2.Sp}
namespace L2
open Spec PyProof.Rows
abbrev gR:=List Zq->Hp->UJ->XK->i'->UJ->Prop
structure lj(P:Yg)(w:Yo)(K:U2)(mg:Gd->Option i')(base:Yb)(A:Yq)(outer:List Zq)(s:UJ)(H:Hp):Prop where
 frames:A.frames=ih outer
 mod:Mod K mg base
 bs:∀b o,base.get? b=ih o->s.heap.get? b=ih o/\H b=none
 ib:base.objs.size<=s.aj
 fV:s.heap.FunFrames base outer
 iO:∀b∈ej outer,H b=none
 aH:cu P w H s.heap
 bare:Zf s.gens
def CE(outer:List Zq)(P:Yg)(w:Yo)(H:Hp)(s:UJ)(Q:VK)(u:i')(s':UJ):Prop:=
 ∃v H',s'.os=s.os/\Zf s'.gens/\Un (ej outer) [] H H' s.heap s'.heap/\cu P w H' s'.heap/\RelV v u/\Q v H'
def CR(CX:gR)(outer:List Zq)(P:Yg)(w:Yo)(H:Hp)(s:UJ)(Q:VK)(E:XK)(r:ZC)(s':UJ):Prop:=
 match r with
 |.ok (.ret u)=>CE outer P w H s Q u s'
 |.ok _=>False
 |.error e=>CX outer H s E e s'
structure aT(P:Yg)(w:Yo)(K:U2)(mg:Gd->Option i')(base:Yb)(CX:gR)(k:Nat)(f:FG)(fd:X3)(ps:List Gd)(sp:Sp):Prop where
 len:∀vs H Q E,sp vs H Q E->vs.length=ps.length
 run:∀(A:Yq) (outer:List Zq) (s:UJ) (H:Hp) (args:Args) (us:List i') (vs:List V) (Q:VK) (E:XK),aZ k A->lj P w K mg base A outer s H->ZO s fd args (ps.zip us)->Vals vs us->sp vs H Q E ->
  codeAny (U0 P w) A (.call (.ref f) args) (CR CX outer P w H s Q E) s
theorem lj.make(e:lj P w K mg base A outer s H)(C:FG)(us:am i')(kw:am (Gd×i')) :
  lj P w K mg base (A.under^.builtin "type.__call__" #[.ref C::us,kw]) outer s H:=#[by first|exact e.frames|(simpa [Zr,Code.envs,ZQ,pushEnvs] using e.frames),e.mod,e.bs,e.ib,e.fV,e.iO,e.aH,e.bare]
theorem Inv.qY(I:Inv X J σ H s):lj X.prog X.w X.K X.mg X.base X.A X.stack s H:=
 #[I.ok.frames,I.ok.mod,I.bs,ec I.ok.ib I.sz,I.stack,I.tY,I.aH,I.bare]
theorem Inv.after(I:Inv X J σ H s)(h:CE X.stack X.prog X.w H s Q u s'):EP X J σ Q u s':=by
 obtain⟨v,H',os,a,un,c,r,q⟩:=h;obtain⟨f,g,d,t,e⟩:=s';obtain rfl:e=s.os:=os;exact#[v,H',I.call (h':=f) (g':=g) (d':=d) (t':=t) (ch:=[]) un c a (λb z=>absurd z^by simp),r,q]
def uW(sp:Sp)(Ql:List V)(E:XK)(t:TA):TE:=λσ H Q=>t σ H λvs Y=>sp (vs++Ql) Y Q E
def DR(C:FG)(m:Gd)(sp:Sp)(Ql:List V)(E:XK)(ta:TE)(t:TA):TE:=λσ H Q=>ta σ H λx Y=>∃a dx fs,x=.ref a/\Y a=ih (.ins C dx fs)/\fs.lookup m=none /\
 t σ Y λvs H2=>sp (x::(vs++Ql)) H2 Q E
def M8(C:FG)(sp:Sp)(Ql:List V)(E:XK)(t:TA):TE:=λσ H Q=>t σ H λvs Y=>∀x dx,Y x=none->Y dx=none->dx≠x ->
 sp (.ref x::(vs++Ql)) (upd (upd Y dx (.own x)) x (.ins C dx [])) (λv H2=>v=.aK/\Q (.ref x) H2) E
def Binds(K:U2)(fd:X3)(ps:List Gd)(ds:List i'):Prop:=
 ∀(s:UJ) (us:List i'),K.In s.heap->(us++ds).length=ps.length->ZO s fd ⟨us,[]⟩ (ps.zip (us++ds))
theorem Binds.all(h:∀us:am i',us.length=ps.length->bindArgs fd #[us,[]]=pure^ps.zip us):Binds K fd ps []:=λs us _ a=>by
 rw[e6]at a⊢;exact .of_eq^h us a
def Passes(CX:gR)(X:Cx)(E:XK):Prop:= ∀(J:List (FG×YC)) (σ:St) (H:Hp) (s:UJ) (e:i') (s':UJ),Inv X J σ H s->CX X.stack H s E e s'->X.xe e s'
section
variable{CX:gR}{k:Nat}{Ql:am V}{ds:am i'}{E:XK}{m:Gd}{p:Z4}{o:VH}{t:TA}
theorem uD(F:aT X.prog X.w X.K X.mg X.base CX k f fd ps sp)(c:aZ k X.A)(d:Binds X.K fd ps ds)(g:Vals Ql ds)(i:Passes CX X E)
  (I:Inv X J σ H s) (r:Vals vs us) (h:sp (vs++Ql) H Q E):wA X (call (.ref f) us) (EP X J σ Q) X.xe s:=by
 have b:Vals (vs++Ql) (us++ds):=r.append g;have j:(us++ds).length=ps.length:=by rw[<-b.length];exact F.len _ _ _ _ h
 refine kz^lJ (F.run X.A X.stack s H #[us,[]] (us++ds) (vs++Ql) Q E c I.qY (d s us I.bX j) b h) λr s' a=>?_;cases r with
 |error e=>exact i J σ H s e s' I a
 |ok l =>
  cases l with
  |ret u=>exact I.after a
  |next=>exact Vn a
  |brk=>exact Vn a
  |cont=>exact Vn a
theorem f3(F:aT X.prog X.w X.K X.mg X.base CX k f fd ps sp)(d:aZ k X.A)(g:Gl X x)(i:X.mg x=ih^.ref f)(j:Yw X.K^.ref f=true)(l:Binds X.K fd ps ds)(m:Vals Ql ds)(n:Passes CX X E)
  (o:PA X (e::es) t) (b:(x==("__debug__" : Gd))=false:=by decide) (u:Vc (e::es) X.env=(false,eval e X.env)::Vc es X.env:=by rfl) (c:(backTo pos^Vc es X.env).any (·.1)=false:=by rfl) :
  PE X (.Call (.Name x p) (e::es) [] pos)^uW sp Ql E t:=by
 intro J s σ H Q I h;refine m8^md I g i ?_ b;refine FC (h₀:=X.base) I.ok.mod.lB j (aG (o pos J s σ H _ I h) λus s1 ⟨vs,Y,a,r,q⟩=>#[a.bX,?_]) u c;exact uD F d l m n a r q
theorem hT{pl:Zi Bool}(p:PE X o ta)(c:gA X.K C)(b:Meth X.K C m f)(F:aT X.prog X.w X.K X.mg X.base CX k f fd ps sp)(v:aZ k X.A)(y:Binds X.K fd ps ds)(z:Vals Ql ds)(B:Passes CX X E)(D:PA X (e::es) t)
  (j:Vc (e::es) X.env=(false,eval e X.env)::Vc es X.env:=by rfl) (n:(backTo pos^Vc es X.env).any (·.1)=false:=by rfl)
  (G:eval (.Call (.Attribute o m Qg) (e::es) [] pos) X.env=(do
   let d <- eval o X.env
   standAt Qg.atName
   let (f,first) <- holding [d] (getMethod d m pl)
   callWith pos f first (backTo pos^Vc (e::es) X.env) (backToKw pos^keywordEach [] X.env)):=by rfl) :
  PE X (.Call (.Attribute o m Qg) (e::es) [] pos)^DR C m sp Ql E ta t:=by
 intro J s σ H Q I h;refine UW (pl:=pl) (aG (p J s σ H _ I h) λu s1 O=>?_) G;obtain⟨x,Y,g,L,a,dx,fs,ex,M,l,q⟩:=O;subst ex;obtain rfl:u=UZ a:=L;refine AJ g M c b l ?_;refine FC (first:=[.ref a]) (h₀:=X.base) I.ok.mod.lB b.kp (aG (D pos J s1 σ Y _ g q) λus s2 ⟨vs,H2,i,r,N⟩=>#[i.bX,?_]) j n;exact uD (us:=.ref a::us) (vs:=.ref a::vs) F v y z B i (.cons Z r) N
theorem Jt{pl:Zi Bool}(g:PE X o ta)(c:gA X.K C)(d:Meth X.K C m f)(F:aT X.prog X.w X.K X.mg X.base CX k f fd ps sp)(i:aZ k X.A)(j:Binds X.K fd ps ds)(n:Vals Ql ds)(p:Passes CX X E)
  (r:eval (.Call (.Attribute o m Qg) [] [] pos) X.env=(do
   let e <- eval o X.env
   standAt Qg.atName
   let (f,first) <- holding [e] (getMethod e m pl)
   callWith pos f first (backTo pos^Vc [] X.env) (backToKw pos^keywordEach [] X.env)):=by rfl) :
  PE X (.Call (.Attribute o m Qg) [] [] pos)^DR C m sp Ql E ta vt:=by
 intro J s σ H Q I h;refine UW (pl:=pl) (aG (g J s σ H _ I h) λu s1 y=>?_) r;obtain⟨x,Y,b,t,a,dx,fs,ex,v,l,q⟩:=y;subst ex;obtain rfl:u=UZ a:=t;refine AJ b v c d l ?_;exact PySem.W.callWith_K0 (first:=[.ref a]) b.bX d.kp^uD (us:=[.ref a]) (vs:=[.ref a]) F i j n p b (.cons Z .nil) q
structure Mk(K:U2)(C f:FG):Prop where
 makes:aaf K C=true
 init:Yd K (.ref C) "__init__" = ih (ih (.ref f))
 fn:ZH K (.ref f)=true
 kp:Yw K (.ref C)=true
theorem Ju(M:Mk X.K C f)(F:aT X.prog X.w X.K X.mg X.base CX k f fd ps sp)(g:aZ (k+1) X.A)(i:Binds X.K fd ps ds)(j:Vals Ql ds)
  (l:Passes CX X E) (I:Inv X J σ H s) (r:Vals vs us)
  (h:∀x dx,H x=none->H dx=none->dx≠x->sp (.ref x::(vs++Ql)) (upd (upd H dx^.own x) x^.ins C dx []) (λv H2=>v=.aK/\Q (.ref x) H2) E) :
  wA X (call (.ref C) us) (EP X J σ Q) X.xe s:=by
 have c:=h (s.aj+1) s.aj (I.aH.fresh^gm _) (I.aH.fresh^aP _)^bK^kx _;have b:=Inv.made (C:=C) I;have d:Vals (V.ref (s.aj+1)::(vs++Ql)) (UZ (s.aj+1)::(us++ds)):=.cons Z^r.append j;have m:(UZ (s.aj+1)::us++ds).length=ps.length:=by
  have e:=d.length;rw[F.len _ _ _ _ c]at e;exact e.symm
 refine kz^Js (f:=f) I.bX M.makes M.init (dJ.mp M.fn)^lJ (F.run _ X.stack _ _ #[UZ (s.aj+1)::us,[]] (UZ (s.aj+1)::(us++ds)) _ _ E (g.make C us [])
  (b.qY.make C us []) (i _ (UZ (s.aj+1)::us) b.bX m) d c) λr s' a=>?_
 cases r with
 |error e=>exact l J σ _ _ e s' b a
 |ok n =>
  cases n with
  |ret u =>
   obtain⟨v,H',o,p,q,t⟩:=b.after a;subst q;exact#[p,#[V.ref (s.aj+1),H',o,Z,t]]
  |next=>exact Vn a
  |brk=>exact Vn a
  |cont=>exact Vn a
theorem t2(M:Mk X.K C f)(F:aT X.prog X.w X.K X.mg X.base CX k f fd ps sp)(d:aZ (k+1) X.A)(g:Gl X x)(i:X.mg x=ih^.ref C)(j:Binds X.K fd ps ds)(l:Vals Ql ds)(m:Passes CX X E)
  (n:PA X (e::es) t) (b:(x==("__debug__" : Gd))=false:=by decide) (o:Vc (e::es) X.env=(false,eval e X.env)::Vc es X.env:=by rfl) (c:(backTo pos^Vc es X.env).any (·.1)=false:=by rfl) :
  PE X (.Call (.Name x p) (e::es) [] pos)^M8 C sp Ql E t:=by
 intro J s σ H Q I h;refine m8^md I g i ?_ b;refine FC (h₀:=X.base) I.ok.mod.lB M.kp (aG (n pos J s σ H _ I h) λus s1 ⟨vs,Y,a,r,q⟩=>#[a.bX,?_]) o c;exact Ju M F d j l m a r q
end
structure bp(N P:List Gd)(sc:Y0):Prop where
 kind:sc.kind=.function
 co:sc.isCoroutine=false
 gen:sc.isGenerator=false
 nd:N.Nodup
 pre:N.take P.length=P
 par:∀x∈P,sc.names.lookup x=ih .local\/sc.names.lookup x=ih .cell
 L6:∀y∈sc.names,y.2 ≠ .free
theorem Bf{kindOf:Gd->Option Yt}{x:Gd}:∀{binds:am (Gd×i')}{m:Gd->Option i'},(∀v,(x,v)∉ binds)->bindL kindOf binds m x=m x
 |[],_,_=>rfl
 |(n,v)::r,m,h=>by
  unfold bindL;rw[Bf λw a=>h w^bh _ a];split
  .have:x≠n:=by rintro rfl;exact h v aY
   simp[this]
  .rfl
theorem Bg{kindOf:Gd->Option Yt}{x:Gd}:∀{binds:am (Gd×i')}{m:Gd->Option i'},(∀v,(x,v)∉ binds)->bindC kindOf binds m x=m x
 |[],_,_=>rfl
 |(n,v)::r,m,h=>by
  unfold bindC;rw[Bg λw a=>h w^bh _ a];split
  .rfl
  .have:x≠n:=by rintro rfl;exact h v aY
   simp[this]
theorem Bh{kindOf:Gd->Option Yt}{x:Gd}{v:i'}:∀{P:am Gd}{vs:am i'}{i:Nat}{m:Gd->Option i'},P.Nodup->P[i]?=ih x->vs[i]?=ih v->kindOf x=ih .local ->
  bindL kindOf (P.zip vs) m x=ih v
 |[],_,_,_,_,h,_,_=>by simp at h
 |_::_,[],_,_,_,_,h,_=>by simp at h
 |p::P,w::vs,0,m,a,h1,h2,b=>by
  simp at h1 h2;subst h1;subst h2;show bindL kindOf ((p,w)::P.zip vs) m p=_;unfold bindL;rw[Bf λv c=>(d6.mp a).1 (FD c).1,aB b];simp
 |p::P,w::vs,i+1,m,a,h1,h2,b=>by
  show bindL kindOf ((p,w)::P.zip vs) m x=_;unfold bindL;exact Bh (i:=i) (d6.mp a).2 ⇑h1 ⇑h2 b
theorem Bi{kindOf:Gd->Option Yt}{x:Gd}{v:i'}:∀{P:am Gd}{vs:am i'}{i:Nat}{m:Gd->Option i'},P.Nodup->P[i]?=ih x->vs[i]?=ih v->kindOf x≠ih .local ->
  bindC kindOf (P.zip vs) m x=ih v
 |[],_,_,_,_,h,_,_=>by simp at h
 |_::_,[],_,_,_,_,h,_=>by simp at h
 |p::P,w::vs,0,m,a,h1,h2,b=>by
  simp at h1 h2;subst h1;subst h2;show bindC kindOf ((p,w)::P.zip vs) m p=_;unfold bindC;rw[Bg λv c=>(d6.mp a).1 (FD c).1,ao b];simp
 |p::P,w::vs,i+1,m,a,h1,h2,b=>by
  show bindC kindOf ((p,w)::P.zip vs) m x=_;unfold bindC;exact Bi (i:=i) (d6.mp a).2 ⇑h1 ⇑h2 b
def start(N:List Gd)(vs:List V):St:=vs.map ih++YD (N.length - vs.length) none
def d8(CX:gR)(P:Yg)(w:Yo)(K:U2)(mg:Gd->Option i')(base:Yb)(N:List Gd)(qual:Gd)(scope:Y0)(f:FG)(cd:i')(A:Yq)(outer:List Zq)(s:UJ)(H:Hp)(E:XK):Cx where
 prog:=P
 w:=w
 K:=K
 mg:=mg
 base:=base
 A:=A.deeper (envOfC qual scope s.aj f cd)
 N:=N
 eg:=s
 g9:=H
 env:=envOfC qual scope s.aj f cd
 outer:=outer
 stack:=envOfC qual scope s.aj f cd::outer
 ex:=[]
 calm:=true
 fn:=λ_=>true
 pn:=[]
 xe:=λe s'=>UL (U0 P w) (A.deeper (envOfC qual scope s.aj f cd)) (leaving (envOfC qual scope s.aj f cd) e) (λ_ vU=>CX outer H s E e vU) (λe' vU=>CX outer H s E e' vU) s'
theorem tI{n:Nat}(h:sc.names.lookup x=ih .cell):∃c,(cellsFrom n sc.names []).lookup x=ih c:=by
 have q:=UX sc.names n []^.inl h;exact sd.mp q
theorem IB{CX:gR}{E:XK}
  (S:bp N ps scope) (o:A.handled=none) (e0:lj P w K mg base A outer s H) (D:vs.length=ps.length) (r:Vals vs us)
  (x:InCallC s s.heap.objs.size (bindL (envOfC qual scope s.heap.objs.size f cd).kindOf (ps.zip us) λ_=>none) (cellsFrom (s.heap.objs.size+1) scope.names []) (bindC (envOfC qual scope s.heap.objs.size f cd).kindOf (ps.zip us) λ_=>none) s1) :
  Inv (d8 CX P w K mg base N qual scope f cd A outer s H E) [] (start N vs) H s1:=by
 have C:ps.length<=N.length:=by have:=dy Y5 S.pre;rw[cH]at this;omega
 obtain⟨h1,tk,rfl,l⟩:=x.done;have g:∀b:FG,b ∉ (d8 CX P w K mg base N qual scope f cd A outer s H E).ex:=λb z=>absurd (show b∈([]:am FG) from z) (by simp)
 refine#[#[e0.mod,S.kind,Z,Z,aP _,λy z c h1 h2=>?_,λy hy=>?_,λy c _ h=>?_,λ_=>o,Around.frames_deeper e0.frames,.inr #[Z,Z],λb z=>absurd z^g b,e0.bs,e0.ib,λb _ _=>g b,λb z=>absurd z^g b,e0.fV,e0.iO],
  Z,e0.bare,Un.kept l,#[_,x.toInCall.ns,λi y v h1 h2 F=>?_],λy c h=>#[_,x.cell y c h],e0.aH.fresh^aP _,λy c h=>?_,λp d=>absurd (show p∈([]:am (FG×YC)) from d) (by simp),e0.aH.kept l,?_]
 .exact name_of_addr x.apart (jx h1)^jx h2
 .have hy:scope.names.lookup y=ih .cell\/scope.names.lookup y=ih .free:=hy
  rcases hy with hy|hy
  .exact tI hy
  .exact absurd Z^S.L6 _^jx hy
 .exact o8^x.above y c^jx h
 .have hi:i<vs.length:=by
   unfold start at h2
   by_cases hi:i<vs.length
   .exact hi
   .rw[UY ⇑hi]at h2
    rw[List.getElem?_replicate]at h2;split at h2 <;> cases h2
  have t:vs[i]?=ih v:=by
   unfold start at h2;rw[FE ⇑hi,c5]at h2
   cases e:vs[i]? with
   |none=>rw[e]at h2;cases h2
   |some a=>rw[e]at h2;cases h2;rfl
  obtain⟨u,m,B⟩:=r.get t;have d:ps[i]?=ih y:=by
   rw[<-S.pre,List.getElem?_take_of_lt ()];exact h1
  have j:ps.Nodup:=by rw[<-S.pre];exact S.nd.sublist^iS _ _
  refine#[u,B,?_];rcases S.par y^eu d with k|k
  .exact .inl #[k,Bh j d m k]
  .obtain⟨c,e⟩:=tI (n:=s.heap.objs.size+1) k
   refine .inr #[.inl k,c,e,?_];have q:=x.cell y c e;rw[Bi j d m^by show scope.names.lookup y≠_;rw[k];decide]at q
   exact q
 .exact e0.aH.fresh^o8^x.above y c^jx h
 .unfold start
  show _=N.length;rw[cz,aE,wH];omega
theorem uX{CX:gR}{k:Nat}{i:Arguments}{p kV:i'}(lk:K.lookup f=ih #[oc,od,.func^Ym name qual i body scope p kV Qe pm an Qb ct,Qn])(D:YW K Qb qual=true)(S:bp N ps scope)
  (j:∀vs H Q E,sp vs H Q E->vs.length=ps.length)
  (B:∀(A:Yq) (outer:am Zq) (s:UJ) (H:Hp) (vs:am V) (Q:VK) (E:XK),aZ k^A.deeper^envOfC qual scope s.aj f Qb->sp vs H Q E ->
   ∃t,dH (d8 CX P w K mg base N qual scope f Qb A outer s H E) body t/\t { nx:=λ_ H'=>Q .aK H',rt:=Q } (start N vs) H) :
  aT P w K mg base CX (k+1) f (Ym name qual i body scope p kV Qe pm an Qb ct) ps sp:=by
 refine#[j,λA outer s H args us vs Q E g e0 G r l=>?_];have J:=j _ _ _ _ l;have z:K.In s.heap:=e0.mod.lB.keeps λb o e=>(e0.bs b o e).1;have F:s.heap.NoLimit:=e0.mod.nolimit.keeps λb o e=>(e0.bs b o e).1;have C:∀y∈ps.zip us,scope.names.lookup y.1=ih .local\/(scope.names.lookup y.1=ih .cell/\((cellsFrom (s.aj+1) scope.names []).lookup y.1).isSome=true):=λ⟨n,v⟩ L=>by
  rcases S.par n (FD L).1 with q|q
  .exact .inl q
  .exact .inr #[q,UX _ _ _^.inl q]
 refine codeAny_call_function g.depth (z _ _ lk) Z S.co S.gen Z (PySem.W.codeRec_of z D)^G _ _ _ _ ?_;refine wpAny_newFunctionEnv_cells S.kind C λenv M s1 x=>?_;subst M;refine#[F.keeps x.toInCall.keep,codeAny_func ?_];obtain⟨t,O,R⟩:=B A outer s H vs Q E (g.deeper _) l;have I:Inv (d8 CX P w K mg base N qual scope f Qb A outer s H E) [] (start N vs) H s1:=IB S g.hd e0 J r x;refine ir (O [] s1 (start N vs) H _ I R) (λT s' c=>?_) λe s' c=>c;have m:∀{d:St}{H':Hp}{v:V}{u:i'},Inv (d8 CX P w K mg base N qual scope f Qb A outer s H E) [] d H' s'->RelV v u->Q v H'->CE outer P w H s Q u s':=
  λ{d H' v u} a h q=>#[v,H',a.os,a.bare,a.base,a.aH,h,q]
 cases T with
 |ret u =>
  obtain⟨v,d,H',a,h,q⟩:=c;exact m a h q
 |next =>
  obtain⟨d,H',a,q⟩:=c;exact m (v:=V.aK) (u:=Vv) a Z q
 |brk =>
  obtain⟨_,_,_,q⟩:=c;exact Vn q
 |cont =>
  obtain⟨_,_,_,q⟩:=c;exact Vn q
section
variable{p:Z4}{t:TA}{id:String}{r:am V->Hp->VK->Prop}
def EZ(r:List V->Hp->VK->Prop)(t:TA):TE:=λσ H Q=>t σ H λvs Y=>r vs Y Q
theorem bV(c:cU X (.builtin id) r)(d:Gl X x)(f:X.mg x=none)(g:VA x=ih^.builtin id)(i:PA X (e::es) t)(j:x ≠ "__name__" :=by decide)(a:(x==("__debug__" : Gd))=false:=by decide)
  (k:Vc (e::es) X.env=(false,eval e X.env)::Vc es X.env:=by rfl) (b:(backTo pos^Vc es X.env).any (·.1)=false:=by rfl):PE X (.Call (.Name x p) (e::es) [] pos)^EZ r t:=by
 intro J s σ H Q I h;refine m8^kQ I d f g ?_ j a;exact FF (aG (i pos J s σ H _ I h) λus s1 ⟨vs,Y,l,m,n⟩=>c J s1 σ Y vs us Q l m n) k b
theorem df(c:cU X (.type T) r)(d:Gl X x)(f:X.mg x=none)(g:VA x=ih^.type T)(i:PA X (e::es) t)(j:x ≠ "__name__" :=by decide)(a:(x==("__debug__" : Gd))=false:=by decide)
  (k:Vc (e::es) X.env=(false,eval e X.env)::Vc es X.env:=by rfl) (b:(backTo pos^Vc es X.env).any (·.1)=false:=by rfl):PE X (.Call (.Name x p) (e::es) [] pos)^EZ r t:=by
 intro J s σ H Q I h;refine m8^kQ I d f g ?_ j a;exact wD (aG (i pos J s σ H _ I h) λus s1 ⟨vs,Y,l,m,n⟩=>c J s1 σ Y vs us Q l m n) k b
end
end L2
namespace HT
open PyProof.Rows
section
open SeqAt
open AutoSeq1 (wpAny_loadPart')
open MeetsSeq MeetsSeq2 MeetsSeq3
end
theorem KJ{t:FG}{vs ws:am i'}{Q:i'->UJ->Prop}(p:Yz s.heap t vs.toArray)(q:Yz s.heap b ws.toArray)(j:vs ≠ [])
  (h1:ws=[]->Q (.ref t) s) (h2:ws ≠ []->Q (.ref s.aj) { s with heap:=s.heap.push { cls:=.type "tuple",data:=.seq (vs++ws).toArray } })
  (hsz:vs.length+ws.length<=UM):UL (U0 prog w) A (YA .Add (.ref t)^.ref b) Q E s:=by
 obtain⟨⟨cls,k,data,sl⟩,c,l,n,m⟩:=id p;obtain⟨⟨r,f,data2,g⟩,a,h,o,i⟩:=id q;simp only at l m h i;subst l m h i;have e:vs.toArray++ws.toArray=(vs++ws).toArray:=by simp
 by_cases d:ws=[]
 .exact concat_meets #[_,c,Z] #[_,a,Z] FH FJ FK FL (FO _ _)
   (tuple_addW1 t b vs.toArray ws.toArray n o k f sl g ⇑j^by simp[d]) #[c,a,h1 d]
 .refine concat_meets #[_,c,Z] #[_,a,Z] FH FJ FK FL (FO _ _)
   (tuple_addW2 t b vs.toArray ws.toArray n o k f sl g ⇑j ⇑d^by rw[b5,b5];exact hsz) #[c,a,?_]
  rw[e];exact h2 d
def bz(n d:Nat):Option Int->Nat
 |none=>d
 |some v=>if v<0 then (v+(n:Int)).toNat else min v.toNat n
theorem Jv(n d:Nat):bz n d none=d:=rfl
theorem KL(n d k:Nat):bz n d^ih (k:Int)=min k n:=by
 show(if (k:Int)<0 then ((k:Int)+(n:Int)).toNat else min (k:Int).toNat n)=min k n;rw[ao (),gD]
theorem L7(n d:Nat)(b:d<=n)(o:a2 Int):bz n d o<=n:=by
 cases o with
 |none=>exact b
 |some v =>
  show(if v<0 then (v+(n:Int)).toNat else min v.toNat n)<=n
  by_cases a:v<0
  .rw[aB a];omega
  .rw[ao a];exact Nat.min_le_right _ _
theorem zmin(a b:Nat):((min a b:Nat):Int)=min (a:Int) (b:Int):=by
 rcases Nat.le_total a b with h|h
 · rw[Nat.min_eq_left h,Int.min_eq_left (Int.ofNat_le.mpr h)]
 · rw[Nat.min_eq_right h,Int.min_eq_right (Int.ofNat_le.mpr h)]
theorem CV(v:Int)(n d:Nat):(if v<0 then max (v+(n:Int)) 0 else min v (n:Int))=((bz n d^ih v:Nat):Int):=by
 show(if v<0 then max (v+(n:Int)) 0 else min v (n:Int))=(((if v<0 then (v+(n:Int)).toNat else min v.toNat n):Nat):Int)
 by_cases a:v<0
 · rw[if_pos a,if_pos a,Int.toNat_eq_max]
 · rw[if_neg a,if_neg a,zmin,Int.toNat_of_nonneg (Int.not_lt.mp a)]
theorem HH(lo hi:a2 Int)(n:Nat):YR lo hi 1 (n:Int)=(((bz n 0 lo:Nat):Int),((bz n n hi:Nat):Int)):=by
 have h1 : ¬ ((1:Int)<0):=()
 unfold YR;simp only[h1,hK];refine wI ?_ ?_
 .cases lo with
  |none=>rfl
  |some v=>exact CV v n 0
 .cases hi with
  |none=>rfl
  |some v=>exact CV v n n
theorem HI(i j:Nat):Yu (i:Int) (j:Int) 1=j - i:=by
 unfold Yu;have h1:(1:Int)>0:=()
 simp only[h1,hM,Int.ediv_one];split <;> omega
theorem AL{v:i'}{o:a2 Int}{Q:a2 Int->UJ->Prop}(p:Zs v o)(h:Q o s):UL (U0 prog w) A (abA v) Q E s:=by
 cases p with
 |none=>exact slicePart_none h
 |int i t=>exact slicePart_int h
theorem Al{lo:a2 Int}{n:Nat}{Q:Int×Int×Nat->UJ->Prop}(c:s.heap.IsSliceOf sl vl vu .none)(pl:Zs vl lo)(d:Zs vu hi)
  (h:Q (((bz n 0 lo:Nat):Int),1,bz n n hi - bz n 0 lo) s):UL (U0 prog w) A (Zo (.ref sl)^pure (n:Int)) Q E s:=by
 obtain⟨os,a,e,b⟩:=id c;unfold Zo abB;refine ae^ae^lK a b (x:=vl) Z^ae^lK a b (x:=vu) Z^ae^lK a b (x:=.none) Z^ak ?_;refine ae^slicePart_none ?_;show UL _ _ (if ((1:Int)==0)=true then _ else _) _ _ s;rw[ao ∅]
 refine ae^AL pl^ae^AL d^ae^ak ?_;show UL _ _ (match YR lo hi 1 (n:Int) with|(lo,hi)=>pure (lo,(1:Int),Yu lo hi 1)) _ _ s;rw[HH lo hi n];show UL _ _ (pure (((bz n 0 lo:Nat):Int),(1:Int),Yu ((bz n 0 lo:Nat):Int) ((bz n n hi:Nat):Int) 1)) _ _ s;rw[HI];exact ak h
theorem Jw(xs:Array i')(i k:Nat):((VQ k).filterMap λ(m:Nat)=>xs[((i:Int)+(m:Int) * 1).toNat]?).toArray=((xs.toList.drop i).take k).toArray:=by
 have e:(λ(m:Nat)=>xs[((i:Int)+(m:Int) * 1).toNat]?)=λm=>xs[i+m]?:=by
  funext m
  have:((i:Int)+(m:Int) * 1).toNat=i+m:=()
  rw[this]
 rw[e];have:=pick_run xs i k;rw[List.filterMap_map]at this;have e2:((λx=>xs[x]?) ∘ λx=>i+x)=λm=>xs[i+m]?:=rfl;rw[e2]at this;rw[this]
theorem GA{t:FG}{lo:a2 Int}{Q:i'->UJ->Prop}(b:Yz s.heap t items)(c:s.heap.IsSliceOf sl vl vu .none)(pl:Zs vl lo)(i:Zs vu hi)
  (j : ¬ (bz items.size 0 lo=0/\bz items.size items.size hi=items.size))
  (h:Q (.ref s.heap.objs.size) { s with heap:=s.heap.push { cls:=.type "tuple",data:=.seq ((items.toList.drop^bz items.size 0 lo).take (bz items.size items.size hi - bz items.size 0 lo)).toArray } })
  (hsz:items.size<=UM):UL (U0 prog w) A (getItem (.ref t)^.ref sl) Q E s:=by
 have a:sizeOk^.seq ((items.toList.drop^bz items.size 0 lo).take (bz items.size items.size hi - bz items.size 0 lo)).toArray:=by
  show((items.toList.drop^bz items.size 0 lo).take (bz items.size items.size hi - bz items.size 0 lo)).toArray.size<=UM;rw[b5,cH,m9,gk];omega
 have l:bz items.size items.size hi<=items.size:=L7 _ _ (aP _) hi;obtain⟨os,d,e,k⟩:=id c;have f:s.TypeIs (.ref sl) "slice" :=#[os,d,e];unfold getItem
 try with_reducible refine ed ?_
 first|refine ae (ak ?_)|skip
 refine ae (wpAny_sequenceKey b.typeIs ∅ ?_)
 refine ae (nc (name:=Yj "__getitem__") b.typeIs pd
  (gE pd b.typeIs entry_tuple_getitem ?_^args_tuple_getitem _ _))
 show UL _ _ (YM^.ref t >>= _) _ _ s;refine ae^tupleItemsOf_ b ?_;refine ae^jy f ?_;rw[aB ∅]
 refine ae^Al c pl i ?_;have g : ¬ ((((bz items.size 0 lo:Nat):Int)==0&&(1:Int)==1&&(bz items.size items.size hi - bz items.size 0 lo)==items.size)=true):=by
  intro q;rw[gW,gW]at q;have n:((bz items.size 0 lo:Nat):Int)=0:=eq_of_beq q.1.1;have o:bz items.size items.size hi - bz items.size 0 lo=items.size:=eq_of_beq q.2;exact j #[(),()]
 show UL _ _ (if (((bz items.size 0 lo:Nat):Int)==0&&(1:Int)==1&&(bz items.size items.size hi - bz items.size 0 lo)==items.size)=true then _ else _) _ _ s;rw[ao g,Jw]
 first
  |exact ae (m:=Yx _) (e4 (ak ⟨_,rfl,ak h⟩) a)
  |exact ae (m:=Yx _) (e4 (ae (ak (ak ⟨_,rfl,ak h⟩))) a)
  |exact ae (ae (m:=Yx _) (e4 (ak (ak ⟨_,rfl,ak h⟩)) a))
  |exact ae (ae (m:=Yx _) (e4 (ak ⟨_,rfl,ak h⟩) a))
end HT
namespace L2
open Spec PyProof.Rows
abbrev TO:=St->Hp->(Option Int->Hp->Prop)->Prop
def PO(X:Cx)(e:Option VH)(t:TO):Prop:=
 ∀J s σ H (Q:Option Int->Hp->Prop),Inv X J σ H s->t σ H Q ->
  wA X (evalPart e X.env) (λu s'=>∃o H',Inv X J σ H' s'/\Zs u o/\Q o H') X.xe s
def KN:TO:=λ_ H Q=>Q none H
def M9(t:TE):TO:=λσ H Q=>t σ H λx Y=>∃i,x=.int i/\Q (ih i) Y
section
variable{lo hi:a2 VH}{tl th:TO}{p2:Z4}
theorem i6:PO X none KN:=by
 intro J s σ H Q I h;rw[FQ];exact ak #[none,H,I,.none,h]
theorem iz(h:PE X e te):PO X (ih e)^M9 te:=by
 intro J s σ H Q I a;rw[evalPart_some];refine aG (h J s σ H _ I a) λu s1 f=>?_;obtain⟨x,Y,b,c,d⟩:=f;obtain⟨i,rfl,q⟩:=d;obtain⟨t,rfl⟩:=c;exact#[ih i,Y,b,.int i t,q]
def mX(X:Cx)(r:V->Option Int->Option Int->Hp->VK->Prop):Prop:=
 ∀J s σ H (x:V) (v vl vu:i') (lo hi:Option Int) (sl:FG) (Q:VK),Inv X J σ H s->RelV x v->s.heap.IsSliceOf sl vl vu .none->Zs vl lo->Zs vu hi->r x lo hi H Q ->
  ∃T id,typeLookup (.type T) "__getitem__" = pure (ih (.builtin id))/\s.TypeIs v T/\wA X (getItem v (.ref sl)) (EP X J σ Q) X.xe s
def P4(r:V->Option Int->Option Int->Hp->VK->Prop)(te:TE)(tl th:TO):TE:=λσ H Q=>te σ H λx Y=>tl σ Y λl H2=>th σ H2 λu H3=>r x l u H3 Q
theorem i0{r:V->Option Int->Option Int->Hp->VK->Prop}(d:mX X r)(f:PE X e te)(g:PO X lo tl)(i:PO X hi th):PE X (.Subscript e (.Slice lo hi none p2) pos)^P4 r te tl th:=by
 intro J s σ H Q I h;refine ZU^aG (f J s σ H _ I h) λv s1 E=>?_;obtain⟨x,Y,j,k,m⟩:=E;refine wpAny_Slice^aG (g J s1 σ Y _ j m) λvl s2 ⟨l,H2,n,o,p⟩=>aG (i J s2 σ H2 _ n p) λvu a E=>?_;obtain⟨u,c,t,w,y⟩:=E;rw[FQ];refine ak ?_;have z:Inv X J σ c { a with heap:=a.heap.push { cls:=.type "slice",data:=.fields #v[vl,vu,.none] } }:=t.kept (t':=a.toks) λb D q=>a9 _ q;obtain⟨T,id,A,B,C⟩:=d J { a with heap:=a.heap.push { cls:=.type "slice",data:=.fields #v[vl,vu,.none] } } σ c x v vl vu l u a.aj Q z k (ZD ..) o w y;show wA X (subscriptTail e (.Slice lo hi none p2) v^.ref a.aj) (EP X J σ Q) X.xe { a with heap:=a.heap.push { cls:=.type "slice",data:=.fields #v[vl,vu,.none] } };exact tail_any (ops:=[.ref a.aj,v]) B A C (by with_unfolding_all rfl)
def fX(xs:List V)(lo hi:Option Int):List V:=(xs.drop (HT.bz xs.length 0 lo)).take (HT.bz xs.length xs.length hi - HT.bz xs.length 0 lo)
theorem Ay(xs:am V)(lo hi:a2 Int):(fX xs lo hi).length<=xs.length:=by
 unfold fX;rw[cH,m9];omega
def ON(K:U2):V->Option Int->Option Int->Hp->VK->Prop:=λx lo hi H Q=>∃a xs,x=.ref a/\aX K H a xs /\
 ¬ (HT.bz xs.length 0 lo=0/\HT.bz xs.length xs.length hi=xs.length) /\∀p,H p=none->Q (.ref p) (upd H p (.tup (fX xs lo hi)))
theorem L8:mX X^ON X.K:=by
 rintro J s σ H x v vl vu lo hi sl Q I f g i j ⟨a,xs,rfl,k,l,q⟩;cases f
 obtain⟨its,r,d,e⟩:=I.tuple k;have c:its.toArray.size=xs.length:=by rw[b5];exact r.length.symm
 refine#["tuple",_,pd.lookup,d.typeIs,?_];refine HT.GA d g i j (by rw[c];exact l) ?_ (by rw[c];exact e)
 rw[c];refine#[.ref s.aj,_,I.laid (t':=s.toks) (o:=.tup^fX xs lo hi) (λb m q=>a9 _ q) (aP _) ?_,Z,q _^I.aH.fresh^aP _];exact#[ec (Ay xs lo hi) e,_,(r.drop^HT.bz xs.length 0 lo).take (HT.bz xs.length xs.length hi - HT.bz xs.length 0 lo),jh.new _ _]
def M'(K:U2):R2:=λx y H Q=>∃a b xs ys,x=.ref a/\y=.ref b/\aX K H a xs/\aX K H b ys/\xs ≠ []/\xs.length+ys.length<=UM /\
 (ys=[]->Q (.ref a) H)/\(ys ≠ [] ->∀p,H p=none->Q (.ref p) (upd H p (.tup (xs++ys))))
theorem Vals.t4(r:Vals xs us):us=[] ↔ xs=[]:=by
 cases r with
 |nil=>simp
 |cons _ _=>simp
theorem KO:cw X (YA .Add)^M' X.K:=by
 rintro J s σ H x y v u Q I f g ⟨a,b,xs,ys,rfl,rfl,i,j,k,e,l,m⟩;cases f
 cases g
 obtain⟨its,d,n,_⟩:=I.tuple i;obtain⟨p,c,p2,_⟩:=I.tuple j;refine HT.KJ n p2 (λz=>k^d.t4.mp z) (λz=>#[.ref a,H,I,Z,l^c.t4.mp z]) (λz=>?_) (by rw[<-d.length,<-c.length];exact e)
 refine#[.ref s.aj,_,I.laid (t':=s.toks) (o:=.tup (xs++ys)) (λb r q=>a9 _ q) (aP _) ?_,Z,m (λw=>z^c.t4.mpr w) _^I.aH.fresh^aP _];exact#[by rw[cz];exact e,_,d.append c,jh.new _ _]
end
def jq(n:Nat)(i:Int):Option Nat:=if 0<=i then (if i<n then ih i.toNat else none) else if -(n:Int)<=i then ih (i+n).toNat else none
def cN{α:Type}(xs:List α)(i:Int):Option α:=(jq xs.length i).bind λj=>xs[j]?
theorem CY{n:Nat}{i:Int}(h:jq n i=ih j):seqIndex? i n=ih j/\j<n /\ -(n:Int)<=i/\i<n:=by
 unfold jq at h
 by_cases h0:0<=i
 .rw[aB h0]at h
  by_cases h1:i<n
  .rw[aB h1]at h
   have e:i.toNat=j:=cQ h;exact#[by rw[wJ h0 h1,e],(),(),h1]
  .rw[ao h1]at h;cases h
 .rw[ao h0]at h
  by_cases h1 : -(n:Int)<=i
  .rw[aB h1]at h
   have e:(i+n).toNat=j:=cQ h;exact#[by rw[seqIndex_neg () h1,e],(),h1,()]
  .rw[ao h1]at h;cases h
theorem t6{α:Type}{xs:am α}{i:Int}{v:α}(h:cN xs i=ih v):∃j,seqIndex? i xs.length=ih j/\xs[j]?=ih v/\j<xs.length /\ -(xs.length:Int)<=i/\i<xs.length:=by
 unfold cN at h;cases e:jq xs.length i with
 |none=>rw[e]at h;cases h
 |some j =>
  rw[e]at h;obtain⟨h1,h2,a,b⟩:=CY e;exact#[j,h1,h,h2,a,b]
theorem cx{α:Type}{xs:am α}{v:α}(h:xs[j]?=ih v):cN xs (j:Int)=ih v:=by
 have a:j<xs.length:=(b4.mp h).1;have e:jq xs.length (j:Int)=ih j:=by
  unfold jq;rw[aB (),aB ()];simp
 unfold cN;rw[e];exact h
theorem Jx{α:Type}(xs:am α)(v:α):cN (xs++[v]) (-1)=ih v:=by
 have a:(xs++[v]).length=xs.length+1:=by simp
 have e:jq (xs++[v]).length (-1)=ih xs.length:=by
  unfold jq;rw[a,ao ∅,aB ()]
  congr 1
  omega
 unfold cN;rw[e];show(xs++[v])[xs.length]?=ih v;simp
def KP(b:VH):Prop:= ∀o i,subscripted b false o i=operate [o,i] (getItem o i)
def mY(X:Cx)(r:R2):Prop:=
 ∀(value slice:VH) J s σ H (x y:V) (v u:i') (Q:VK),Inv X J σ H s->RelV x v->RelV y u->r x y H Q ->
  subscripted slice false v u=operate [v,u] (getItem v u)->wA X (subscriptTail value slice v u) (EP X J σ Q) X.xe s
def vV(X:Cx)(id:String)(r:V->List V->Hp->VK->Prop):Prop:=
 ∀J s σ H (x:V) (xs:List V) (v:i') (us:List i') (Q:VK),Inv X J σ H s->RelV x v->Vals xs us->r x xs H Q ->
  wA X (call (.builtin id) (v::us)) (EP X J σ Q) X.xe s
section
variable{a b:VH}{tb:TE}
theorem aU{r:R2}(c:mY X r)(d:PE X a ta)(e:PE X b tb)(f:KP b:=by exact λ_ _=>rfl):PE X (.Subscript a b pos)^kc r ta tb:=by
 intro J s σ H Q I h;exact ZU^vo d e I h λv u s2 x y H2 g i j q=>c a b J s2 σ H2 x y v u Q g i j q^f _ _
def qZ(K:U2):R2:=λx y H Q=>∃p xs i v,x=.ref p/\y=.int i/\au K H p xs/\cN xs i=ih v/\Q v H
def mJ(K:U2):R2:=λx y H Q=>∃p xs i v,x=.ref p/\y=.int i/\aX K H p xs/\cN xs i=ih v/\Q v H
def OO:R2:=λx y H Q=>∃z i c,x=.str z/\y=.int i/\z.length<=UM/\cN z.cps.toList i=ih c/\Q (.str ⟨#v[c]⟩) H
theorem d2:mY X^qZ X.K:=by
 intro value B J s σ H x y v u Q I g k h d;obtain⟨p,xs,i,z,rfl,rfl,l,m,q⟩:=h;cases g
 obtain⟨t,rfl⟩:=k;obtain⟨its,r,a,C⟩:=I.list l;obtain⟨j,h1,h2,D,n,o⟩:=t6 m;obtain⟨w,e,f⟩:=r.get h2;have A:=r.length;have E:=kU;have c:EP X J σ Q w s:=#[z,H,I,f,q]
 by_cases h0:0<=i
 .have b:i.toNat=j:=by
   rw[wJ h0 o]at h1;exact cQ h1
  exact item_listR a.isList h0 () (by rw[b];simpa using e) c d
 .have b:(i+(its.toArray.size:Int)).toNat=j:=by
   rw[seqIndex_neg () n]at h1
   rw[b5,<-A];exact cQ h1
  exact subscriptTail_builtinR (x:=w) a.isList.typeIs FR.lookup
   (wpAny_getItem_list_neg (Q:=λr s'=>r=w/\EP X J σ Q r s') a.isList () (by rw[b5] <;> omega) () (by rw[b];simpa using e) #[Z,c]) d
theorem bu:mY X^mJ X.K:=by
 intro value n J s σ H x y v u Q I d e h f;obtain⟨p,xs,i,z,rfl,rfl,g,k,q⟩:=h;cases d
 obtain⟨t,rfl⟩:=e;obtain⟨its,r,a,o⟩:=I.tuple g;obtain⟨j,h1,h2,A,B,C⟩:=t6 k;obtain⟨w,l,b⟩:=r.get h2;have m:=r.length;have D:=kU;have c:EP X J σ Q w s:=#[z,H,I,b,q];exact subscriptTail_builtinR (x:=w) a.typeIs slot_tuple_getitem.lookup
  (getItem_tuple (j:=j) (Q:=λr s'=>r=w/\EP X J σ Q r s') a () () (by rw[b5,<-m];exact h1) ⇑l #[Z,c]) f
theorem DA:mY X OO:=by
 intro value l J s σ H x y v u Q I a b h d;obtain⟨z,i,c,rfl,rfl,m,e,q⟩:=h;obtain⟨t,rfl⟩:=a;obtain⟨t',rfl⟩:=b;obtain⟨j,h1,h2,n,f,g⟩:=t6 e;have k:z.cps.toList.length=z.length:=by simp[aca]
 rw[k]at h1 f g;have o:=kU;exact tail_any (typeIs_str s z t) slot_str_getitem.lookup (getItem_str (c:=c) (by
  have e1:decide (i < -(2 ^ 63:Int))=false:=er ()
  have e2:decide (i ≥ 2 ^ 63)=false:=er ()
  rw[e1,e2,FT]) (by rw[h1];simpa using h2) #[.str #[#v[c]],H,I.tok _,#[_,Z],q]) d
theorem HJ(its:am i')(n j:Nat)(u:i'):X4 (·.setIfInBounds j u) { cls:=.type "list",data:=.seq its.toArray n }={ cls:=.type "list",data:=.seq (its.set j u).toArray n }:=by
 simp[X4]
theorem Inv.lst{J:am (FG×YC)}{σ:St}{H:Hp}{s:UJ}{p:FG}{xs:am V}(I:Inv X J σ H s)(h:H p=ce xs) :
  ∃(its:am i') (n:Nat),Vals xs its/\s.heap.get? p=ih { cls:=.type "list",data:=.seq its.toArray n }/\xs.length<=UM:=by
 obtain⟨z,its,n,r,e⟩:=I.aH p _ h;exact#[its,n,r,e,z]
theorem Inv.L9{ys:am V}{its':am i'}{n a:Nat}{f:YC->YC}(I:Inv X J σ H s)(h:H p=ce xs)
  (d:s.heap.get? p=ih { cls:=.type "list",data:=.seq its.toArray n }) (c:f { cls:=.type "list",data:=.seq its.toArray n }={ cls:=.type "list",data:=.seq its'.toArray a }) (r:Vals ys its') (hz:ys.length<=UM) (t:Nat) :
  Inv X J σ (upd H p^.lst ys) { s with heap:=s.heap.update p f,toks:=t }:=by
 have e:(s.heap.update p f).get? p=ih { cls:=.type "list",data:=.seq its'.toArray a }:=by
  rw[ng f d (by rw[c] <;> rfl),c]
 refine I.write (x:=p) (e:=p) (by rw[h];trivial) (.inl Z) (λb u g q=>(kA _ _^aS g).trans q) #[_,e] ?_
 exact#[hz,its',a,r,e]
def Na:V->V->V->Hp->(Hp->Prop)->Prop:=λo i v H Q=>∃p xs k j,o=.ref p/\i=.int k/\H p=ih (.lst xs)/\jq xs.length k=ih j/\Q (upd H p (.lst (xs.set j v)))
theorem set_list:Ea X Na:=by
 rintro J s σ H o i v z A u Q I l m w ⟨p,xs,k,j,rfl,rfl,d,x,q⟩;cases l
 obtain⟨t,rfl⟩:=m;obtain⟨its,n,r,a,y⟩:=I.lst d;obtain⟨h1,h2,e,f⟩:=CY x;have b:=r.length;have B:=kU;have g:Inv X J σ (upd H p^.lst^xs.set j v) { s with heap:=s.heap.update p^X4 (·.setIfInBounds j u) }:=
  I.L9 d a (HJ its n j u) (r.set w j) (by rw[aaB];exact y) s.toks
 by_cases h0:0<=k
 .have c:k.toNat=j:=by
   rw[wJ h0 f]at h1;exact cQ h1
  exact PySem.W.ki_setAt a h0 () (by rw[b5,<-b];exact f) (by rw[c];exact#[_,g,q])
 .have c:(k+(its.toArray.size:Int)).toNat=j:=by
   rw[seqIndex_neg () e]at h1
   rw[b5,<-b];exact cQ h1
  exact PySem.W.ki_setBack a () (by rw[b5,<-b];exact e) () (by rw[c];exact#[_,g,q])
theorem zclip(i:Int)(n:Nat):max 0 (min (if i<0 then i+(n:Int) else i) (n:Int))=(((if i<0 then (i+(n:Int)).toNat else min i.toNat n):Nat):Int):=by
 by_cases h:i<0
 · rw[if_pos h,if_pos h,Int.min_eq_left (by omega),Int.toNat_eq_max,Int.max_comm]
 · have h:=Int.not_lt.mp h;rw[if_neg (Int.not_lt.mpr h),if_neg (Int.not_lt.mpr h),HT.zmin,Int.toNat_of_nonneg h,Int.max_eq_right (Int.le_min.mpr ⟨h,Int.natCast_nonneg n⟩)]
theorem GV(lo hi:a2 Int)(n:Nat):(sliceBounds lo hi none n).1=((HT.bz n 0 lo:Nat):Int)/\(sliceBounds lo hi none n).2.1=((HT.bz n n hi:Nat):Int)/\(sliceBounds lo hi none n).2.2=1:=by
 refine ⟨?_,?_,rfl⟩
 · cases lo with
  |none=>rfl
  |some i=>exact zclip i n
 · cases hi with
  |none=>rfl
  |some i=>exact zclip i n
theorem GN(its:am i')(lo hi:a2 Int):slicePick its.toArray lo hi none=((its.drop^HT.bz its.length 0 lo).take (HT.bz its.length its.length hi - HT.bz its.length 0 lo)).toArray:=by
 obtain⟨h1,h2,a⟩:=GV lo hi its.toArray.size;unfold slicePick;rw[h1,h2,a];simp only[sliceRange_one,pick_run,b5] <;> rfl
def Eg(K:U2):V->Option Int->Option Int->Hp->VK->Prop:=λx lo hi H Q=>∃a xs,x=.ref a/\au K H a xs /\∀p,H p=none->Q (.ref p) (upd H p (.lst (fX xs lo hi)))
theorem mf:mX X^Eg X.K:=by
 rintro J s σ H x v vl vu lo hi sl Q I e f g i ⟨a,xs,rfl,j,q⟩;cases e
 obtain⟨its,r,c,k⟩:=I.list j;have d:=r.length;refine#["list",_,FR.lookup,c.isList.typeIs,?_];refine U1 c.isList f g i .none (by simp) ?_ (by rw[b5] <;> omega)
 rw[GN,<-d];refine#[.ref s.heap.objs.size,_,I.laid (t':=s.toks) (o:=.lst^fX xs lo hi) (λb l q=>a9 _ q) (aP _) ?_,Z,q _^I.aH.fresh^aP _];exact#[ec (Ay xs lo hi) k,_,0,(r.drop^HT.bz xs.length 0 lo).take (HT.bz xs.length xs.length hi - HT.bz xs.length 0 lo),bU _ Z]
def iF:V->Bool
 |.aK=>true
 |.bl _=>true
 |.int _=>true
 |.str _=>true
 |_=>false
def kf:V->V->Bool
 |.aK,.aK=>true
 |.bl a,.bl b=>a==b
 |.bl a,.int b=>(if a then 1 else 0)==b
 |.int a,.bl b=>a==(if b then 1 else 0)
 |.int a,.int b=>a==b
 |.str a,.str b=>a==b
 |_,_=>false
theorem L'{x:V}{v:i'}(d:RelV y u)(c:RelV x v)(f:iF y=true)(e:iF x=true):abi A s u v^kf y x:=by
 cases y with
 |aK =>
  cases d
  cases x with
  |aK=>cases c;exact acn _
  |bl b=>cases c;exact acq b
  |int b=>obtain⟨t,rfl⟩:=c;exact acp b t
  |str b=>obtain⟨t,rfl⟩:=c;exact aco b t
  |_=>exact absurd (show false=true from e) b7
 |bl a =>
  cases d
  cases x with
  |aK=>cases c;exact acw a
  |bl b=>cases c;exact acy a b
  |int b=>obtain⟨t,rfl⟩:=c;exact acx a b t
  |str b=>obtain⟨t,rfl⟩:=c;exact acv a b t
  |_=>exact absurd (show false=true from e) b7
 |int a =>
  obtain⟨t',rfl⟩:=d;cases x with
  |aK=>cases c;exact acr a t'
  |bl b=>cases c;exact acu a t' b
  |int b=>obtain⟨t,rfl⟩:=c;exact acs a t' b t
  |str b=>obtain⟨t,rfl⟩:=c;exact ZL a t' b t
  |_=>exact absurd (show false=true from e) b7
 |str a =>
  obtain⟨t',rfl⟩:=d;cases x with
  |aK=>cases c;exact ack a t'
  |bl b=>cases c;exact acm a t' b
  |int b=>obtain⟨t,rfl⟩:=c;exact ZK a t' b t
  |str b=>obtain⟨t,rfl⟩:=c;exact acj a t' b t
  |_=>exact absurd (show false=true from e) b7
 |_=>exact absurd (show false=true from f) b7
def e8(x:V)(u:i'):Bool:=match u with
 |.none=>kf .aK x
 |.bool b=>kf (.bl b) x
 |.int i _=>kf (.int i) x
 |.str z _=>kf (.str z) x
 |_=>false
theorem qw{x:V}(r:RelV y u)(f:iF y=true):e8 x u=kf y x:=by
 cases y with
 |aK=>cases r;rfl
 |bl b=>cases r;rfl
 |int i=>obtain⟨t,rfl⟩:=r;rfl
 |str z=>obtain⟨t,rfl⟩:=r;rfl
 |_=>exact absurd (show false=true from f) b7
theorem n4{x:V}:∀{xs:am V}{us:am i'},Vals xs us->xs.all iF=true->us.any^e8 x=xs.any λy=>kf y x
 |_,_,.nil,_=>rfl
 |y::xs,u::us,.cons r t,f=>by
  rw[aaX,gW]at f;rw[jz,jz,qw r f.1,n4 t f.2]
theorem l5{A:Yq}{s:UJ}{x:V}{v:i'}(a:RelV x v)(b:iF x=true):∀{xs:am V}{us:am i'},Vals xs us->xs.all iF=true ->∀u∈us,abi A s u v^e8 x u
 |_,_,.nil,_=>λu hu=>by cases hu
 |y::xs,u::us,.cons r t,f=>λc hu=>by
  rw[aaX,gW]at f;rcases bL.mp hu with rfl|hu
  .rw[qw r f.1];exact L' r a f.1 b
  .exact l5 a b t f.2 c hu
def lG(x:V)(xs:List V):Bool:=xs.any λy=>kf y x
def oV(K:U2)(vW:Bool):R2:=λx y H Q=>∃p xs,y=.ref p/\(au K H p xs\/aX K H p xs)/\iF x=true/\xs.all iF=true/\Q (.bl (if vW then !lG x xs else lG x xs)) H
theorem jJ:cw X (X2 .In)^oV X.K false:=by
 rintro J s σ H x y v u Q I c e ⟨p,xs,rfl,hq,d,fs,q⟩;cases e
 rcases hq with hq|hq
 .obtain⟨its,r,a,f⟩:=I.list hq
  refine SeqAt.in_listAt (e8 x) a.isList (λw b=>l5 c d r fs w ⇑b) #[.bl _,H,I,Z,?_]
  rw[show its.toArray.any^e8 x=its.any (e8 x) by simp,n4 r fs]
  exact q
 .obtain⟨its,r,a,f⟩:=I.tuple hq
  refine SeqAt.in_tupleAt (e8 x) a (λw b=>l5 c d r fs w ⇑b) #[.bl _,H,I,Z,?_]
  rw[show its.toArray.any^e8 x=its.any (e8 x) by simp,n4 r fs]
  exact q
theorem GW:cw X (X2 .NotIn)^oV X.K true:=by
 rintro J s σ H x y v u Q I c e ⟨p,xs,rfl,hq,d,fs,q⟩;cases e
 rcases hq with hq|hq
 .obtain⟨its,r,a,f⟩:=I.list hq
  refine SeqAt.notIn_listAt (e8 x) a.isList (λw b=>l5 c d r fs w ⇑b) #[.bl _,H,I,Z,?_]
  rw[show its.toArray.any^e8 x=its.any (e8 x) by simp,n4 r fs]
  exact q
 .obtain⟨its,r,a,f⟩:=I.tuple hq
  refine SeqAt.notIn_tupleAt (e8 x) a (λw b=>l5 c d r fs w ⇑b) #[.bl _,H,I,Z,?_]
  rw[show its.toArray.any^e8 x=its.any (e8 x) by simp,n4 r fs]
  exact q
theorem eQ:cU X (.builtin "len") (λxs H Q=>∃p ys,xs=[.ref p]/\(au X.K H p ys\/aX X.K H p ys)/\Q (.int ys.length) H):=by
 rintro J s σ H xs us Q I r ⟨p,ys,rfl,hq,q⟩;obtain⟨u,rfl,d⟩:=vals1 r;cases d
 have f:=kU;rcases hq with hq|hq
 .obtain⟨its,b,c,e⟩:=I.list hq
  have a:=b.length;exact Calls.call_len_list c.isList (by simp only[b5] <;> omega) #[.int ys.length,H,I.tok _,#[s.toks+1,by rw[b5,a]],q]
 .obtain⟨its,b,c,e⟩:=I.tuple hq
  have a:=b.length;exact len_tuple c (by simp only[b5] <;> omega) #[.int ys.length,H,I.tok _,#[s.toks+1,by rw[b5,a]],q]
theorem GX:cU X (.builtin "len") (λxs H Q=>∃z,xs=[.str z]/\z.length<=UM/\Q (.int z.length) H):=by
 rintro J s σ H xs us Q I r ⟨z,rfl,a,q⟩;obtain⟨u,rfl,t,rfl⟩:=vals1 r;have b:=kU;exact len_str () #[.int z.length,H,I.tok _,#[_,Z],q]
theorem jH:cU X (.type "list") (λxs H Q=>∃p ys,xs=[.ref p]/\(au X.K H p ys\/aX X.K H p ys) /\∀l,H l=none->Q (.ref l)^upd H l^.lst ys):=by
 rintro J s σ H xs us Q I r ⟨p,ys,rfl,hq,q⟩;obtain⟨u,rfl,t⟩:=vals1 r;cases t
 have k:∀(its:am i'),Vals ys its->ys.length<=UM ->∀(h':Yb) (a:Nat),(∀b o',s.heap.get? b=ih o'->h'.get? b=ih o') ->
   h'.get? s.heap.objs.size=ih { cls:=.type "list",dict:=none,data:=.seq its.toArray a,slots:= #v[] }->EP X J σ Q (.ref s.heap.objs.size) { s with heap:=h' }:=λits c d h' a kp e =>
  #[.ref s.heap.objs.size,_,I.laid (t':=s.toks) kp (aP _) (show bH X.prog X.w _ h' _^.lst ys from#[d,its,a,c,e]),Z,q _^I.aH.fresh^aP _]
 rcases hq with hq|hq
 .obtain⟨its,c,f,d⟩:=I.list hq
  have m:=c.length;obtain⟨o,g,i,n,j⟩:=f.isList;exact call_list_seq p (.inl Z) g i j (λh' a kp e=>k its c d h' a kp e) (by simp only[b5] <;> omega)
 .obtain⟨its,c,f,d⟩:=I.tuple hq
  have m:=c.length;obtain⟨o,g,i,n,j⟩:=f;exact call_list_seq p (.inr Z) g i j (λh' a kp e=>k its c d h' a kp e) (by simp only[b5] <;> omega)
theorem iX:cU X (.type "tuple") (λxs H Q=>∃p ys,xs=[.ref p]/\((au X.K H p ys /\∀l,H l=none->Q (.ref l)^upd H l^.tup ys)\/(aX X.K H p ys/\Q (.ref p) H))):=by
 rintro J s σ H xs us Q I r ⟨p,ys,rfl,h⟩;obtain⟨u,rfl,i⟩:=vals1 r;cases i
 rcases h with⟨a,q⟩|⟨a,q⟩
 .obtain⟨its,c,d,f⟩:=I.list a
  have k:=c.length;refine call_tuple_list d.isList (λh' kp=>?_) (by simp only[b5] <;> omega)
  have g:Inv X J σ H { s with heap:=h' }:=I.kept (t':=s.toks) kp;have j:Inv X J σ (upd H h'.objs.size^.tup ys) { s with heap:=h'.push { cls:=.type "tuple",data:=.seq its.toArray } }:=
   g.laid (t':=s.toks) (λb o e=>a9 _ e) (aP _) (show bH X.prog X.w _ _ _^.tup ys from#[f,its,c,jh.new _ _])
  exact#[.ref h'.objs.size,_,j,Z,q _^g.aH.fresh^aP _]
 .obtain⟨its,c,d,f⟩:=I.tuple a
  exact call_tuple_same d #[.ref p,H,I,Z,q]
def vX(K:U2)(T:String)(x:V)(H:Hp):Prop:=match x with
 |.str _=>T = "str"
 |.int _=>T = "int"
 |.ref p=>(T = "list" /\∃xs,au K H p xs)\/(T = "tuple" /\∃o,K.lookup p=ih o/\o.cls=.type "tuple" /\ o.dict=none) \/
   (T = "dict" /\ ((∃kvs,H p=ih (.dK kvs)) \/∃kvs,H p=ih (.dT kvs)))\/(T = "set" /\∃S n,H p=ih (.set S n))\/(T = "tuple" /\∃xs,Rd H p (.tup xs))
 |_=>False
theorem DB{x:V}{v:i'}(I:Inv X J σ H s)(r:RelV x v)(ty:vX X.K T x H) :
  s.TypeIs v T /\∀a,v=.ref a ->∃g,s.heap.get? a=ih g/\g.dict=none:=by
 cases x with
 |str z =>
  obtain⟨t,rfl⟩:=r;cases (show T = "str" from ty)
  exact#[typeIs_str s z t,λ_ e=>nomatch e]
 |int i =>
  obtain⟨t,rfl⟩:=r;cases (show T = "int" from ty)
  exact#[typeIs_int s i t,λ_ e=>nomatch e]
 |ref p =>
  cases r
  rcases ty with⟨rfl,xs,f⟩|⟨rfl,o,b,j,d⟩|⟨rfl,b⟩|⟨rfl,S,n,b⟩|⟨rfl,xs,f⟩
  .obtain⟨its,_,h,_⟩:=I.list f
   refine#[h.isList.typeIs,λa e=>?_];cases e
   obtain⟨o,n,e,c,d,_⟩:=h;exact#[o,e,d]
  .refine#[#[o,I.bX p o b,j],λa e=>?_]
   cases e
   exact#[o,I.bX _ o b,d]
  .have z:∃o,s.heap.get? p=ih o/\o.ExactDict:=by
    rcases b with⟨kvs,b⟩|⟨kvs,b⟩
    .obtain⟨_,_,_,_,o,_,_,e,ex,_⟩:=I.aH p _ b
     exact#[o,e,ex]
    .obtain⟨_,_,_,_,o,_,_,e,ex,_⟩:=I.aH p _ b
     exact#[o,e,ex]
   obtain⟨o,e,ex⟩:=z;refine#[#[o,e,ex.1],λa e2=>?_];cases e2
   exact#[o,e,ex.2.1]
  .obtain⟨o,_,_,_,e,ex,_⟩:=I.aH p _ b
   refine#[#[o,e,ex.1],λa e2=>?_];cases e2
   exact#[o,e,ex.2.1]
  .obtain⟨_,_,_,o,e,c,_,_,d⟩:=f.ok I.aH
   refine#[#[o,e,c],λa e2=>?_];cases e2
   exact#[o,e,d]
 |_=>exact Vn ty
def OP(K:U2)(T:String)(r:V->List V->Hp->VK->Prop)(to:TE):TE:=λσ H Q=>to σ H λx Y=>vX K T x Y/\r x [] Y Q
def P5(K:U2)(T:String)(r:V->List V->Hp->VK->Prop)(to:TE)(t:TA):TE:=λσ H Q=>to σ H λx Y=>vX K T x Y/\t σ Y λxs H2=>r x xs H2 Q
variable{o:VH}{to:TE}{t:TA}{id:String}{r:V->List V->Hp->VK->Prop}
theorem Ma(g:PlainAttrs T)(e:Slot T name id)(f:typeOf^.builtin id=pure^.type "method_descriptor")(i:vV X id r)(j:PE X o to)
  (c:attributeBase o name X.env^eval o X.env=eval o X.env:=by rfl) (d:(Qg.endLine==Qk.line)=true:=by rfl):PE X (.Call (.Attribute o name Qg) [] [] Qk)^OP X.K T r to:=by
 intro J s σ H Q I h;refine wpAny_Call_method0_late c d^aG (j J s σ H _ I h) λv s1 l=>?_;obtain⟨x,Y,a,b,ty,k⟩:=l;obtain⟨h1,h2⟩:=DB a b ty;exact#[T,id,g,e,f,h1,h2,ZN Z^FU^i J s1 σ Y x [] v [] Q a b .nil k]
theorem gw(l:PlainAttrs T)(i:Slot T name id)(k:typeOf^.builtin id=pure^.type "method_descriptor")(m:vV X id r)(n:PE X o to)(p:PA X (e::es) t)
  (f:attributeBase o name X.env^eval o X.env=eval o X.env:=by rfl)
  (j:((backTo Qk^Vc (e::es) X.env).all (λx=>!x.1)&&(backToKw Qk^keywordEach [] X.env).all (λx=>x.1.isSome)
   && decide ((e::es).length+([]:am Keyword).length+(if ([]:am Keyword).isEmpty then 0 else 1)<30))=true:=by rfl)
  (g:(Qg.endLine==Qk.line)=true:=by rfl) (q:Vc (e::es) X.env=(false,eval e X.env)::Vc es X.env:=by rfl) (d:(backTo Qk^Vc es X.env).any (·.1)=false:=by rfl) :
  PE X (.Call (.Attribute o name Qg) (e::es) [] Qk)^P5 X.K T r to t:=by
 intro J s σ H Q I h;refine wpAny_Call_method_late f j g Z^aG (n J s σ H _ I h) λv s1 A=>?_;obtain⟨x,Y,a,b,ty,u⟩:=A;obtain⟨h1,h2⟩:=DB a b ty;refine#[T,id,l,i,k,h1,h2,?_];have c:=p Qk J s1 σ Y _ a u;rw[q]at c⊢;refine ZN (by show(false||(backTo Qk^Vc es X.env).any (·.1))=false;rw[d] <;> rfl)^Calls.evalArgs_plain ?_
 exact aG c λus s2 ⟨vs,H2,w,y,z⟩=>m J s2 σ H2 x vs v us Q w b y z
end
def lH(X:Cx)(id:String)(r:V->List V->Hp->VK->Prop):Prop:=
 ∀J s σ H (x:V) (xs:List V) (v:i') (us:List i') (Q:VK),Inv X J σ H s->RelV x v->Vals xs us->r x xs H Q ->
  wA X (call (.builtin id) (v::us)) (EP X J σ Q) X.xe s
theorem Vals.one:∀{x:V}{us:am i'},Vals [x] us ->∃u,us=[u]/\RelV x u:=by
 intro _ _ h;cases h with|cons r h=>cases h;exact#[_,Z,r]
theorem Vals.two:∀{x y:V}{us:am i'},Vals [x,y] us ->∃u v,us=[u,v]/\RelV x u/\RelV y v:=by
 intro _ _ _ h;cases h with|cons r h=>cases h with|cons q h=>cases h;exact#[_,_,Z,r,q]
theorem Vals.zero:∀{us:am i'},Vals [] us->us=[]
 |_,.nil=>rfl
theorem Vals.dropLast(h:Vals xs us):Vals xs.dropLast us.dropLast:=by
 induction h with
 |nil=>exact .nil
 |cons r t a =>
  cases t with
  |nil=>exact .nil
  |cons q t'=>exact .cons r a
theorem Vals.eraseIdx:∀{xs:am V}{us:am i'} (i:Nat),Vals xs us->Vals (xs.eraseIdx i)^us.eraseIdx i
 |_,_,_,.nil=>.nil
 |_,_,0,.cons _ t=>t
 |_,_,i+1,.cons r t=>.cons r^Vals.eraseIdx i t
theorem Vals.reverse(h:Vals xs us):Vals xs.reverse us.reverse:=by
 induction h with
 |nil=>exact .nil
 |cons r t a=>rw[U3,U3];exact Vals.append a^.cons r .nil
theorem HK{α:Type}(l:am α):l.eraseIdx (l.length - 1)=l.dropLast:=by
 induction l with
 |nil=>rfl
 |cons a r c =>
  cases r with
  |nil=>rfl
  |cons b r =>
   have e:(a::b::r).length - 1=((b::r).length - 1)+1:=by
    have h1:(a::b::r).length=r.length+2:=rfl;have h2:(b::r).length=r.length+1:=rfl;omega
   rw[e,List.eraseIdx_cons_succ,c]
   all_goals rfl
theorem Bj{α:Type}:∀(l:am α) (i:Nat),(l.eraseIdx i).length<=l.length
 |[],_=>aP _
 |_::_,0=>gm _
 |_::r,i+1=>Nat.succ_le_succ^Bj r i
section
variable{ys zs:am V}
theorem Inv.q0{its':am i'}{n:Nat}{f:Array i'->Array i'}(I:Inv X J σ H s)(a:H l=ce xs)
  (e:s.heap.get? l=ih { cls:=.type "list",data:=.seq its.toArray n }) (b:f its.toArray=its'.toArray) (c:Vals ys its') (hz:ys.length<=UM) :
  Inv X J σ (upd H l^.lst ys) { s with heap:=s.heap.update l^X4 f,toks:=t' }:=by
 have q:=acE e f;rw[b]at q;refine I.write (x:=l) (e:=l) (by rw[a];exact trivial) (.inl Z) (λh u d g=>(kA s.heap (X4 f)^aS d).trans g) #[_,q] ?_
 exact#[hz,its',_,c,q]
theorem Inv.Ei(I:Inv X J σ H s)(a:Vals ys its)(hz:ys.length<=UM) :
  Inv X J σ (upd H s.aj^.lst ys) { s with heap:=s.heap.push { cls:=.type "list",data:=.seq its.toArray },toks:=t' }:=
 I.laid (λ_ _ q=>a9 _ q) (aP _) #[hz,its,0,a,bU _ Z]
theorem Inv.fresh(I:Inv X J σ H s):H s.aj=none:=I.aH.fresh^aP _
theorem Inv.j1(I:Inv X J σ H s)(a:H l=ce xs):xs.length<=UM /\∃(its:am i') (n:Nat),Vals xs its/\xs.length=its.length/\s.heap.get? l=ih { cls:=.type "list",data:=.seq its.toArray n }:=by
 obtain⟨z,its,n,r,e⟩:=I.aH l _ a;exact#[z,its,n,r,r.length,e]
theorem Jy{n:Nat}(h:n<=UM):Yy n=false:=by
 unfold Yy;exact er ()
end
def KQ:V->List V->Hp->VK->Prop:=λx vs H Q=>∃l xs y,x=.ref l/\vs=[y]/\H l=ih (.lst xs)/\xs.length<UM/\Q .aK (upd H l (.lst (xs++[y])))
theorem jK:lH X "list.append" KQ:=by
 rintro J s σ H x vs v us Q I b c ⟨l,xs,y,rfl,rfl,a,f,q⟩;cases b
 obtain⟨u,rfl,d⟩:=c.one;obtain⟨z,its,n,r,g,e⟩:=I.j1 a;refine ni F.slot_list_append #[_,e,Z] F.entry_list_append (F.args_list_append_2 _ _) (PySem.list_append l its.toArray n u^by rw[b5];omega) #[e,?_]
 refine#[.aK,_,I.q0 (its':=its++[u]) a e (by simp) (r.append^.cons d .nil) ?_,Z,q]
 rw[cz,lL];omega
def OQ:V->List V->Hp->VK->Prop:=λx vs H Q=>∃l xs y,x=.ref l/\vs=[]/\H l=ih (.lst xs)/\xs[xs.length - 1]?=ih y/\Q y (upd H l (.lst xs.dropLast))
theorem Mb:lH X "list.pop" OQ:=by
 rintro J s σ H x vs v us Q I d f ⟨l,xs,y,rfl,rfl,a,g,q⟩;cases d
 have b:=f.zero;subst b;obtain⟨z,its,n,r,i,e⟩:=I.j1 a;obtain⟨u,j,k⟩:=r.get g;have c:its.toArray[its.toArray.size - 1]?=ih u:=by
  show its.toArray[its.length - 1]?=ih u;rw[<-pe,<-i];exact j
 refine ni abd #[_,e,Z] aaZ (F.args_list_pop_1 _) (MeetsSeq.list_pop_last l its.toArray n u c^by rw[b5];omega) #[e,?_]
 refine#[y,_,I.q0 (its':=its.dropLast) a e ?_ r.dropLast ?_,k,q]
 .show its.toArray.eraseIdxIfInBounds (its.toArray.size - 1)=its.dropLast.toArray
  rw[b5,U4,HK]
 .rw[FV]
  omega
def Mc:V->List V->Hp->VK->Prop:=λx vs H Q=>∃l xs i k y,x=.ref l/\vs=[.int i]/\H l=ih (.lst xs) /\ -(2 ^ 63)<=i/\i<2 ^ 63/\seqIndex? i xs.length=ih k/\xs[k]?=ih y/\Q y (upd H l (.lst (xs.eraseIdx k)))
theorem B7:lH X "list.pop" Mc:=by
 rintro J s σ H x vs v us Q I c d ⟨l,xs,i,k,y,rfl,rfl,a,h1,h2,f,g,q⟩;cases c
 obtain⟨u,rfl,j⟩:=d.one;obtain⟨t,rfl⟩:=j;obtain⟨z,its,n,r,m,e⟩:=I.j1 a;obtain⟨w,o,b⟩:=r.get g;refine ni abd #[_,e,Z] aaZ (F.args_list_pop_2 _ _)
  (MeetsSeq.list_pop_at l its.toArray n i t k w (fitsIndex_both h1 h2) (by rw[b5,<-m];exact f) (by rw[<-pe];exact o)^by rw[b5];omega) #[e,?_]
 refine#[y,_,I.q0 (its':=its.eraseIdx k) a e ?_ (r.eraseIdx k) ?_,b,q]
 .show its.toArray.eraseIdxIfInBounds k=(its.eraseIdx k).toArray
  rw[U4]
 .have:=Bj xs k
  omega
def OR:R2:=λx y H Q=>∃l b xs zs,x=.ref l/\y=.ref b/\H l=ih (.lst xs)/\H b=ih (.lst zs)/\xs.length+zs.length<=UM /\∀p,H p=none->Q (.ref p) (upd H p (.lst (xs++zs)))
theorem kW:cw X (YA .Add) OR:=by
 rintro J s σ H x y v u Q I c d ⟨l,b,xs,zs,rfl,rfl,f,g,m,q⟩;cases c
 cases d
 obtain⟨z,its,n,r,o,e⟩:=I.j1 f;obtain⟨p,a,t,i,k,e2⟩:=I.j1 g;refine PySem.P.add_list e e2 ?_ (by rw[b5,b5];omega)
 have j:its.toArray++a.toArray=(its++a).toArray:=by simp
 rw[j];exact#[.ref _,_,I.Ei (t':=s.toks) (r.append i) (by rw[cz];omega),Z,q _ I.fresh]
section
set_option maxRecDepth 100000 in
end
end L2
namespace E1
open W Calls PyProof.Rows
theorem GC{P:Params}:∀(ns:am Int) (vs:am i'),WellAll P h vs^ns.map abD->aaj vs ns:=by
 intro ns
 induction ns with
 |nil =>
  intro vs w;rw[abb]at w;cases w
  exact .nil
 |cons n ns c =>
  intro vs w;rw[bY]at w;cases w with
  |cons a b =>
   cases a
   exact .cons _ _^c _ b
theorem IC{l:aai}{n:Nat}(o:l.most=ih n){P:Params}{args:am WData}{e:am i'}
  (f:l.row.toRowW.claim.pre args=true) (k:WellAll P h e args) :
  ∃a vs ns,e=[UZ a]/\args=[WData.list^ns.map abD]/\h.get? a=ih { cls:=.type "list",data:=.seq vs.toArray }/\aaj vs ns/\ns.length<=n:=by
 have m:WShape.hasAll [] args [.list .int]=true:=(pre_splitW f).1;have g:l.pre.holds [] { args:=args }=true:=(pre_splitW f).2;obtain⟨d,r,rfl,h1,h2⟩:=hasAllW_cons m;obtain rfl:=hasAllW_nil h2;obtain⟨xs,rfl,p⟩:=hasW_list h1;obtain⟨ns,rfl⟩:=items_int p;have i:ns.length<=n:=by
  unfold OpenLaw.pre at g;have b:(WTm.not^.lt (.lit^.int (n:Int))^.len^.arg 0).holds [] { args:=[.list^ns.map .int] }=true:=by
   have b:=(holds_andW g).1;rw[o]at b;exact b
  have c:=condW_of b^w_not^w_lt w_lit^w_len_list^w_arg Z;rw[aE]at c;refine Nat.le_of_not_lt λq=>?_;have s:(n:Int)<((ns.length:Nat):Int):=()
  first
   |(rw[cb s]at c;exact absurd c ∅)
   |(simp at c;omega)
 cases k with
 |cons t u =>
  cases u
  cases t with
  |list v j=>exact#[_,_,ns,Z,Z,v,GC ns _ j,i]
theorem ID(l:aai)(args:am WData):l.row.toRowW.claim.post args (.bool true) args=true:=
 postW_of (r:=l.row.toRowW) (X:=(true==true))
  (show aa8 [] (.bool true) .bool=true by first|rfl|decide|simp[aa8,WShape.arms,WShape.armsAll])
  (show(WTm.eq .res^.lit^.bool true).value [] { args:=args,res:=ih^.bool true,after:=args }=ih^.bool (true==true) from w_eq_bool (w_res Z) w_lit) Z
theorem Hf{l:aai}{n:Nat}{q:Yg}{d:DefRec}
  (v:l.most=ih n) (p:d.params.defaults=[])
  (call:∀(w:Yo) (e b:UJ) (mg g:Gd->Option i') (c:FG) (o:YC) (pm cd Qe:i') (a:FG) (vs:am i') (ns:am Int),
   Ground q Qs [] XP w e mg g b.heap->YP w b.heap ->
   b.heap.get? c=ih o->o.data=.func^docDef d.name d.params d.body d.scope pm cd Qe->b.heap.CodeRec cd d.name->mg d.name=ih^.ref c ->
   b.heap.get? a=ih { cls:=.type "list",data:=.seq vs.toArray }->aaj vs ns->ns.length<=n->b.gens = #v[] ->
   codeAny (U0 l.prog w) callerA (.call (.ref c) #[[.ref a],[]]) (λr s'=>r=.ok^.ret^.bool true/\OldK b.heap s'.heap/\s'.os=b.os/\Zf s'.gens) b) :
  WalkO q Qs XP YP l.row.toRowW d [] (λf vs=>Z6 f vs):=by
 intro w e b mg g G x c o pm cd Qe y kV z A s h t B args H L j I J u K;obtain rfl:y=.none:=Dflts.none h p;obtain rfl:kV=.none:=Dflts.noKw h;obtain⟨a,vs,ns,rfl,rfl,k,i,m⟩:=IC v j u;refine enter_call^lJ (call w e b mg g c o pm cd Qe a vs ns G x z (fd_plain A) s t k i m B) λr s' C=>?_;obtain⟨rfl,h2,D,E⟩:=C;exact#[.inl #[.bool true,.bool true,[],Z,λ_=>rfl,.bool true,ID l _,λ_=>#[Zh,λ_ F=>(nomatch F)]],h2,D,E]
end E1
namespace L2
open Spec PyProof.Rows
theorem Bl:∀{vs:am i'}{ns:am Int},aaj vs ns->Vals (ns.map V.int) vs
 |_,_,.nil=>.nil
 |_,_,.cons n t h=>.cons #[t,Z]^Bl h
def vw(H:Hp):Prop:= ∀b,H b=none \/∃o xs,H b=ih (.bf o (.lst xs))
theorem Jz{l:Gd->Option i'}{CX:gR}{k:Nat}{p:FG}{c:UJ}{vs:am i'}{ns:am Int}
  (E:K.In c.heap) (B:c.heap.Ns U5 mg) (f:c.heap.Ns builtinsNs l) (S:∀x:Gd,x ≠ "__name__" -> l x=VA x) (N:c.heap.NoLimit) (X:c.gens = #v[])
  (j:c.heap.get? a=ih { cls:=.type "list",data:=.seq vs.toArray }) (hi:aaj vs ns) (G:ns.length<=UM) (Y:aZ k callerA)
  (F:∀base:Yb,K.In base->base.Ns U5 mg->aT P w K mg base CX k p fd [x] sp) (M:∀(s:UJ) (u:i'),ZO s fd #[[u],[]] [(x,u)])
  (T:∀H:Hp,vw H->au K H a^ns.map V.int->sp [.ref a] H (λv _=>v=.bl true) λ_ _ _=>False)
  (U:∀H e s',CX [] H c (λ_ _ _=>False) e s'->False) :
  codeAny (U0 P w) callerA (.call (.ref p) #[[.ref a],[]]) (λr s'=>r=.ok^.ret^.bool true/\OldK c.heap s'.heap/\s'.os=c.os/\Zf s'.gens) c:=by
 have I:=Bl hi;have O:=hi.length;have core:∀H:Hp,vw H->au K H a^ns.map V.int->cu P w H c.heap->(∀b,H b≠none->b=a)->(H a≠none->K.lookup a=none) ->
   codeAny (U0 P w) callerA (.call (.ref p) #[[.ref a],[]]) (λr s'=>r=.ok^.ret^.bool true/\OldK c.heap s'.heap/\s'.os=c.os/\Zf s'.gens) c:=by
  intro H J xa C L ya;have A:∀{b:FG}{o:YC},c.heap.get? b=ih o->H b=none->(ji c.heap H).get? b=ih o:=λe n=>Jk e n;have W:∀{b:FG}{o:YC}{es:Array Yf}{ep:Nat},c.heap.get? b=ih o->o.data=.dict es ep->H b=none:=λ{b o es ep} e d=>by
   cases q:H b with
   |none=>rfl
   |some u =>
    have t:b=a:=L b (by rw[q];simp)
    subst t;rw[j]at e;cases e;have za:Data.seq vs.toArray _=Data.dict es ep:=d;cases za
  have i:∀{b:FG}{m:Gd->Option i'},c.heap.Ns b m->(ji c.heap H).Ns b m:=λ{b m} ⟨o,es,ep,e,d,r⟩=>#[o,es,ep,A e^W e d,d,r];have D:K.In^ji c.heap H:=λb o e=>A (E b o e) (by
   cases q:H b with
   |none=>rfl
   |some u =>
    have t:b=a:=L b (by rw[q];simp)
    subst t;rw[ya^by rw[q];simp]at e;cases e)
  have xb:Mod K mg^ji c.heap H:=#[D,i B,#[l,i f,S],let ⟨yb,h1,h2⟩:=N;#[yb,i h1,h2]];have e0:lj P w K mg (ji c.heap H) callerA [] c H:=#[Z,xb,λb o e=>Kx e,abl^Iu _ _,trivial,λb f=>absurd (show b∈([]:am FG) from f) (by simp),C,.of_eq X]
  refine lJ ((F _ D^i B).run callerA [] c H #[[.ref a],[]] [.ref a] [.ref a] _ _ Y e0 (M c^.ref a) (.cons Z .nil)^T H J xa) λr s' h=>?_;cases r with
  |error e=>exact(U H e s' h).elim
  |ok zb =>
   cases zb with
   |next=>exact Vn h
   |brk=>exact Vn h
   |cont=>exact Vn h
   |ret u =>
    obtain⟨v,H',os,Q,un,R,xc,q⟩:=h;have yc:v=.bl true:=q;subst yc;obtain rfl:u=YK true:=xc;refine#[Z,OldK.of_keep λb o e=>?_,os,Q];cases q:H b with
    |none=>exact un.keep b o e q (by intro z;exact absurd (show b∈([]:am FG) from z)^by simp) (by simp)
    |some u =>
     rcases J b with z|⟨zc,xs,z⟩
     .rw[q]at z;cases z
     .have z2:=un.gN b zc _ z
      obtain⟨e1,_⟩:=C b _ z;obtain⟨e2,_⟩:=R b _ z2;rw[e]at e1;cases e1;exact e2
 cases y:K.lookup a with
 |some o =>
  have e:=E a o y;rw[j]at e;cases e
  refine core (λ_=>none) (λ_=>.inl Z) (.inr #[_,vs.toArray,_,y,Z,Z,Z,by rw[b5,O];exact G,⇑I]) (λb u z=>by have g:(none:a2 HO)=ih u:=z;cases g) (λb z=>absurd Z z) λz=>absurd Z z
 |none =>
  refine core (λb=>if b=a then ih^.bf { cls:=.type "list",data:=.seq vs.toArray }^.lst^ns.map V.int else none) (λb=>?_) (.inl^.inr #[{ cls:=.type "list",data:=.seq vs.toArray },aB Z]) (λb u z=>?_) (λb z=>?_) λ_=>y
  .by_cases f:b=a
   .exact .inr #[_,_,aB f]
   .exact .inl^ao f
  .by_cases f:b=a
   .have g:=(aB f).symm.trans z
    cases g
    subst f;exact#[j,by rw[aE];exact G,vs,_,I,j]
   .have g:=(ao f).symm.trans z
    cases g
  .by_cases f:b=a
   .exact f
   .exact absurd (ao f) z
theorem KR{l:PySem.W.OpenLaw}{n k:Nat}{q:Yg}{d:DefRec}{K:Params->U2}{CX:Yo->gR}{sp:Yo->Sp}
  (C:l.most=ih n) (t:n<=UM) (y:d.params.defaults=[]) (D:aZ k callerA)
  (E:∀(w:Yo) (h:Yb),YP w h->(K w.params).In h)
  (F:∀(w:Yo) (mg:Gd->Option i') (c:FG) (h:Yb),(K w.params).In h->h.Ns U5 mg->mg d.name=ih^.ref c ->
   ∃fd:X3,(∀(s:UJ) (u:i'),ZO s fd #[[u],[]] [(x,u)]) /\
    ∀base:Yb,(K w.params).In base->base.Ns U5 mg->aT l.prog w (K w.params) mg base (CX w) k c fd [x]^sp w)
  (z:∀(w:Yo) (H:Hp) (a:FG) (ns:am Int),ns.length<=n->vw H->au (K w.params) H a^ns.map V.int->sp w [.ref a] H (λv _=>v=.bl true) λ_ _ _=>False)
  (A:∀(w:Yo) (H:Hp) (s:UJ) (e:i') (s':UJ),CX w [] H s (λ_ _ _=>False) e s'->False) :
  PySem.W.WalkO q Qs XP YP l.row.toRowW d [] (λf vs=>Z6 f vs):=by
 refine E1.Hf C y λw P p mg R c o pm cd Qe a vs ns G I S U Q B r m i J=>?_;have j:=E w _ I;obtain⟨fd,L,M⟩:=F w mg c _ j G.T.g B;exact Jz j G.T.g G.T.b G.T.builtins G.T.nolimit J r m (ec i t) D M L (λH N O=>z w H a ns i N O) λH e s'=>A w H p e s'
def inClass(s:Vm)(j:Nat):Vm:=match s with
 |.ClassDef _ _ _ body _ _ _ _ _ _ _=>body.getD j (.Pass ⟨0,0,0,0⟩)
 |_=>.Pass ⟨0,0,0,0⟩
def dB(s:Vm):Arguments:=match s with
 |.FunctionDef _ a _ _ _ _ _ _ _ _=>a
 |_=>{ posonlyargs:=[],args:=[],vararg:=none,kwonlyargs:=[],kw_defaults:=[],kwarg:=none,defaults:=[] }
def bJ(s:Vm):List Vm:=match s with
 |.FunctionDef _ _ b _ _ _ _ _ _ _=>b
 |_=>[]
def aI(s:Vm):Y0:=match s with
 |.FunctionDef _ _ _ _ _ _ sc _ _ _=>sc
 |_=>{ kind:=.function,names:=[],isGenerator:=false,isCoroutine:=false }
abbrev aF:gR:=λ_ _ _ _ _ _=>False
abbrev E0:XK:=λ_ _ _=>False
theorem c8:Passes aF X E0:=λ_ _ _ _ _ _ _ h=>h.elim
structure aQ(K:U2)(x qual:Gd)(st:Vm)(f:FG)(fd:X3):Prop where
 ex:∃(oc:i') (od:Option FG) (kV Qe pm:i') (an:Option FG) (Qb ct:i') (Qn:Array (Option i')),
  fd=Ym x qual (dB st) (bJ st) (aI st) .none kV Qe pm an Qb ct/\K.lookup f=ih ⟨oc,od,.func fd,Qn⟩/\YW K Qb qual=true
 kp:Yw K (.ref f)=true
theorem aQ.ok{k:Nat}(F:aQ K x qual st f fd)(S:bp N ps^aI st)(b:∀vs H Q E,sp vs H Q E->vs.length=ps.length)
  (a:∀(Qb:i') (A:Yq) (outer:am Zq) (s:UJ) (H:Hp) (vs:am V) (Q:VK) (E:XK),aZ k^A.deeper^envOfC qual (aI st) s.aj f Qb->sp vs H Q E ->
   ∃t,dH (d8 aF P w K mg base N qual (aI st) f Qb A outer s H E).lE (bJ st) t/\t { nx:=λ_ H'=>Q .aK H',rt:=Q } (start N vs) H):aT P w K mg base aF (k+1) f fd ps sp:=by
 obtain⟨oc,od,kV,Qe,pm,an,Qb,ct,Qn,rfl,lk,c⟩:=F.ex;refine uX lk c S b λA outer s H vs Q E e d=>?_;obtain⟨t,h,q⟩:=a Qb A outer s H vs Q E e d;exact#[t,h.lE,q]
theorem aQ.binds(F:aQ K x qual st f fd)
  (h:∀(kV Qe pm:i') (an:a2 FG) (Qb ct:i') (us:am i'),us.length=ps.length->bindArgs (Ym x qual (dB st) (bJ st) (aI st) .none kV Qe pm an Qb ct) #[us,[]]=pure^ps.zip us):Binds K fd ps []:=by
 obtain⟨oc,od,kV,Qe,pm,an,Qb,ct,Qn,rfl,lk,a⟩:=F.ex;exact .all^h kV Qe pm an Qb ct
theorem uE{kV:i'}(l:K.lookup f=ih #[oc,od,.func^Ym x qual (dB st) (bJ st) (aI st) .none kV Qe pm an Qb ct,Qn])
  (c:YW K Qb qual=true) (k:Yw K^.ref f=true):aQ K x qual st f^Ym x qual (dB st) (bJ st) (aI st) .none kV Qe pm an Qb ct:=#[#[oc,od,kV,Qe,pm,an,Qb,ct,Qn,Z,l,c],k]
theorem pv(i:Nat)(b:X.N[i]?=ih x:=by rfl)(c:vQ X.env.scope x:=by first|exact aa6 rfl|exact YS (aa6 rfl)|exact YS (YS rfl))(d:(x==("__debug__" : Gd))=false:=by decide)
  (a:(x==("__classdict__" : Gd))=false:=by decide):PE X (.Name x pos)^gO i:=LY b c d a
theorem bZ{c A B:Prop} [Decidable c](h1:c->A)(h2 : ¬ c->B):if c then A else B:=by
 by_cases h:c
 .rw[aB h]
  exact h1 h
 .rw[ao h]
  exact h2 h
def ax(H H':Hp):Prop:= ∀b o,H b=ih o->H' b=ih o
theorem ax.refl(H:Hp):ax H H:=λ_ _ h=>h
theorem ax.trans(a:ax H Y)(b:ax Y H2):ax H H2:=λc o h=>b c o^a c o h
theorem ax.free(e:ax H H')(h:H' l=aaV):H l=aaV:=by
 cases q:H l with
 |none=>rfl
 |some o =>
  rw[e l o q]at h;cases h
end L2
namespace L2
theorem Paired.Ej{α β:Type}{F G:α->β->Prop}{l:am α}{m:am β}(h:VT F l m):(∀a b,b∈m->F a b->G a b)->VT G l m:=by
 induction h with
 |nil=>exact λ_=>.nil
 |cons p _ c=>exact λk=>.cons (k _ _ aY p)^c λa b e=>k a b^bh _ e
end L2
namespace L2
open Spec PyProof.Rows
def eS(cells:List (Gd×FG)):List (Gd×Yt)->List (Gd×FG)->List (Gd×FG)
 |[],cG=>cG
 |(n,k)::r,cG=>if k == .free then eS cells r ((n,(cells.lookup n).getD 0)::cG) else eS cells r cG
theorem sF(h:∀n,(n,Ve)∈scope.names ->∃c,env.cells.lookup n=ih c) :
  closureFor scope env=pure^eS env.cells scope.names []:=by
 have p:∀(b:am (Gd×Yt)) (d:am (Gd×FG)),(∀n,(n,Ve)∈b ->∃c,env.cells.lookup n=ih c) ->
   (forIn (m:=Zi) b d λx r=>match x with|(name,f)=>if (f==Ve)=true then (do let a <- cellOf env name;pure^X9 ((name,a)::r)) else pure^X9 r)=pure^eS env.cells b d:=by
  intro b
  induction b with
  |nil=>intro d _;rfl
  |cons x r j =>
   intro d g;obtain⟨n,k⟩:=x;rw[aaC];unfold eS
   by_cases l:k=.free
   .subst l
    obtain⟨c,o⟩:=g n aY;simp only[pf,hM];have e:cellOf env n=pure c:=by unfold cellOf;rw[o]
    rw[e,o];exact j _ λm i=>g m^bh _ i
   .have q:(k==Ve)=false:=by simpa using l
    simp only[q,ph,hK];exact j _ λm i=>g m^bh _ i
 unfold closureFor;have:=p scope.names [] h;show((forIn (m:=Zi) scope.names [] λx r=>match x with|(name,f)=>if (f==Ve)=true then (do let a <- cellOf env name;pure^X9 ((name,a)::r)) else pure^X9 r) >>= λs=>pure s)=_;rw[this]
 rfl
theorem lV:∀(b:am (Gd×Yt)) (n:Nat) (a:am (Gd×FG)),cellsFrom n b a=cellsFrom n b []++a
 |[],_,_=>rfl
 |(name,c)::r,n,a=>by
  unfold cellsFrom;split
  .rw[lV r (n+1) ((name,n)::a),lV r (n+1) [(name,n)],nj];rfl
  .exact lV r n a
theorem pG{cells:am (Gd×FG)}:∀(d:am (Gd×Yt)) (a:am (Gd×FG)) (x:Gd) (c:FG),(eS cells d a).lookup x=ih c ->
  (a.lookup x=ih c)\/((x,Ve)∈d/\c=(cells.lookup x).getD 0)
 |[],a,x,c,h=>.inl h
 |(n,k)::r,a,x,c,h=>by
  unfold eS at h;split at h
  .rename_i g
   have f:k=.free:=by simpa using g
   subst f;rcases pG r _ x c h with z|⟨z,e⟩
   .rw[dM]at z
    cases b:x==n with
    |true=>rw[b]at z;cases z;rw[dJ.mp b];exact .inr #[aY,Z]
    |false=>rw[b]at z;exact .inl z
   .exact .inr #[bh _ z,e]
  .rcases pG r _ x c h with z|⟨z,e⟩
   .exact .inl z
   .exact .inr #[bh _ z,e]
theorem tf{cells:am (Gd×FG)}:∀(b:am (Gd×Yt)) (a:am (Gd×FG)) (x:Gd),(∃c,a.lookup x=ih c) ->∃c,(eS cells b a).lookup x=ih c
 |[],a,x,h=>h
 |(n,k)::r,a,x,h=>by
  unfold eS;split
  .refine tf r _ x ?_
   obtain⟨c,h⟩:=h;rw[dM];cases d:x==n with
   |true=>exact#[_,Z]
   |false=>exact#[c,h]
  .exact tf r _ x h
theorem pO{cells:am (Gd×FG)}:∀(b:am (Gd×Yt)) (a:am (Gd×FG)) (x:Gd),(x,Ve)∈b ->∃c,(eS cells b a).lookup x=ih c
 |[],a,x,h=>by simp at h
 |(n,k)::r,a,x,h=>by
  unfold eS;rcases bL.mp h with e|h
  .cases e
   simp only[pf,hM];exact tf r _ _ #[(cells.lookup n).getD 0,by rw[dM];simp]
  .split
   .exact pO r _ x h
   .exact pO r _ x h
theorem pF:∀(b:am (Gd×Yt)) (n:Nat) (a:am (Gd×FG)) (x:Gd) (c:FG),(x,c)∈cellsFrom n b a->(x,c)∈a\/(x,X6)∈b
 |[],_,_,_,_,h=>.inl h
 |(name,d)::r,n,a,x,c,h=>by
  unfold cellsFrom at h;split at h
  .rename_i g
   have f:d=.cell:=by simpa using g
   subst f;rcases pF r _ _ x c h with z|z
   .rcases bL.mp z with e|z
    .cases e;exact .inr aY
    .exact .inl z
   .exact .inr^bh _ z
  .rcases pF r _ _ x c h with z|z
   .exact .inl z
   .exact .inr^bh _ z
structure b8(N:List Gd)(E3:Y0)(N':List Gd)(Qf:List (Option Nat))(sc:Y0):Prop where
 kind:sc.kind=.function
 keys:(sc.names.map (·.1)).Nodup
 nd:N'.Nodup
 len:Qf.length=N'.length
 fv:∀(j i:Nat),Qf[j]?=ih (ih i) ->∃x,N[i]?=ih x/\N'[j]?=ih x/\sc.names.lookup x=ih .free
 free:∀p∈sc.names,p.2=.free->E3.names.lookup p.1=ih .cell\/E3.names.lookup p.1=ih .free
theorem lW{α:Type}:∀{l:am (Gd×α)},(l.map (·.1)).Nodup ->∀{x:Gd}{k:α},(x,k)∈l->l.lookup x=ih k
 |(n,v)::r,a,x,k,h=>by
  obtain⟨h1,h2⟩:=d6.mp a;rw[dM];rcases bL.mp h with e|hm
  .cases e;simp
  .have:(x==n)=false:=by
    rw[iq];intro e;exact h1^a8.mpr #[_,hm,e]
   rw[this];exact lW h2 hm
def B8(scope:Y0)(L:FG)(env:Zq):Zq:=
 { scope:=relabel scope env,locals:=L,globals:=env.globals,cells:=cellsFrom (L+1) scope.names (eS env.cells scope.names []),qual:=env.qual,func:=none,code:=env.code,frame:=env.frame,builtins:=env.builtins }
theorem Hg{M:ZI}{globals:FG}{d:am (Gd×FG)}{Q:Zq->UJ->Prop}
  (h:∀h',h'.Ns s.aj (λ_=>none)->(∀b o,s.heap.get? b=ih o->h'.get? b=ih o)->(∀x c,(x,c)∈cellsFrom (s.aj+1) scope.names []->h'.IsCell c none/\s.aj<c) ->
   ((cellsFrom (s.aj+1) scope.names []).Pairwise λx y=>x.2≠y.2) ->
   Q { scope:=scope,locals:=s.aj,globals:=globals,cells:=cellsFrom (s.aj+1) scope.names d,qual:=qual,func:=none,code:=env.code,frame:=env.frame,builtins:=env.builtins } { s with heap:=h' }) :
  UL M A (newFunctionEnv scope globals d [] qual none .none^ih env) Q E s:=by
 simp only[newFunctionEnv,U6,hM];refine ae^wpAny_alloc ?_;refine ae^wpAny_layCells _ (λname f cells=>by cases g:f==X6 <;> simp[g]) _ _ _ _ ?_
 have ok:=cellsFrom_ok scope.names (s.heap.push { cls:=.type "dict",data:=.dict #v[] }) (s.aj+1) [] #[λ_ _ a=>(nomatch a),Zh] (by rw[hJ];exact aP _)
 rw[hJ]at ok;rw[show({ s with heap:=s.heap.push { cls:=.type "dict",data:=.dict #v[] } }:UJ).heap.objs.size=s.aj+1 from hJ ..];rw[List.forIn_nil];refine ae^ak^ak ?_;exact h _ ((Heap.Ns.new s.heap^.type "dict").keeps (pushCells_keeps _ _)) (λb o e=>pushCells_keeps _ _ b o^a9 _ e) (λx c a=>#[(ok.empty x c a).1,(ok.empty x c a).2]) ok.apart
def cJ(X:Cx)(N':List Gd)(scope:Y0)(s2:UJ)(H2:Hp)(fp:List FG):Cx:=
 { X with N:=N',eg:=s2,g9:=H2,env:=B8 scope s2.aj X.env,outer:=X.stack,stack:=X.stack,ex:=fp,fn:=λx=>scope.names.lookup x==ih .cell,pn:=[],xe:=λ_ _=>False }
theorem sE{env:Zq}:∀{d:am (Gd×Yt)}{x:Gd}{k:Yt},
  (d.map λ(n,k)=>if (k==Ve&&env.scope.kind == .function&&env.kindOf n==ih .cell) then (n,X6) else (n,k)).lookup x=ih k ->
  ∃a,d.lookup x=ih a/\(k=a\/(a=.free/\k=.cell))
 |[],_,_,h=>by simp at h
 |(n,a)::r,x,k,h=>by
  have e:=@sE env r x k;have h':VP x ((if (a==Ve&&env.scope.kind == .function&&env.kindOf n==ih .cell)=true then (n,X6) else (n,a))::_)=ih k:=h;rw[dM]
  by_cases c:(a==Ve&&env.scope.kind == .function&&env.kindOf n==ih .cell)=true
  .rw[aB c,dM]at h'
   cases b:x==n with
   |true =>
    rw[b]at h';cases h';have:a=.free:=by
     have z:=c;rw[gW,gW]at z
     simpa using z.1.1
    exact#[a,Z,.inr #[this,Z]]
   |false=>rw[b]at h';exact e h'
  .rw[ao c,dM]at h'
   cases b:x==n with
   |true=>rw[b]at h';cases h';exact#[a,Z,.inl Z]
   |false=>rw[b]at h';exact e h'
theorem sC{env:Zq}:∀{d:am (Gd×Yt)}{x:Gd},d.lookup x=ih .free ->
  (d.map λ(n,k)=>if (k==Ve&&env.scope.kind == .function&&env.kindOf n==ih .cell) then (n,X6) else (n,k)).lookup x=ih .cell \/
  (d.map λ(n,k)=>if (k==Ve&&env.scope.kind == .function&&env.kindOf n==ih .cell) then (n,X6) else (n,k)).lookup x=ih .free
 |[],_,h=>by simp at h
 |(n,b)::r,x,h=>by
  have e:=@sC env r x;show VP x ((if (b==Ve&&env.scope.kind == .function&&env.kindOf n==ih .cell)=true then (n,X6) else (n,b))::_)=_\/VP x ((if (b==Ve&&env.scope.kind == .function&&env.kindOf n==ih .cell)=true then (n,X6) else (n,b))::_)=_;rw[dM]at h;cases a:x==n with
  |true =>
   rw[a]at h;cases h
   by_cases c:(Ve==Ve&&env.scope.kind == .function&&env.kindOf n==ih .cell)=true
   .rw[aB c,dM,a];exact .inl Z
   .rw[ao c,dM,a];exact .inr Z
  |false =>
   rw[a]at h
   by_cases c:(b==Ve&&env.scope.kind == .function&&env.kindOf n==ih .cell)=true
   .rw[aB c,dM,a];exact e h
   .rw[ao c,dM,a];exact e h
def pick(Qf:List (Option Nat))(σ:St):St:=Qf.map λo=>o.bind λi=>(σ[i]?).join
theorem pP(I:Inv X J σ H s2)(S:b8 X.N X.env.scope N' Qf scope)(a:(x,Ve)∈scope.names):∃c,X.env.cells.lookup x=ih c:=
 I.ok.has x^S.free _ a Z
theorem HL(I:Inv X J σ H s2)(S:b8 X.N X.env.scope N' Qf scope){n:Nat}{c:FG}(h:(cellsFrom n scope.names^eS X.env.cells scope.names []).lookup x=ih c) :
  ((x,c)∈cellsFrom n scope.names []/\(x,X6)∈scope.names)\/((x,Ve)∈scope.names/\X.env.cells.lookup x=ih c):=by
 rw[lV,FW]at h;cases e:(cellsFrom n scope.names []).lookup x with
 |some d =>
  rw[e]at h;have z:d=c:=by simpa using h
  subst z;have m:=jx e;rcases pF _ _ _ _ _ m with z|z
  .simp at z
  .exact .inl #[m,z]
 |none =>
  rw[e]at h;have h':(eS X.env.cells scope.names []).lookup x=ih c:=by simpa using h
  rcases pG _ _ _ _ h' with z|⟨z,e2⟩
  .simp at z
  .obtain⟨a,h0⟩:=pP I S z
   rw[h0]at e2;exact .inr #[z,by rw[h0,e2];rfl]
theorem JA(I:Inv X J σ H s2)(S:b8 X.N X.env.scope N' Qf scope)(B:∀b∈fp,gb X J H b)(U:∀b∈fp,∃o,s2.heap.get? b=ih o)
  (xb:h'.Ns s2.aj^λ_=>none) (D:∀b o,s2.heap.get? b=ih o->h'.get? b=ih o)
  (h:∀x c,(x,c)∈cellsFrom (s2.aj+1) scope.names []->h'.IsCell c none/\s2.aj<c) (E:(cellsFrom (s2.aj+1) scope.names []).Pairwise λx y=>x.2≠y.2) :
  Inv (cJ X N' scope s2 H fp) [] (pick Qf σ) H { s2 with heap:=h' }:=by
 have F:∀{x:Gd}{c:FG},X.env.cells.lookup x=ih c->c<s2.aj:=λ{x c} e=>let ⟨_,q⟩:=I.cell x c e;q.lt;have l:∀{x:Gd}{c:FG},(cJ X N' scope s2 H fp).env.cells.lookup x=ih c->((x,c)∈cellsFrom (s2.aj+1) scope.names []/\(x,X6)∈scope.names)\/((x,Ve)∈scope.names/\X.env.cells.lookup x=ih c):=
  λ{x c} e=>HL I S e
 have V:∀{x:Gd}{c:FG},(cJ X N' scope s2 H fp).env.cells.lookup x=ih c ->∃v,h'.IsCell c v:=λ{x c} e=>by
  rcases l e with⟨m,_⟩|⟨_,e0⟩
  .exact#[_,(h x c m).1]
  .obtain⟨v,q⟩:=I.cell x c e0
   exact#[v,q.keeps D]
 have G:∀b∈fp,b<s2.aj:=λb a=>let ⟨_,e⟩:=U b a;bA e;refine#[#[I.ok.mod,S.kind,I.ok.glob,I.ok.blt,aP _,λx y c e1 e2=>?_,λx hx=>?_,λx c hx e=>?_,I.ok.hd,I.ok.frames,.inl Z,λb a=>#[bK^G b a,λx c e z=>?_],I.bs,?_,λb o e a=>?_,λb a W=>?_,I.stack,I.tY],
  Z,I.bare,Un.kept D,#[_,xb,λj x v e1 e2 e3=>?_],λx c e=>V e,I.aH.fresh^aP _,λx c e=>?_,λp E=>absurd (show p∈([]:am (FG×YC)) from E) (by simp),I.aH.kept D,?_]
 .rcases l e1 with⟨M,_⟩|⟨_,s⟩ <;> rcases l e2 with⟨O,_⟩|⟨_,P⟩
  .exact name_of_addr E M O
  .exact absurd (lM (h _ _ M).2^F P)^jt _
  .exact absurd (lM (h _ _ O).2^F s)^jt _
  .exact I.ok.inj x y c s P
 .have Y:∃f,scope.names.lookup x=ih f/\(f=.cell\/f=.free):=by
   rcases hx with hx|hx
   .obtain⟨f,e,z⟩:=sE (env:=X.env) hx
    refine#[f,e,?_];rcases z with z|z
    .exact .inl z.symm
    .exact .inr z.1
   .obtain⟨f,e,z⟩:=sE (env:=X.env) hx
    refine#[f,e,?_];rcases z with z|z
    .exact .inr z.symm
    .exact .inr z.1
  obtain⟨f,e,z⟩:=Y;show ∃c,(cellsFrom (s2.aj+1) scope.names^eS X.env.cells scope.names []).lookup x=ih c;rw[lV,FW];rcases z with rfl|rfl
  .obtain⟨c,g⟩:=tI (n:=s2.aj+1) e
   exact#[c,by rw[g];rfl]
  .cases q:(cellsFrom (s2.aj+1) scope.names []).lookup x with
   |some d=>exact#[d,Z]
   |none =>
    obtain⟨c,g⟩:=pO (cells:=X.env.cells) scope.names [] x^jx e;exact#[c,by rw[g];rfl]
 .have K:scope.names.lookup x=ih .cell:=by simpa [cJ] using hx
  rcases l e with⟨m,_⟩|⟨m,_⟩
  .exact o8 (h _ _ m).2
  .rw[lW S.keys m]at K;cases K
 .rcases l e with⟨m,_⟩|⟨_,s⟩
  .have:=G b a
   rw[<-z]at this;exact absurd (lM (h _ _ m).2 this)^jt _
  .exact(B b a).2.2.2.2.1 x c s z
 .exact ec I.ok.ib I.sz
 .rcases (B b a).2.2.2.1 with z|z
  .exact I.ok.jZ b o e z
  .exact absurd (eZ (bA (I.ok.bs b o e).1) z)^jt _
 .have:=I.qt b W
  rcases bL.mp this with z|z
  .exact(B b a).2.1 z
  .exact(B b a).2.2.1 z
 ·
  have t:(Qf[j]?).bind (λo=>ih^o.bind λi=>(σ[i]?).join)=ih^ih v:=by
   have w:(Qf.map λo=>o.bind λi=>(σ[i]?).join)[j]?=ih^ih v:=e2;rw[c5]at w;cases q:Qf[j]? with
   |none=>rw[q]at w;cases w
   |some o=>rw[q]at w;exact w
  cases q:Qf[j]? with
  |none=>rw[q]at t;cases t
  |some o =>
   rw[q]at t;cases o with
   |none=>simp at t
   |some i =>
    have C:(σ[i]?).join=ih v:=by simpa using t
    have yb:σ[i]?=ih^ih v:=by
     cases Q:σ[i]? with
     |none=>rw[Q]at C;cases C
     |some z=>rw[Q]at C;rw[show z=ih v from C]
    obtain⟨y,xa,ya,A⟩:=S.fv j i q;have za:x=y:=by
     have L:N'[j]?=ih x:=e1;rw[ya]at L;exact(cQ L).symm
    subst za;obtain⟨m,xe,zb⟩:=I.loc;have R:=S.free _ (jx A) Z;obtain⟨u,r,lk⟩:=zb i x v xa yb (by rcases R with z|z;exact .inr^.inl z;exact .inr^.inr z)
    refine#[u,r,.inr #[sC A,?_]];rcases lk with⟨k,_⟩|⟨_,c,xc,yc⟩
    .have T:X.env.scope.names.lookup x=ih .local:=k
     rcases R with z|z <;> (rw[z]at T;cases T)
    .refine#[c,?_,yc.keeps D]
     show(cellsFrom (s2.aj+1) scope.names^eS X.env.cells scope.names []).lookup x=ih c;rw[lV,FW];cases zc:(cellsFrom (s2.aj+1) scope.names []).lookup x with
     |some d =>
      rcases pF _ _ _ _ _^jx zc with z|z
      .simp at z
      .rw[lW S.keys z]at A;cases A
     |none =>
      obtain⟨ye,g⟩:=pO (cells:=X.env.cells) scope.names [] x^jx A;rcases pG _ _ _ _ g with z|⟨_,e5⟩
      .simp at z
      .rw[xc]at e5
       rw[g,e5];rfl
 .rcases l e with⟨m,_⟩|⟨_,s⟩
  .exact I.aH.fresh^o8 (h _ _ m).2
  .exact I.eR x c s
 .show(Qf.map _).length=N'.length
  rw[aE,S.len]
def jj(X:Cx)(Qh:List VH)(t:TT):Prop:=
 ∀J s σ H (Q:Bool->Hp->Prop),Inv X J σ H s->t σ H Q ->
  wA X (forIn Qh true λc r=>if r=true then do let ok <- isTrue c X.env (eval c X.env);pure (X9 ok) else pure (X9 r)) (TP X J σ Q) X.xe s
def oC:TT:=λ_ H Q=>Q true H
theorem ey:jj X [] oC:=λ_ _ _ H _ I h=>wpAny_tests_nil #[H,I,h]
theorem i1{t:TT}(h:PT X c t):jj X [c] t:=λJ s σ H Q I a=>wpAny_tests_one^h J s σ H Q I a
structure kJ(e tg iter:VH)(Qh:List VH)(Qi:i'->Zq->Zi Unit):Prop where
 cl:clausesOf e=[⟨tg,iter,Qh,0⟩]
 turn:∀it cG env,compTurn e 0 it cG env=(do
   standAt iter.pos
   match <- pyNext it with
   |none=>pure (.done .next)
   |some v =>
    letOwnedTupleGo tg it v
    assign tg env v
    let mut ok:=true
    for c in Qh do
     if ok then ok <- isTrue c env (eval c env)
    if ok then Qi cG env
    again (.compLoop e 0 it cG env))
 loop:∀(prog:Yg) (w:Yo) (A:Yq) it cG env,A.under (.compLoop e 0 it cG env)=A/\(U0 prog w).den (.compLoop e 0 it cG env)=(compTurn e 0 it cG env).onRaise (λx=>do noteFrame x env;theTreesLotGoes x)
 begin_:∀(prog:Yg) (w:Yo) (A:Yq) it cG env,A.under (.compStart e 0 it cG env)=A/\(U0 prog w).den (.compStart e 0 it cG env)=(compStart e 0 it cG env).onRaise (λx=>do noteFrame x env;standAt theWindowsPlace)
theorem GF{R:ZC->UJ->Prop}{Qi:i'->Zq->Zi Unit}{it a:i'}(F:kJ e tg iter Qh Qi)(I:Nat->UJ->Prop)
  (g:∀n s,I n s->UL (U0 prog w) A (pyNext it) (λr s1=>match r with
   |none=>R (.ok .next) s1
   |some v=>UL (U0 prog w) A (letOwnedTupleGo tg it v) (λ_ s2=>UL (U0 prog w) A (assign tg env v) (λ_ d =>
     UL (U0 prog w) A (forIn Qh true λc r=>if r=true then do let ok <- isTrue c env^eval c env;pure^X9 ok else pure^X9 r) (λok b =>
      if ok=true then UL (U0 prog w) A (Qi a env) (λ_ i=>∃m,m<n/\I m i) (λ_ _=>False) b
      else ∃m,m<n/\I m b) (λ_ _=>False) d) (λ_ _=>False) s2) (λ_ _=>False) s1) (λ_ _=>False) s)
  (n:Nat) (h:I n s) :
  codeAny (U0 prog w) A (.compLoop e 0 it a env) R s:=by
 refine codeAny_loop Z I (λn s j=>?_) n h;rw[(F.loop prog w A it a env).1,(F.loop prog w A it a env).2];refine wpAny_noted^FX ?_;rw[F.turn];refine ae^ku^ae^aG (g n s j) λr s1 h1=>?_;cases r with
 |none=>exact ak h1
 |some v =>
  refine ae^aG h1 λ_ s2 h2=>ae^aG h2 λ_ d k=>ae^aG k λok b f=>?_;cases ok with
  |false=>exact ak #[Z,f]
  |true=>exact ae^aG f λx o l=>ak #[Z,l]
theorem GD{R:ZC->UJ->Prop}{Qi:i'->Zq->Zi Unit}{it a:i'}(F:kJ e tg iter Qh Qi)
  (h0:codeAny (U0 prog w) A (.compLoop e 0 it a env) R s)
  (h:UL (U0 prog w) A (pyIter it) (λb s'=>codeAny (U0 prog w) A (.compLoop e 0 b a env) R s')
   (notedBy (U0 prog w) A env λx s'=>R (.error x) s') s) :
  codeAny (U0 prog w) A (.compStart e 0 it a env) R s:=by
 refine wK ?_;rw[(F.begin_ prog w A it a env).1,(F.begin_ prog w A it a env).2];refine wpAny_notedAt ?_;unfold compStart;rw[F.cl];show UL _ _ (ask >>= _) _ _ s;refine ae^iT^wpAny_ite ?_;split
 .first
   |exact ae (ak (ak (Zl rfl h0)))
   |exact ak (Zl rfl h0)
 .first
   |exact ae (jv (ae (ku (ae (ir h (λb s' h'=>ak (Zl rfl h')) λ_ _ x=>x)))))
   |(refine ae (jv ?_);show UL _ _ (standAt iter.pos >>= _) _ _ s;exact ae (ku (ae (ir h (λb s' h'=>ak (Zl rfl h')) λ_ _ x=>x))))
def Md{ι:Type}(J9:It)(g:TG)(ti:TT)(Qm:ι->FG->St->Hp->(ι->Hp->Prop)->Prop)(y0:ι)(e7:St)(Q:VK)(p:FG)(Y:Hp):Prop:=
 ∃W:Nat->Nat->ι->St->Hp->Prop,(∃m,W 0 m y0 e7 Y) /\∀i m y τ H2,W i m y τ H2 ->
  ((J9.stop i H2/\Q (.ref p) H2)\/(J9.go i H2 /\∀x H3,J9.ie i H2 x H3->g x τ H3 λgB H4=>ti gB H4 λb H5 =>
   if b=true then Qm y p gB H5 λy' H6=>∃m',m'<m/\W (i+1) m' y' gB H6
   else ∃m',m'<m/\W (i+1) m' y gB H5))
def Ek{ι:Type}(X:Cx)(Qi:i'->Zq->Zi Unit)(Qm:ι->FG->St->Hp->(ι->Hp->Prop)->Prop):Prop:=
 ∀J s σ H (p:FG) (y:ι) (Q:ι->Hp->Prop),Inv X J σ H s->Qm y p σ H Q->wA X (Qi (.ref p) X.env) (λ_ s'=>∃y' H',Inv X J σ H' s'/\Q y' H') X.xe s
structure oj(X:Cx)(Me:Zi i')(start:FG->HO):Prop where
 run:∀J s σ H (E:i'->UJ->Prop) (Q:i'->UJ->Prop),Inv X J σ H s ->
  (∀s',Inv X J σ (upd H s.aj (start s.aj)) s'->(∀b o,s.heap.get? b=ih o->s'.heap.get? b=ih o)->Q (.ref s.aj) s')->wA X Me Q E s
def B9(Qo:VH)(cG:i')(env:Zq):Zi Unit:=do
 let v <- eval Qo env
 let _ <- call (.builtin "list.append") [cG,v]
theorem IE:kJ (.ListComp Qo [#[tg,iter,Qh,0]] scope pos) tg iter Qh^B9 Qo:=#[Z,λ_ _ _=>rfl,λ_ _ _ _ _ _=>#[Z,Z],λ_ _ _ _ _ _=>#[Z,Z]]
theorem JB:oj X (newList []) (λ_=>.lst []):=#[λJ s σ H E Q I h=>e4^h _ (I.Ei (its:=[]) (t':=s.toks) .nil^bF _) λb o e=>a9 _ e]
def Mf(te:TE)(ys:List V)(p:FG)(σ:St)(H:Hp)(Q:List V->Hp->Prop):Prop:=te σ H λy H6=>H6 p=ih (.lst ys)/\ys.length<UM/\Q (ys++[y]) (upd H6 p (.lst (ys++[y])))
theorem KS(j:PE X Qo te):Ek X (B9 Qo)^Mf te:=λJ s σ H p ys Q I h=>by
 refine ae^aG (j J s σ H _ I h) λy d n=>?_;obtain⟨z,a,e,f,b,c,k⟩:=n;refine ae^aG (jK _ d σ a (.ref p) [z] (.ref p) [y] (λ_ H'=>H'=upd a p^.lst (ys++[z])) e Z (.cons f .nil) #[_,_,_,Z,Z,b,c,Z]) λ_ l n=>?_;obtain⟨_,m,g,_,i⟩:=n;subst i;exact ak #[_,_,g,k]
def hX(J9:It)(g:TG)(ti:TT)(te:TE)(e7:St)(Q:VK)(p:FG)(Y:Hp):Prop:=
 ∃W:Nat->Nat->List V->St->Hp->Prop,(∃m,W 0 m [] e7 (upd Y p (.lst []))) /\∀i m ys τ H2,W i m ys τ H2->H2 p=ih (.lst ys) /\
  ((J9.stop i H2/\Q (.ref p) H2)\/(J9.go i H2 /\∀x H3,J9.ie i H2 x H3->g x τ H3 λgB H4=>ti gB H4 λb H5 =>
   if b=true then te gB H5 λy H6=>H6 p=ih (.lst ys)/\ys.length<UM /\∃m',m'<m/\W (i+1) m' (ys++[y]) gB (upd H6 p (.lst (ys++[y])))
   else ∃m',m'<m/\W (i+1) m' ys gB H5))
def DS(wi:TI)(Qf:List (Option Nat))(g:TG)(ti:TT)(te:TE):TE:=λσ H Q=>wi σ H λJ9 Y=>∀p,Y p=none->hX J9 g ti te (pick Qf σ) Q p Y
section
def CompEnd(X:Cx)(J:List (FG×YC))(σ:St)(Q:VK)(cG:i')(C:FG)(s':UJ):Prop:=
 ∃(p:FG) (H':Hp),cG=.ref p/\Inv X J σ H' s'/\gb X J H' C/\(∃m,s'.heap.Ns C m)/\Q (.ref p) H'
variable{Qi:i'->Zq->Zi Unit}
theorem AM{D:Type}{y0:D}{temI:D->FG->St->Hp->(D->Hp->Prop)->Prop}{yd:It}{g:TG}{za:Zi i'}{start:FG->HO}(F:kJ e tg iter Qh Qi)(zd:X.calm=true)(S:b8 X.N X.env.scope N' Qf scope)
  (xe:Inv X J σ H2 s2) (T:Turn X.prog X.w X.K tg yd fp it tn) (st:tn 0 s2.heap) (ye:∀b∈fp,gb X J H2 b) (yh:oj X za start)
  (a:∀s H fp,PG (cJ X N' scope s H fp) tg g/\jj (cJ X N' scope s H fp) Qh ti/\Ek (cJ X N' scope s H fp) Qi temI)
  (zk:∀p,H2 p=none->Md yd g ti temI y0 (pick Qf σ) Q p^upd H2 p^start p) (xl:∀v C s',CompEnd X J σ Q v C s'->RR v C (.ok .next) s') :
  wA X za (λv f=>wA X (newFunctionEnv scope X.env.globals (eS X.env.cells scope.names []) [] X.env.qual none .none^ih X.env) (λxb yl =>
   codeAny X.dt X.A (.compStart e 0 (.ref it) v { xb with scope:=relabel scope X.env }) (RR v xb.locals) yl) E f) E s2:=by
 refine yh.run J s2 σ H2 E _ xe λf G zh=>?_;have I:=zk s2.aj xe.fresh;generalize zl:upd H2 s2.aj^start s2.aj=h at G I;have yi:∀b∈fp,b<s2.aj:=λb a=>let ⟨_,e,_⟩:=T.obj _ _ st b a;bA e;have zb:tn 0 f.heap:=T.keep _ _ _ st λb _ o e=>zh b o e;have l:∀b∈fp,gb X J h b:=λb a=>#[by rw[<-zl,ag^bK^yi b a];exact(ye b a).1,(ye b a).2]
 have zi:∀b∈fp,∃o,f.heap.get? b=ih o:=λb a=>let ⟨o,e,_⟩:=T.obj _ _ zb b a;#[o,e];refine Hg λR U ze xj yj=>?_;have L:Inv (cJ X N' scope f h fp) [] (pick Qf σ) h { f with heap:=R }:=JA G S l zi U ze xj yj;have xc:tn 0 ({ f with heap:=R }:UJ).heap:=T.keep _ _ _ zb λb _ o e=>ze b o e;obtain⟨xm,ym,zm⟩:=a f h fp;obtain⟨W,⟨xn,yn⟩,xi⟩:=I;have O:∀{H':Hp},(∀b∈fp,H' b=none) ->∀b∈fp,gb (cJ X N' scope f h fp) [] H' b:=λU b a =>
  #[U b a,(L.ok.lD b a).1,L.ok.j0 b a,.inl a,λx c e=>(L.ok.lD b a).2 x c e,λp I=>absurd (show p∈([]:am (FG×YC)) from I)^by simp]
 have yb:codeAny X.dt X.A (.compLoop e 0 (.ref it) (.ref s2.aj)^B8 scope f.aj X.env)
   (RR (.ref s2.aj) f.aj) { f with heap:=R }:=by
  refine GF F (λn s'=>∃i y j H',Inv (cJ X N' scope f h fp) [] j H' s'/\tn i s'.heap/\(∀b∈fp,H' b=none)/\W i n y j H') ?_ xn #[0,_,_,h,L,xc,λb a=>(l b a).1,yn];rintro n xf ⟨i,y,j,M,yf,yc,zc,V⟩;have V:=xi i n y j M V;rcases V with⟨stop,qn⟩|⟨go,step⟩
  .refine aG (T.done (cJ X N' scope f h fp) Z Z Z zd i [] xf j M _ yf (O zc) yc stop) λr zf ⟨Y,q⟩=>?_
   subst Y;refine xl _ _ _ #[_,M,Z,?_,?_,?_,qn]
   .exact G.uS (s':=zf) (ch:=fp) q.os q.base q.aH q.bare λb a=>#[(l b a).2.2.2.1,(l b a).2.1,(l b a).2.2.2.2.1,(l b a).2.2.2.2.2]
   .exact G.hg (aP _) q.free
   .obtain⟨m,k,_⟩:=q.loc
    exact#[m,k]
  .refine aG (T.item (cJ X N' scope f h fp) Z Z Z zd i [] xf j M _ yf (O zc) yc go) λr zf aa=>?_;obtain⟨u,Y,zn⟩:=aa
   subst Y;refine aG zn λ_ xg aa=>?_;obtain⟨x,yg,xo,yo,y7,P,zj⟩:=aa;have xk:=xo.pinned (O zj)^T.obj _ _ P;refine aG (xm _ xg j yg x u _ xk yo^step x yg y7) λ_ zo aa=>?_;obtain⟨xd,xp,yp,zp⟩:=aa;refine aG (ym _ zo xd xp _ yp zp) λb xq aa=>?_;obtain⟨yq,zg,xh⟩:=aa;have again:∀{xa:D}{B:St}{H':Hp}{s':UJ}{t:Nat},Inv (cJ X N' scope f h fp) ([]++oh fp xg.heap) B H' s'->t<n->W (i+1) t xa B H' ->
     ∃m,m<n /\∃i y j H',Inv (cJ X N' scope f h fp) [] j H' s'/\tn i s'.heap/\(∀b∈fp,H' b=none)/\W i m y j H':=λ{xa B H' s' t} ya k z=>by
    refine#[t,k,i+1,xa,B,H',ya.pX,T.keep _ _ _ P λb a o e=>(ya.pin (b,o)^et _^et _^pK a e).1,λb a=>?_,z];obtain⟨o,e,d⟩:=T.obj _ _ P b a;exact(ya.pin (b,o)^et _^et _^pK a e).2.1
   cases b with
   |false =>
    obtain⟨t,k,z⟩:=xh;exact again zg k z
   |true=>exact aG (zm _ xq xd yq _ y _ zg xh) λ_ zq ⟨xr,yr,yk,t,k,z⟩=>again yk k z
 exact GD F yb^T.self X.A 0 _ _ _ xc yb
theorem Bm{e:It}{g:TG}(f:X.calm=true)(S:b8 X.N X.env.scope N' Qf scope)
  (h:Inv X J σ H2 s2) (T:Turn X.prog X.w X.K tg e fp it tn) (st:tn 0 s2.heap) (j:∀b∈fp,gb X J H2 b)
  (c:∀s H fp,PG (cJ X N' scope s H fp) tg g/\jj (cJ X N' scope s H fp) Qh ti/\PE (cJ X N' scope s H fp) Qo te)
  (k:∀p,H2 p=none->hX e g ti te (pick Qf σ) Q p H2) (l:∀a C s',CompEnd X J σ Q a C s'->RR a C (.ok .next) s') :
  wA X (newList []) (λa n=>wA X (newFunctionEnv scope X.env.globals (eS X.env.cells scope.names []) [] X.env.qual none .none^ih X.env) (λd o =>
   codeAny X.dt X.A (.compStart (.ListComp Qo [#[tg,iter,Qh,0]] scope pos) 0 (.ref it) a { d with scope:=relabel scope X.env }) (RR a d.locals) o) E n) E s2:=by
 refine AM (y0:=[]) IE f S h T st j JB (λs H fp=>#[(c s H fp).1,(c s H fp).2.1,KS (c s H fp).2.2]) (λp q=>?_) l;obtain⟨W,h0,st⟩:=k p q;exact#[W,h0,λi m ys r H w=>(st i m ys r H w).2]
theorem d7{wi:TI}{g:TG}(i:X.calm=true)(S:b8 X.N X.env.scope N' Qf scope)(hi:PI X tg iter wi)
  (a:∀s H fp,PG (cJ X N' scope s H fp) tg g/\jj (cJ X N' scope s H fp) Qh ti/\PE (cJ X N' scope s H fp) Qo te)
  (j:∀x,foldedSetIterable iter X.env x=pure x:=by intro _;rfl):PE X (.ListComp Qo [#[tg,iter,Qh,0]] scope pos)^DS wi Qf g ti te:=by
 intro J s σ H Q I h;rw[eval_ListComp];refine FY (use:=none) Z j (sF λn k=>pP I S k) S.kind (λx l r=>lW S.keys^by rw[<-r];exact l) ?_
 refine aG (hi J s σ H _ I h) λv s1 h1=>aG h1 λB s2 h2=>?_;obtain⟨it,fp,tn,D,H2,e,t,T,d,u,w⟩:=h2;subst e;refine Bm (RR:=λc C=>compPost X.dt X.A X.xe none (EP X J σ Q) c C) i S t T d u a w ?_;rintro c C s' ⟨p,H',rfl,y,fC,⟨m,z⟩,q⟩;refine#[m,z,λh' f=>#[.ref p,H',?_,Z,q]];exact y.turned (it:=C) (t':=s'.toks) (λb o a e=>(f.2 b a).trans e) fC.1 fC.2.1 fC.2.2.2.1 fC.2.2.2.2.1 fC.2.2.2.2.2
theorem lZ{wi:TI}{g:TG}{j:Z4}(E:X.calm=true)(S:b8 X.N X.env.scope N' Qf scope)(F:X.N.Nodup)(d:X.N[i]?=ih x)(c:X.env.scope.names.lookup x=ih .local)(hi:PI X tg iter wi)
  (f:∀s H fp,PG (cJ X N' scope s H fp) tg g/\jj (cJ X N' scope s H fp) Qh ti/\PE (cJ X N' scope s H fp) Qo te)
  (l:swapsWith (.ListComp Qo [#[tg,iter,Qh,0]] scope pos) (ih^.Name x Qj) j.line X.env=pure true:=by rfl)
  (G:∀x,foldedSetIterable iter X.env x=pure x:=by intro _;rfl):PS X (.Assign [.Name x Qj] (.ListComp Qo [#[tg,iter,Qh,0]] scope pos) j)^qX (DS wi Qf g ti te)^iE i:=by
 intro J s σ H D I h;rw[exec_Assign_Name_used _ _ _ _ l];refine ae^ku^ae ?_;show UL _ X.A (do let _ <- comprehension (.ListComp Qo [#[tg,iter,Qh,0]] scope pos) scope X.env _ (newList []) false (eval iter X.env)^ih^assign (.Name x Qj) X.env) _ _ s;refine ae^aG (FY (use:=ih^assign (.Name x Qj) X.env) (Q:=λ_ s'=>SP X J D .next s') Z G (sF λn K=>pP I S K) S.kind (λx d c=>lW S.keys^by rw[<-c];exact d) ?_) λ_ s' L=>ak^ak L
 refine aG (hi J s σ H _ I h) λv s1 h1=>aG h1 λV s2 h2=>?_;obtain⟨it,fp,tn,W,H2,e,M,T,r,O,P⟩:=h2;subst e;refine Bm (Q:=λv H'=>D.nx (σ.set i^ih v) H') (RR:=λk C=>compPost X.dt X.A X.xe (ih^assign (.Name x Qj) X.env) (λ_ s'=>SP X J D .next s') k C) E S M T r O f P ?_;rintro k C s' ⟨p,H',rfl,R,fC,⟨m,U⟩,q⟩;show wA X (assign (.Name x Qj) X.env^.ref p) _ _ s';refine wpAny_assign_Name^Bb (v:=.ref p) R F d (.inl c) Z (λt u Y=>?_)^.inr c;obtain⟨a,w,ha⟩:=Y;have y:C≠a:=by
  rcases ha with ha|ha
  .rw[ha];exact fC.2.1
  .exact λz=>fC.2.2.2.2.1 _ _ ha z.symm
 refine#[m,U.sameBut w y,λh' B=>#[_,H',?_,q]];exact u.turned (it:=C) (t':=t.toks) (λb o f e=>(B.2 b f).trans e) fC.1 fC.2.1 fC.2.2.2.1 fC.2.2.2.2.1 fC.2.2.2.2.2
end
end L2
namespace L2
open Spec PyProof.Rows W Builtin.ObjectAttr
def iB(h:Yb)(C:FG)(us:List i'):Yb:=(h.push { cls:=.type "tuple",data:=.seq us.toArray }).push { cls:=.ref C,data:=.fields #v[.ref h.objs.size,.none,.none,.none,.bool false,.none] }
theorem nE(e:h.get? b=ih o):(iB h C us).get? b=ih o:=a9 _^a9 _ e
theorem Bn:(iB h C us).get? (h.objs.size+1)=ih { cls:=.ref C,data:=.fields #v[.ref h.objs.size,.none,.none,.none,.bool false,.none] }:=by
 unfold iB;heap_get
section
variable{gs:Array ZT}{dr:Drawn}{tk:Nat}{os:OsState}
variable{qn:Gd}{N:FG}{Qy up Q1:am i'}{Qv:Bool}{sl:am Gd}{Zc:am i'}{Zb:Bool}{Za:a2 Bool}{e0 e1 e2 e3 e5:a2 i'}{B Q0 Zd:String}
variable{mN:Gd->Option i'}{oI:YC}
theorem Gz{Q:Fin->UJ->Prop}(F:ExcBaseFacts B Q0 Zd Q1)(T:OwnTail h Q1 up)(a:h.get? C=ih^excClassObj cn qn C N Qy up Qv sl Zc Zb Za od e0 e1 e2 e3 e5 Q0)(c:h.Ns N mN)
  (hi:mN "__init__" = ih^.ref fI) (cN:h.get? fI=ih oI) (d:oI.cls=.type "function") (a5:us.length<=UM)
  (run:UL (U0 P w) A (call (.ref fI) (.ref (h.objs.size+1)::us)) (λr s'=>r=.none/\Q (.done^.ret^.ref (h.objs.size+1)) s') E #[iB h C us,gs,dr,tk,os]) :
  UL (U0 P w) A (Yh.«type.__call__» #[.ref C::us,[]]) Q E #[h,gs,dr,tk,os]:=by
 repeat (first|with_reducible refine se a ?_|with_reducible refine wpAny_madeBy_exc a ?_|wp_step)
 refine codeAny_call_builtin_code (FZ _ F.quiet)^wpAny_check_new_subT F T a^codeAny_exc_new_subT F T a ?_ a5;show UL _ _ _ _ _ (#[iB h C us,gs,dr,tk,os]:UJ);have b:(iB h C us).get? C=_:=nE a;have f:(iB h C us).get? (h.objs.size+1)=_:=Bn;have g:(UZ C::up).contains (.ref C)=true:=List.contains_iff_mem.mpr aY;unfold isInstance
 repeat (first|with_reducible refine se f ?_|(with_reducible refine wpAny_isSubtype_exc b ?_;rw[g])|wp_step)
 refine wpAny_typeLookup_tail (mN:=mN) b (c.keeps λ_ _ e=>nE e) (T.keeps λ_ _ e=>nE e) F.mroIs F.init.lookup ?_;rw[hi];refine ed^ae (show UL _ _ (bindSpecial _ _) _ _ _ from ?_);unfold bindSpecial;refine ae^jy (T:= "function") #[oI,nE cN,d] ?_;rw[aB (show _ from by decide)]
 refine ak^ae^aG run λr s' i=>?_;obtain⟨rfl,q⟩:=i
 wp_walk
 exact q
theorem GG{Q:i'->UJ->Prop}(F:ExcBaseFacts B Q0 Zd Q1)(T:OwnTail h Q1 up)(a:h.get? C=ih^excClassObj cn qn C N Qy up Qv sl Zc Zb Za od e0 e1 e2 e3 e5 Q0)(b:h.Ns N mN)
  (hi:mN "__init__" = ih^.ref fI) (cN:h.get? fI=ih oI) (c:oI.cls=.type "function") (a5:us.length<=UM)
  (run:UL (U0 P w) (A.under^.builtin "type.__call__" #[.ref C::us,[]]) (call (.ref fI) (.ref (h.objs.size+1)::us)) (λr s'=>r=.none/\Q (.ref (h.objs.size+1)) s') E #[iB h C us,gs,dr,tk,os]) :
  UL (U0 P w) A (call (.ref C) us) Q E #[h,gs,dr,tk,os]:=by
 have d:=tc_lookup;have e:=tc_bind^.ref C;have ty:(#[h,gs,dr,tk,os]:UJ).TypeIs (.ref C) "type" :=#[_,a,Z];refine kz^wK (show UL _ _ (callAny (.ref C) _) _ _ _ from ?_)
 repeat (any_goals (first|assumption|with_reducible refine se a ?_|wp_step))
 exact#[Z,codeAny_call_builtin_at (FZ _ ⋯) entry_typeCall^wpAny_check_type_call_sub a^Gz F T a b hi cN c a5 run]
end
abbrev rS:List i':=[.type "ValueError",.type "Exception",.type "BaseException",.type "object"]
def f7(K:Ys)(C:FG)(i:Option i'):Bool:=
  match K.lookup C with
  |some ⟨.type "type",_,.cls cls,slots⟩ =>
    (match cls.mro with
     |.ref C'::up=>C'==C&&((slots.toList.length==6&&slots.toList[4]? == ih (ih (.builtin "ValueError.__new__")))&&(!cls.hasDel&&(tailIn K rS up&&(nsOkIn K cls.ns&&nsIn K cls.ns "__init__" == ih i))))
     |_=>false)
  |_=>false
theorem OS{α:Type}{l:am α}(h:l.length=6):∃a b c d e f,l=[a,b,c,d,e,f]:=by
 rcases l with _|⟨a,_|⟨b,_|⟨c,_|⟨d,_|⟨e,_|⟨f,_|⟨g,l⟩⟩⟩⟩⟩⟩⟩ <;> simp at h
 exact#[a,b,c,d,e,f,Z]
theorem HM{N:FG}{a:Gd->Option i'}{v:i'}(X:K.In h)(G:h.Ns N a)(e:nsIn K N n=ih^ih v):a n=ih v:=by
 obtain⟨g,f,_,b,c,_,look⟩:=G;unfold nsIn at e;split at e
 next _ _ _ _ _ q =>
  have two:=X _ _ q;rw[b]at two;cases two;cases c
  split at e
  next i d =>
   cases e
   rw[<-look,nsFind,findBy,<-UP,d];rfl
  next=>split at e <;> cases e
 next=>cases e
structure ExcAt(h:Yb)(C:FG)(i:Option i'):Prop where
 ex:∃bm N nm q bs OT sn sub ab P6 dd k0 k1 k2 k3 k5 mN,h.get? C=ih (excClassObj nm q C N bs bm OT sn sub ab P6 dd k0 k1 k2 k3 k5 "ValueError.__new__")/\h.Ns N mN/\mN "__init__" = i/\OwnTail h rS bm
theorem pQ{i:a2 i'}(X:K.In h)(q:f7 K C i=true):ExcAt h C i:=by
 unfold f7 at q;split at q
 next od b a k =>
  split at q
  next B up r =>
   obtain⟨s,q⟩:=nq.mp q;obtain⟨p2,q⟩:=nq.mp q;obtain⟨p3,q⟩:=nq.mp q;obtain⟨p4,q⟩:=nq.mp q;obtain⟨p5,p6⟩:=nq.mp q;have e1:=dJ.mp s;obtain⟨p7,t⟩:=nq.mp p2;obtain⟨c,d,e,f,y,g,es⟩:=OS^dJ.mp p7;have e2:=dJ.mp t;rw[es]at e2;have e3:b.hasDel=false:=by simpa using p3
   have j:=dJ.mp p6;subst e1;cases e2
   obtain⟨u,bs,l,ns,qn,w,x,z,A,m,n⟩:=b;have o:l=_:=r;have p:n=false:=e3;subst o p;obtain rfl:a = #v[c,d,e,f,ih (.builtin "ValueError.__new__"),g]:=by cases a;exact dy Array.mk es
   refine#[#[up,ns,u,qn,bs,w,x,z,A,m,od,c,d,e,f,g,h.nsMap ns,X _ _ k,.of_isNs^isNs_of_in X p5,?_,tail_of_in X p4]];cases i with
   |none=>exact nsMap_none_of_in X p5 j
   |some v=>exact HM X (.of_isNs^isNs_of_in X p5) j
  next=>cases q
 next=>cases q
def mF:List i'->Bool
 |.ref _::r=>mF r
 |l=>l==rS
theorem Hh:∀{l:am i'},mF l=true->l=rS \/∃a r,l=.ref a::r/\mF r=true
 |[],e=>.inl^dJ.mp e
 |.ref a::r,e=>.inr #[a,r,Z,e]
 |.none::r,e=>.inl^dJ.mp e
 |.bool b::r,e=>.inl^dJ.mp e
 |.int i t::r,e=>.inl^dJ.mp e
 |.float i t::r,e=>.inl^dJ.mp e
 |.str i t::r,e=>.inl^dJ.mp e
 |.bytes i t::r,e=>.inl^dJ.mp e
 |.type i::r,e=>.inl^dJ.mp e
 |.builtin i::r,e=>.inl^dJ.mp e
theorem JC(self:i')(l:am i'):mF l=true->refuseLoop self "__setattr__" l=pure Unit.unit:=by
 induction l with
 |nil=>intro e;exact absurd e ∅
 |cons v r b =>
  intro e;rcases Hh e with q|⟨a,d,q,c⟩
  .rw[q];kernel_rfl
  .cases q
   rw[refuseLoop_ref];exact b c
structure eV(K:Ys)(C:FG):Prop where
 ga:Yk K (.ref C) "__getattribute__" = ih (ih (.builtin "BaseException.__getattribute__"))
 gh:Yk K (.ref C) "__getattr__" = ih none
 sa:Yk K (.ref C) "__setattr__" = ih (ih (.builtin "object.__setattr__"))
 hd:hasDictIn K C=true
 ov:((clsIn K C).any λcd=>mF cd.mro)=true
 be:mroIn K C (.type "BaseException")=ih true
 ve:mroIn K C (.type "ValueError")=ih true
 ob:mroIn K C (.type "object")=ih true
 ka:Yk K (.ref C) "__class__" = ih (ih (.builtin "object.__class__"))
 kn:specialIn K (.builtin "object.__class__") "__get__" = ih (ih (.builtin "getset_descriptor.__get__"))
 kt:takesIn K (.builtin "object.__class__")=ih true
section
variable{x:FG}{od:a2 YC}
theorem IF{R:ZC->UJ->Prop}{v:i'}(X:K.In s.heap)(I:InstAt s.heap x ox C od)(c:eV K C)(no:Yk K (.ref C) name=ih none)
  (go:UL (U0 prog w) A.in1 (storeInOwnDict (.ref x) (.ref C) (.str name tk) name v false) (λd s'=>match d with|.done f=>R (.ok f) s'|.again a=>a.quiet=true/\codeAny (U0 prog w) A a R s') (λe s'=>R (.error e) s') s) :
  codeAny (U0 prog w) A (.call (.builtin "object.__setattr__") #[[.ref x,.str name tk,v],[]]) R s:=by
 obtain⟨g,h,ok⟩:=sf c.ov;have ty:aad (U0 prog w) s.heap (typeOf^.ref x)^.ref C:=I.type;have up:aad (U0 prog w) s.heap (mroOf^.ref C) g.mro:=Looks.andThen (looks_clsIn X h) Looks.now;have b:aad (U0 prog w) s.heap (typeLookup (.ref C) name) none:=looks_findIn X no;refine wL sg.slot.plain sg.entry^@check_slot (U0 prog w) _ _ s _ _ _ (.ref x) [.str name tk,v] [] _ sg.kind sg.split (ty.andThen^wM X c.ob) (sg.args _ _ _) ?_;rw[osa_eq,refuse_eq];refine ae^ae^ty.here^ae^up.here ?_;rw[JC _ _ ok];refine ak (show UL _ _ _ _ _ s from ?_);exact ae^ty.here^ae^b.here^ae^ak go
theorem Bo{fill:Bool}{Q:i'->UJ->Prop}(X:K.In s.heap)(I:InstAt s.heap x ox C od)(c:eV K C)
  (h:UL (U0 prog w) A.in1 (Yh.«object.__getattribute__» #[[.ref x,.str name tk],[]]) (λa s'=>match a with|.done (.ret v)=>UL (U0 prog w) A (handedOut v) Q E s'|_=>False) (λ_ _=>False) s) :
  UL (U0 prog w) A (getAttrBy (.ref x) (.str name tk) fill Qt) Q E s:=by
 have f:=I.type (M:=U0 prog w);have g:=looks_findIn (M:=U0 prog w) X c.ga;have L2:=looks_findIn (M:=U0 prog w) X c.gh;have sub:aad (U0 prog w) s.heap (isInstance (.ref x)^.type "BaseException") true:=I.type.andThen^wM X c.be;have d:(YO "BaseException.__getattribute__" == YO "object.__getattribute__")=false:=⋯
 have e:(onTheHeap^UZ C&&YO "BaseException.__getattribute__" == YO "object.__getattribute__")=false:=by rw[d];rfl
 have i:builtinKind "BaseException.__getattribute__" = ih .slot:=⋯
 have b:splitId "BaseException.__getattribute__" = ih ("BaseException","__getattribute__"):=⋯
 unfold getAttrBy;refine ed^ae^f.here^ae^g.here ?_
 dsimp only
 rw[e];show UL _ _ (getAttrByItsOwn _ _ _ _ _ _) _ _ _;unfold getAttrByItsOwn hookBefore;refine ae ?_;rw[aB (show onTheHeap^UZ C=true from rfl)];refine L2.here^ae^nu^ed ?_;unfold callGetattribute;rw[ao (show ¬ (Qt&&onTheHeap^YO "BaseException.__getattribute__")=true by cases Qt <;> decide)]
 unfold boundAndCalled;rw[U7.ga.bind];refine ae^ak^kz^wL U7.ga.plain PySem.F.entry_bexc_ga^@check_slot (U0 prog w) _ _ s "BaseException.__getattribute__" "BaseException" "__getattribute__" (.ref x) [.str name tk] [] _ i b sub (PySem.F.args_bexc_ga _ _) ?_;refine ir h (λa s' z=>?_) λ_ _ z=>z.elim;rcases a with(_|_|_|_)|_ <;> first|exact z|exact z.elim
theorem IG{v:i'}{Q:Fin->UJ->Prop}(X:K.In s.heap)(I:InstAt s.heap x ox C od)(a:findObj K C od name=ih^.value v)(h:Q (.done^.ret v) s) :
  UL (U0 prog w) A (Yh.«object.__getattribute__» #[[.ref x,.str name tk],[]]) Q E s:=by
 have b:=I.type (M:=U0 prog w);have c:=looks_find (M:=U0 prog w) X I a;refine ae^ak^ae^ak^ae^b.here^ae^c.here ?_;exact ak h
theorem KU{v:i'}{Q:i'->UJ->Prop}(X:K.In s.heap)(I:InstAt s.heap x ox C od)(c:eV K C)(a:findObj K C od name=ih^.value v)(b:handedIn v=true)
  (h:Q v { s with toks:=s.toks+1 }):UL (U0 prog w) A (getAttr (.ref x) name Qt) Q E s:=by
 unfold getAttr;refine ae^wpAny_mkText ?_;exact Bo (s:={ s with toks:=s.toks+1 }) X I c^IG (s:={ s with toks:=s.toks+1 }) X I a^handed_on b h
theorem IH{Q:a2 i'->UJ->Prop}(X:K.In s.heap)(I:InstAt s.heap x ox C od)(c:eV K C)(h:Q (ih^.ref C) { s with toks:=s.toks+1 }):UL (U0 prog w) A (getAttr? (.ref x) "__class__") Q E s:=by
 have a:findObj K C od "__class__" = ih^.bind (.builtin "getset_descriptor.__get__")^.builtin "object.__class__":=by
  obtain⟨cd,b,_⟩:=sf c.hd;unfold findObj;rw[b,wN,c.ka,wN]
  dsimp only
  rw[c.kn,wN]
  dsimp only
  rw[c.kt,wN]
 unfold getAttr? getAttrBy?;refine ae^wpAny_mkText^ae^nu ?_;have d:=I.type (M:=U0 prog w);have e:=looks_find (M:=U0 prog w) X I a;refine Bo (s:={ s with toks:=s.toks+1 }) X I c ?_;refine ae^ak^ae^ak^ae^Z7 (s:={ s with toks:=s.toks+1 }) d^ae^Z7 (s:={ s with toks:=s.toks+1 }) e ?_;show UL _ _ (holding [.builtin "object.__class__"]^call (.builtin "getset_descriptor.__get__") [.builtin "object.__class__",.ref x,.ref C] >>= ret) _ _ _;refine ae^ed^kz^class_get (s:={ s with toks:=s.toks+1 }) (ox:=ox) (od:=od) X I c.ob ?_;exact ak^handed_on Z^ak h
theorem HN{M:ZI}(X:K.In h)(c:eV K C):aad M h (isType^.ref C) true:=by
 obtain⟨d,a,_⟩:=sf c.hd;unfold clsIn at a;split at a
 next b =>
  intro e f g s' k q;exact ae^wG (part:=ih headPart) (k _ _^X _ _ b)^ak q
 next=>cases a
theorem B'(c:eV K C):KitX K (.ref x) (.ref C) (λh=>InstAt h x ox C od) where
 ty:=λ_ _ _ I=>I.type
 it:=λ_ _ X _=>HN X c
 ne:=λh tp _ _ _ _ X b=>by
  obtain⟨f,a,_⟩:=sf c.hd;cases q:(UZ C == .ref tp) with
  |false=>rfl
  |true =>
   have e:C=tp:=acD^dJ.mp q;unfold clsIn at a;split at a
   next d =>
    have two:=(X _ _ d).symm;rw[e,b]at two;cases two
   next=>cases a
 ca:=λX I k=>IH X I c k
end
theorem bH.there{o:HO}(x:bH P w H h a o):∃b,h.get? a=ih b:=by
 cases o with
 |lst xs=>obtain⟨_,_,_,_,e⟩:=x;exact#[_,e]
 |tup xs=>obtain⟨_,_,_,b,e,_⟩:=x;exact#[_,e]
 |dK kvs=>obtain⟨_,_,_,_,o,_,_,e,_⟩:=x;exact#[_,e]
 |dT kvs=>obtain⟨_,_,_,_,o,_,_,e,_⟩:=x;exact#[_,e]
 |set S n=>obtain⟨o,_,_,_,e,_⟩:=x;exact#[_,e]
 |ins C dx fs=>obtain⟨_,_,_,e,_⟩:=x;exact#[_,e]
 |own y=>exact x
 |xd fs=>obtain⟨_,⟨_,_,_,e,_⟩,_⟩:=x;exact#[_,e]
 |oS lo hi=>obtain⟨_,_,_,e⟩:=x;exact#[_,e]
 |bf b u=>obtain⟨e,_⟩:=x;exact#[_,e]
 |jn ps=>exact#[_,x]
 |met f y=>exact#[_,x]
 |ext c=>exact x.2.1
section
variable{o:HO}
theorem Inv.uF(I:Inv X J σ H s)(e:s.heap.get? a=none):H a=none:=by
 cases q:H a with
 |none=>rfl
 |some u =>
  obtain⟨b,z⟩:=(I.aH a u q).there;rw[e]at z;cases z
theorem Inv.put(I:Inv X J σ H s)(k:∀b u,s.heap.get? b=ih u->h'.get? b=ih u)(e:s.heap.get? a=none)(new:bH X.prog X.w (upd H a o) h' a o):Inv X J σ (upd H a o) { s with heap:=h' }:=by
 have d:=I.uF e;have ne:∀b u,s.heap.get? b=ih u->b≠a:=λb u q z=>by rw[z,e]at q;cases q
 refine I.un (t':=s.toks) #[λb u q n _ _=>k b u q,λb u q n _ _=>#[u.slots,k b u q],λb u q n _=>by rw[ag^ne b u q];exact n,λb u q _=>#[u,k b u q],λb xs q=>by rw[ag^aA q d];exact q,
  λb u v q=>by rw[ag^aA q d];exact q,λb ps q=>#[#v[],by rw[ag^aA q d,q];simp]] λb u q=>?_
 by_cases f:b=a
 .subst f;rw[ah]at q;cases q;exact new
 .rw[ag f]at q
  exact(I.aH b u q).eF (λc v _ z=>k c v z) (λc z=>by rw[ag^aA z d];exact z) λc xs z=>by rw[ag^aA z d];exact z
end
def cL(C:FG)(dx:Option FG)(a:FG):HO:=.ext λh=>∃t,h.get? a=ih { cls:=.ref C,dict:=dx,data:=.fields #v[.ref t,.none,.none,.none,.bool false,.none] }
def fu(d:FG)(fs:List (Gd×V)):HO:=.ext λh=>fs.length<=100 /\∃mA,h.Ns1 d mA/\(∀f,ez (fs.lookup f) (mA f))/\YI mA (fs.map (·.1))
section
variable{fs:am (Gd×V)}
theorem t7{t:FG}(e:h.get? a=ih { cls:=.ref C,dict:=dx,data:=.fields #v[.ref t,.none,.none,.none,.bool false,.none] }):bH P w H h a^cL C dx a:=
 #[#[t,e],#[_,e],λ_ _ ⟨t,q⟩ k=>#[t,k _ q]]
theorem KW(z:fs.length<=100)(n:h.Ns1 d mA)(r:∀f,ez (fs.lookup f)^mA f)(wi:YI mA^fs.map (·.1)):bH P w H h d^fu d fs:=
 #[#[z,mA,n,r,wi],(let ⟨o,_,_,e,_⟩:=n;#[o,e]),λ_ _ ⟨z,mA,n,r⟩ k=>#[z,mA,n.at k,r]]
end
section
variable{fs:am (Gd×V)}{f:Gd}
theorem Inv.excAt(I:Inv X J σ H s)(e:H a=ih^cL C dx a):∃t,s.heap.get? a=ih { cls:=.ref C,dict:=dx,data:=.fields #v[.ref t,.none,.none,.none,.bool false,.none] }:=(I.aH a _ e).1
theorem Inv.t8(I:Inv X J σ H s)(e:H d=ih^fu d fs):fs.length<=100 /\∃mA,s.heap.Ns1 d mA/\(∀f,ez (fs.lookup f)^mA f)/\YI mA^fs.map (·.1):=(I.aH d _ e).1
theorem HP{Q:Unit->UJ->Prop}(I:Inv X J σ H s)(e:H a=ih^cL C none a)(c:eV X.K C)(no:Yk X.K (.ref C) f=ih none)(W:RelV y u)
  (h:∀d s',H d=none->d≠a->Inv X J σ (upd (upd H d^fu d [(f,y)]) a^cL C (ih d) a) s'->Q Unit.unit s'):UL X.dt A (setAttr (.ref a) f u) Q E s:=by
 obtain⟨t,r⟩:=I.excAt e;have N:InstAt s.heap a _ C none:=#[r,Z,Z,VL];refine UQ I.bX N c.sa^IF (s:={ s with toks:=s.toks+1 }) I.bX N c no ?_;obtain⟨cls,ya,Qv⟩:=sf c.hd;refine ae^ak^ae (show UL _ _ (instanceDict a true) _ _ _ from ?_);refine ae^wG (s:={ s with toks:=s.toks+1 }) r^ae^Z7 (s:={ s with toks:=s.toks+1 }) (looks_clsIn I.bX ya) ?_;rw[Qv];refine ae^wpAny_alloc ?_;have fresh:s.heap.get? s.aj=none:=r9^aP _;have l:a≠s.aj:=bK^bA r;have L:(s.heap.push { cls:=.type "dict",data:=.dict #v[] }).get? a=_:=a9 _ r;refine ae^wpAny_update (s:={ s with heap:=s.heap.push { cls:=.type "dict",data:=.dict #v[] },toks:=s.toks+1 }) L^ak ?_;generalize D:(s.heap.push { cls:=.type "dict",data:=.dict #v[] }).update a (λo=>{ o with dict:=ih s.aj })=h1;have w:h1.get? a=ih { cls:=.ref C,dict:=ih s.aj,data:=.fields #v[.ref t,.none,.none,.none,.bool false,.none] }:=by
  rw[<-D];exact ng _ L Z
 have M:∀b o,b≠a->s.heap.get? b=ih o->h1.get? b=ih o:=λb o j q=>by
  rw[<-D,kA _ _^aS j];exact a9 _ q
 have S:h1.get? s.aj=ih { cls:=.type "dict",data:=.dict #v[] }:=by
  rw[<-D,kA _ _ l];exact bU _ Z
 have za:h1.Ns1 s.aj (λ_=>none):=ZX #[_,#v[],_,S,Z,(λe xb=>absurd xb^by simp),λ_=>rfl]
 refine ae^ak^ae^wpAny_nsSet1 (s:={ s with heap:=h1,toks:=s.toks+1 }) za λh2 O F=>?_;have yb:YI (λ_=>none) ([]:am Gd):=λg G=>absurd Z G;obtain⟨xf,yd,zd,T,U,V⟩:=O.count^UR f u yb;refine ae^wpAny_lookBehind T (by rw[U];exact pastItsLine_dict^ec V^by rw[c4,jA,aV];decide)^ak ?_
 refine h s.aj _ (I.uF fresh) (aS l) ?_;have Y:=I.uF fresh;have xd:∀b o,b≠a->s.heap.get? b=ih o->h2.get? b=ih o:=λb o j q=>(F.2 b (λz=>by rw[z,fresh]at q;cases q)).trans (M b o j q)
 have xe:h2.get? a=_:=(F.2 a l).trans w;have ye:upd H s.aj (fu s.aj [(f,y)]) a=ih^cL C none a:=by rw[ag l];exact e
 have zb:Inv X J σ (upd H a^cL C (ih s.aj) a) { s with heap:=h1,toks:=s.toks+1 }:=by
  refine I.write (x:=a) (e:=a) (by rw[e];exact VL) (.inl Z) (λb u j q=>M b u j q) #[_,w]^t7 w
 have k:upd H a (cL C (ih s.aj) a) s.aj=none:=by rw[ag^aS l];exact Y
 have xc:upd (upd H s.aj^fu s.aj [(f,y)]) a^cL C (ih s.aj) a=upd (upd H a^cL C (ih s.aj) a) s.aj^fu s.aj [(f,y)]:=by
  funext b
  unfold upd
  by_cases h1:b=a
  .subst h1;rw[aB Z,ao l,aB Z]
  .rw[ao h1]
   by_cases h2:b=s.aj
   .rw[aB h2,aB h2]
   .rw[ao h2,ao h2,ao h1]
 rw[xc];have ze:upd H a (cL C (ih s.aj) a) a=ih^cL C (ih s.aj) a:=ah;have fp:gb X J (upd H a^cL C (ih s.aj) a) s.aj:=by
  have z:=I.hg (H':=upd H a^cL C (ih s.aj) a) (aP _) k;exact z
 have i:Inv X J σ (upd H a^cL C (ih s.aj) a) { s with heap:=h2,toks:=s.toks+2 }:=
  Inv.turned (s:={ s with heap:=h1,toks:=s.toks+1 }) (h':=h2) zb (it:=s.aj) (t':=s.toks+2) (λb o j q=>(F.2 b j).trans q) fp.1 fp.2.1 fp.2.2.2.1 fp.2.2.2.2.1 fp.2.2.2.2.2
 refine#[i.ok,i.os,i.bare,?_,i.loc,i.cell,?_,?_,?_,?_,i.len]
 .have B:=i.base
  have yc:∀b o,X.eg.heap.get? b=ih o->b ∉ X.ex->b≠s.aj:=λb o q v z=>by
   obtain⟨o',P⟩:=I.base.there b o q v;rw[z,fresh]at P;cases P
  refine#[B.keep,B.slot,λb o q n v=>by rw[ag^yc b o q v];exact B.free b o q n v,B.there,λb xs q=>?_,λb o u q=>?_,λb ps q=>?_]
  .have z:=B.gy b xs q;rw[ag^aA z k];exact z
  .have z:=B.gN b o u q;rw[ag^aA z k];exact z
  .obtain⟨m,z⟩:=B.g8 b ps q;exact#[m,by rw[ag^aA z k];exact z]
 .rw[ag^aS fp.2.1];exact i.free
 .intro x c q;rw[ag^fp.2.2.2.2.1 x c q];exact i.eR x c q
 .intro p R
  obtain⟨zc,p2,p3,p4,p5⟩:=i.pin p R;exact#[zc,by rw[ag^fp.2.2.2.2.2 p R];exact p2,p3,p4,p5]
 .intro b o q
  by_cases j:b=s.aj
  .subst j
   rw[ah]at q;cases q;refine KW (by simp) O (λg=>?_)^λg G=>?_
   .show ez (VP g [(f,y)]) (if g=f then ih u else none)
    rw[dM]
    by_cases q:g=f
    .rw[aB q,dJ.mpr q];exact W
    .rw[ao q,iq.mpr q];exact VL
   .by_cases q:g=f
    .rw[q];simp
    .exact absurd (ao q) G
  .rw[ag j]at q
   exact(i.aH b o q).eF (λ_ _ _ z=>z) (λc z=>by rw[ag^aA z k];exact z) λc xs z=>by rw[ag^aA z k];exact z
end
end L2
namespace L2
open Spec PyProof.Rows W
mutual
inductive Rep(H:Hp):V->UN->Prop where
 |aK:Rep H .aK .none
 |bl (b:Bool):Rep H (.bl b) (.bool b)
 |int (i:Int):Rep H (.int i) (.int i)
 |str (x:Gd):Rep H (.str x) (.str x)
 |lst {a:FG}{xs:List V}{ds:List UN}:H a=ih (.lst xs)->bM H xs ds->Rep H (.ref a) (.list ds)
 |tup {a:FG}{xs:List V}{ds:List UN}:H a=ih (.tup xs)->bM H xs ds->Rep H (.ref a) (.tuple ds)
inductive bM(H:Hp):List V->List UN->Prop where
 |nil:bM H [] []
 |cons {x:V}{d:UN}{xs:List V}{ds:List UN}:Rep H x d->bM H xs ds->bM H (x::xs) (d::ds)
end
section
mutual
theorem Rep.reads(I:Inv X J σ H s):∀{v:V}{d:UN}{u:i'},Rep H v d->RelV v u ->∃f,Reads s.heap u d f
 |_,_,_,.aK,r=>by cases r;exact#[_,.none]
 |_,_,_,.bl b,r=>by cases r;exact#[_,.bool b]
 |_,_,_,.int i,r=>by obtain⟨t,rfl⟩:=r;exact#[_,.int i t]
 |_,_,_,.str x,r=>by obtain⟨t,rfl⟩:=r;exact#[_,.str x t]
 |_,_,_,.lst (a:=a) (xs:=xs) e rs,r=>by
  cases r
  obtain⟨_,its,n,g,c⟩:=(show bH X.prog X.w H s.heap a^.lst xs from I.aH a _ e);obtain⟨f,h⟩:=bM.reads I rs g;exact#[_,.list c Z Z h]
 |_,_,_,.tup (a:=a) (xs:=xs) e rs,r=>by
  cases r
  obtain⟨_,its,g,l,c,j,n,k,_⟩:=(show bH X.prog X.w H s.heap a^.tup xs from I.aH a _ e);obtain⟨f,h⟩:=bM.reads I rs g;exact#[_,.tuple c j k h]
theorem bM.reads(I:Inv X J σ H s):∀{vs:am V}{ds:am UN}{us:am i'},bM H vs ds->Vals vs us ->∃a,ReadsAll s.heap us ds a
 |_,_,_,.nil,r=>by cases r;exact#[_,.nil]
 |_,_,_,.cons r rs,b=>by
  cases b with
  |cons q c =>
   obtain⟨a,h1⟩:=Rep.reads I r q;obtain⟨bs,h2⟩:=bM.reads I rs c;exact#[_,.cons h1 h2]
end
mutual
theorem Rep.same:∀{v:V}{d:UN},Rep H v d->ax H H'->Rep H' v d
 |_,_,.aK,_=>.aK
 |_,_,.bl b,_=>.bl b
 |_,_,.int i,_=>.int i
 |_,_,.str x,_=>.str x
 |_,_,.lst e rs,k=>.lst (k _ _ e)^bM.same rs k
 |_,_,.tup e rs,k=>.tup (k _ _ e)^bM.same rs k
theorem bM.same:∀{vs:am V}{ds:am UN},bM H vs ds->ax H H'->bM H' vs ds
 |_,_,.nil,_=>.nil
 |_,_,.cons r rs,k=>.cons (Rep.same r k)^bM.same rs k
end
end
def El:R2:=λx y H Q=>∃da db,Rep H x da/\Rep H y db/\da.canLay0=true/\db.canLay0=true/\da.depth<=60/\Q (.bl (X8 da db)) H
def Em:R2:=λx y H Q=>∃da db,Rep H x da/\Rep H y db/\da.canLay0=true/\db.canLay0=true/\da.depth<=60/\Q (.bl (!X8 da db)) H
theorem uG(g:X.A.units+64<YZ):cw X (X2 .Eq) El:=by
 rintro J s σ H x y v u Q I a b ⟨i,db,c,d,e,f,j,q⟩;obtain⟨k,h1⟩:=c.reads I a;obtain⟨bs,h2⟩:=d.reads I b;exact SeqAt.compareEq_reads h1 h2 e f () #[.bl _,H,I,Z,q]
theorem qx(g:X.A.units+64<YZ):cw X (X2 .NotEq) Em:=by
 rintro J s σ H x y v u Q I a b ⟨i,db,c,d,e,f,j,q⟩;obtain⟨k,h1⟩:=c.reads I a;obtain⟨bs,h2⟩:=d.reads I b;exact SeqAt.compareNe_reads h1 h2 e f () #[.bl _,H,I,Z,q]
def OU(vW:Bool):R2:=λx y H Q=>∃d ds,Rep H x d/\(Rep H y (.list ds)\/Rep H y (.tuple ds))/\d.canLay0=true/\X' ds=true/\d.depth<=60 /\
 Q (.bl (if vW then !(ds.any λy=>X8 y d) else ds.any λy=>X8 y d)) H
theorem DC(g:X.A.units+64<YZ):cw X (X2 .In)^OU false:=by
 rintro J s σ H x y v u Q I e a ⟨d,ds,f,r2,b,c,i,q⟩;obtain⟨j,h1⟩:=f.reads I e;rcases r2 with r2|r2
 .obtain⟨bs,h2⟩:=r2.reads I a
  exact SeqAt.in_list_reads h2 h1 c b () #[.bl _,H,I,Z,q]
 .obtain⟨bs,h2⟩:=r2.reads I a
  exact SeqAt.in_tuple_reads h2 h1 c b () #[.bl _,H,I,Z,q]
def uY(H:Hp)(x:V):Prop:=(∃z:Gd,x=.str z/\z.length<=100000)\/x=.aK \/∃a d,x=.ref a/\Rep H x d/\d.showable=true/\d.hasDict=false/\d.depth<=50/\d.shown.length<=100000
def OV(te:TE):TE:=λσ H Q=>te σ H λx Y=>uY Y x /\∀y:Gd,y.length<=100000->Q (.str y) Y
theorem DD(p:X.A.units+64<YZ)(i:X.A.guards=ih [])(j:PE X e te):PE X (.FormattedValue e (-1) none pos)^OV te:=by
 intro J s σ H Q I h;refine wpAny_FormattedValue_plain^aG (j J s σ H _ I h) λv s1 B=>?_;obtain⟨x,Y,b,c,f,q⟩:=B;rcases f with⟨z,rfl,g⟩|rfl|⟨a,d,rfl,l,m,n,w,o⟩
 .obtain⟨t,rfl⟩:=c
  exact wpAny_formatField_str #[.str z,Y,b,#[_,Z],q z g] #[.str z,Y,b.tok _,#[_,Z],q z g] (by rw[aV];omega)
 .cases c
  exact wpAny_formatField_none #[.str "None",Y,b.tok _,#[_,Z],q _ ∅]
 .obtain⟨y,r⟩:=l.reads b c
  cases c
  exact formatField_of_reads r m (λz=>by rw[n]at z;cases z) i () (λ_ _ z=>z) (λh' u tk k=>#[.str d.shown,Y,b.kept k,#[_,Z],q _ o]) (by rw[aV];omega)
def PJ(X:Cx)(vs:List VH)(n:Nat)(t:St->Hp->(Hp->Prop)->Prop):Prop:=
 ∀J s σ H (cG:Gd) (Q:Hp->Prop),cG.length+n * 100000<=2000000->Inv X J σ H s->t σ H Q ->
  Joins X.dt X.A X.xe (evalEach vs X.env) cG (λout s1=>out.length<=2000000 /\∃Y,Inv X J σ Y s1/\Q Y) s
def Mg(te:TE)(tr:St->Hp->(Hp->Prop)->Prop):St->Hp->(Hp->Prop)->Prop:=λσ H Q=>te σ H λx Y=>(∃y:Gd,x=.str y/\y.length<=100000)/\tr σ Y Q
def Mh:St->Hp->(Hp->Prop)->Prop:=λ_ H Q=>Q H
theorem DE:PJ X [] 0 Mh:=λJ s σ H a Q b I h=>#[(),H,I,h]
theorem qh{v:VH}{vs:am VH}{n:Nat}{tr:St->Hp->(Hp->Prop)->Prop}(c:PE X v te)(d:PJ X vs n tr):PJ X (v::vs) (n+1)^Mg te tr:=by
 intro J s σ H a Q i I h;refine aG (c J s σ H _ I h) λu s1 ⟨x,Y,f,g,⟨y,e,j⟩,q⟩=>?_;subst e;obtain⟨t,rfl⟩:=g;have b:(a++y).length=a.length+y.length:=strLen_append ..;exact#[y,t,Z,by rw[b,aV];omega,d J s1 σ Y (a++y) Q (by rw[b];omega) f q]
def Nb(tr:St->Hp->(Hp->Prop)->Prop):TE:=λσ H Q=>tr σ H λY=>∀y:Gd,y.length<=2000000->Q (.str y) Y
theorem CZ{f g:VH}{rest:am VH}{n:Nat}{tr:St->Hp->(Hp->Prop)->Prop}(i:PJ X (f::g::rest) n tr)(r:n<=20:=by decide):PE X (.JoinedStr (f::g::rest) pos)^Nb tr:=by
 intro J s σ H Q I h;have z:=i J s σ H ZP _ (by have:ZP.length=0:=rfl;omega) I h
 refine wpAny_JoinedStr ?_;have mono:∀(l:am (Zi i')) (c:Gd) (P b:Gd->UJ->Prop) (s:UJ),(∀o s,P o s->b o s)->Joins X.dt X.A X.xe l c P s->Joins X.dt X.A X.xe l c b s:=by
  intro l
  induction l with
  |nil=>intro c P b s k q;exact k _ _ q
  |cons a l j=>intro c P b s k q;exact aG q λv s1 ⟨y,t,e,d,m⟩=>#[y,t,e,d,j _ P b s1 k m]
 refine mono _ _ _ _ _ ?_ z;rintro o s1 ⟨d,Y,p,q⟩;exact#[by rw[aV];omega,.str o,Y,p.tok _,#[_,Z],q o d]
end L2
namespace L2
open Spec PyProof.Rows W
section
variable{CX:gR}{k:Nat}{E:XK}{p:Z4}{t:TA}
theorem JD(q:f7 X.K C^ih^.ref fI=true)(l:isFn X.K^.ref fI=true)(F:aT X.prog X.w X.K X.mg X.base CX k fI fd ps sp)(m:aZ (k+1) X.A)(n:Binds X.K fd ps [])(o:Passes CX X E)(I:Inv X J σ H s)(r:Vals vs us)(a5:us.length<=100)
  (h:∀e,H e=none->sp (.ref e::vs) (upd H e^cL C none e) (λv H2=>v=.aK/\Q (.ref e) H2) E):wA X (call (.ref C) us) (EP X J σ Q) X.xe s:=by
 obtain⟨⟨up,N,O,qn,bs,P,R,S,U,M,od,W,Y,xa,ya,za,mN,i,ns,p,T⟩⟩:=pQ I.bX q;obtain⟨oI,lk,oc⟩:=gF.mp (show(X.K.lookup fI).map (·.cls)=ih^.type "function" from dJ.mp l);have h1:=h (s.heap.objs.size+1)^I.aH.fresh^gm _;have bX:=I.bX;have b:Inv X J σ (upd H (s.heap.objs.size+1)^cL C none (s.heap.objs.size+1)) { s with heap:=iB s.heap C us }:=I.put (λ_ _ z=>nE z) (r9^gm _)^t7 Bn;have e0:=b.qY.make C us [];have j:=m.make C us [];have f:Vals (V.ref (s.heap.objs.size+1)::vs) (UZ (s.heap.objs.size+1)::us):=.cons Z r;have t:(UZ (s.heap.objs.size+1)::us).length=ps.length:=by rw[<-f.length];exact F.len _ _ _ _ h1
 have c:=n { s with heap:=iB s.heap C us } (UZ (s.heap.objs.size+1)::us) b.bX (by rw[e6];exact t)
 rw[e6]at c;have run:=F.run _ X.stack _ _ #[UZ (s.heap.objs.size+1)::us,[]] (UZ (s.heap.objs.size+1)::us) _ _ E j e0 c f h1;obtain⟨x,g,d,tk,os⟩:=s;refine GG U8 T i ns p (bX _ _ lk) oc (by rw[aV];omega)^kz^lJ run λr s' a=>?_
 cases r with
 |error e=>exact o J σ _ _ e s' b a
 |ok y =>
  cases y with
  |ret u =>
   obtain⟨v,H',B,D,G,L⟩:=b.after a;subst G;exact#[D,.ref (x.objs.size+1),H',B,Z,L]
  |next=>exact Vn a
  |brk=>exact Vn a
  |cont=>exact Vn a
def Nc(C:FG)(sp:Sp)(E:XK)(t:TA):TE:=λσ H Q=>t σ H λvs Y=>vs.length<=100 /\∀e,Y e=none->sp (.ref e::vs) (upd Y e (cL C none e)) (λv H2=>v=.aK/\Q (.ref e) H2) E
theorem C0(q:f7 X.K C^ih^.ref fI=true)(d:isFn X.K^.ref fI=true)(kp:Yv X.K^.ref C=true)(F:aT X.prog X.w X.K X.mg X.base CX k fI fd ps sp)(f:aZ (k+1) X.A)(g:Binds X.K fd ps [])(i:Passes CX X E)
  (j:Gl X x) (l:X.mg x=ih^.ref C) (m:PA X (e::es) t) (b:(x==("__debug__" : Gd))=false:=by decide)
  (n:Vc (e::es) X.env=(false,eval e X.env)::Vc es X.env:=by rfl) (c:(backTo pos^Vc es X.env).any (·.1)=false:=by rfl):PE X (.Call (.Name x p) (e::es) [] pos)^Nc C sp E t:=by
 intro J s σ H Q I h;refine m8^md I j l ?_ b;refine callWith_K (h₀:=X.base) I.ok.mod.lB kp (aG (m pos J s σ H _ I h) λus s1 ⟨vs,Y,a,r,a5,o⟩=>#[a.bX,?_]) n c;exact JD q d F f g i a r (by show us.length<=100;rw[<-r.length];exact a5) o
structure om(K:Ys)(B:FG):Prop where
 rd:readsIn K B (.type "type")=true
 ga:specialIn K (.ref B) "__getattribute__" = ih (ih (.builtin "type.__getattribute__"))
 fi:findCls K (.ref B) (.type "type") "__init__" = ih (.val (.builtin "ValueError.__init__"))
theorem GY{i:a2 i'}(c:eV X.K C)(q:f7 X.K C i=true)(I:Inv X J σ H s)(e:H a=ih^cL C dx a)(h:Q .aK H) :
  wA X (call (.builtin "ValueError.__init__") [.ref a,u]) (EP X J σ Q) X.xe s:=by
 obtain⟨t,l⟩:=I.excAt e;obtain⟨⟨up,N,w,qn,bs,y,A,B,D,v,od,E,G,L,M,O,mN,n,ns,P,T⟩⟩:=pQ I.bX q;have FI:=U8;obtain⟨f,g,d,tk,os⟩:=s;refine kz^wL FI.init.plain FI.initEntry^wpAny_check_init_subT (rest:=[u]) FI T n l Z ?_;have p:(f.push { cls:=.type "tuple",data:=.seq #v[u] }).get? a=ih { cls:=.ref C,dict:=dx,data:=.fields #v[.ref t,.none,.none,.none,.bool false,.none] }:=a9 _ l;have m:((f.push { cls:=.type "tuple",data:=.seq #v[u] }).update a^Y9 λz=>z.setIfInBounds 0^.ref f.objs.size).get? a=ih { cls:=.ref C,dict:=dx,data:=.fields #v[.ref f.objs.size,.none,.none,.none,.bool false,.none] }:=ng _ p Z;have r:∀k,EP X J σ Q .none #[(f.push { cls:=.type "tuple",data:=.seq #v[u] }).update a^Y9 λz=>z.setIfInBounds 0^.ref f.objs.size,g,d,k,os]:=λk=>by
  refine#[.aK,upd H a^cL C dx a,?_,Z,?_]
  .exact Inv.write (s:=#[f,g,d,tk,os]) I (x:=a) (e:=a) (t':=k) (by rw[e];exact VL) (.inl Z) (λb o j z=>by rw[kA _ _^aS j];exact a9 _ z) #[_,m]^t7 m
  .have:upd H a^cL C dx a=H:=by
    funext b;unfold upd
    by_cases j:b=a
    .rw[aB j,j,e]
    .rw[ao j]
   rw[this];exact h
 wp_walk
 exact r _
def II(X:Cx)(t:TA):TE:=λσ H Q=>t σ H λvs Y=>∃a C dx y i,vs=[.ref a,y]/\Y a=ih (cL C dx a)/\eV X.K C/\f7 X.K C i=true/\Q .aK Y
theorem Az{pl:Zi Bool}(b:om X.K B)(k:Gl X x)(l:X.mg x=ih^.ref B)(m:PA X (e::es) t)(g:(x==("__debug__" : Gd))=false:=by decide)
  (n:Vc (e::es) X.env=(false,eval e X.env)::Vc es X.env:=by rfl) (j:(backTo pos^Vc es X.env).any (·.1)=false:=by rfl)
  (o:eval (.Call (.Attribute (.Name x p) "__init__" Qg) (e::es) [] pos) X.env=(do
   let d <- eval (.Name x p) X.env
   standAt Qg.atName
   let (f,first) <- holding [d] (getMethod d "__init__" pl)
   callWith pos f first (backTo pos^Vc (e::es) X.env) (backToKw pos^keywordEach [] X.env)):=by rfl) :
  PE X (.Call (.Attribute (.Name x p) "__init__" Qg) (e::es) [] pos)^II X t:=by
 intro J s σ H Q I h;refine methodCall_KW (pl:=pl) (md I k l ?_ g) o;refine method_cls I.bX b.ga^cls_value I.bX b.rd b.fi Z ?_;refine FF (aG (m pos J { s with toks:=s.toks+1 } σ H _ (I.tok _) h) λus s1 G=>?_) n j;obtain⟨vs,Y,r,u,v⟩:=G;obtain⟨a,C,dx,y,i,rfl,w,c,z,q⟩:=v;obtain⟨D,E,rfl,A,F⟩:=u.two;cases A
 exact GY c z r w q
end
section
variable{o:VH}{f:Gd}
def Nd(X:Cx)(ta tv:TE)(f:Gd):TS:=λD σ H=>tv σ H λy Y=>ta σ Y λx H2=>∃a C,x=.ref a/\H2 a=ih (cL C none a)/\eV X.K C/\Yk X.K (.ref C) f=ih none /\
 ∀d,H2 d=none->d≠a->D.nx σ (upd (upd H2 d (fu d [(f,y)])) a (cL C (ih d) a))
theorem C1(b:PE X o ta)(e:PE X value tv)(g:swapsWith value (ih^.Attribute o f Qj) pos.line X.env=pure false:=by rfl):PS X (.Assign [.Attribute o f Qj] value pos)^Nd X ta tv f:=by
 intro J s σ H D I h;refine US (aG (e J s σ H _ I h) λu s1 ⟨y,Y,i,j,q⟩=>aG (b J s1 σ Y _ i q) λk s2 w=>?_) g;obtain⟨x,H2,l,m,a,C,ex,p,c,n,r⟩:=w;subst ex;obtain rfl:k=UZ a:=m;exact HP l p c n j λd v h1 h2 t=>#[σ,_,t,r d h1 h2]
def En(K:Ys):List V->Hp->VK->Prop:=λxs H Q=>∃x c t cv b,xs=[x,c]/\RelV c cv/\(gP K H x t \/∃a C dx,x=.ref a/\t=.ref C/\H a=ih (cL C dx a)/\eV K C/\(∀d,dx=ih d ->∃fs,H d=ih (fu d fs)))/\kitOne K t cv=ih b/\Q (.bl b) H
theorem l6:cU X (.builtin "isinstance") (λxs H Q=>(∃x,(∃C,xs=[x,.ref C])\/(∃T,xs=[x,.ty T]))/\En X.K xs H Q):=by
 rintro J s σ H xs us Q I r ⟨o,x,c,t,p,b,rfl,j,ty,e,q⟩;obtain⟨u,v,rfl,k,g⟩:=r.two;have l:v=p:=by
  obtain⟨B,⟨C,z⟩|⟨T,z⟩⟩:=o
  .cases z;cases j;cases g;rfl
  .cases z;cases j;cases g;rfl
 subst l;rcases ty with ty|⟨a,C,dx,rfl,rfl,w,c,y⟩
 .exact IA I k ty e λtk=>#[.bl b,H,I.tok _,Z,q]
 .cases k
  obtain⟨t,i⟩:=I.excAt w;cases dx with
  |none =>
   have f:InstAt s.heap a _ C none:=#[i,Z,Z,VL];exact kia_one (B' c) I.bX f e (λz=>nomatch z) λtk=>#[.bl b,H,I.tok _,Z,q]
  |some d =>
   obtain⟨fs,A⟩:=y d Z;obtain⟨_,mA,n,_⟩:=I.t8 A;obtain⟨od,m,_⟩:=pN n;have f:InstAt s.heap a _ C^ih od:=#[i,Z,Z,m];exact kia_one (B' c) I.bX f e (λz=>nomatch z) λtk=>#[.bl b,H,I.tok _,Z,q]
end
def oW(K:Ys)(l:FG):It:=
 ⟨λi H=>∃xs x,au K H l xs/\xs[i]?=ih x,λi H x H'=>∃t v,H t=none/\x=.ref t/\(∀xs,au K H l xs->xs[i]?=ih v)/\H'=upd H t (.tup [.int i,v]),λi H=>∃xs,au K H l xs/\xs.length<=i⟩
theorem IJ(l e it:FG)(R:e≠it) :
  Turn P w K (.Tuple Qw n1 tp) (oW K l) [e,it] e (λi h=>(∃f,IsEnum h e it i f)/\h.IsListIter it l i) where
 mem:=by simp
 obj:=λi h st b a=>by
  obtain⟨⟨f,h1⟩,h2⟩:=st;rcases bL.mp a with z|z
  .subst z;exact#[_,h1,λv q=>by cases q]
  .have A:b=it:=by simpa using z
   subst A;obtain⟨o,q,_,d⟩:=h2;exact#[o,q,λv z=>by rw[d]at z;cases z]
 keep:=λi h h' st k=>by
  obtain⟨⟨f,h1⟩,h2⟩:=st;exact#[#[f,k e (by simp) _ h1],h2.at λo q=>k it (by simp) o q]
 item:=by
  intro X F G L hc i J s σ H E I B st M;subst F G L;obtain⟨xs,x,C,N⟩:=M;obtain⟨its,O,p,T⟩:=I.list C;obtain⟨u,U,V⟩:=O.get N;obtain⟨⟨f,h1⟩,h2⟩:=st;have j:=B e (by simp)
  have fi:=B it (by simp)
  refine wpAny_pyNext_enum_item h1 h2 p.isList (x:=u) ⇑U R λh' e1 W Y z1 xa=>#[_,Z,?_]
  refine wpAny_letOwnedTupleGo_enum (s:={ s with heap:=h',toks:=s.toks+1 }) e1 λD e2 Q=>?_;have S:e≠s.heap.objs.size:=bK^bA h1;have t:∀b o,b≠e->b≠it->s.heap.get? b=ih o->D.get? b=ih o:=λb o n1 ya q=>(Q.2 b n1).trans (xa b o n1 ya q);have za:D.get? s.heap.objs.size=ih { cls:=.type "tuple",data:=.seq #v[.int i s.toks,u] }:=(Q.2 _^aS S).trans Y;have y:H s.heap.objs.size=none:=I.aH.fresh^aP _;have lt:∀b o,s.heap.get? b=ih o->b≠s.heap.objs.size:=λb o q=>bK^bA q;have hE:∀b o,H b=ih o->b≠e/\b≠it:=λb o q=>#[(λz=>by rw[z,j.1]at q;cases q),(λz=>by rw[z,fi.1]at q;cases q)]
  have g:∀b,b ∉ [e,it]->b≠e/\b≠it:=λb a=>#[λz=>a (by simp[z]),λz=>a^by simp[z]]
  have xb:Inv X J σ (upd H s.heap.objs.size^.tup [.int i,x]) { s with heap:=D,toks:=s.toks+1 }:=by
   refine I.step (g':=s.gens) (d':=s.drawn) (t':=s.toks+1) (ch:=[e,it]) (λb a=>?_) (λb o _ _ hc q _=>t b o (g b hc).1 (g b hc).2 q) (λb o _ _ hc q _=>#[o.slots,t b o (g b hc).1 (g b hc).2 q])
    (λb o _ q n=>by rw[ag^lt b o q];exact n) (λb o hc q=>#[o,t b o (g b hc).1 (g b hc).2 q]) (λb ys q=>by rw[ag^aA q y];exact q) (λb o v q=>by rw[ag^aA q y];exact q)
    (λb ps q=>#[#v[],by rw[ag^aA q y,q];simp]) (λm yb=>?_) (λb o q=>?_) I.bare
   .rcases bL.mp a with z|z
    .subst z;exact#[j.2.2.2.1,j.2.1,j.2.2.2.2.1,j.2.2.2.2.2]
    .have A:b=it:=by simpa using z
     subst A;exact#[fi.2.2.2.1,fi.2.1,fi.2.2.2.2.1,fi.2.2.2.2.2]
   .obtain⟨o,es,ep,zb,r⟩:=yb
    exact#[o,es,ep,t _ o (aS j.2.1) (aS fi.2.1) zb,r]
   .by_cases a:b=s.heap.objs.size
    .subst a
     rw[ah]at q;cases q;exact#[by rw[aV];show 2<=_;decide,[.int i s.toks,u],.cons #[_,Z]^.cons V .nil,_,za,Z,_,Z,Z]
    .rw[ag a]at q
     refine(I.aH b o q).eF (λc v hc z=>?_) (λc z=>by rw[ag^aA z y];exact z) λc ys z=>by rw[ag^aA z y];exact z
     rcases hc with hc|hc
     .subst hc;exact t _ v (hE _ _ q).1 (hE _ _ q).2 z
     .exact t c v (hE _ _ hc).1 (hE _ _ hc).2 z
  refine#[.ref s.heap.objs.size,_,xb,Z,#[s.heap.objs.size,x,y,Z,λys xc=>by rw[I.B4 xc C];exact N,Z],#[#[u,e2],?_],λb a=>?_]
  .exact W.extBut Q.extBut^aS R
  .have:b≠s.heap.objs.size:=by
    rcases bL.mp a with z|z
    .rw[z];exact S
    .have A:b=it:=by simpa using z
     obtain⟨o,q,_⟩:=h2;rw[A];exact lt _ _ q
   rw[ag this];exact(B b a).1
 done:=by
  intro X F G L hc i J s σ H E I B st M;subst F G L;obtain⟨xs,C,N⟩:=M;obtain⟨its,O,p,T⟩:=I.list C;obtain⟨⟨f,h1⟩,h2⟩:=st;have fi:=B it (by simp)
  have zc:=O.length;exact wpAny_pyNext_enum_end (I.ok.hd hc) h1 h2 p.isList (by simp;omega) λh' yc=>#[Z,I.turned (t':=s.toks) (λb o a q=>yc b o a q) fi.1 fi.2.1 fi.2.2.2.1 fi.2.2.2.2.1 fi.2.2.2.2.2]
 self:=λ_ _ _ _ _ st h=>let ⟨⟨_,h1⟩,_⟩:=st;wpAny_pyIter_enum h1 h
def Nf(K:Ys)(ta:TA):TI:=λσ H R=>ta σ H λvs Y=>∃a,vs=[.ref a]/\(∃xs,au K Y a xs)/\R (oW K a) Y
theorem KY{a:VH}{ta:TA}{p:Z4}(d:Gl X "enumerate")(f:X.mg "enumerate" = none)(g:PA X [a] ta)(i:Vc [a] X.env=[(false,eval a X.env)]:=by rfl) :
  PI X (.Tuple Qw n1 tp) (.Call (.Name "enumerate" p) [a] [] pos)^Nf X.K ta:=by
 intro J s σ H R I h;refine Call_^kQ I d f (show VA "enumerate" = ih (.type "enumerate") by decide +kernel)^wD (aG (g pos J s σ H _ I h) λus s1 C=>?_) i Z;obtain⟨vs,Y,c,j,k⟩:=C
 obtain⟨l,e,⟨xs,m⟩,q⟩:=k;subst e;obtain⟨u,rfl,n⟩:=j.one;cases n
 obtain⟨its,y,o,A⟩:=c.list m;refine call_enumerate_list o.isList λh' e1 r B t=>?_;have v:Inv X J σ Y { s1 with heap:=h' }:=c.kept (t':=s1.toks) t;refine wpAny_pyIter_enum (s:={ s1 with heap:=h' }) e1 ?_;refine#[s1.aj+1,[s1.aj+1,s1.aj],_,_,Y,Z,v,IJ l (s1.aj+1) s1.aj^Nat.succ_ne_self _,#[#[.none,e1],r],λb w=>?_,q];rcases bL.mp w with z|z
 .subst z;exact c.hg (gm _)^c.aH.fresh^gm _
 .have x:b=s1.aj:=by simpa using z
  subst x;exact c.hg (aP _)^c.aH.fresh^aP _
theorem pL:∀{ys:am Gd}{us:am i'},Vals (ys.map V.str) us->Yr us ys:=by
 intro ys
 induction ys with
 |nil=>intro us r;cases r;exact .nil
 |cons y ys a =>
  intro us r;cases r with
  |cons q b =>
   obtain⟨t,rfl⟩:=q;exact .cons _ _^a b
def rJoin(K:Ys):V->List V->Hp->VK->Prop:=λx vs H Q=>∃(z:Gd) (p:FG) (ys:List Gd),x=.str z/\vs=[.ref p]/\(au K H p (ys.map V.str)\/aX K H p (ys.map V.str))/\(ys.map (·.length)).sum+ys.length * z.length<=1000000/\Q (.str (aaT z ys)) H
theorem KZ:vV X "str.join"^rJoin X.K:=by
 rintro J s σ H x xs v us Q I b c ⟨z,p,ys,rfl,rfl,hp,e,q⟩;obtain⟨t,rfl⟩:=b;obtain⟨u,rfl,d⟩:=c.one;cases d
 rcases hp with hp|hp
 .obtain⟨its,r,a,_⟩:=I.list hp
  exact join_list a.isList ⇑(pL r) () λt' k=>#[.str _,H,I.tok _,#[_,Z],q]
 .obtain⟨its,r,a,_⟩:=I.tuple hp
  exact join_tuple a ⇑(pL r) () λt' k=>#[.str _,H,I.tok _,#[_,Z],q]
def OW:V->Option Int->Option Int->Hp->VK->Prop:=λx lo hi H Q=>∃z:Gd,x=.str z/\z.length<=1000000/\Q (.str (Yc z lo hi)) H
theorem Mi:mX X OW:=by
 rintro J s σ H x v vl vu lo hi sl Q I e a f d ⟨z,rfl,g,q⟩;obtain⟨t,rfl⟩:=e;have b:(Yc z lo hi).length<=UM:=ec (Txt.slice_le z _ _) (by rw[aV];omega)
 refine#["str",_,PySem.F.slot_str_getitem.lookup,typeIs_str _ _ _,?_];cases f with
 |none =>
  cases d with
  |none=>exact wO (l:=none) (u:=none) (st:=none) a Z^wQ #[b,λt' k=>#[.str _,H,I.tok _,#[_,Z],q]]
  |int j c=>exact wO (l:=none) (u:=ih (j,c)) (st:=none) a Z^wQ #[b,λt' k=>#[.str _,H,I.tok _,#[_,Z],q]]
 |int i ti =>
  cases d with
  |none=>exact wO (l:=ih (i,ti)) (u:=none) (st:=none) a Z^wQ #[b,λt' k=>#[.str _,H,I.tok _,#[_,Z],q]]
  |int j c=>exact wO (l:=ih (i,ti)) (u:=ih (j,c)) (st:=none) a Z^wQ #[b,λt' k=>#[.str _,H,I.tok _,#[_,Z],q]]
def CW(Pv:Nat->List V->St->Hp->Prop)(n i m:Nat)(ys:List V)(τ:St)(H:Hp):Prop:=m=n - i/\i<=n/\Pv i ys τ H
theorem cw_next{Pv:Nat->List V->St->Hp->Prop}{n:Nat}{ys:am V}{a:St}(h:i<n)(p:Pv (i+1) ys a H):∃b,b<n - i/\CW Pv n (i+1) b ys a H:=#[n - (i+1),(),Z,h,p]
theorem pM{n:Nat}{g:TG}(Pv:Nat->List V->St->Hp->Prop)(h0:Pv 0 [] e7^upd Y p^.lst [])(k:∀i ys a H,Pv i ys a H->H p=ce ys)
  (l:∀i ys a H,i<n->Pv i ys a H->g (.int (lo+i)) a H λd o=>ti d o λb h=>if b=true then te d h λy j=>j p=ce ys/\ys.length<UM /\∃c,c<n - i/\CW Pv n (i+1) c (ys++[y]) d^upd j p^.lst (ys++[y]) else ∃c,c<n - i/\CW Pv n (i+1) c ys d h)
  (q:∀ys a H,Pv n ys a H->Q (.ref p) H):hX (kb lo n) g ti te e7 Q p Y:=by
 refine#[CW Pv n,#[n,by simp,bF _,h0],?_]
 rintro i m ys a H ⟨rfl,hi,pv⟩;refine#[k i ys a H pv,?_]
 by_cases f:i<n
 .refine .inr #[f,λx s r=>?_]
  obtain⟨e3,ex⟩:=r;subst e3 ex;exact l i ys a _ f pv
 .have e:i=n:=()
  subst e;exact .inl #[aP _,q ys a H pv]
theorem fB{g:TG}(Pv:Nat->List V->St->Hp->Prop)(h0:Pv 0 [] e7^upd Y p^.lst [])(n:∀i ys c H,Pv i ys c H->H p=ce ys/\au K H a xs)
  (o:∀i x ys c H,xs[i]?=ih x->Pv i ys c H->g x c H λf q=>ti f q λb j=>if b=true then te f j λy k=>k p=ce ys/\ys.length<UM /\∃d,d<xs.length - i/\CW Pv xs.length (i+1) d (ys++[y]) f^upd k p^.lst (ys++[y]) else ∃d,d<xs.length - i/\CW Pv xs.length (i+1) d ys f j)
  (r:∀ys c H,Pv xs.length ys c H->Q (.ref p) H):hX (j' K a) g ti te e7 Q p Y:=by
 refine#[CW Pv xs.length,#[xs.length,by simp,bF _,h0],?_]
 rintro i m ys c H ⟨rfl,hi,pv⟩;obtain⟨s,h⟩:=n i ys c H pv;refine#[s,?_]
 by_cases l:i<xs.length
 .refine .inr #[#[xs,xs[i],h,by simp[l]],λx u t=>?_]
  obtain⟨e3,ex⟩:=t;subst e3;exact o i x ys c _ (ex xs h) pv
 .have e:i=xs.length:=()
  subst e;exact .inl #[#[xs,h,aP _],r ys c H pv]
theorem l7{g:TG}(Pv:Nat->List V->St->Hp->Prop)(h0:Pv 0 [] e7^upd Y p^.lst [])(n:∀i ys c H,Pv i ys c H->H p=ce ys/\aX K H a xs)
  (o:∀i x ys c H,xs[i]?=ih x->Pv i ys c H->g x c H λf q=>ti f q λb j=>if b=true then te f j λy k=>k p=ce ys/\ys.length<UM /\∃d,d<xs.length - i/\CW Pv xs.length (i+1) d (ys++[y]) f^upd k p^.lst (ys++[y]) else ∃d,d<xs.length - i/\CW Pv xs.length (i+1) d ys f j)
  (r:∀ys c H,Pv xs.length ys c H->Q (.ref p) H):hX (jo K a) g ti te e7 Q p Y:=by
 refine#[CW Pv xs.length,#[xs.length,by simp,bF _,h0],?_]
 rintro i m ys c H ⟨rfl,hi,pv⟩;obtain⟨s,h⟩:=n i ys c H pv;refine#[s,?_]
 by_cases l:i<xs.length
 .refine .inr #[#[xs,xs[i],h,by simp[l]],λx u t=>?_]
  obtain⟨e3,ex⟩:=t;subst e3;exact o i x ys c _ (ex xs h) pv
 .have e:i=xs.length:=()
  subst e;exact .inl #[#[xs,h,aP _],r ys c H pv]
def vx(N N':List Gd)(Qf:List (Option Nat))(sc:Y0):Bool:=(VQ Qf.length).all λj=>match Qf[j]? with
 |some (ih i)=>(match N[i]? with|some x=>N'[j]? == ih x&&sc.names.lookup x==ih .free|none=>false)
 |_=>true
theorem DT(h:vx N N' Qf sc=true)(j i:Nat)(e:Qf[j]?=ih^ih i):∃x,N[i]?=ih x/\N'[j]?=ih x/\sc.names.lookup x=ih .free:=by
 have a:j<Qf.length:=(b4.mp e).1;have z:=ny.mp h j^ju.mpr a;rw[e]at z
 dsimp only at z
 split at z
 .rename_i x q
  obtain⟨b,c⟩:=nq.mp z;exact#[x,q,dJ.mp b,dJ.mp c]
 .cases z
structure Nm(x:Gd):Prop where
 lo:1<=x.length
 hi:x.length<=8
 az:∀c∈x.cps.toList,97<=c/\c<=122
def sign(c:Nat):Gd:=⟨#v[c]⟩
theorem AN:∀(b:am Nat) (a:Array Nat),(b.map sign).foldl (λa p=>a++("" : Gd).cps++p.cps) a=a++b.toArray
 |[],a=>by simp
 |c::b,a=>by
  rw[bY,List.foldl_cons,AN b];have e:("" : Gd).cps = #v[]:=rfl;rw[e]
  apply wR.mp
  simp[sign]
theorem HQ(a:am Nat):aaT ("" : Gd)^a.map sign=#[a.toArray]:=by
 unfold aaT acg;cases a with
 |nil=>rfl
 |cons c a =>
  rw[bY];show(#[(a.map sign).foldl _ (sign c).cps]:Gd)=_;rw[AN]
  apply dy Str.mk
  apply wR.mp
  simp[sign]
theorem HR{z:Gd}{c:Nat}(h:c∈(Yc z none^ih 6).cps.toList):c∈z.cps.toList:=by
 unfold Yc at h;split at h
 .exact h
 .simp only[o7]at h
  obtain⟨i,_,e⟩:=h;obtain⟨_,e2⟩:=wU.mp e;rw[<-e2];simp
theorem AO(z:Gd):(Yc z none^ih 6).length<=6:=by
 have hi:(YN none (ih 6) 1 z.length).length<=6:=by
  unfold YN sliceRange;simp only[show(1:Int)>0 by decide,hM,aE,F0]
  split <;> (try split) <;> omega
 unfold Yc;split
 .rename_i h
  have e:(YN none (ih 6) 1 z.length).length=z.length:=by simpa using h
  omega
 .show(List.filterMap _ _).toArray.size<=6
  rw[b5];exact ec (List.length_filterMap_le _ _) hi
theorem oo(a b:Gd):(a++b).cps=a.cps++b.cps:=rfl
theorem K0{z:Gd}{c:Nat}(hz:∀c∈z.cps.toList,97<=c/\c<=122)(g:97<=c/\c<=122):Nm (Yc z none^ih 6++sign c++("q" : Gd)):=by
 have a:("q" : Gd).cps = #v[113]:=⋯
 have i:=AO z;have e:(Yc z none^ih 6++sign c++("q" : Gd)).length=(Yc z none^ih 6).length+2:=by
  show(_:Array Nat).size=_;rw[oo,oo,a];show(_ ++ #v[c] ++ #v[113]).size=_;rw[sh,sh];rfl
 refine#[(),(),λd b=>?_]
 rw[oo,oo,a]at b;have f:d∈(Yc z none^ih 6).cps.toList\/d=c\/d=113:=by
  have:d∈((Yc z none^ih 6).cps ++ #v[c] ++ #v[113]).toList:=b;simp at this;rcases this with h|h|h
  .exact .inl ⇑h
  .exact .inr^.inl h
  .exact .inr^.inr h
 rcases f with h|h|h
 .exact hz d^HR h
 .rw[h];exact g
 .rw[h];omega
theorem JE{p:Gd}{c d:Nat}(h:p++sign c++("q" : Gd)=p++sign d++("q" : Gd)):c=d:=by
 have h1:=dy (λs:Gd=>s.cps.toList) h;simp only[oo]at h1;have h2:p.cps.toList++([c]++("q" : Gd).cps.toList)=p.cps.toList++([d]++("q" : Gd).cps.toList):=by
  simpa [sign,Array.toList_append] using h1
 have a:=List.append_cancel_left h2
 simpa using a
theorem uH:∀{ys found:am Gd},ys.Nodup->found.length<ys.length ->∃y∈ys,y ∉ found
 |[],found,_,h=>by simp at h
 |y::ys,found,c,h=>by
  obtain⟨n1,d⟩:=d6.mp c
  by_cases a:y∈found
  .have f:=F1 a
   have i:=F2 a;obtain⟨z,b,g⟩:=uH (found:=found.erase y) d (by rw[f];rw[c4]at h;omega)
   refine#[z,bh _ b,λq=>g ?_];have ne:z≠y:=λe=>n1 (by rw[<-e];exact b)
   exact(F3 ne).mpr q
  .exact#[y,aY,a]
theorem C2(K:Ys)(h:X.K=K):cw X (X2 .In)^oV K false:=by subst h;exact jJ
theorem HU(K:Ys)(h:X.K=K):cw X (X2 .NotIn)^oV K true:=by subst h;exact GW
theorem tj(K:Ys)(h:X.K=K):mY X^qZ K:=by subst h;exact d2
theorem jN(K:Ys)(h:X.K=K):mY X^mJ K:=by subst h;exact bu
theorem Bp{l:VH}(K:Ys)(h:X.K=K)(a:PE X l tl):PI X tg l^DO K tl:=by subst h;exact c7 a
theorem Ca{l:VH}(K:Ys)(h:X.K=K)(a:PE X l tl):PI X tg l^Ec K tl:=by subst h;exact kR a
theorem HV(K:Ys)(h:X.K=K):cU X (.builtin "len") (λxs H Q=>∃p ys,xs=[.ref p]/\(au K H p ys\/aX K H p ys)/\Q (.int ys.length) H):=by subst h;exact eQ
theorem HW(K:Ys)(h:X.K=K):cU X (.builtin "isinstance") (λxs H Q=>(∃x,(∃C,xs=[x,.ref C])\/(∃T,xs=[x,.ty T]))/\En K xs H Q):=by subst h;exact l6
theorem i2(x:Gd)(ys:am Gd):lG (.str x)^ys.map V.str=decide (x∈ys):=by
 unfold lG;rw[wV]
 induction ys with
 |nil=>simp
 |cons y ys a =>
  rw[jz,a];show((y==x)||decide (x∈ys))=decide (x∈y::ys)
  by_cases h:y=x
  .subst h;simp
  .have h':(y==x)=false:=iq.mpr h
   rw[h',wW];have:x∈y::ys ↔ x∈ys:=by simp[aS h]
   simp[this]
theorem jL(ys:am Gd):(ys.map V.str).all iF=true:=by
 rw[ny];intro v a;obtain⟨y,_,rfl⟩:=a8.mp a
 rfl
def hY(H:Hp)(a:FG):Hp:=λb=>if b=a then none else H b
theorem l9(n:b≠a):hY H a b=H b:=by unfold hY;rw[ao n]
theorem HX{o:HO}(e:hY H a b=ih o):b≠a/\H b=ih o:=by
 unfold hY at e;split at e
 .cases e
 next n=>exact⟨n,e⟩
theorem HY(e:H b=none):hY H a b=none:=by
 unfold hY;split
 .rfl
 .exact e
theorem Inv.K1(I:Inv X J σ H s)(e:H a=ih^cL C dx a)(f:∀d,dx=ih d ->∃fs,H d=ih^fu d fs):∃ox od t,InstAt s.heap a ox C od/\ox={ cls:=.ref C,dict:=dx,data:=.fields #v[.ref t,.none,.none,.none,.bool false,.none] }:=by
 obtain⟨t,b⟩:=I.excAt e;cases dx with
 |none=>exact#[_,none,t,#[b,Z,Z,VL],Z]
 |some d =>
  obtain⟨fs,g⟩:=f d Z;obtain⟨_,mA,n,r,_⟩:=I.t8 g;obtain⟨od,c,_⟩:=pN n;exact#[_,ih od,t,#[b,Z,Z,c],Z]
theorem Inv.hidden(I:Inv X J σ H s)(p:X.ex=[])(A:X.stack=X.env::X.outer)(B:X.env.frame=ih X.env.locals)(f:H a=ih^cL C dx a)(h0:X.g9 a=none)
  (k:(hideAll s.heap (a::ej X.stack)).StaysIn h') (up:s.heap.UpToSlots h'):Un X.fs [] X.g9 (hY H a) X.eg.heap h'/\cu X.prog X.w (hY H a) h':=by
 have d:Un X.fs [] X.g9 H X.eg.heap s.heap:=by have:=I.base;rw[p]at this;exact this
 have h:∀b,b∈ej X.stack->b=X.env.locals\/b∈X.fs:=λb r=>by
  have:=I.qt b r;rcases bL.mp this with z|z
  .exact .inl z
  .exact .inr z
 have t:∀{b:FG},H b=none->b≠a:=λe z=>by subst z;rw[f]at e;cases e
 have get:∀b o,s.heap.get? b=ih o->b≠a->b ∉ ej X.stack->h'.get? b=ih o:=λb o e n m=>k b o (hideAll_get _ e λz=>by
  rcases bL.mp z with z|z
  .exact n z
  .exact m z)
 have i:∀b o,X.eg.heap.get? b=ih o->b≠X.env.locals:=λb o e z=>by
  have h1:=bA e;have h2:=I.ok.above;subst z;exact absurd h1^F4.mpr h2
 have g:∀b o,b∈X.fs->s.heap.get? b=ih o ->∃sl,h'.get? b=ih { o with slots:=sl }:=λb o m e=>by
  obtain⟨_,o',j,v⟩:=(I.fV).mem m;rw[e]at j;cases j
  exact up b o e v
 refine#[#[λb o e n m _=>?_,λb o e n m _=>?_,λb o e n _=>HY (d.free b o e n^by simp),λb o e _=>?_,λb xs e=>?_,λb o u e=>?_,λb ps e=>?_],λb o e=>?_]
 .have e1:=d.keep b o e n m (by simp)
  refine get b o e1 (t^d.free b o e n^by simp) λz=>?_
  rcases h b z with z|z
  .exact i b o e z
  .exact m z
 .obtain⟨sl,e1⟩:=d.slot b o e n m (by simp)
  obtain⟨l,e2⟩:=g b _ m e1;exact#[l,e2]
 .obtain⟨o',e1⟩:=d.there b o e (by simp)
  by_cases m:b∈X.fs
  .obtain⟨sl,e2⟩:=g b _ m e1
   exact#[_,e2]
  .refine#[o',get b o' e1 (λz=>?_) λz=>?_]
   .subst z
    have:=d.free b o e h0 (by simp)
    rw[f]at this;cases this
   .rcases h b z with z|z
    .exact i b o e z
    .exact m z
 .have e1:=d.gy b xs e
  rw[l9^aq e1 f];exact e1
 .have e1:=d.gN b o u e
  rw[l9^aq e1 f];exact e1
 .obtain⟨x,e1⟩:=d.g8 b ps e
  exact#[x,by rw[l9^aq e1 f];exact e1]
 .obtain⟨n,e1⟩:=HX e
  have qV:∀{c:FG}{u:HO},H c=ih u->c ∉ ej X.stack:=λq m=>by
   have:=I.tY _ m;rw[q]at this;cases this
  refine(I.aH b o e1).eF (λc u y q=>?_) (λc q=>?_) λc xs q=>?_
  .rcases y with rfl|q1
   .exact get _ u q n^qV e1
   .exact get c u q (aq q1 f)^qV q1
  .rw[l9^aq q f];exact q
  .rw[l9^aq q f];exact q
def Cx.kX(X:Cx)(a:FG):Cx:={ X with A:=X.A.mark (ih (.ref a)),calm:=false,xe:=λ_ _=>False }
theorem Inv.kX(I:Inv X J σ H s)(a:FG):Inv (X.kX a) J σ H s:=
 #[#[I.ok.mod,I.ok.kind,I.ok.glob,I.ok.blt,I.ok.above,I.ok.inj,I.ok.has,I.ok.j8,(λz=>Bool.noConfusion (show false=true from z)),I.ok.frames,I.ok.lC,I.ok.lD,I.ok.bs,I.ok.ib,I.ok.jZ,I.ok.j0,I.ok.fV,I.ok.iO],I.os,I.bare,I.base,I.loc,I.cell,I.free,I.eR,I.pin,I.aH,I.len]
theorem Inv.uncaught{J8:Cx}(ok:X.Ok)(I:Inv (X.kX a) J σ H s):Inv X J σ H s:=
 #[ok,I.os,I.bare,I.base,I.loc,I.cell,I.free,I.eR,I.pin,I.aH,I.len]
section
variable{R:ZC->UJ->Prop}
theorem JF{its:Array i'}(tr:Nat->Bool)(D:A.in1.handled=none)(m:l≠it)(p:g.IsList l its)
  (E:∀i v,its[i]?=ih v ->∃a ws,v=.ref a/\a≠it/\Yz g a ws/\ws.size<=UM/\tr i = !ws.isEmpty):∀(k i:Nat) (s:UJ),its.size - i=k->i<=its.size->(∀b o,b≠it->g.get? b=ih o->s.heap.get? b=ih o)->s.heap.IsListIter it l i ->
  (∀h' tk,(∀b o,b≠it->g.get? b=ih o->h'.get? b=ih o)->R (.ok^.ret^.bool^((VQ its.size).drop i).any tr) { s with heap:=h',toks:=tk }) ->
  codeAny (U0 P w) A (.builtin "any.loop" #[[.ref it],[]]) R s:=by
 intro k
 induction k with
 |zero =>
  intro i s G hi kp d c;obtain rfl:i=its.size:=()
  refine iu aa0 (?_:UL _ _ _ _ _ _);rw[show A.under^.builtin "any.loop" #[[.ref it],[]]=A.in1 from iU wX _];show UL _ _ (pyNext^.ref it >>= _) _ _ s;have f:s.heap.IsList l its:=p.at λo e=>kp l o m e;refine ae^wpAny_pyNext_list_end D d f (by simp) λh' ex=>ae^jv^ak ?_
  have:=c h' s.toks λb o n e=>ex b o n^kp b o n e;rw[U9^by simp]at this
  exact this
 |succ k H =>
  intro i s G hi kp d c;have h:i<its.size:=()
  have q:(VQ its.size).drop i=i::(VQ its.size).drop (i+1):=by rw[lN ⇑h,List.getElem_range]
  refine iu aa0 (?_:UL _ _ _ _ _ _);rw[show A.under^.builtin "any.loop" #[[.ref it],[]]=A.in1 from iU wX _];show UL _ _ (pyNext^.ref it >>= _) _ _ s;have f:s.heap.IsList l its:=p.at λo e=>kp l o m e;have t:its[i]?=ih its[i]:=by simp[h]
  obtain⟨a,ws,I,J,y,K,B⟩:=E i _ t;refine ae^wpAny_pyNext_list_item d f t λh' z L=>?_;have j:∀b o,b≠it->g.get? b=ih o->h'.get? b=ih o:=λb o n e=>L.extBut b o n^kp b o n e;have x:Yz h' a ws:=by
   obtain⟨o,M,r⟩:=y;exact#[o,j a o J M,r]
  rw[I];refine ae^ed^truthy_tuple (s:={ s with heap:=h' }) x (by rw[aV]at K;omega)^ae^wpAny_letGo ?_
  rw[<-B];cases u:tr i with
  |false =>
   refine ak #[jB wX _,H (i+1) _ () h j z λh2 C N=>?_]
   have:=c h2 C N;rw[q,jz,u,wW]at this;exact this
  |true =>
   refine ae^jv^ak ?_;have:=c h' (s.toks+1+1) j;rw[q,jz,u,abh]at this;exact this
end
theorem IK(A:X.calm=true):cU X (.builtin "any") (λxs H Q=>∃(p:FG) (ys:am V) (rs:am (List V)),xs=[.ref p]/\au X.K H p ys/\VT (λy r=>∃a,y=V.ref a/\aX X.K H a r) ys rs/\Q (.bl^rs.any λr=>!r.isEmpty) H):=by
 rintro J s σ H xs us Q I r ⟨p,ys,rs,rfl,k,pr,q⟩;obtain⟨u,rfl,B⟩:=vals1 r;cases B
 obtain⟨its,l,c,C⟩:=I.list k;have f:=l.length;have all:∀i v,its[i]?=ih v ->∃a ws,v=.ref a/\Yz s.heap a ws/\ws.size<=UM/\(rs.map λr=>!r.isEmpty).getD i false = !ws.isEmpty:=by
  intro i v e;clear q k c C r
  induction l generalizing rs i with
  |nil=>simp at e
  |cons D R E =>
   cases pr with
   |cons G pt =>
    cases i with
    |zero =>
     simp at e;subst e;obtain⟨a,rfl,L⟩:=G;cases D
     obtain⟨ws,t,d,j⟩:=I.tuple L;have P:=t.length;exact#[a,_,Z,d,by rw[b5];omega,by rw[sP t];rfl]
    |succ i=>exact E _ pt ⇑f i ⇑e
 have w:its.toArray.size=rs.length:=by rw[b5,<-f];exact cy pr
 have x:(VQ its.toArray.size).any (λi=>(rs.map λr=>!r.isEmpty).getD i false)=rs.any λr=>!r.isEmpty:=by
  rw[w]
  apply lI.mpr
  simp only[lO,ju]
  constructor
  .rintro⟨i,hi,e⟩
   refine#[rs[i],eJ hi,?_]
   simpa [Y1,hi] using e
  .rintro⟨r,M,e⟩
   obtain⟨i,hi,rfl⟩:=wY M;exact#[i,hi,by simpa [Y1,hi] using e]
 refine call_function_tree F.kind_any F.plain_any F.entry_any (F.args_any1^.ref p) (?_:UL _ _ _ _ _ _);unfold Yh.«any»;refine ae (m:=oneArg "any" _)^ak^ae^sb c.isList ?_;have new:∀b o,s.heap.get? b=ih o->b≠s.heap.objs.size:=λb o e=>bK^bA e;obtain⟨ol,z,_⟩:=id c.isList;refine ak #[jB wX _,JF (g:=s.heap) (λi=>(rs.map λr=>!r.isEmpty).getD i false) (I.ok.hd A) (new p ol z) c.isList (λi v e=>?_) _ 0 _ Z (bF _) (λb o n e=>a9 _ e) #[_,bU _ Z,Z,Z] λh' tk kp=>?_]
 .obtain⟨a,ws,N,d,j,e2⟩:=all i v ⇑e
  obtain⟨o,O,_⟩:=id d;exact#[a,ws,N,new a o O,d,j,e2]
 .rw[wZ,x]
  exact#[.bl _,H,I.kept (t':=tk) λb o e=>kp b o (new b o e) e,Z,q]
theorem pR(t:X.calm=true):cU X (.builtin "all") (λxs H Q=>∃(p:FG) (bs:am Bool),xs=[.ref p]/\au X.K H p^bs.map V.bl/\Q (.bl^bs.all id) H):=by
 rintro J s σ H xs us Q I r ⟨p,bs,rfl,g,q⟩;obtain⟨u,rfl,w⟩:=vals1 r;cases w
 obtain⟨its,c,a,x⟩:=I.list g;have k:=c.length;have f:its=bs.map YK:=by
  clear q g a x r k
  induction bs generalizing its with
  |nil=>cases c;rfl
  |cons b bs y =>
   cases c with
   |cons z B=>cases z;rw[y _ B];rfl
 have new:∀b o,s.heap.get? b=ih o->b≠s.aj:=λb o e=>bK^bA e;obtain⟨ol,l,_⟩:=id a.isList;refine call_all_walk^sb a.isList ?_;refine#[s.aj,_,_,_,_,_,λi=>bs.getD i true,Z,Z5 (A:=X.A.in1) (I.ok.hd t) s.aj p (new p ol l) its.toArray,#[#[_,bU _ Z,Z,Z],a.isList.at λo e=>a9 _ e],λi v s2 D E j m=>?_,λh' tk kp=>?_]
 .rw[f]at j
  have:bs[i]?.map YK=ih v:=by simpa using j
  obtain⟨b,d,rfl⟩:=gF.mp this;refine hI ?_;have e:bs.getD i true=b:=by rw[gG,d];rfl
  exact e ▸ m
 .have n:(VQ its.toArray.size).all (λi=>bs.getD i true)=bs.all id:=by
   have C:its.toArray.size=bs.length:=by rw[f];simp
   rw[C]
   apply lI.mpr
   simp only[ny,ju]
   constructor
   .intro h b d
    obtain⟨i,hi,rfl⟩:=wY d
    simpa [Y1,hi] using h i hi
   .intro h i hi
    simpa [Y1,hi] using h bs[i]^eJ hi
  rw[n];exact#[.bl _,H,I.kept (t':=tk) λb o e=>kp b o ⇑(new b o e) (a9 _ e),Z,q]
def K2:V->List V->Hp->VK->Prop:=λx vs H Q=>∃(l:FG) (ys:List Gd) (y:Gd) (j:Nat),x=.ref l/\vs=[.str y]/\H l=ih (.lst (ys.map V.str))/\ys[j]?=ih y/\(∀m,m<j->ys[m]? ≠ ih y)/\Q (.int j) H
theorem JG:lH X "list.index" K2:=by
 rintro J s σ H x vs v us Q I C D ⟨l,ys,y,j,rfl,rfl,E,p,A,q⟩;cases C
 obtain⟨u,rfl,t,rfl⟩:=D.one;obtain⟨z,its,n,r,f,e⟩:=I.j1 E;have k:j<its.length:=by
  have:=(b4.mp p).1;rw[<-f,aE];exact this
 have o:∀m (a:m<its.length),∃(w:Gd) (t':Tok),ys[m]?=ih w/\its[m]=.str w t':=λm a=>by
  have b:m<ys.length:=by rw[<-f,aE]at a;exact a
  obtain⟨u,c,t',G⟩:=r.get (i:=m) (x:=.str ys[m]) (by rw[c5,bG b];rfl)
  rw[bG a]at c;exact#[ys[m],t',bG b,by rw[cQ c];exact G]
 have K:(ys.map V.str).all iF=true:=jL ys;refine ni aaO #[_,e,Z] aaD (aar _ _) (Z9 l its.toArray n none #v[] (.str y t) (e8^.str y) j ⇑k ?_ ?_ ?_) #[e,?_,?_]
 .rw[aV]at z;have:=f;omega
 .obtain⟨w,t',d,g⟩:=o j k
  rw[p]at d;cases d;show e8 (.str y)^its.toArray[j]=true;rw[w0,g,qw (y:=.str y) #[t',Z] Z];show decide _=true;exact cb Z
 .intro m a B
  have b:m<its.length:=by simpa using a
  obtain⟨w,t',d,g⟩:=o m b;show e8 (.str y)^its.toArray[m]=false;rw[w0,g,qw (y:=.str w) #[t',Z] Z];have ne:=A m B;rw[d]at ne;show decide _=false;exact er λz=>ne (by rw[z])
 .intro u c
  exact l5 (x:=.str y) #[t,Z] Z r K u ⇑c
 .exact#[.int j,H,I.tok _,#[_,Z],q]
section
variable{p2 p3 p4:Z4}{k:Nat}
def OX(K:Ys)(te:TE):TE:=λσ H Q=>te σ H λx H2=>∃(l:FG) (xs:List V),x=.ref l/\au K H2 l xs /\∀p,H2 p=none->Q (.ref p) (upd H2 p (.lst xs.reverse))
theorem Mj(f:PE X e te):PE X (.Subscript e (.Slice none none (ih^.UnaryOp .USub (.Constant (.int 1) k p3) p4) p2) pos)^OX X.K te:=by
 intro J s σ H Q I h;refine ZU^aG (f J s σ H _ I h) λv s1 A=>?_;obtain⟨x,Y,g,i,l,xs,ex,j,q⟩:=A;subst ex;cases i
 refine wpAny_Slice ?_;rw[FQ];refine ak^ak ?_;refine aG (iz (uT uC aw) J s1 σ Y (λo H'=>o=ih (-1)/\H'=Y) g #[_,Z,_,Z,Z,Z]) λvs a A=>?_;obtain⟨o,m,n,ps,p,t⟩:=A;subst p t;have c:Inv X J σ m { a with heap:=a.heap.push { cls:=.type "slice",data:=.fields #v[.none,.none,vs] } }:=n.kept (t':=a.toks) λb u z=>a9 _ z;obtain⟨its,r,d,w⟩:=c.list j;have y:=r.length;refine tail_any (ops:=_) d.isList.typeIs FR.lookup ?_ (by with_unfolding_all rfl)
 refine U1 d.isList (ZD ..) .none .none ps ∅ ?_ (by rw[b5];omega)
 rw[krv_pick];refine#[.ref _,_,c.laid (t':=a.toks) (o:=.lst xs.reverse) (λb u z=>a9 _ z) (aP _) ?_,Z,q _^c.aH.fresh^aP _];exact#[by rw[F5];exact w,its.reverse,0,r.reverse,bU _ Z]
end
end L2
namespace L2
section
variable{α β γ δ ε ζ:Type}
theorem af{F P:α->Prop}{a:α}(f:F a)(h:P a):∃x,F x/\P x:=#[a,f,h]
theorem aW{F:α->Prop}{G:α->β->Prop}{P:α->β->Prop}{a:α}{b:β}(f:F a)(g:G a b)(h:P a b):∃x,F x /\∃y,G x y/\P x y:=#[a,f,b,g,h]
theorem cZ{F:α->Prop}{G:α->β->Prop}{I:α->β->γ->Prop}{P:α->β->γ->Prop}{a:α}{b:β}{c:γ}(f:F a)(g:G a b)(i:I a b c)(h:P a b c):∃x,F x /\∃y,G x y /\∃z,I x y z/\P x y z:=#[a,f,b,g,c,i,h]
theorem jk{F:α->Prop}{G:α->β->Prop}{I:α->β->γ->Prop}{e:α->β->γ->δ->Prop}{P:α->β->γ->δ->Prop}{a:α}{b:β}{c:γ}{d:δ}(f:F a)(g:G a b)(i:I a b c)(j:e a b c d)(h:P a b c d):∃x,F x /\∃y,G x y /\∃z,I x y z /\∃u,e x y z u/\P x y z u:=#[a,f,b,g,c,i,d,j,h]
theorem q2{F:α->Prop}{G:α->β->Prop}{I:α->β->γ->Prop}{l:α->β->γ->δ->Prop}{K:α->β->γ->δ->ε->Prop}{P:α->β->γ->δ->ε->Prop}{a:α}{b:β}{c:γ}{d:δ}{e:ε}(f:F a)(g:G a b)(i:I a b c)(j:l a b c d)(k:K a b c d e)(h:P a b c d e):∃x,F x /\∃y,G x y /\∃z,I x y z /\∃u,l x y z u /\∃v,K x y z u v/\P x y z u v:=#[a,f,b,g,c,i,d,j,e,k,h]
end
end L2
namespace L2
theorem P7{i:Int}(h:H p=bn xs)(e:cN xs i=ih v)(k:Q v H):mJ K (.ref p) (.int i) H Q:=#[p,xs,i,v,Z,Z,aX.of h,e,k]
theorem e9{i:Int}(h:H p=ce xs)(e:cN xs i=ih v)(k:Q v H):qZ K (.ref p) (.int i) H Q:=#[p,xs,i,v,Z,Z,au.of h,e,k]
theorem a7{i:Int}(h:H p=bn xs)(e:cN xs i=ih v)(k:Q v H):tC (.int i) σ H (λy H2=>mJ K (.ref p) y H2 Q):=#[p,xs,i,v,Z,Z,aX.of h,e,k]
theorem jr{i:Int}(h:H p=ce xs)(e:cN xs i=ih v)(k:Q v H):tC (.int i) σ H (λy H2=>qZ K (.ref p) y H2 Q):=#[p,xs,i,v,Z,Z,au.of h,e,k]
end L2
namespace L2
open Spec PyProof.Rows
section
variable{κ:Type} [DecidableEq κ]
def bq(kvs:List (κ×V))(k:κ):Option V:=(kvs.find? λkv=>decide (kv.1=k)).map (·.2)
def putK(kvs:List (κ×V))(k:κ)(v:V):List (κ×V):=
 if (kvs.any λkv=>decide (kv.1=k))=true then kvs.map (λkv=>if kv.1=k then (kv.1,v) else kv) else kvs++[(k,v)]
theorem fg{p:κ×V}{r:am (κ×V)}{k:κ}(e:p.1=k):bq (p::r) k=ih p.2:=by simp[bq,pj,e]
theorem eK{p:κ×V}{r:am (κ×V)}{k:κ}(e : ¬ p.1=k):bq (p::r) k=bq r k:=by simp[bq,pj,e]
theorem i3(k:κ):∀kvs:am (κ×V),(kvs.any λkv=>decide (kv.1=k))=(bq kvs k).isSome
 |[]=>rfl
 |p::r=>by
  rw[jz]
  by_cases e:p.1=k
  .simp only[fg e,cb e,abh,U6]
  .rw[eK e,er e,wW];exact i3 k r
theorem Cb(k j:κ)(y:V):∀kvs:am (κ×V),bq (kvs.map λkv=>if kv.1=k then (kv.1,y) else kv) j=(bq kvs j).map λx=>if j=k then y else x
 |[]=>rfl
 |p::r=>by
  have a:=Cb k j y r;rw[bY]
  by_cases h:p.1=k
  .rw[aB h]
   by_cases e:p.1=j
   .rw[fg (p:=(p.1,y)) e,fg e,r8,aB^e.symm.trans h]
   .rw[eK (p:=(p.1,y)) e,eK e,a]
  .rw[ao h]
   by_cases e:p.1=j
   .rw[fg (p:=p) e,fg e,r8,ao^λz=>h^e.trans z]
   .rw[eK (p:=p) e,eK e,a]
theorem Bq(k j:κ)(y:V):∀kvs:am (κ×V),bq kvs k=none->bq (kvs++[(k,y)]) j=if j=k then ih y else bq kvs j
 |[],_=>by
  by_cases e:k=j
  .rw[aB e.symm];exact fg (p:=(k,y)) e
  .rw[ao^λz=>e z.symm];exact eK (p:=(k,y)) e
 |p::r,a=>by
  rw[F6];have b : ¬ p.1=k:=λz=>by rw[fg z]at a;cases a
  rw[eK b]at a;have c:=Bq k j y r a
  by_cases e:p.1=j
  .rw[fg e,fg e,ao^λz=>b^e.trans z]
  .rw[eK e,eK e,c]
theorem kK(kvs:am (κ×V))(k j:κ)(y:V):bq (putK kvs k y) j=if j=k then ih y else bq kvs j:=by
 unfold putK
 by_cases a:(kvs.any λb=>decide (b.1=k))=true
 .rw[aB a,Cb]
  rw[i3]at a
  by_cases e:j=k
  .obtain⟨x,c⟩:=sd.mp a
   rw[aB e,e,c,r8,aB Z]
  .rw[ao e]
   cases bq kvs j with
   |none=>rfl
   |some x=>rw[r8,ao e]
 .rw[ao a]
  refine Bq k j y kvs ?_;rw[i3]at a;cases q:bq kvs k with
  |none=>rfl
  |some x=>rw[q]at a;exact(a Z).elim
theorem lY(kvs:am (κ×V))(k:κ)(v:V):(putK kvs k v).length<=kvs.length+1:=by
 unfold putK;split
 .rw[aE];omega
 .rw[cz,c4,jA];omega
theorem i4{kvs:am (κ×V)}{k:κ}(v:V)(h:bq kvs k=none):putK kvs k v=kvs++[(k,v)]:=by
 unfold putK;rw[i3,h];exact ao ∅
theorem ez.nM{o:a2 V}{u:a2 i'}(r:ez o u):o.isSome=u.isSome:=by
 cases o with
 |none=>cases u with
  |none=>rfl
  |some _=>exact(show False from r).elim
 |some _=>cases u with
  |none=>exact(show False from r).elim
  |some _=>rfl
theorem KV.val{kvs:am (κ×V)}{vs:am (κ×i')}(r:KV kvs vs)(k:κ):ez (bq kvs k)^valueAt vs k:=by
 unfold KV at r
 induction r with
 |nil=>exact VL
 |@cons p q ps a h t d =>
  obtain⟨h1,h2⟩:=h
  by_cases e:p.1=k
  .have c:q.1=k:=h1.symm.trans e
   have b:valueAt (q::a) k=ih q.2:=by simp[valueAt,pj,c]
   rw[fg e,b];exact h2
  .have c : ¬ q.1=k:=λz=>e^h1.trans z
   have b:valueAt (q::a) k=valueAt a k:=by simp[valueAt,pj,c]
   rw[eK e,b];exact d
theorem KV.any{kvs:am (κ×V)}{vs:am (κ×i')}(r:KV kvs vs)(k:κ):(kvs.any λkv=>decide (kv.1=k))=vs.any λkv=>decide (kv.1=k):=by
 unfold KV at r
 induction r with
 |nil=>rfl
 |cons h t a=>rw[jz,jz,a,h.1]
theorem KV.vy{kvs:am (κ×V)}{vs:am (κ×i')}(r:KV kvs vs)(k:κ)(a:RelV y u) :
  KV (kvs.map λkv=>if kv.1=k then (kv.1,y) else kv) (vs.map λkv=>if kv.1=k then (kv.1,u) else kv):=by
 unfold KV at r⊢
 induction r with
 |nil=>exact .nil
 |@cons p q ps c h t b =>
  rw[bY,bY];refine .cons ?_ b;obtain⟨h1,h2⟩:=h
  by_cases e:p.1=k
  .rw[aB e,aB^h1.symm.trans e];exact#[h1,a]
  .rw[ao e,ao^λz=>e^h1.trans z];exact#[h1,h2]
theorem KV.put{kvs:am (κ×V)}{vs:am (κ×i')}(r:KV kvs vs)(k:κ)(a:RelV y u):KV (putK kvs k y)^stored vs k u:=by
 unfold putK stored;rw[r.any k]
 by_cases e:(vs.any λb=>decide (b.1=k))=true
 .rw[aB e,aB e];exact r.vy k a
 .rw[ao e,ao e];exact gX r #[Z,a]
theorem KV.keys{kvs:am (κ×V)}{vs:am (κ×i')}(r:KV kvs vs):kvs.map (·.1)=vs.map (·.1):=by
 unfold KV at r
 induction r with
 |nil=>rfl
 |cons h t a=>rw[bY,bY,a,h.1]
theorem KV.length{kvs:am (κ×V)}{vs:am (κ×i')}(r:KV kvs vs):kvs.length=vs.length:=cy r
end
theorem mG{k:Key}(r:RelV (kV k) u):(cp P w).is k u=true:=by
 cases k with
 |inl i=>obtain⟨t,e⟩:=(show ∃t,u=Y8 i t from r);subst e;exact Hc P w i t
 |inr x=>obtain⟨t,e⟩:=(show ∃t,u=YX x t from r);subst e;exact Hd P w x t
theorem Br{P:Yg}{w:Yo}:∀{ks:am Key}{us:am i'},Vals (ks.map kV) us->ItemsAre (cp P w) ks us
 |[],_,r=>by rw[abb]at r;cases r;exact .nil
 |k::ks,_,r=>by
  rw[bY]at r;cases r with
  |cons h t=>exact .cons (mG h)^Br t
abbrev KT(H:Hp):List (List Key×V)->List (List Key×FG×i')->Prop:=VT λp q=>p.1=q.1/\H q.2.1=ih (.tup (p.1.map kV))/\RelV p.2 q.2.2
theorem KT.val{kvs:am (List Key×V)}{xs:am (List Key×FG×i')}(r:KT H kvs xs)(k:am Key):ez (bq kvs k)^(atKey xs k).map (·.2):=by
 induction r with
 |nil=>exact VL
 |@cons p q ps a h t d =>
  obtain⟨h1,_,h2⟩:=h
  by_cases e:p.1=k
  .have c:q.1=k:=h1.symm.trans e
   have b:atKey (q::a) k=ih q.2:=by simp[atKey,pj,c]
   rw[fg e,b];exact h2
  .have c : ¬ q.1=k:=λz=>e^h1.trans z
   have b:atKey (q::a) k=atKey a k:=by simp[atKey,pj,c]
   rw[eK e,b];exact d
theorem KT.vy{kvs:am (List Key×V)}{xs:am (List Key×FG×i')}(r:KT H kvs xs)(k:am Key)(a:RelV y u) :
  KT H (kvs.map λkv=>if kv.1=k then (kv.1,y) else kv)^xs.map^putAt k u:=by
 induction r with
 |nil=>exact .nil
 |@cons p q ps d h t b =>
  rw[bY,bY];refine .cons ?_ b;obtain⟨h1,h2,c⟩:=h;unfold putAt
  by_cases e:p.1=k
  .rw[aB e,aB^h1.symm.trans e];exact#[h1,h2,a]
  .rw[ao e,ao^λz=>e^h1.trans z];exact#[h1,h2,c]
theorem KT.put{kvs:am (List Key×V)}{xs:am (List Key×FG×i')}(r:KT H kvs xs)(k:am Key)(c:H b=bn^k.map kV)(a:RelV y u) :
  KT H (putK kvs k y)^storedH xs k b u:=by
 have e:(kvs.any λd=>decide (d.1=k))=(atKey xs k).isSome:=by
  rw[i3,(r.val k).nM,si]
 unfold putK storedH;rw[e]
 by_cases q:(atKey xs k).isSome=true
 .rw[aB q,aB q];exact r.vy k a
 .rw[ao q,ao q];exact gX r #[Z,c,a]
theorem KT.keeps{kvs:am (List Key×V)}{xs:am (List Key×FG×i')}(r:KT H kvs xs)(a:∀b ys,H b=bn ys->H' b=bn ys):KT H' kvs xs:=
 Paired.qU r λ_ _ z=>#[z.1,a _ _ z.2.1,z.2.2]
theorem DU{u:HO}(ok:cu P w H h)(e:Rd H a u):bH P w H h a u:=e.ok ok
theorem k4(ok:cu P w H h)(e:Rd H a^.dK kvs):kvs.length<=UM/\(a==sysModules)=false /\∃vs,KV kvs vs/\h.DictOf (cp P w) a vs:=
 show bH P w H h a^.dK kvs from DU ok e
theorem qH(ok:cu P w H h)(e:H a=cr kvs):kvs.length<=UM/\(a==sysModules)=false /\∃vs,KV kvs vs/\h.DictOf (cp P w) a vs:=k4 ok^.inl e
theorem mq{ks:am Key}(ok:cu P w H h)(e:H a=bn^ks.map kV):(tupleKind^cp P w).is h ks a:=by
 obtain⟨_,its,r,o,h1,h2,n,b,_⟩:=(show bH P w H h a^.tup^ks.map kV from ok a _ e);exact#[o,its.toArray,n,h1,h2,b,by simpa using Br r]
theorem oD{kvs:am (List Key×V)}(ok:cu P w H h)(e:Rd H a^.dT kvs):kvs.length<=UM/\(a==sysModules)=false /\
  ∃xs,KT H kvs xs/\h.DictOfH (tupleKind^cp P w) a xs:=by
 obtain⟨z,y,xs,r,o,es,ep,h1,h2,c,d,f⟩:=(show bH P w H h a^.dT kvs from DU ok e);refine#[z,y,xs,r,o,es,ep,h1,h2,c,d,λx hx=>?_,f];have all:∀{l:am (List Key×V)}{m:am (List Key×FG×i')},KT H l m ->∀x∈m,(tupleKind^cp P w).is h x.1 x.2.1:=by
  intro l m q
  induction q with
  |nil=>intro x hx;exact nomatch hx
  |@cons p q ps i b t g =>
   intro x hx;rcases bL.mp hx with e|hx
   .subst e
    exact mq ok (by rw[<-b.1];exact b.2.1)
   .exact g x hx
 exact all r x hx
theorem DV{kvs:am (List Key×V)}(ok:cu P w H h)(e:H a=cs kvs):kvs.length<=UM/\(a==sysModules)=false /\
  ∃xs,KT H kvs xs/\h.DictOfH (tupleKind^cp P w) a xs:=oD ok^.inl e
def b2(H:Hp)(a:FG)(y:V)(r:Option V):Prop:=
 (∃kvs k,Rd H a (.dK kvs)/\y=kV k/\r=bq kvs k) \/∃kvs k b,Rd H a (.dT kvs)/\y=.ref b/\H b=ih (.tup (k.map kV))/\r=bq kvs k
def eG(H:Hp)(a:FG)(y v:V)(H':Hp):Prop:=
 (∃kvs k,H a=ih (.dK kvs)/\y=kV k/\kvs.length<UM/\H'=upd H a (.dK (putK kvs k v))) \/
 ∃kvs k b,H a=ih (.dT kvs)/\y=.ref b/\H b=ih (.tup (k.map kV))/\kvs.length<UM/\H'=upd H a (.dT (putK kvs k v))
theorem b2.k{k:Key}(e:H a=cr kvs):b2 H a (kV k)^bq kvs k:=.inl #[kvs,k,.inl e,Z,Z]
theorem b2.t{kvs:am (List Key×V)}{k:am Key}(e:H a=cs kvs)(c:H b=bn^k.map kV):b2 H a (.ref b)^bq kvs k:=.inr #[kvs,k,b,.inl e,Z,c,Z]
theorem eG.k{k:Key}(e:H a=cr kvs)(b:kvs.length<UM):eG H a (kV k) v^upd H a^.dK^putK kvs k v:=.inl #[kvs,k,e,Z,b,Z]
theorem eG.t{kvs:am (List Key×V)}{k:am Key}(e:H a=cs kvs)(c:H b=bn^k.map kV)(d:kvs.length<UM) :
  eG H a (.ref b) v^upd H a^.dT^putK kvs k v:=.inr #[kvs,k,b,e,Z,c,d,Z]
section
variable{r:i'}{o:a2 V}
theorem Inv.big(I:Inv X J σ H s):sysModules<s.aj:=by
 have h:U5<s.aj:=(I.mod.glob.keeps I.bk).lt;exact lM ∅ h
theorem IL{Q:i'->UJ->Prop}(r:A.units+1<YZ)(I:Inv X J σ H s)(g:b2 H a y^ih v)(n:RelV y u)(h:∀c s',Inv X J σ H s'->RelV v c->Q c s') :
  UL X.dt A (getItem (.ref a) u) Q E s:=by
 rcases g with⟨kvs,k,e,i,l⟩|⟨kvs,k,b,e,i,t,l⟩
 .subst i
  obtain⟨z,w,vs,d,j⟩:=k4 I.aH e;obtain⟨c,m,f⟩:=ez.some_of (v:=v) (o:=valueAt vs k) (by rw[l];exact d.val k)
  exact wpAny_getItem_of (mG n) j.mapOf m^h c _ (I.tok _) f
 .subst i
  cases (show u=UZ b from n)
  obtain⟨z,w,xs,d,j⟩:=oD I.aH e;obtain⟨c,m,f⟩:=ez.some_of (v:=v) (o:=(atKey xs k).map (·.2)) (by rw[l];exact d.val k)
  obtain⟨p,x,q⟩:=gF.mp m;refine wpAny_getItem_heap (w1 r) (mq I.aH t) j x ?_;rw[q];exact h c _ (I.tok _) f
theorem OY{Q:i'->UJ->Prop}(m:A.units+1<YZ)(I:Inv X J σ H s)(g:b2 H a y o)(j:RelV y u)(h:∀s',Inv X J σ H s'->Q (.bool o.isSome) s') :
  UL X.dt A (X2 .In u^.ref a) Q E s:=by
 rcases g with⟨kvs,k,e,d,l⟩|⟨kvs,k,b,e,d,n,l⟩
 .subst d
  obtain⟨z,f,vs,c,i⟩:=k4 I.aH e;refine wpAny_in_of (mG j) f i.mapOf ?_;rw[<-(c.val k).nM,<-l];exact h _^I.tok _
 .subst d
  cases (show u=UZ b from j)
  obtain⟨z,f,xs,c,i⟩:=oD I.aH e;refine wpAny_in_heap (w1 m) (mq I.aH n) f i ?_;have q:=(c.val k).nM;rw[si]at q;rw[<-q,<-l];exact h _^I.tok _
theorem K3{Q:i'->UJ->Prop}(m:A.units+1<YZ)(I:Inv X J σ H s)(g:b2 H a y o)(j:RelV y u)(h:∀s',Inv X J σ H s'->Q (.bool (!o.isSome)) s') :
  UL X.dt A (X2 .NotIn u^.ref a) Q E s:=by
 rcases g with⟨kvs,k,e,d,l⟩|⟨kvs,k,b,e,d,n,l⟩
 .subst d
  obtain⟨z,f,vs,c,i⟩:=k4 I.aH e;refine wpAny_notIn_of (mG j) f i.mapOf ?_;rw[<-(c.val k).nM,<-l];exact h _^I.tok _
 .subst d
  cases (show u=UZ b from j)
  obtain⟨z,f,xs,c,i⟩:=oD I.aH e;refine wpAny_notIn_heap (w1 m) (mq I.aH n) f i ?_;have q:=(c.val k).nM;rw[si]at q;rw[<-q,<-l];exact h _^I.tok _
theorem t9{c:HO}(I:Inv X J σ H s)(d:oT^H a)(f:X5 a s.heap h')(g:∃q,h'.get? a=ih q)(new:bH X.prog X.w (upd H a c) h' a c) :
  Inv X J σ (upd H a c) { s with heap:=h',toks:=t' }:=
 I.write (x:=a) (e:=a) d (.inl Z) (λb q h z=>(f.2 b h).trans z) g new
theorem uI{vs:am (Key×i')}(z:kvs.length<=UM)(c:(a==sysModules)=false)(b:KV kvs vs)(d:h'.DictOf (cp P w) a vs) :
  bH P w H' h' a^.dK kvs:=#[z,c,vs,b,d]
theorem IM{Q:Unit->UJ->Prop}(F:A.units+1<YZ)(I:Inv X J σ H s)(g:eG H a y v H')(x:RelV y u)(B:RelV v r)(h:∀s',Inv X J σ H' s'->Q Unit.unit s') :
  UL X.dt A (setItem (.ref a) u r) Q E s:=by
 rcases g with⟨kvs,k,e,j,l,m⟩|⟨kvs,k,b,e,j,C,l,m⟩
 .subst j m
  obtain⟨z,n,vs,d,o⟩:=qH I.aH e;have p:vs.length<=UM:=by rw[<-d.length];exact z
  have t:(putK kvs k v).length<=UM:=by have:=lY kvs k v;omega
  refine wpAny_setItem_pairs (hsz:=p) (mG x) o λh' f w=>h _ ?_;have G:∃q,h'.get? a=ih q:=let ⟨q,_,_,i,_⟩:=f;#[q,i];exact t9 I (by rw[e];exact VL) w G^uI t n (d.put k B) f
 .subst j m
  cases (show u=UZ b from x)
  obtain⟨z,n,xs,d,o⟩:=DV I.aH e;have p:xs.length<=UM:=by rw[<-cy d];exact z
  have t:(putK kvs k v).length<=UM:=by have:=lY kvs k v;omega
  refine wpAny_setItem_heap (hsz:=p) (w1 F) (mq I.aH C) o λh' f w=>h _ ?_;obtain⟨q,es,ep,i,h2,K,L,_,M⟩:=f;refine t9 I (by rw[e];exact VL) w #[q,i] #[t,n,_,(d.put k C B).keeps λc ys D=>?_,q,es,ep,i,h2,K,L,M]
  rw[ag^aq D e^λz=>nomatch z];exact D
end
section
variable{k:Key}
theorem Ng{Q:i'->UJ->Prop}(I:Inv X J σ H s)(e:Rd H a^.dK kvs)(h:∀t s',Inv X J σ H s'->Q (.int kvs.length t) s'):UL X.dt A (call (.builtin "len") [.ref a]) Q E s:=by
 obtain⟨z,c,vs,b,d⟩:=k4 I.aH e;refine call_len_dict c d (by rw[<-b.length];rw[aV]at z;omega) ?_
 rw[<-b.length];exact h _ _^I.tok _
end
def Eo(i:VH):Prop:= ∀ov iv,subscripted i false ov iv=operate [ov,iv] (getItem ov iv)
theorem K4{a:VH}{id:String}{Q:i'->UJ->Prop}
  (l:typeLookup (.type T) "__getitem__" = pure^ih^.builtin id) (m:Eo a)
  (h:UL (U0 prog w) A (eval value env) (λo e=>UL (U0 prog w) A (eval a env) (λi b=>b.TypeIs o T/\UL (U0 prog w) A (getItem o i) Q E b) E e) E s) :
  UL (U0 prog w) A (eval (.Subscript value a pos) env) Q E s:=by
 refine ZU^ir h (λo e j=>ir j (λi b c=>?_) λ_ _ x=>x) λ_ _ x=>x;obtain⟨g,c⟩:=c;unfold subscriptTail;refine ae ?_;rw[getitemInPython_of_ne g.not_modules];refine ae^wpAny_specialOf g l ?_;have d:UL (U0 prog w) A (subscripted a false o i) (λr f=>UL (U0 prog w) A (letTemporaryGo value o r >>= λ_=>pure r) Q E f) E b:=by
  rw[m o i];exact wpAny_operating^ir c (λr f k=>ae^wpAny_letTemporaryGo^ak k) λ_ _ x=>x
 first
  |exact ak (ae d)
  |exact ae (ak (ae d))
  |exact ae d
theorem Hi{o:a2 V}(I:Inv X J σ H s)(g:b2 H a y o):s.TypeIs (.ref a) "dict" :=by
 rcases g with⟨kvs,k,e,_,_⟩|⟨kvs,k,b,e,_,_,_⟩
 .obtain⟨_,_,vs,_,c⟩:=k4 I.aH e
  exact c.typeIs
 .obtain⟨_,_,xs,_,c⟩:=oD I.aH e
  exact c.typeIs
def uZ(td ty:TE):TE:=λσ H Q=>td σ H λx Y=>ty σ Y λy H2=>∃a v,x=.ref a/\b2 H2 a y (ih v)/\Q v H2
def vz(ty td:TE):TE:=λσ H Q=>ty σ H λy Y=>td σ Y λx H2=>∃a o,x=.ref a/\b2 H2 a y o/\Q (.bl o.isSome) H2
def K5(ty td:TE):TE:=λσ H Q=>ty σ H λy Y=>td σ Y λx H2=>∃a o,x=.ref a/\b2 H2 a y o/\Q (.bl (!o.isSome)) H2
def Nh(td ty tv:TE):TS:=λD σ H=>tv σ H λv Y=>td σ Y λx H2=>ty σ H2 λy H3=>∃a H4,x=.ref a/\eG H3 a y v H4/\D.nx σ H4
section
variable{o i:VH}{Qx:Z4}{td ty:TE}
theorem dV(d:X.A.units+1<YZ)(e:PE X o td)(hi:PE X i ty)(f:Eo i:=by exact λ_ _=>rfl):PE X (.Subscript o i pos)^uZ td ty:=by
 intro J s σ H Q I h;refine K4 PySem.F.slot_dict_getitem.lookup f^aG (e J s σ H _ I h) λu s1 ⟨x,Y,j,k,l⟩=>aG (hi J s1 σ Y _ j l) λq s2 w=>?_;obtain⟨y,H2,b,m,a,v,ex,g,n⟩:=w;subst ex;obtain rfl:u=UZ a:=k;exact#[Hi b g,IL d b g m λr t p c=>#[v,H2,p,c,n]]
theorem i9(b:X.A.units+1<YZ)(hi:PE X i ty)(c:PE X o td):PC X .In i o^vz ty td:=by
 intro J s σ H Q I h;refine aG (hi J s σ H _ I h) λp s1 ⟨y,Y,d,e,f⟩=>aG (c J s1 σ Y _ d f) λu s2 r=>?_;obtain⟨x,H2,j,k,a,l,ex,g,m⟩:=r;subst ex;obtain rfl:u=UZ a:=k;exact OY b j g e λq n=>#[.bl l.isSome,H2,n,Z,m]
theorem tm(b:X.A.units+1<YZ)(hi:PE X i ty)(c:PE X o td):PC X .NotIn i o^K5 ty td:=by
 intro J s σ H Q I h;refine aG (hi J s σ H _ I h) λp s1 ⟨y,Y,d,e,f⟩=>aG (c J s1 σ Y _ d f) λu s2 r=>?_;obtain⟨x,H2,j,k,a,l,ex,g,m⟩:=r;subst ex;obtain rfl:u=UZ a:=k;exact K3 b j g e λq n=>#[.bl (!l.isSome),H2,n,Z,m]
theorem f5(b:X.A.units+1<YZ)(c:PE X o td)(hi:PE X i ty)(d:PE X value tv)(e:swapsWith value (ih^.Subscript o i Qj) pos.line X.env=pure false) :
  PS X (.Assign [.Subscript o i Qj] value pos)^Nh td ty tv:=by
 intro J s σ H D I h;refine wpAny_Assign_Subscript (aG (d J s σ H _ I h) λr s1 ⟨v,Y,f,j,k⟩=>aG (c J s1 σ Y _ f k) λu s2 ⟨x,H2,l,m,n⟩=>aG (hi J s2 σ H2 _ l n) λB C G=>?_) e;obtain⟨y,E,p,q,a,t,ex,g,w⟩:=G;subst ex;obtain rfl:u=UZ a:=m;exact IM b p g q j λF z=>#[σ,t,z,w]
end
theorem JH(h:Yb)(a:sysModules<h.objs.size):bH P w H (h.push { cls:=.type "dict",data:=.dict #v[] }) h.objs.size^.dK []:=
 #[bF _,iq.mpr^aS^bK a,[],.nil,ZR h]
theorem Cc(h:Yb)(a:sysModules<h.objs.size):bH P w H (h.push { cls:=.type "dict",data:=.dict #v[] }) h.objs.size^.dT []:=
 #[bF _,iq.mpr^aS^bK a,[],.nil,_,#v[],0,bU _ Z,#[Z,Z,Z],Z,Z,ff]
def Ml:TE:=λ_ H Q=>∀p,H p=none->Q (.ref p) (upd H p (.dK []))
def Mm:TE:=λ_ H Q=>∀p,H p=none->Q (.ref p) (upd H p (.dT []))
theorem nR:PE X (.Dict [] [] pos) Ml:=λJ s σ H Q I h =>
 wpAny_Dict_empty #[.ref s.aj,_,I.laid (a:=s.aj) (o:=.dK []) (t':=s.toks) (λ_ _ q=>a9 _ q) (aP _)^JH s.heap I.big,Z,h _^I.aH.fresh^aP _]
theorem nS:PE X (.Dict [] [] pos) Mm:=λJ s σ H Q I h =>
 wpAny_Dict_empty #[.ref s.aj,_,I.laid (a:=s.aj) (o:=.dT []) (t':=s.toks) (λ_ _ q=>a9 _ q) (aP _)^Cc s.heap I.big,Z,h _^I.aH.fresh^aP _]
end L2
namespace HT
open PyProof.Rows
theorem GB{t:FG}{lo:a2 Int}{Q:i'->UJ->Prop}(a:Yz s.heap t items)(b:s.heap.IsSliceOf sl vl vu .none)(pl:Zs vl lo)(g:Zs vu hi)
  (h0:bz items.size 0 lo=0) (h1:bz items.size items.size hi=items.size) (h:Q (.ref t) s):UL (U0 prog w) A (getItem (.ref t)^.ref sl) Q E s:=by
 obtain⟨os,d,e,i⟩:=id b;have f:s.TypeIs (.ref sl) "slice" :=#[os,d,e];unfold getItem
 try with_reducible refine ed ?_
 first|refine ae (ak ?_)|skip
 refine ae (wpAny_sequenceKey a.typeIs ∅ ?_)
 refine ae (nc (name:=Yj "__getitem__") a.typeIs pd
  (gE pd a.typeIs entry_tuple_getitem ?_^args_tuple_getitem _ _))
 show UL _ _ (YM^.ref t >>= _) _ _ s;refine ae^tupleItemsOf_ a ?_;refine ae^jy f ?_;rw[aB ∅]
 refine ae^Al b pl g ?_;rw[h0,h1];have c:((((0:Nat):Int)==0&&(1:Int)==1&&(items.size - 0)==items.size)=true):=by simp
 show UL _ _ (if ((((0:Nat):Int)==0&&(1:Int)==1&&(items.size - 0)==items.size)=true) then _ else _) _ _ s;rw[aB c];refine ae^ae^jy a.typeIs^ak ?_;rw[aB ∅]
 exact ae^jv^ak #[_,Z,ak h]
theorem JI{t:FG}{ws:am i'}{Q:i'->UJ->Prop}(m:Yz s.heap t ([]:am i').toArray)(o:Yz s.heap b ws.toArray)(h:Q (.ref b) s):UL (U0 prog w) A (YA .Add (.ref t)^.ref b) Q E s:=by
 obtain⟨⟨g,p,e,sl⟩,c,q,n,r⟩:=id m;obtain⟨⟨f,i,data2,j⟩,a,k,d,l⟩:=id o;obtain rfl:g=.type "tuple" :=q;obtain rfl:e=.seq #v[] n:=r;obtain rfl:f=.type "tuple" :=k;obtain rfl:data2=.seq ws.toArray d:=l;exact concat_meets #[_,c,Z] #[_,a,Z] FH FJ FK FL (FO _ _) (tuple_addW0 t b #v[] ws.toArray n d p i sl j Z) #[c,a,h]
end HT
namespace L2
open Spec PyProof.Rows W
theorem Cd{q:FG}{o:HO}(a:H q=none):ax H^upd H q o:=λb u e=>by rw[ag^aA e a];exact e
def OZ:V->Option Int->Option Int->Hp->VK->Prop:=λx lo hi H Q=>∃a xs,x=.ref a/\H a=ih (.tup xs) /\∀p H',ax H H'->H' p=ih (.tup (fX xs lo hi))->Q (.ref p) H'
theorem C3:mX X OZ:=by
 intro J s σ H x v vl vu lo hi sl Q I e f g i h;obtain⟨a,xs,rfl,c,q⟩:=h
 by_cases b:HT.bz xs.length 0 lo=0/\HT.bz xs.length xs.length hi=xs.length
 .cases e
  obtain⟨its,r,j,l⟩:=I.tuple^aX.of c;have d:its.toArray.size=xs.length:=by rw[b5];exact r.length.symm
  refine#["tuple",_,pd.lookup,j.typeIs,HT.GB j f g i (by rw[d];exact b.1) (by rw[d];exact b.2) ?_]
  refine#[.ref a,H,I,Z,q a H (ax.refl _) ?_];unfold fX;rw[b.1,b.2,wZ,F7,cF];exact c
 .exact L8 J s σ H (.ref a) v vl vu lo hi sl Q I e f g i #[a,xs,Z,aX.of c,b,λp k=>q p _ (Cd k) ah]
def Ni:R2:=λx y H Q=>∃a b xs ys,x=.ref a/\y=.ref b/\H a=ih (.tup xs)/\H b=ih (.tup ys)/\xs.length+ys.length<=UM /\∀p H',ax H H'->H' p=ih (.tup (xs++ys))->Q (.ref p) H'
theorem C4:cw X (YA .Add) Ni:=by
 rintro J s σ H x y v u Q I f g ⟨a,b,xs,ys,rfl,rfl,c,d,i,q⟩;cases xs with
 |nil =>
  cases f
  cases g
  obtain⟨its,j,k,_⟩:=I.tuple^aX.of c;obtain⟨m,n,p2,_⟩:=I.tuple^aX.of d;cases j
  exact HT.JI k p2 #[.ref b,H,I,Z,q b H (ax.refl _) d]
 |cons z xs=>exact KO J s σ H (.ref a) (.ref b) v u Q I f g #[a,b,_,ys,Z,Z,aX.of c,aX.of d,by simp,i,λe=>q a H (ax.refl _) (by rw[e,e6];exact c),λ_ p l=>q p _ (Cd l) ah]
theorem ub{k:Key}(h:(cp P w).is k u=true):RelV (kV k) u:=by
 cases k with
 |inl i=>exact aae (show ZV i u=true from h)
 |inr x=>exact Ft (show YG x u=true from h)
theorem C5:∀{xs:am V}{us:am i'},xs.length=us.length->(∀(i:Nat) x u,xs[i]?=ih x->us[i]?=ih u->RelV x u)->Vals xs us
 |[],[],_,_=>.nil
 |[],_::_,h,_=>by simp at h
 |_::_,[],h,_=>by simp at h
 |x::xs,u::us,h,f=>.cons (f 0 x u Z Z)^C5 ⇑h λi y v a b=>f (i+1) y v ⇑a ⇑b
theorem AQ(B:X.calm=true):cU X (.type "list") (λxs H Q=>∃d kvs,xs=[.ref d]/\H d=cr kvs /\∀l,H l=none->Q (.ref l)^upd H l^.lst^kvs.map λkv=>kV kv.1):=by
 rintro J s σ H xs us Q I r ⟨d,kvs,rfl,j,q⟩;obtain⟨u,rfl,C⟩:=vals1 r;cases C
 obtain⟨f,lo,vs,kv,m⟩:=qH I.aH j;obtain⟨ep,n⟩:=m.dictAt;have b:kvs.length=vs.length:=kv.length;refine kdl_call (kdl_dict (kvs:=vs) (ep:=ep) lo) (I.ok.hd B) n (by rw[<-b];exact f) λh' tk z c kp e it=>?_
 refine#[.ref s.aj,_,I.laid (t':=tk) kp (aP _) (show bH X.prog X.w _ h' _ (.lst^kvs.map λkv=>kV kv.1) from#[by rw[aE];exact f,z.toList,c,?_,by rw[Array.toArray_toList];exact e]),Z,q _^I.aH.fresh^aP _]
 refine C5 (by rw[aE,gk];exact b.trans it.1.symm) λi x v o t=>?_
 obtain⟨k,y,g,hi⟩:=it.2 i v (by rw[<-pe];exact t)
 obtain⟨A,a,rfl⟩:=gF.mp (by rw[<-c5];exact o)
 have e:A.1=k:=by
  clear it o t b n m q f j
  induction kv generalizing i with
  |nil=>simp at a
  |cons p _ D =>
   cases i with
   |zero =>
    simp at a g;subst a;rw[p.1,g]
   |succ i=>exact D i ⇑g ⇑a
 rw[e];exact ub hi
end L2
namespace HT
open PyProof.Rows
section
open SeqAt
open AutoSeq1 (wpAny_loadPart')
open MeetsSeq MeetsSeq2 MeetsSeq3
end
end HT
namespace L2
open Spec PyProof.Rows W HT
theorem mh{α β:Type}{F:α->β->Prop}:∀{l:am α}{m:am β}{i:Nat}{x:α},VT F l m->l[i]?=ih x ->∃y,m[i]?=ih y/\F x y
 |_,_,i,x,.nil,e=>by simp at e
 |_,_,0,x,.cons p _,e=>by simp at e;subst e;exact#[_,Z,p]
 |_,_,i+1,x,.cons _ t,e=>by simpa using mh (i:=i) t ⇑e
end L2
namespace HT
open PyProof.Rows
open AutoSeq1 (wpAny_loadPart')
end HT
namespace L2
open Spec PyProof.Rows W HT
end L2
namespace HT
open PyProof.Rows
end HT
namespace HT
open PyProof.Rows W
end HT
namespace HT
open PyProof.Rows W L2
theorem pS:plainId "dict.update.loop" = true:=⋯
theorem Bs:entryFor table "dict.update.loop" = ih Yh.«dict.update.loop» :=entryFor_of_fast (by kernel_rfl)
theorem stored_new{K:Type} [DecidableEq K]{kvs:am (K×i')}{k:K}{v:i'}(h:k ∉ kvs.map (·.1)):stored kvs k v=kvs++[(k,v)]:=by
 unfold stored;rw[ao];intro z;obtain⟨p,a,e⟩:=lO.mp z;exact h^a8.mpr #[p,a,⇑e]
end HT
namespace HT
open PyProof.Rows
section
open SeqAt
open AutoSeq1 (wpAny_loadPart')
open MeetsSeq MeetsSeq2 MeetsSeq3
end
end HT
namespace L2
open Spec PyProof.Rows W HT
theorem dF{c:Y0}(h:(sc.names.map (·.1)).Nodup/\N'.Nodup/\vx N N' Qf sc=true /\∀p∈sc.names,p.2=.free->c.names.lookup p.1=ih .cell\/c.names.lookup p.1=ih .free:=by decide +kernel)(a:sc.kind=.function:=by rfl)(b:Qf.length=N'.length:=by rfl):b8 N c N' Qf sc:=#[a,h.1,h.2.1,b,DT h.2.2.1,h.2.2.2]
theorem bD{P:am Gd}(h:N.Nodup/\(∀x∈P,sc.names.lookup x=ih .local\/sc.names.lookup x=ih .cell) /\∀y∈sc.names,y.2 ≠ .free:=by decide +kernel)(a:sc.kind=.function:=by rfl)(b:sc.isCoroutine=false:=by rfl)(c:sc.isGenerator=false:=by rfl)(d:N.take P.length=P:=by rfl):bp N P sc:=#[a,b,c,h.1,d,h.2.1,h.2.2]
theorem uJ{xs:am Gd}(h:(xs.map V.str)[i]?=ih v):i<(xs.map V.str).length /\∃a:i<xs.length,V.str xs[i]=v/\xs.take (i+1)=xs.take i++[xs[i]]:=by
 have h1:=(b4.mp h).1;have h2:i<xs.length:=by simpa using h1
 exact#[h1,h2,by simpa [h2] using h,by rw[dQ,bG h2];rfl]
theorem d9{n:Nat}(h:n+64<YZ):n+1<YZ:=()
theorem gS:3<=UM:=by rw[aV];decide
theorem bQ:2<=UM:=U' gS
theorem eW:1<=UM:=U' bQ
end L2
namespace L2
open W
structure bB(P:Yg)(w:Yo)(K:Ys)(mg:Gd->Option i')(base:Yb)(CX:gR)(k:Nat)(f:FG)(fd:X3)(ps:List Gd)(sp:Sp)(x:Gd):Prop where
 G:aT P w K mg base CX k f fd ps sp
 k:Yv K (.ref f)=true
 b:Binds K fd ps []
 m:mg x=ih (.ref f)
section
variable{k:Nat}{p:Z4}{t:TA}
theorem a'(C:bB X.prog X.w X.K X.mg X.base aF k f fd ps sp x)(d:aZ k X.A)(g:PA X (e::es) t)(h:Gl X x:=by rfl)(a:(x==("__debug__" : Gd))=false:=by decide)(i:Vc (e::es) X.env=(false,eval e X.env)::Vc es X.env:=by rfl)(c:(backTo pos^Vc es X.env).any (·.1)=false:=by rfl):PE X (.Call (.Name x p) (e::es) [] pos)^uW sp [] E0 t:=f3 C.G d h C.m C.k C.b .nil c8 g a i c
end
end L2
namespace L2
open Spec PyProof.Rows W
def oE(o:YC):Option i':=match o.data with|.fields vs=>vs[2]? | _=>none
def Kp(o o':YC):Prop:=o'.dict=o.dict/\oE o'=oE o
def KD{α:Type}:Zi α->Prop
 |.pure _=>True
 |.raise _=>True
 |.unsupported _=>True
 |.finish _=>True
 |.rule _ k=>KD (k Unit.unit)
 |.at _ k=>KD (k Unit.unit)
 |.load _ _ k=>∀o,KD (k o)
 |.update _ _ f k=>(∀o,Kp o (f o))/\KD (k Unit.unit)
 |.alloc _ k=>∀a,KD (k a)
 |.loadIfAlive _ k=>∀o,KD (k o)
 |.point _ k=>KD (k Unit.unit)
 |.register _ _=>False
 |.fresh k=>∀t,KD (k t)
 |.ask k=>∀x,KD (k x)
 |.choose _ _ k=>∀n,KD (k n)
 |.os _ _ k=>∀r,KD (k r)
 |.call _ _ _ _ _=>False
 |.handled _ k=>∀v,KD (k v)
 |.newGen _ k=>∀n,KD (k n)
 |.genState _ k=>∀x,KD (k x)
 |.resume _ _ _ _=>False
 |.yield _ _ _ _=>False
 |.stack k=>∀l,KD (k l)
 |.fork _ _=>False
 |.thread k=>∀n,KD (k n)
 |.await _ _ _ _ _=>False
def RD(h h':Yb):Prop:= ∀(a:FG) (o:YC),h.objs[a]?=ih o ->∃o',h'.objs[a]?=ih o'/\Kp o o'
theorem RD.refl(h:Yb):RD h h:=λa o e=>#[o,e,Z,Z]
theorem RD.trans{h1 h2 c:Yb}(a:RD h1 h2)(b:RD h2 c):RD h1 c:=λx o e=>by
 obtain⟨f,e1,d1⟩:=a x o e;obtain⟨g,e2,d⟩:=b x f e1;exact#[g,e2,d.1.trans d1.1,d.2.trans d1.2]
theorem RD.push(r:RD h0 h)(o:YC):RD h0^h.push o:=r.trans λx u e=>#[u,by
 obtain⟨a,l⟩:=h;show(a.push o)[x]?=ih u;have b:x<a.size:=(wU.mp e).1;rw[Array.getElem?_push,ao^bK b];exact e,Z,Z]
theorem RD.update(r:RD h0 h){f:YC->YC}(g:∀o,Kp o^f o):RD h0^h.update a f:=r.trans λx u e=>by
 obtain⟨b,l⟩:=h;show ∃o',(b.modify a f)[x]?=ih o'/\_;rw[Array.getElem?_modify];have d:b[x]?=ih u:=e
 by_cases c:a=x
 .rw[aB c,d];exact#[f u,Z,g u]
 .rw[ao c];exact#[u,d,Z,Z]
theorem RD.dict(r:RD h h'){o':YC}(e:h.get? a=ih o)(c:h'.get? a=ih o'):Kp o o':=by
 have b:∀{g:Yb}{u:YC},g.get? a=ih u->g.objs[a]?=ih u:=λ{g u} q=>by
  unfold acb at q;split at q
  .cases q
  .exact q
 obtain⟨f,e2,d⟩:=r a o^b e;rw[b c]at e2;cases e2
 exact d
theorem Nj{α:Type}{M:ZI}{Γ:PySem.Ctx}:∀{t:Zi α}{Q:α->Z4->UJ->Prop}{E:i'->Z4->UJ->Prop}{p:Z4}{s:UJ},KD t->RD h0 s.heap->Sem.wp M Γ t Q E p s ->
  Sem.wp M Γ t (λv p s'=>Q v p s'/\RD h0 s'.heap) (λv p s'=>E v p s'/\RD h0 s'.heap) p s:=by
 intro t
 induction t with
 |pure a=>intro Q E p s _ r h;exact#[h,r]
 |raise e=>intro Q E p s _ r h;exact#[h,r]
 |unsupported w=>intro Q E p s _ r h;exact h
 |finish e=>intro Q E p s _ r h;exact h
 |rule t k d=>intro Q E p s kd r h;exact d Unit.unit kd r h
 |«at» q k d=>intro Q E p s kd r h;exact d Unit.unit kd r h
 |load a q k d=>intro Q E p s kd r h;obtain⟨o,e,h⟩:=h;exact#[o,e,d o (kd o) r h]
 |update a q f k d=>intro Q E p s kd r h;exact#[h.1,d Unit.unit kd.2 (r.update kd.1) h.2]
 |alloc o k d=>intro Q E p s kd r h;exact d _ (kd _) (r.push o) h
 |loadIfAlive a k d=>intro Q E p s kd r h;exact d _ (kd _) r h
 |point l k d=>intro Q E p s kd r h;exact d Unit.unit kd r h
 |register a k d=>intro Q E p s kd r h;exact h
 |fresh k d=>intro Q E p s kd r h;exact d _ (kd _) r h
 |ask k d=>intro Q E p s kd r h;exact d _ (kd _) r h
 |choose i n k d=>intro Q E p s kd r h;exact#[h.1,d _ (kd _) r h.2]
 |os q l k d=>intro Q E p s kd r h;exact d _ (kd _) r h
 |call c j g l k d=>intro Q E p s kd r h;exact Vn kd
 |handled own k d=>intro Q E p s kd r h;exact d _ (kd _) r h
 |newGen c k d=>intro Q E p s kd r h;exact d _ (kd _) r h
 |genState g k d=>intro Q E p s kd r h;obtain⟨st,e,h⟩:=h;exact#[st,e,d _ (kd _) r h]
 |resume g rs l k d=>intro Q E p s kd r h;exact Vn kd
 |yield v g l k d=>intro Q E p s kd r h;exact Vn kd
 |stack k d=>intro Q E p s kd r h;exact d _ (kd _) r h
 |fork c k d=>intro Q E p s kd r h;exact Vn kd
 |thread k d=>intro Q E p s kd r h;exact d _ (kd _) r h
 |await a t b l k d=>intro Q E p s kd r h;exact Vn kd
theorem Mn{α:Type}{M:ZI}{t:Zi α}{Q:α->UJ->Prop}(k:KD t)(h:UL M A t Q E s) :
  UL M A t (λv s'=>Q v s'/\RD s.heap s'.heap) (λv s'=>E v s'/\RD s.heap s'.heap) s:=λΓ p hi=>Nj k (RD.refl _) (h Γ p hi)
theorem KD.bind{α β:Type}{f:α->Zi β}(h:∀x,KD^f x):∀{t:Zi α},KD t->KD^t.bind f:=by
 intro t
 induction t with
 |pure a=>intro _;exact h a
 |raise e=>intro _;trivial
 |unsupported w=>intro _;trivial
 |finish e=>intro _;trivial
 |rule t k d=>intro kd;exact d Unit.unit kd
 |«at» q k d=>intro kd;exact d Unit.unit kd
 |load a q k d=>intro kd o;exact d o^kd o
 |update a q g k d=>intro kd;exact#[kd.1,d Unit.unit kd.2]
 |alloc o k d=>intro kd a;exact d a^kd a
 |loadIfAlive a k d=>intro kd o;exact d o^kd o
 |point l k d=>intro kd;exact d Unit.unit kd
 |register a k d=>intro kd;exact Vn kd
 |fresh k d=>intro kd o;exact d o^kd o
 |ask k d=>intro kd o;exact d o^kd o
 |choose i n k d=>intro kd o;exact d o^kd o
 |os q l k d=>intro kd o;exact d o^kd o
 |call c j g l k d=>intro kd;exact Vn kd
 |handled own k d=>intro kd o;exact d o^kd o
 |newGen c k d=>intro kd o;exact d o^kd o
 |genState g k d=>intro kd o;exact d o^kd o
 |resume g rs l k d=>intro kd;exact Vn kd
 |yield v g l k d=>intro kd;exact Vn kd
 |stack k d=>intro kd o;exact d o^kd o
 |fork c k d=>intro kd;exact Vn kd
 |thread k d=>intro kd o;exact d o^kd o
 |await a t b l k d=>intro kd;exact Vn kd
theorem KD.cE{α β:Type}{t:Zi α}{f:α->Zi β}(h:KD t)(a:∀x,KD^f x):KD (t >>= f):=KD.bind a h
theorem KD.pure{α:Type}{x:α}:KD (Pure.pure x:Zi α):=VL
theorem KD.iP{α:Type}{w:String}:KD (PySem.unsupported w:Zi α):=VL
theorem tJ:KD PySem.stack:=λ_=>VL
theorem uc:KD^PySem.load a:=λ_=>VL
theorem Bt{f:YC->YC}(h:∀o,Kp o^f o):KD^PySem.update a f:=#[h,VL]
theorem Hj{v:i'}:KD^fieldsOf v:=by
 unfold fieldsOf;split
 .refine KD.cE uc λo=>?_
  split
  .exact KD.pure
  .exact KD.iP
 .exact KD.iP
theorem pY{v:i'}:KD^field v i:=by
 unfold field;refine KD.cE Hj λo=>?_;split
 .exact KD.pure
 .exact KD.iP
theorem GH{x:i'}(hi:i≠2):∀o:YC,Kp o^Y9 (·.setIfInBounds i x) o:=λ⟨c,d,a,s⟩=>by
 cases a <;> first|exact⟨rfl,rfl⟩|exact⟨rfl,Array.getElem?_setIfInBounds_ne hi⟩
theorem nF{v x:i'}(hi:i≠2:=by decide):KD^setField v i x:=by
 unfold setField;split
 .unfold updateField
  refine KD.cE uc λo=>?_;split
  .split
   .exact Bt^GH hi
   .exact KD.iP
  .exact KD.iP
 .exact KD.iP
theorem sH{ty:String}{vs:am i'}:KD^newFields ty vs:=by
 unfold newFields newObj
 dsimp only
 split
 .exact KD.iP
 .show KD^newObjAsIs _ _ _
  unfold newObjAsIs;exact KD.cE (λ_=>VL) λ_=>KD.pure
theorem Hk{b:Bool}{l:am Zq}:KD^keptBack env b l:=by
 unfold keptBack;split
 .split
  .exact KD.pure
  .unfold underTheClaimsCaller
   exact KD.cE (KD.cE tJ λ_=>KD.pure) λ_=>by split <;> exact KD.pure
 .exact KD.pure
theorem IP{l:am Zq}:KD^behindIsImport env l:=by
 unfold behindIsImport;split
 .exact KD.pure
 .split
  .exact KD.pure
  .exact KD.cE pY λ_=>KD.pure
theorem Ce:∀l:am Zq,KD^readyFrames l
 |[]=>by unfold readyFrames;exact KD.pure
 |env::outer=>by
  unfold readyFrames;split
  .refine KD.cE uc λo=>?_
   split
   .exact KD.pure
   .exact KD.cE IP λ_=>KD.cE Hk λ_=>KD.cE (Bt λ_=>#[Z,Z]) λ_=>Ce outer
  .exact KD.iP
theorem sQ:KD^ZG env:=by
 unfold ZG;refine KD.cE ?_ λl=>KD.cE ?_ λr=>?_
 .unfold frameEnvs
  exact KD.cE tJ λ_=>KD.pure
 .unfold frameObject
  split
  .exact KD.pure
  .exact KD.cE (Ce _) λ_=>KD.pure
 .split
  .exact KD.pure
  .exact KD.iP
theorem tK{b:Bool}:KD^entryPlaceOf f b:=by
 unfold entryPlaceOf;refine KD.cE tJ λl=>?_;split
 .exact KD.pure
 .exact KD.pure
theorem C6{e:i'}:KD^noteFrame e env:=by
 unfold noteFrame;split
 .refine KD.cE pY λa=>?_
  have c:∀f b,KD (setField e 1 =<< (do acz a (<- ZG env) .none (rawInt f) .none (<- entryPlaceOf f b))):=λf b=>KD.cE (KD.cE sQ λ_=>KD.cE tK λ_=>sH) λ_=>nF;split
  .refine KD.cE pY λx=>?_
   split
   .exact KD.pure
   .exact KD.cE nF λ_=>KD.cE sQ λ_=>KD.cE tK λ_=>KD.cE sH λ_=>nF
  .exact KD.cE sQ λ_=>KD.cE tK λ_=>KD.cE sH λ_=>nF
 .exact KD.iP
theorem sI{e:i'}{f:a2 FG}:KD^setFlight e f:=by
 unfold setFlight;refine KD.cE pY λtb=>?_;split
 .exact nF
 .exact KD.pure
theorem AR{e:i'}:KD^leaving env e:=by
 unfold leaving;exact KD.cE C6 λ_=>sI
def hj(n:Option i')(C:FG)(dx:Option FG)(a:FG):HO:=.ext λh=>∃ox vs,h.get? a=ih ox/\ox.cls=.ref C/\ox.dict=dx/\ox.data=.fields vs/\(∀y,n=ih y->vs[2]?=ih y)
section
variable{n:a2 i'}
theorem K6{vs:Array i'}(e:h.get? a=ih ox)(c:ox.cls=.ref C)(d:ox.dict=dx)(f:ox.data=.fields vs)(z:∀y,n=ih y->vs[2]?=ih y):bH P w H h a^hj n C dx a:=
 #[#[ox,vs,e,c,d,f,z],#[_,e],λ_ _ ⟨ox,vs,q,r⟩ k=>#[ox,vs,k _ q,r]]
theorem K7{B:Yb}{l:am Zq}{a0:i'}(f:YE B l a (.ref C) a0 h)(r:∃ox,h.get? a=ih ox/\ox.dict=dx/\(∀y,n=ih y->oE ox=ih y)):bH P w H h a^hj n C dx a:=by
 obtain⟨_,_,_,i,vs,_,_,_,b,g,c,_⟩:=f;obtain⟨ox,e,d,z⟩:=r;rw[b]at e;cases e;exact K6 b g.1 d c λy=>by have:=z y;unfold oE at this;rw[c]at this;exact this
theorem C7(ok:cu P w H h)(n:H a=none)(o:bH P w (upd H a O) h a O):cu P w (upd H a O) h:=λb u e=>by
 by_cases c:b=a
 .subst c
  rw[ah]at e;cases e;exact o
 .rw[ag c]at e
  exact(ok b u e).eF (λ_ _ _ q=>q) (λx q=>by rw[ag^aA q n];exact q) λx xs q=>by rw[ag^aA q n];exact q
theorem Un.add{fs ex:am FG}(u:Un fs ex H H' h h')(c:H' a=none)(n:h.get? a=none):Un fs ex H (upd H' a O) h h':=
 #[u.keep,u.slot,λb o e q x=>by
  have:b≠a:=by rintro rfl;rw[n]at e;cases e
  rw[ag this];exact u.free b o e q x,u.there,λb xs e=>by
  have q:=u.gy b xs e;rw[ag^aA q c];exact q,λb o v e=>by
  have q:=u.gN b o v e;rw[ag^aA q c];exact q,λb ps e=>by
  obtain⟨m,q⟩:=u.g8 b ps e;exact#[m,by rw[ag^aA q c];exact q]]
theorem JJ:upd (hY H a) a O=upd H a O:=by
 funext b;unfold upd
 by_cases c:b=a
 .rw[aB c,aB c]
 .rw[ao c,ao c,l9 c]
end
section
variable{fs:am (Gd×V)}{f:Gd}{n:a2 i'}
theorem IQ{b:Bool}{Q:i'->UJ->Prop}(I:Inv X J σ H s)(e:H a=ih^hj n C (ih d) a)(m:H d=ih^fu d fs)(c:eV X.K C)(no:Yk X.K (.ref C) f=ih none)(l:fs.lookup f=ih v)
  (h:∀u s',Inv X J σ H s'->RelV v u->Q u s'):UL X.dt A (getAttr (.ref a) f b) Q E s:=by
 obtain⟨ox,vs,j,o,p,q,_⟩:=(I.aH a _ e).1;obtain⟨_,mA,t,r,_⟩:=I.t8 m;obtain⟨od,k,look⟩:=pN t;have g:=r f;rw[l]at g;obtain⟨u,w,i⟩:=ez.some_of g;have x:InstAt s.heap a ox C^ih od:=#[j,o,by unfold notCls;rw[q],by rw[p];exact k]
 exact KU I.bX x c (findObj_own c.hd no Z^by rw[look,w]) (Be i)^h u _ (I.tok _) i
end
section
variable{f:Gd}
def Nk(X:Cx)(ta:TE)(f:Gd):TE:=λσ H Q=>ta σ H λx Y=>∃a n C d fs v,x=.ref a/\Y a=ih (hj n C (ih d) a)/\Y d=ih (fu d fs)/\eV X.K C/\Yk X.K (.ref C) f=ih none/\fs.lookup f=ih v/\Q v Y
theorem C8(b:PE X e ta)(g:attributeBase e f X.env^eval e X.env=eval e X.env:=by rfl):PE X (.Attribute e f pos)^Nk X ta f:=by
 intro J s σ H Q I h;refine CU g^aG (b J s σ H _ I h) λu s1 t=>?_;obtain⟨x,Y,i,j,a,_,C,d,fs,v,ex,k,m,c,n,l,q⟩:=t;subst ex;obtain rfl:u=UZ a:=j;exact IQ i k m c n l λr s2 o p=>#[v,Y,o,p,q]
end
theorem Hl{D:Ends}{R:FG->FG->Option FG->Hp->Prop}(I:Inv X J σ H s)(o:X.calm=true)(p:PE X e te)
  (h:te σ H λv Y=>∃a C dx i,v=.ref a/\Y a=ih^cL C dx a/\(∀d,dx=ih d ->∃fs,Y d=ih^fu d fs)/\eV X.K C/\f7 X.K C i=true/\R a C dx Y)
  (j:∀a C dx Y s1,Inv X J σ Y s1->Y a=ih^cL C dx a->R a C dx Y->X.xe (.ref a) s1) :
  wA X (exec (.Raise (ih e) none pos) X.env) (SP X J D) X.xe s:=by
 rw[arm_exec_Raise];refine ae^ku (show UL _ _ (raiseStmt X.env (ih (do let v <- eval e X.env;standAt pos;pure v)) none) _ _ _ from ?_);unfold raiseStmt;refine ae^ae^aG (p J s σ H _ I h) λu s1 aa=>?_;obtain⟨v,Y,b,r,a,C,dx,i,w,f,y,c,q,l⟩:=aa;refine ae^ku^ak ?_;subst w;obtain rfl:u=.ref a:=r;obtain⟨ox,od,t,inst,rfl⟩:=b.K1 f y;have g:aad X.dt s1.heap (isType^.ref a) false:=λF G L s' k z=>by
  simp only[isType,loadHead];exact ae^wG (k _ _ inst.at_)^ak z
 have m:aad X.dt s1.heap (isInstance (.ref a)^.type "BaseException") true:=inst.type.andThen^wM b.bX c.be;obtain⟨M,N,O,qn,bs,B,P,sub,Q,E,S,T,U,V,W,xa,mN,A,_⟩:=(pQ b.bX q).ex;have n:s1.TypeIs (.ref C) "type" :=#[_,A,Z];refine ae^ak^ae^ed ?_;unfold excFromValue isExcClass;refine ae^ae^g.here^ak ?_;refine ae^m.here^ak ?_;refine ae^g.here ?_;unfold raisedInstance;refine ae^ae^inst.type.here^ae^jy n ?_;rw[aB (show(Yn "type" == Yn "type")=true from by decide)]
 refine ak ?_;unfold setFlight raiseNew;refine ae^ae^lK inst.at_ Z (x:=.none) Z ?_;rw[ao (show ¬ ((Vv != Vv)=true) from by decide)]
 refine ak^ae^wpAny_handled_none (b.ok.hd o) ?_
 first
  |exact sj (j a C dx Y s1 b f l)
  |exact ae (ak (sj (j a C dx Y s1 b f l)))
def cT(P:Yg)(w:Yo):gR:=λouter H s E e s'=>∃(a:FG) (n:Option i') (C:FG) (a0:i') (dx:Option FG) (H':Hp) (B:Yb),e=.ref a/\s'.os=s.os/\Zf s'.gens/\YE B outer a (.ref C) a0 s'.heap /\
 (∃ox,s'.heap.get? a=ih ox/\ox.dict=dx/\(∀y,n=ih y->oE ox=ih y))/\(∀h',B.StaysIn h'->s'.heap.UpToSlots h'->Un (ej outer) [] H H' s.heap h'/\cu P w H' h')/\H' a=none/\s.heap.get? a=none/\E (.ref C) (ih a) (upd H' a (hj n C dx a))
theorem n5{α:Type}{M:ZI}{t:Zi α}{Q a:α->UJ->Prop}(k:KD t)(h:UL M A t Q E s)(q:∀v s',Q v s'->RD s.heap s'.heap->a v s'):UL M A t a E s:=
 ir (Mn k h) (λv s' z=>q v s' z.1 z.2) λ_ _ z=>z.1
section
variable{E:XK}
def K8(K:Ys)(H0:Hp)(E:XK)(te:TE):TS:=λ_ σ H=>te σ H λv Y=>∃a C dx i,v=.ref a/\Y a=ih (cL C dx a)/\(∀d,dx=ih d ->∃fs,Y d=ih (fu d fs))/\eV K C/\f7 K C i=true/\H0 a=none/\E (.ref C) (ih a) (upd Y a (hj (ih .none) C dx a))
theorem Bu(n:PE (d8 (cT P w) P w K mg base N qual scope f cd A outer s H E) e te) :
  PS (d8 (cT P w) P w K mg base N qual scope f cd A outer s H E) (.Raise (ih e) none pos)^K8 K H E te:=by
 intro J s1 σ Y D I h;refine Hl (R:=λa C dx H2=>H a=none/\E (.ref C) (ih a)^upd H2 a^hj (ih .none) C dx a) I Z n h λa C dx H2 s2 c i ⟨h0,p⟩=>?_;have fr:s2.heap.FunFrames base (envOfC qual scope s.aj f cd::outer):=c.stack;have all:∀env∈(envOfC qual scope s.aj f cd::outer),∀b,env.frame=ih b->b∈a::ej (envOfC qual scope s.aj f cd::outer):=λenv m b r=>bh _^o7.mpr #[env,m,r];obtain⟨t,d⟩:=c.excAt i;have new:s.heap.get? a=none:=by
  have u:Un (ej outer) [] H H2 s.heap s2.heap:=c.base;cases q:s.heap.get? a with
  |none=>rfl
  |some o =>
   have:=u.free a o q h0 (by simp)
   rw[i]at this;cases this
 show UL (U0 P w) _ (leaving _^.ref a) _ _ _;refine n5 AR (wpAny_leaving_firstW (Q:=λ_ s'=>∃h',s'={ s2 with heap:=h' }/\Heap.LeftW (hideAll s2.heap (a::ej (envOfC qual scope s.aj f cd::outer))) (envOfC qual scope s.aj f cd::outer) a (.ref C) (.ref t) s2.heap h') (base:=hideAll s2.heap (a::ej (envOfC qual scope s.aj f cd::outer))) (L:=s.aj) (a0:=.ref t) c.ok.frames (funFrames_hide fr all) Z d (λb o q=>of_hideAll _ q) (hideAll_none _ aY) Z Z Z λh' j=>#[h',Z,j]) λ_ s' ⟨h',es,j⟩ k=>?_;subst es;obtain⟨v,⟨_,_,x⟩,z,B⟩:=j;have l:YE (hideAll s2.heap (a::ej (envOfC qual scope s.aj f cd::outer))) outer a (.ref C) (.ref t) h':=#[v,hideAll_none _ aY,x,z];obtain⟨ox,g,_⟩:=l.there;refine#[a,ih .none,C,.ref t,dx,hY H2 a,hideAll s2.heap (a::ej (envOfC qual scope s.aj f cd::outer)),Z,c.os,c.bare,l,#[ox,g,(k.dict d g).1,λy F=>by cases F;exact(k.dict d g).2],λM G up=>?_,by unfold hY;rw[aB Z],new,by rw[JJ];exact p]
 exact c.hidden Z Z Z i h0 G^w2 B up
end
theorem aQ.P8{k:Nat}(F:aQ K x qual st f fd)(S:bp N ps^aI st)(b:∀vs H Q E,sp vs H Q E->vs.length=ps.length)
  (a:∀(Qb:i') (A:Yq) (outer:am Zq) (s:UJ) (H:Hp) (vs:am V) (Q:VK) (E:XK),aZ k^A.deeper^envOfC qual (aI st) s.aj f Qb->sp vs H Q E ->
   ∃t,dH (d8 (cT P w) P w K mg base N qual (aI st) f Qb A outer s H E) (bJ st) t/\t { nx:=λ_ H'=>Q .aK H',rt:=Q } (start N vs) H):aT P w K mg base (cT P w) (k+1) f fd ps sp:=by
 obtain⟨oc,od,kV,Qe,pm,an,Qb,ct,Qn,rfl,lk,c⟩:=F.ex;exact uX lk c S b λA outer s H vs Q E e d=>a Qb A outer s H vs Q E e d
theorem Aq{Q:Bool->UJ->Prop}{i:a2 i'}{r:Bool}(X:K.In s.heap)(q:f7 K B i=true)(k:mroIn K C^.ref B=ih r)(e:s.heap.get? a=ih ox)(l:ox.cls=.ref C)(h:Q r s) :
  UL (U0 P w) A (excMatches (.ref a)^.ref B) Q E s:=by
 obtain⟨b,N,p,qn,bs,n,t,sub,u,o,v,x,y,z,D,F,mN,c,_,_,T⟩:=(pQ X q).ex;have L:aad (U0 P w) s.heap (isSubtype (.ref C)^.ref B) r:=wM X k;obtain⟨G,g,d,tk,os⟩:=s;have m:b.contains^.type "BaseException"=true:=T.hasType ∅
 have j:(UZ B::b).contains (.type "BaseException")=true:=by rw[List.contains_cons,m,Bool.or_true]
 have f:=tc_notTuple;unfold excMatches
 repeat (first|(with_reducible refine se e ?_;rw[l])|with_reducible refine se c ?_|(with_reducible refine wpAny_isSubtype_exc c ?_;rw[j])|(with_reducible refine L.here ?_)|wp_step)
 cases r <;> (wp_walk;exact h)
def Cx.hV(X:Cx)(J:List (FG×YC))(E:St->XK):Cx:={ X with pn:=X.pn++J,xe:=λe s'=>∃cM H s1,Inv X J cM H s1/\cT X.prog X.w X.stack H s1 (E cM) e s' }
section
variable{Qr:am (FG×YC)}{E:St->XK}{D:Ends}
theorem Inv.hV(I:Inv X J σ H s):Inv (X.hV J E) [] σ H s:=
 #[#[I.ok.mod,I.ok.kind,I.ok.glob,I.ok.blt,I.ok.above,I.ok.inj,I.ok.has,I.ok.j8,I.ok.hd,I.ok.frames,I.ok.lC,I.ok.lD,I.ok.bs,I.ok.ib,I.ok.jZ,I.ok.j0,I.ok.fV,I.ok.iO],I.os,I.bare,I.base,I.loc,I.cell,I.free,I.eR,(λp a=>I.pin p^by rw[e6]at a;exact a),I.aH,I.len]
theorem Inv.k6(ok:X.Ok)(I:Inv (X.hV J E) Qr σ H s):Inv X J σ H s:=
 #[ok,I.os,I.bare,I.base,I.loc,I.cell,I.free,I.eR,(λp a=>I.pin p^gj _ a),I.aH,I.len]
theorem Cx.Ok.Nl(ok:(X.hV J E).Ok):X.Ok:=#[ok.mod,ok.kind,ok.glob,ok.blt,ok.above,ok.inj,ok.has,ok.j8,ok.hd,ok.frames,ok.lC,ok.lD,ok.bs,ok.ib,ok.jZ,ok.j0,ok.fV,ok.iO]
theorem SP.k6{f:Flow}(ok:X.Ok)(h:SP (X.hV J E) Qr D f s):SP X J D f s:=by
 cases f with
 |next=>obtain⟨a,H',I,q⟩:=h;exact#[a,H',I.k6 ok,q]
 |brk=>obtain⟨a,H',I,q⟩:=h;exact#[a,H',I.k6 ok,q]
 |cont=>obtain⟨a,H',I,q⟩:=h;exact#[a,H',I.k6 ok,q]
 |ret u=>obtain⟨v,a,H',I,r,q⟩:=h;exact#[v,a,H',I.k6 ok,r,q]
end
section
variable{Qq:am (FG×YC)}{EE:St->XK}{k:Nat}{p:Z4}{t:TA}
def DF(sp:Sp)(EE:St->XK)(t:TA):TE:=λσ H Q=>t σ H λvs Y=>sp vs Y Q (EE σ)
theorem JK(F:aT X.prog X.w X.K X.mg X.base (cT X.prog X.w) k f fd ps sp)(j:aZ k X.A)(l:Gl X x)(m:X.mg x=ih^.ref f)(n:Yv X.K^.ref f=true)(o:Binds X.K fd ps [])
  (v:PA (X.hV Qq EE) (e::es) t) (d:(x==("__debug__" : Gd))=false:=by decide) (y:Vc (e::es) X.env=(false,eval e X.env)::Vc es X.env:=by rfl) (g:(backTo pos^Vc es X.env).any (·.1)=false:=by rfl) :
  PE (X.hV Qq EE) (.Call (.Name x p) (e::es) [] pos)^DF sp EE t:=by
 intro J s σ H Q I h;refine m8^md I l m ?_ d;refine callWith_K (h₀:=X.base) I.ok.mod.lB n (aG (v pos J s σ H _ I h) λus s1 ⟨vs,Y,a,r,q⟩=>#[a.bX,?_]) y g;have z:us.length=ps.length:=by rw[<-r.length];exact F.len _ _ _ _ q
 have c:=o s1 us a.bX (by rw[e6];exact z)
 rw[e6]at c;refine kz^lJ (F.run X.A X.stack s1 Y #[us,[]] us vs _ _ j a.qY c r q) λi s2 b=>?_;cases i with
 |ok B =>
  cases B with
  |ret u=>exact a.after b
  |next=>exact Vn b
  |brk=>exact Vn b
  |cont=>exact Vn b
 |error C=>exact#[σ,Y,s1,a.k6 a.ok.Nl,b]
end
theorem qi{M:ZI}{Q:Unit->UJ->Prop}(I:Inv X J σ H s)(F:X.N.Nodup)(hi:X.N[i]?=ih x)(G:X.env.scope.names.lookup x=ih .local)
  (h:∀s',Inv X J (σ.set i none) H s'->Q Unit.unit s'):UL M A (do bindName X.env x .none;unbindBehindTheSuite X.env x pos) Q E s:=by
 obtain⟨m,r,K⟩:=id I.loc;have B:(X.env.scope.kind == .class||(X.env.scope.kind == .module&&X.env.locals != X.env.globals))=false:=by rw[I.ok.kind];rfl
 have ic:=I.ic;refine wpAny_nameGoes_keeps G r B λh' v C a=>?_;obtain⟨V,_,_,U,_⟩:=id r;have u:cu X.prog X.w H h':=λb L e=>by
  refine(I.aH b L e).eF (λc t hc q=>(a.2 c ?_).trans q) (λ_ q=>q) λ_ _ q=>q;rintro rfl;rcases hc with rfl|hc
  .rw[I.free]at e;cases e
  .rw[I.free]at hc;cases hc
 refine h _ #[I.ok,I.os,I.bare,#[λb o e n g f=>?_,λb o e n g f=>?_,I.base.free,λb o e f=>?_,I.base.gy,I.base.gN,I.base.g8],#[_,C,λj y O e1 e2 e3=>?_],λy c e=>?_,I.free,I.eR,λp P=>?_,u,⇑I.len]
 .exact(a.2 b^bK^eZ (bA e) I.ok.above).trans (I.base.keep b o e n g f)
 .obtain⟨sl,e1⟩:=I.base.slot b o e n g f
  exact#[sl,(a.2 b^bK^eZ (bA e) I.ok.above).trans e1]
 .obtain⟨o',e1⟩:=I.base.there b o e f
  exact#[o',(a.2 b^bK^eZ (bA e) I.ok.above).trans e1]
 .by_cases l:j=i
  .subst l
   by_cases D:j<σ.length
   .rw[Fw D]at e2;cases e2
   .rw[sk^by rw[aaB];omega]at e2;cases e2
  .rw[Fx^aS l]at e2
   obtain⟨R,S,q⟩:=K j y O e1 e2 e3;refine#[R,S,?_];rcases q with⟨k,e⟩|⟨k,c,e,z⟩
   .refine .inl #[k,?_]
    have:y≠x:=λe=>l^tH F e1 (e ▸ hi);simp[this,e]
   .exact .inr #[k,c,e,z.sameBut a^ic y c e]
 .obtain⟨t,z⟩:=I.cell y c e
  exact#[t,z.sameBut a^ic y c e]
 .obtain⟨e,n,ne,T,d⟩:=I.pin p P
  exact#[(a.2 p.1 ne).trans e,n,ne,T,d]
def E4(j:Nat)(D:Ends):Ends:={ nx:=λσ H=>D.nx (σ.set j none) H,rt:=D.rt,bk:=λσ H=>D.bk (σ.set j none) H,ct:=λσ H=>D.ct (σ.set j none) H }
section
variable{p5 p6 p7:Z4}{b0 b1:Vm}{Qu:am Vm}{tb:Ends->TS}{th:FG->TS}{ci:a2 i'}
def Mo(tb:Ends->TS):TS:=λD σ H=>tb D D σ H
end
section
variable{E:XK}
theorem qI:Passes (cT P w) (d8 (cT P w) P w K mg base N qual scope f cd A outer s H E) E:=by
 rintro J σ Y s1 e s2 I ⟨a,n,C,j,dx,H',B,rfl,os,g,m,⟨ox,h,t,v⟩,p,x,new,D⟩;show UL (U0 P w) _ (leaving _^.ref a) _ _ _;have r:s1.os=s.os:=I.os;refine n5 AR (wpAny_leaves_onW (Q:=λ_ s'=>∃h',s'={ s2 with heap:=h' }/\YE B outer a (.ref C) j h'/\s2.heap.UpToSlots h') I.ok.frames Z m λh' c up=>#[h',Z,c,up]) λ_ s' ⟨h',es,c,up⟩ k=>?_;subst es;obtain⟨o',d,_⟩:=c.there;refine#[a,n,C,j,dx,H',B,Z,os.trans r,g,c,#[o',d,(k.dict h d).1.trans t,λy F=>(k.dict h d).2.trans (v y F)],λi G L=>?_,x,?_,D]
 .obtain⟨u,ok⟩:=p i G^w2 up L
  have l:=I.uS (s':={ s2 with heap:=i }) os u ok g (λb z=>absurd z^by simp)
  exact#[l.base,l.aH]
 .cases q:s.heap.get? a with
  |none=>rfl
  |some o =>
   obtain⟨M,e2⟩:=I.base.there a o q (by show a ∉ ([]:am FG);simp)
   rw[new]at e2;cases e2
end
end L2
namespace L2
open W
section
variable{f0:FG}{E:XK}{k:Nat}{p:Z4}{t:TA}
theorem K9(C:bB P w K mg base (cT P w) k f fd ps sp x)(d:aZ k (d8 (cT P w) P w K mg base N qual scope f0 cd A outer s H E).A)(g:PA (d8 (cT P w) P w K mg base N qual scope f0 cd A outer s H E) (e::es) t)(h:Gl (d8 (cT P w) P w K mg base N qual scope f0 cd A outer s H E) x:=by rfl)(a:(x==("__debug__" : Gd))=false:=by decide)(i:Vc (e::es) (d8 (cT P w) P w K mg base N qual scope f0 cd A outer s H E).env=(false,eval e (d8 (cT P w) P w K mg base N qual scope f0 cd A outer s H E).env)::Vc es (d8 (cT P w) P w K mg base N qual scope f0 cd A outer s H E).env:=by rfl)(c:(backTo pos^Vc es (d8 (cT P w) P w K mg base N qual scope f0 cd A outer s H E).env).any (·.1)=false:=by rfl):PE (d8 (cT P w) P w K mg base N qual scope f0 cd A outer s H E) (.Call (.Name x p) (e::es) [] pos)^uW sp [] E t:=f3 C.G d h C.m C.k C.b .nil qI g a i c
end
section
variable{Qq:am (FG×YC)}{EE:St->XK}{k:Nat}{p:Z4}{t:TA}
theorem K'(C:bB X.prog X.w X.K X.mg X.base (cT X.prog X.w) k f fd ps sp x)(d:aZ k X.A)(g:PA (X.hV Qq EE) (e::es) t)(h:Gl X x:=by rfl)(a:(x==("__debug__" : Gd))=false:=by decide)(i:Vc (e::es) X.env=(false,eval e X.env)::Vc es X.env:=by rfl)(c:(backTo pos^Vc es X.env).any (·.1)=false:=by rfl):PE (X.hV Qq EE) (.Call (.Name x p) (e::es) [] pos)^DF sp EE t:=JK C.G d h C.m C.k C.b g a i c
end
end L2
namespace L2
open Spec PyProof.Rows W HT
theorem fj{t u:TS}{D:Ends}(h:∀U:TS,U=u->let a:=σ;let E:Ends:={ D with nx:=U D };t E a H):qW t u D σ H:=h u Z
theorem bO{U t u:TS}{D:Ends}{a:VK}{bk ct:St->Hp->Prop}(b:U=qW t u)(h:∀U:TS,U=u->let c:=σ;let E:Ends:={ D with nx:=U D };t E c H):(Ends.mk (U D) a bk ct).nx σ H:=by subst b;exact h u Z
theorem fw{U t:TS}{D:Ends}{a:VK}{bk ct:St->Hp->Prop}(b:U=t)(h:let c:=σ;t D c H):(Ends.mk (U D) a bk ct).nx σ H:=by subst b;exact h
theorem hR{g:TG}{x:V}{D:Ends}(h:let b:=σ;let E:=D;g x b H λa H2=>tb E a H2):g x σ H λa H2=>tb D a H2:=h
def Nn(t:TA):TE:=λσ H Q=>t σ H λxs Y=>xs.length<=UM /\∀p H',ax Y H'->Y p=none->H' p=ih (.tup xs)->Q (.ref p) H'
def DW(t:TA):TE:=λσ H Q=>t σ H λxs Y=>xs.length<=UM /\∀p H',ax Y H'->Y p=none->H' p=ih (.lst xs)->Q (.ref p) H'
theorem dU{o:HO}(a:H p=none):ax H^upd H p o:=λb u e=>by rw[ag^aA e a];exact e
section
variable{t:TA}{k:Nat}
theorem eT(h:PA X es t):PE X (.Tuple es k pos)^Nn t:=by
 intro J s σ H Q I d;refine wpAny_Tuple_spliced^aG (h pos J s σ H _ I d) λus s1 ⟨xs,Y,a,r,z,q⟩=>#[by rw[<-r.length];exact z,?_]
 have c:Y s1.aj=none:=a.aH.fresh^aP _;refine#[.ref s1.aj,upd Y s1.aj^.tup xs,a.laid (t':=s1.toks) (λb u e=>a9 _ e) (aP _) ?_,Z,q _ _ (dU c) c ah];exact#[z,us,r,#[_,bU _ Z,Z,_,Z,Z]]
theorem jW(h:PA X es t):PE X (.List es pos)^DW t:=by
 intro J s σ H Q I d;refine wpAny_List_spliced^aG (h pos J s σ H _ I d) λus s1 ⟨xs,Y,a,r,z,q⟩=>#[by rw[<-r.length];exact z,?_]
 have c:Y s1.aj=none:=a.aH.fresh^aP _;refine#[.ref s1.aj,upd Y s1.aj^.lst xs,a.laid (t':=s1.toks) (λb u e=>a9 _ e) (aP _) ?_,Z,q _ _ (dU c) c ah];exact#[z,us,0,r,bU _ Z]
end
theorem aQ.bI{k:Nat}(F:aQ K x qual st f fd)(S:bp N ps^aI st)
  (a:∀(Qb:i') (A:Yq) (outer:am Zq) (s:UJ) (H:Hp) (vs:am V) (Q:VK) (E:XK),aZ k^A.deeper^envOfC qual (aI st) s.aj f Qb->sp vs H Q E ->
   let X:=(d8 aF P w K mg base N qual (aI st) f Qb A outer s H E).lE
   ∃t,dH X (bJ st) t/\t { nx:=λ_ H'=>Q .aK H',rt:=Q } (start N vs) H)
  (b:∀vs H Q E,sp vs H Q E->vs.length=ps.length:=by intro _ _ _ _ h;obtain⟨rfl,_⟩:=h;rfl):aT P w K mg base aF (k+1) f fd ps sp:=F.ok S b a
theorem aQ.vA{k:Nat}(F:aQ K x qual st f fd)(S:bp N ps^aI st)
  (a:∀(Qb:i') (A:Yq) (outer:am Zq) (s:UJ) (H:Hp) (vs:am V) (Q:VK) (E:XK),aZ k^A.deeper^envOfC qual (aI st) s.aj f Qb->sp vs H Q E ->
   let X:=d8 (cT P w) P w K mg base N qual (aI st) f Qb A outer s H E
   ∃t,dH X (bJ st) t/\t { nx:=λ_ H'=>Q .aK H',rt:=Q } (start N vs) H)
  (b:∀vs H Q E,sp vs H Q E->vs.length=ps.length:=by intro _ _ _ _ h;obtain⟨rfl,_⟩:=h;rfl):aT P w K mg base (cT P w) (k+1) f fd ps sp:=F.P8 S b a
theorem JL{h0:YY}{a:am YY}{t:TS}(h:dH X body t)(b:X.xe=λ_ _=>False):PS X (.Try body (h0::a) [] [] pos) t:=by
 intro J s σ H D I c;have d:∀{α:Type}{tt:Zi α}{Q:α->UJ->Prop}{E:i'->UJ->Prop}{s':UJ},wA X tt Q X.xe s'->wA X tt Q E s':=λz=>by rw[b]at z;exact FX z
 refine wpAny_Try_except^aG (d^h J s σ H D I c) λf s1 z=>?_;cases f with
 |next=>exact o9 z
 |brk=>exact z
 |cont=>exact z
 |ret u=>exact z
theorem Bv(t:X.calm=true):cU X (.builtin "any") (λxs H Q=>∃(p:FG) (bs:am Bool),xs=[.ref p]/\au X.K H p^bs.map V.bl/\Q (.bl^bs.any id) H):=by
 rintro J s σ H xs us Q I r ⟨p,bs,rfl,g,q⟩;obtain⟨u,rfl,w⟩:=vals1 r;cases w
 obtain⟨its,c,a,x⟩:=I.list g;have k:=c.length;have f:its=bs.map YK:=by
  clear q g a x r k
  induction bs generalizing its with
  |nil=>cases c;rfl
  |cons b bs y =>
   cases c with
   |cons z B=>cases z;rw[y _ B];rfl
 have new:∀b o,s.heap.get? b=ih o->b≠s.aj:=λb o e=>bK^bA e;obtain⟨ol,l,_⟩:=id a.isList;refine call_any_walk^sb a.isList ?_;refine#[s.aj,_,_,_,_,_,λi=>bs.getD i false,Z,Z5 (A:=X.A.in1) (I.ok.hd t) s.aj p (new p ol l) its.toArray,#[#[_,bU _ Z,Z,Z],a.isList.at λo e=>a9 _ e],λi v s2 D E j m=>?_,λh' tk kp=>?_]
 .rw[f]at j
  have:bs[i]?.map YK=ih v:=by simpa using j
  obtain⟨b,d,rfl⟩:=gF.mp this;refine hI ?_;have e:bs.getD i false=b:=by rw[gG,d];rfl
  exact e ▸ m
 .have n:(VQ its.toArray.size).any (λi=>bs.getD i false)=bs.any id:=by
   have C:its.toArray.size=bs.length:=by rw[f];simp
   rw[C]
   apply lI.mpr
   simp only[lO,ju]
   constructor
   .rintro⟨i,hi,e⟩
    exact#[bs[i],eJ hi,by simpa [Y1,hi] using e]
   .rintro⟨b,d,e⟩
    obtain⟨i,hi,rfl⟩:=wY d;exact#[i,hi,by simpa [Y1,hi] using e]
  rw[n];exact#[.bl _,H,I.kept (t':=tk) λb o e=>kp b o ⇑(new b o e) (a9 _ e),Z,q]
def vY(x:Gd):It:=⟨λi _=>i<x.cps.size,λi H v H'=>H'=H /\∃c,x.cps[i]?=ih c/\v=.str ⟨#v[c]⟩,λi _=>x.cps.size<=i⟩
theorem Cf(it:FG)(x:Gd)(t:Tok)(T:String)(L : ["enumerate","zip","dict_itemiterator","dict_reverseitemiterator","odict_iterator","itertools.zip_longest","itertools.pairwise"].contains T=false)
  (W:∀F:Yq,F.handled=none->Walks P w F it [it] [it] x.cps.size (SignAt x)^λi h=>h.IsStrIter it T x t i)
  (M:∀(A:Yq) (i:Nat) (s:UJ) (Q:i'->UJ->Prop) (E:i'->UJ->Prop),s.heap.IsStrIter it T x t i->Q (.ref it) s->UL (U0 P w) A (pyIter^.ref it) Q E s):Turn P w K tg (vY x) [it] it (λi h=>i<=x.cps.size/\h.IsStrIter it T x t i) where
 mem:=by simp
 obj:=λi h st b a=>by
  obtain rfl:b=it:=by simpa using a
  obtain⟨_,o,e,c,d⟩:=st;exact#[o,e,λv z=>by rw[d]at z;cases z]
 keep:=λi h h' st k=>by
  obtain⟨l,o,e,r⟩:=st;exact#[l,o,k it (by simp) _ e,r]
 item:=by
  intro X j m n p i J s σ H E I f st g;subst j m n;obtain⟨f0,q,N,y,B,C⟩:=f it (by simp)
  refine(W X.A^I.ok.hd p).item i s _ _ g st.2 λv h' tk O D kk=>?_;obtain⟨c,u,G,rfl⟩:=O;have R:Inv X J σ H { s with heap:=h',toks:=tk }:=I.turned (λb o a e=>kk b o ⇑a e) f0 q y B C
  obtain⟨o,e,S,d⟩:=id D;exact#[_,Z,mE (s:={ s with heap:=h',toks:=tk }) e S d L #[.str #[#v[c]],H,R,#[u,Z],#[Z,c,G,Z],#[g,D],λb a=>(f b a).1]]
 done:=by
  intro X j m n p i J s σ H E I f st g;subst j m n;obtain⟨f0,q,N,y,B,C⟩:=f it (by simp)
  have U:i=x.cps.size:=w3 st.1 g;subst U;exact(W X.A^I.ok.hd p).done s _ _ st.2 λh' tk kk=>#[Z,I.turned (λb o a e=>kk b o ⇑a e) f0 q y B C]
 self:=λA i s Q E st h=>M A i s Q E st.2 h
def O0(te:TE):TI:=λσ H R=>te σ H λv Y=>∃x,v=.str x/\R (vY x) Y
theorem Mp(g:PE X e te):PI X tg e^O0 te:=by
 intro J s σ H R I h;refine aG (g J s σ H _ I h) λv s1 n=>?_;obtain⟨y,Y,a,i,x,j,q⟩:=n;subst j;obtain⟨t,rfl⟩:=i;have d:∀o:YC,Inv X J σ Y { s1 with heap:=s1.heap.push o }:=λo=>a.kept (t':=s1.toks) λb m z=>a9 _ z;have fp:∀b ∈ [s1.aj],gb X J Y b:=λb k=>by
  obtain rfl:b=s1.aj:=by simpa using k
  exact a.hg (aP _)^a.aH.fresh^aP _
 cases f:x.cps.all (· < 128)
 .refine wpAny_pyIter_wide f ?_
  exact#[s1.aj,[s1.aj],_,_,Y,Z,d _,Cf s1.aj x t "str_iterator" ∅ (λl c=>Walks.strWide c _ x t) (λ_ _ _ _ _ st h=>wpAny_pyIter_striter_wide st h),#[bF _,_,bU _ Z,Z,Z],fp,q]
 .refine wpAny_pyIter_ascii f ?_
  exact#[s1.aj,[s1.aj],_,_,Y,Z,d _,Cf s1.aj x t "str_ascii_iterator" ∅ (λl c=>Walks.strAscii c _ x t) (λ_ _ _ _ _ st h=>wpAny_pyIter_striter_ascii st h),#[bF _,_,bU _ Z,Z,Z],fp,q]
theorem JM{g:TG}(Pv:Nat->List V->St->Hp->Prop)(h0:Pv 0 [] e7^upd Y p^.lst [])(l:∀i ys a H,Pv i ys a H->H p=ce ys)
  (n:∀i c ys a H,x.cps[i]?=ih c->Pv i ys a H->g (.str #[#v[c]]) a H λf o=>ti f o λb h=>if b=true then te f h λy j=>j p=ce ys/\ys.length<UM /\∃d,d<x.cps.size - i/\CW Pv x.cps.size (i+1) d (ys++[y]) f^upd j p^.lst (ys++[y]) else ∃d,d<x.cps.size - i/\CW Pv x.cps.size (i+1) d ys f h)
  (q:∀ys a H,Pv x.cps.size ys a H->Q (.ref p) H):hX (vY x) g ti te e7 Q p Y:=by
 refine#[CW Pv x.cps.size,#[x.cps.size,by simp,bF _,h0],?_]
 rintro i m ys a H ⟨rfl,hi,pv⟩;refine#[l i ys a H pv,?_]
 by_cases k:i<x.cps.size
 .refine .inr #[k,λv t r=>?_]
  obtain⟨e3,c,s,rfl⟩:=r;subst e3;exact n i c ys a _ s pv
 .have e:i=x.cps.size:=()
  subst e;exact .inl #[aP _,q ys a H pv]
end L2
namespace HT
open PyProof.Rows W L2
theorem GI(a:FG)(vs:Array i')(n:Nat)(u:Tok)(sl:Array^Option i') :
  Meets (Yh.«object.__getattribute__» #[[.ref a,.str "keys" u],[]]) (λA R s=>s.heap.get? a=ih { cls:=.type "tuple",dict:=none,data:=.seq vs n,slots:=sl }/\raisesAttr (.ref a) "keys" A R s):=
 meets_getattribute_miss_tuple a vs n sl "keys" u (by rw[F8,F9];kernel_rfl) ⋯ (by rw[aV];decide +kernel)
theorem JN{vs:Array i'}{n:Nat}{sl:Array^Option i'}{Q:a2 i'->UJ->Prop}(i:s.heap.get? a=ih { cls:=.type "tuple",dict:=none,data:=.seq vs n,slots:=sl })(k:A.handled=none)
  (h:∀h' tk,(∀b o,s.heap.get? b=ih o->h'.get? b=ih o)->Q none { s with heap:=h',toks:=tk }):UL (U0 prog w) A (getAttr? (.ref a) "keys") Q E s:=by
 obtain⟨l,g,d,tk,os⟩:=s;have j:∀c,(#[l,g,d,c,os]:UJ).TypeIs (.ref a) "tuple" :=λ_=>#[_,i,Z];have m:=sub_AttributeError;have p:=F'.lookup;have q:=F'.bind^.ref a;have r:=am_tuple_getattr_none;unfold getAttr? getAttrBy? getAttrBy
 repeat (any_goals (first|assumption|exact j _|((with_reducible show UL _ _ (call (YO "tuple.__getattribute__") _ _) _ _ _);refine ni F' (j _) am_entry_tuple_getattribute (F.args_tuple_getattribute_2 _ _) (GI a vs n _ sl) ⟨i,k,λh' c e f=>?_⟩)|wp_step))
 obtain⟨t',t,u⟩:=f.there;show UL _ _ (getattributeRaised _ _ _ _ _ _ _) _ _ _;unfold getattributeRaised
 repeat (any_goals (first|assumption|wp_step))
 exact h h' c f.keeps
section
variable{R:ZC->UJ->Prop}{t:FG}{vs:Array i'}
theorem JO{Q:Unit->UJ->Prop}{T:FG}{x y:i'}{k:Key}{kvs:am (Key×i')}{i:Int}(a:Yz s.heap T #v[x,y])(g:(cp prog w).is k x=true)(h:s.heap.DictOf (cp prog w) d kvs)(new:k ∉ kvs.map (·.1))(hz:kvs.length<=UM)
  (q:∀h' tk,h'.DictOf (cp prog w) d (kvs++[(k,y)])->X5 d s.heap h'->Q Unit.unit { s with heap:=h',toks:=tk }) :
  UL (U0 prog w) A (holding [UZ T] (do
   let c <- (ZA^.ref T).tryCatch λe=>do
    if !(<- isInstance e^.type "TypeError") then throw e
    rule "dict.update.element-no-sequence"
    raiseError "TypeError" s!"cannot convert dictionary update sequence element #{i} to a sequence"
   match c with
   |[k,v]=>holding [k,v]^dictSet d k v
   |l =>
    rule "dict.update.element-length"
    raiseError "ValueError" s!"dictionary update sequence element #{i} has length {l.length}; 2 is required")) Q E s:=by
 refine ed^ae^wpAny_tryCatch ?_;unfold ZA;refine ae^jy a.typeIs ?_;rw[aB ∅]
 obtain⟨o,j,_,n,f⟩:=a;refine ae^wpAny_seqItems j f^ak ?_;show UL _ _ (holding [x,y]^dictSet d x y) _ _ _;refine ed^wpAny_dictSet_pairs (hsz:=hz) g h λh' b m=>?_;rw[stored_new new]at b;exact q h' _ b m
theorem La(S:A.in1.handled=none)(l:d≠it)(y:d≠t)(z:t≠it)(ps:am (Key×i'))(D:(ps.map (·.1)).Nodup)(hz:ps.length<=UM)(hsz:vs.size=ps.length)(E:Yz g t vs)
  (L:∀(i:Nat) p,ps[i]?=ih p ->∃a x,vs[i]?=ih^.ref a/\a≠it/\a≠d/\Yz g a #v[x,p.2]/\(cp prog w).is p.1 x=true) :
  ∀(m k:Nat) (s:UJ),ps.length - k=m->k<=ps.length->IsTupIter s.heap it t k->s.heap.DictOf (cp prog w) d^ps.take k ->
   (∀b o,b≠it->b≠d->g.get? b=ih o->s.heap.get? b=ih o) ->
   (∀h' tk,h'.DictOf (cp prog w) d ps->(∀b o,b≠it->b≠d->g.get? b=ih o->h'.get? b=ih o)->R (.ok^.ret .none) { s with heap:=h',toks:=tk }) ->
   codeAny (U0 prog w) A (.builtin "dict.update.loop" #[[.ref d,.ref it,rawInt k,.none],[]]) R s:=by
 have up:∀{b:FG}{us:Array i'}{h:Yb},b≠it->b≠d->(∀b o,b≠it->b≠d->g.get? b=ih o->h.get? b=ih o)->Yz g b us->Yz h b us:=λn1 T kp ⟨o,U,r⟩=>#[o,kp _ _ n1 T U,r];intro m
 induction m with
 |zero =>
  intro k s V W q u kp v;have X:k=ps.length:=()
  refine iu Bs (?_:UL _ _ _ _ _ _);rw[iU pS _];show UL _ A.in1 (pyNext^.ref it >>= _) _ _ s;refine ae^next_tuple_end S q (up z y.symm kp E) (by simp;omega) λh' F=>?_
  refine ae (m:=ab5 d [])^ak^ak ?_;have j:h'.DictOf (cp prog w) d^ps.take k:=u.at λo e=>F d o l e;rw[X,cF]at j;exact v h' s.toks j λb o c f e=>F b o c^kp b o c f e
 |succ m Y =>
  intro k s V W q u kp v;have n:k<ps.length:=()
  have G:ps[k]?=ih ps[k]:=bG n;obtain⟨a,x,M,N,O,I,J⟩:=L k _ G;have P:ps.take (k+1)=ps.take k++[ps[k]]:=by rw[dQ,G];rfl
  have new:ps[k].1 ∉ (ps.take k).map (·.1):=λw=>by
   have e:ps.map (·.1)=(ps.take k).map (·.1)++(ps.drop k).map (·.1):=by rw[<-bj,w4]
   rw[e,dz]at D;refine D.2.2 _ w _ ?_ Z;rw[lN n];exact aY
  refine iu Bs (?_:UL _ _ _ _ _ _);rw[iU pS _];show UL _ A.in1 (pyNext^.ref it >>= _) _ _ s;refine ae^next_tuple_item q (up z y.symm kp E) M λh' Q H=>?_;have B:∀b o,b≠it->b≠d->g.get? b=ih o->h'.get? b=ih o:=λb o c f e=>H.extBut b o c^kp b o c f e;have j:h'.DictOf (cp prog w) d^ps.take k:=u.at λo e=>H.extBut d o l e;refine ae^JO (s:={ s with heap:=h' }) (k:=ps[k].1) (up N O B I) J j new (by rw[cH];omega) λxa tk K C=>?_
  rw[show((k:Int)+1)=((k+1:Nat):Int) from rfl];exact ak #[jB pS _,Y (k+1) _ () n (Q.extBut C.extBut l.symm) (by rw[P];exact K) (λb o c f e=>C.extBut b o f^B b o c f e) v]
theorem GO{Q:i'->UJ->Prop}(y:A.handled=none)(ps:am (Key×i'))(G:(ps.map (·.1)).Nodup)(hz:ps.length<=UM)(hsz:vs.size=ps.length){n:Nat}{sl:Array^Option i'}
  (h:s.heap.get? t=ih { cls:=.type "tuple",dict:=none,data:=.seq vs n,slots:=sl })
  (z:∀(i:Nat) p,ps[i]?=ih p ->∃a x,vs[i]?=ih^.ref a/\Yz s.heap a #v[x,p.2]/\(cp prog w).is p.1 x=true)
  (q:∀d h' tk,s.aj<=d->h'.DictOf (cp prog w) d ps->(∀b o,s.heap.get? b=ih o->h'.get? b=ih o)->Q (.ref d) { s with heap:=h',toks:=tk }) :
  UL (U0 prog w) A (call (.type "dict") [.ref t]) Q E s:=by
 refine callType_codes (Q₁:=λu r=>u=.ref s.aj/\r={ s with heap:=s.heap.push { cls:=.type "dict",data:=.dict #v[] } }) F.kt_called_dict (F.kt_typeCall_dict_1 _) F.entry_dict_init (kt_code_dict_new _ #[Z,Z]) ?_;rintro u r ⟨rfl,rfl⟩;have dn:(s.heap.push { cls:=.type "dict",data:=.dict #v[] }).DictOf (cp prog w) s.aj []:=ZR s.heap;have l:∀b o,s.heap.get? b=ih o->(s.heap.push { cls:=.type "dict",data:=.dict #v[] }).get? b=ih o:=λb o e=>a9 _ e;generalize s.heap.push { cls:=.type "dict",data:=.dict #v[] }=h2 at dn l⊢;refine#[dn.typeIs,F.args_dict_init_2 _ _,?_];unfold Yh.«dict.__init__»;refine ae ?_;unfold ab2;refine ae^Ga dn.typeIs ?_;refine(ak ?_:UL _ _ (pure (s.aj,[UZ t])) _ _ _);show UL _ _ (Zz "dict.__init__" s.aj (.ref t) [] .none) _ _ _;unfold Zz;have m:=l _ _ h;refine ae^jy (T:= "tuple") #[_,m,Z] ?_;rw[aB ∅]
 refine ae^JN m y λc J j=>?_;rw[aB ∅]
 have B:Yz c t vs:=#[_,j _ _ m,Z,n,Z];refine ae^jv^ae^iter_tuple B ?_;refine ak #[jB pS _,?_];have up:∀b o,s.heap.get? b=ih o->c.get? b=ih o:=λb o e=>j b o^l b o e;have f:s.aj<c.objs.size:=by
  obtain⟨o,_,_,k,_⟩:=dn;exact bA^j _ _ k
 have C:c.DictOf (cp prog w) s.aj []:=dn.at λo e=>j _ o e;have lt:∀{b:FG}{o:YC},s.heap.get? b=ih o->b<s.aj:=λe=>bA e;refine La (A:=A.in1) (g:=s.heap) (it:=c.objs.size) y (bK f) (jw^lt h) (bK^lM (lt h) f) ps G hz hsz #[_,h,Z,n,Z] (λi p H=>?_) _ 0 _ Z (bF _) #[_,bU _ Z,Z,Z] (C.at λo e=>a9 _ e) (λb o _ _ e=>a9 _^up b o e) λh' tk I kp=>?_
 .obtain⟨a,x,h1,v,D⟩:=z i p H
  obtain⟨o,k,_⟩:=id v;exact#[a,x,h1,bK^lM (lt k) f,bK^lt k,v,D]
 .exact#[Z,q _ h' tk (aP _) I λb o e=>kp b o (bK^lM (lt e) f) (bK^lt e) e]
end
end HT
namespace L2
open Spec PyProof.Rows W HT
theorem Bw:cw X (X2 .LtE) (λx y H Q=>∃i j,x=.str i/\y=.str j/\Q (.bl (!decide (j.cps.toList<i.cps.toList))) H):=by
 rintro J s σ H x y v u Q I a b ⟨i,j,ex,c,q⟩;subst ex c;obtain⟨t,rfl⟩:=a;obtain⟨t',rfl⟩:=b;exact P.le_str^cI I q Z
def kY(H:Hp)(vs:List V)(kvs:List (Gd×V)):Prop:=VT (λy p=>∃a,y=V.ref a/\H a=ih (.tup [.str p.1,p.2])) vs kvs
def f9(kvs:List (Gd×V)):List (Key×V):=kvs.map λp=>(n' p.1,p.2)
theorem C9:∀(kvs:am (Gd×V)) (ys:am i'),ys.length=kvs.length->(∀(i:Nat) (hi:i<kvs.length),∃y,ys[i]?=ih y/\RelV kvs[i].2 y)->KV (f9 kvs)^(kvs.map λp=>(n' p.1:Key)).zip ys
 |[],ys,h,_=>.nil
 |p::kvs,[],h,_=>by simp at h
 |p::kvs,y::ys,h,f=>by
  obtain⟨a,e,r⟩:=f 0 (by simp)
  obtain rfl:y=a:=by simpa using e
  exact .cons #[Z,r] (C9 kvs ys ⇑h λi hi=>by
   obtain⟨b,e2,c⟩:=f (i+1)^Nat.succ_lt_succ hi;exact#[b,⇑e2,c])
theorem GJ:cU X (.type "tuple") (λxs H Q=>∃p ys,xs=[.ref p]/\au X.K H p ys /\∀l o,H l=none->o.dict=none->Q (.ref l)^upd H l^.bf o^.tup ys):=by
 rintro J s σ H xs us Q I r ⟨p,ys,ex,d,q⟩;subst ex;obtain⟨u,rfl,f⟩:=vals1 r;cases f
 obtain⟨its,a,g,h⟩:=I.list d;have i:=a.length;refine call_tuple_list g.isList (λh' kp=>?_) (by simp only[b5] <;> omega)
 have c:Inv X J σ H { s with heap:=h' }:=I.kept (t':=s.toks) kp;refine#[.ref h'.objs.size,_,c.laid (o:=.bf { cls:=.type "tuple",data:=.seq its.toArray }^.tup ys) (t':=s.toks) (λb o e=>a9 _ e) (aP _) #[bU _ Z,h,its,a,jh.new _ _],Z,q _ _ (c.aH.fresh^aP _) Z]
end L2
namespace L2
open W
def Np(_ j:Int):Prop:=0<j/\j<4611686018427387904
theorem JP:cw X (YA .FloorDiv) (rI Np λi j=>.int (i / j)):=mW λi j _ _ _ _ _ a q=>by
 have h1:(0:Int)<j:=a.1;have h2:j<4611686018427387904:=a.2;refine abY () (by rw[UO i ()];exact q)^.inl^PyProof.noPylong_of_log2 ?_
 have b:j.natAbs<2 ^ 62:=()
 have c:j.natAbs.log2<62:=(Nat.log2_lt ()).mpr b
 omega
end L2
namespace L2
open W Calls PyProof.Rows
section
variable{α β:Type}{n:Nat}
def Pm(n:Nat)(p:Array Nat):Prop:=p.toList.Perm (VQ n)
theorem Pm.lt{p:Array Nat}(h:Pm n p)(a:0<n)(i:Nat):p.getD i 0<n:=by
 rw[iV];cases e:p[i]? with
 |none=>exact a
 |some x =>
  have:x∈p.toList:=aaQ.mp^Va e;exact ju.mp^h.mem_iff.mp this
theorem Pm.rev{p:Array Nat}(h:Pm n p)(i j:Nat):Pm n^kas_rev p i j:=(Vb.mp^mirror_perm p i j _).trans h
theorem Pm.P9{p:Array Nat}(h:Pm n p)(i j:Nat):Pm n^bubble p i j:=(Vb.mp^bubble_perm p i j).trans h
theorem DG{γ:Type}{p:Array Nat}{vs:am γ}(d:γ)(h:Pm vs.length p):(p.toList.map λi=>vs.getD i d).Perm vs:=by
 have h1:=acH (λi=>vs.getD i d) h;refine h1.trans^Z2 ?_
 apply Gb
 .simp
 .intro i h1 h2
  simp[Y1,h2]
end
theorem sM{α β:Type}{F:α->β->Prop}{l b:am α}(h:b.Perm l):∀{m:am β},VT F l m ->∃a,a.Perm m/\VT F b a:=by
 induction h with
 |nil=>intro m p;exact#[m,.refl _,p]
 |cons x _ f =>
  intro m p;cases p with
  |cons q t =>
   obtain⟨a,e,r⟩:=f t;exact#[_::a,e.cons _,.cons q r]
 |swap x y l =>
  intro m p;cases p with
  |cons q t =>
   cases t with
   |cons g t=>exact#[_,YT _ _ _,.cons g^.cons q t]
 |trans _ _ c d =>
  intro m p;obtain⟨k,e2,p2⟩:=d p;obtain⟨i,e1,j⟩:=c p2;exact#[i,e1.trans e2,j]
theorem Mq{o:HO}(x:bH P w H h a o):∃q,h.get? a=ih q:=by
 cases o with
 |lst xs=>obtain⟨_,_,_,_,e⟩:=x;exact#[_,e]
 |tup xs=>obtain⟨_,_,_,q,e,_⟩:=x;exact#[q,e]
 |dK kvs=>obtain⟨_,_,_,_,o,_,_,e,_⟩:=x;exact#[o,e]
 |dT kvs=>obtain⟨_,_,_,_,o,_,_,e,_⟩:=x;exact#[o,e]
 |set S n=>obtain⟨o,_,_,_,e,_⟩:=x;exact#[o,e]
 |ins C dx fs=>obtain⟨_,_,_,e,_⟩:=x;exact#[_,e]
 |own y=>exact x
 |xd fs=>obtain⟨_,⟨o,_,_,e,_⟩,_⟩:=x;exact#[o,e]
 |oS lo hi=>obtain⟨_,_,_,e⟩:=x;exact#[_,e]
 |bf q u=>exact#[q,x.1]
 |jn ps=>exact#[_,x]
 |met f y=>exact#[_,x]
 |ext b=>exact x.2.1
theorem Inv.sorted{σ:am^Option V}{m:Gd->Option i'}{ys:am V}{out:am i'}{c:Nat}(I:Inv X J σ H s)(A:s.heap.Ns X.env.locals m)(i:h'.Ns X.env.locals m)
  (k:∀b o,b≠X.env.locals->s.heap.get? b=ih o->h'.get? b=ih o) (t:∀b o,s.heap.get? b=ih o->b≠D) (new:h'.get? D=ih^listOf out.toArray c) (r:Vals ys out) (hz:ys.length<=UM) :
  H D=none/\Inv X J σ (upd H D^.lst ys) { s with heap:=h',toks:=t' }:=by
 have there:∀b u,H b=ih u ->∃o,s.heap.get? b=ih o:=λb u e=>Mq^I.aH b u e;have w:H D=none:=by
  cases q:H D with
  |none=>rfl
  |some u =>
   obtain⟨o,e⟩:=there D u q;exact absurd Z^t D o e
 have d:∀b u,H b=ih u->b≠D:=λb u e z=>by rw[z,w]at e;cases e
 have j:∀b u,H b=ih u->b≠X.env.locals:=λb u e z=>by rw[z,I.free]at e;cases e
 refine#[w,I.step (g':=s.gens) (d':=s.drawn) (ch:=[]) (λ_ z=>nomatch z) (λb o g _ _ e _=>k b o g e) (λb o g _ _ e _=>#[o.slots,k b o g e]) (λb o _ e n=>by rw[ag^t b o e];exact n) (λb o _ e=>?_)
  (λb xs e=>by rw[ag^d b _ e];exact e) (λb o u e=>by rw[ag^d b _ e];exact e) (λb ps e=>#[#v[],by rw[ag^d b _ e,e];simp]) (λB q=>?_) (λb u e=>?_) I.bare]
 .by_cases f:b=X.env.locals
  .obtain⟨o',es,ep,h,_⟩:=i
   exact#[o',by rw[f];exact h]
  .exact#[o,k b o f e]
 .obtain⟨o,es,ep,h,C,M,E⟩:=A
  obtain⟨N,G,K,l,p,L,y⟩:=q;rw[h]at l;cases l;rw[C]at p;cases p;have:B=m:=funext λx=>(y x).symm.trans (E x);rw[this];exact i
 .by_cases f:b=D
  .subst f
   rw[ah]at e;cases e;exact#[hz,out,c,r,new]
  .rw[ag f]at e
   refine(I.aH b u e).eF (λa v F q=>k a v ?_ q) (λa q=>by rw[ag^d a _ q];exact q) λa xs q=>by rw[ag^d a _ q];exact q
   rcases F with z|z
   .rw[z];exact j b u e
   .exact j a _ z
theorem IS{B:Yq}{n:Nat}{R:ZJ->UJ->Prop}(h:s.heap.get? a=ih^seqObj "list" us.toArray n)(a5:us.length<2)
  (k:∀c g,(∀b o,b≠a->s.heap.get? b=ih o->g.get? b=ih o)->g.get? a=ih^listOf us.toArray c->R (.done^.ret .none) { s with heap:=g }):UL (U0 P w) B (Yh.«list.sort» #[[.ref a],[]]) R E s:=by
 obtain⟨ep,j⟩:∃ep,(s.heap.update a (X4 λ_=>(#v[]:Array i'))).get? a=ih (seqObj "list" #v[] ep):=#[_,get?_update_seq h λ_=>#v[]];have f:us.toArray.size<=UM:=by rw[aV,b5];omega
 have small:us.toArray.size<2:=by simpa using a5
 rw[list_sort_plain];refine ae^listItems_at h Z^ae^listUpdate_at h Z (ae^seqEpoch_at j Z^ae^wpAny_newTuple (ae^w5 (ed ?_)^bF _) ⇑f) f^bF _
 have two:∀b o,(s.heap.update a^X4 λ_=>(#v[]:Array i')).get? b=ih o->(((s.heap.update a^X4 λ_=>(#v[]:Array i')).push (seqObj "tuple" us.toArray 0)).push (seqObj "list" #v[] 0)).get? b=ih o:=λb o q=>a9 _^a9 _ q
 change UL (U0 P w) B _ R E { s with heap:=((s.heap.update a^X4 λ_=>(#v[]:Array i')).push (seqObj "tuple" us.toArray 0)).push (seqObj "list" #v[] 0) }
 have d:=two _ _ j;have i:∀b o,b≠a->s.heap.get? b=ih o->(((s.heap.update a^X4 λ_=>(#v[]:Array i')).push (seqObj "tuple" us.toArray 0)).push (seqObj "list" #v[] 0)).get? b=ih o:=λb o e q=>two b o^((nz s.heap a _).2 b e).trans q;generalize (((s.heap.update a^X4 λ_=>(#v[]:Array i')).push (seqObj "tuple" us.toArray 0)).push (seqObj "list" #v[] 0))=g at d i⊢
 dsimp only
 rw[aB small,aB small];refine ae^ak^ae^ak ?_;have same:(arrOf^SortSt.mk' general' (us.toArray.zip us.toArray) #v[] 7 none).map (·.2)=us.toArray:=wR.mp (by show((us.toArray.zip us.toArray).map (·.2)).toList=_;simp[List.map_snd_zip])
 dsimp only
 rw[same];refine ae^seqEpoch_at d Z^ae^listUpdate_at d Z ?_ (bF _)^Ge f;obtain⟨c,l⟩:∃c,(g.update a (X4 λ_=>us.toArray)).get? a=ih (seqObj "list" us.toArray c):=#[_,get?_update_seq d λ_=>us.toArray];simp only[bne_self_eq_false,hK,ph];exact ak^k c _ (λb o e q=>((nz g a _).2 b e).trans (i b o e q)) l
theorem Bx{γ:Type}{f:γ->V}{g:γ->i'}(h:∀x,RelV (f x)^g x):∀l:am γ,Vals (l.map f)^l.map g
 |[]=>.nil
 |x::l=>.cons (h x)^Bx h l
end L2
namespace L2
open W Spec PyProof.Rows
def mZ(d:FG)(o:YC)(kvs:List (Key×V)):It:=⟨λi H=>H d=ih (.bf o (.dK kvs))/\i<kvs.length,λi H v H'=>H'=H /\∃kv,kvs[i]?=ih kv/\v=kV kv.1,λi H=>H d=ih (.bf o (.dK kvs))/\kvs.length<=i⟩
theorem By(d it:FG)(D:d≠it)(o:YC)(kvs:am (Key×V))(vs:am (Key×i'))(ep:Nat)(j:KV kvs vs)(M:∀h:Yb,h.get? d=ih o->h.DictAt (cp P w) d vs ep) :
  Turn P w K tg (mZ d o kvs) [it] it (λi h=>i<=kvs.length/\h.IsKeyIter it d i vs.length ep) where
 mem:=by simp
 obj:=λi h st b a=>by
  obtain rfl:b=it:=by simpa using a
  obtain⟨_,o,e,c,d⟩:=st;exact#[o,e,λv z=>by rw[d]at z;cases z]
 keep:=λi h h' st k=>by
  obtain⟨l,o,e,r⟩:=st;exact#[l,o,k it (by simp) _ e,r]
 item:=by
  intro X m n p q i J s σ H E I g st f;subst m n p;obtain⟨f0,t,R,u,y,B⟩:=g it (by simp)
  have N:kvs.length=vs.length:=j.length;have C:=M s.heap (show bH X.prog X.w H s.heap d^.bf o^.dK kvs from I.aH d _ f.1).1;refine(aav (knd:=cp X.prog X.w) (I.ok.hd q) it d D vs ep).item i s _ _ (by have:=f.2;omega) #[st.2,C] λv h' tk S F kk=>?_
  obtain⟨k,x,T,U⟩:=S;have W:Inv X J σ H { s with heap:=h',toks:=tk }:=I.turned (λb o a e=>kk b o ⇑a e) f0 t u y B
  obtain⟨xb,e,Y,xa⟩:=id F.1;have O:i<kvs.length:=f.2;have G:kvs[i]?=ih kvs[i]:=bG O;have ya:kvs[i].1=k:=by
   have h1:=dy (λl=>l[i]?) j.keys;simp only[c5,G,T]at h1;exact cQ h1
  exact#[_,Z,mE (s:={ s with heap:=h',toks:=tk }) e Y xa ∅ #[kV k,H,W,ub U,#[Z,kvs[i],G,by rw[ya]],#[f.2,F.1],λb a=>(g b a).1]]
 done:=by
  intro X m n p q i J s σ H E I g st f;subst m n p;obtain⟨f0,t,R,u,y,B⟩:=g it (by simp)
  have za:i=kvs.length:=w3 st.1 f.2;have N:kvs.length=vs.length:=j.length;have C:=M s.heap (show bH X.prog X.w H s.heap d^.bf o^.dK kvs from I.aH d _ f.1).1;have L:=st.2;rw[za,N]at L;exact(aav (knd:=cp X.prog X.w) (I.ok.hd q) it d D vs ep).done s _ _ #[L,C] λh' tk kk=>#[Z,I.turned (λb o a e=>kk b o ⇑a e) f0 t u y B]
 self:=λA i s Q E st h=>wpAny_pyIter_keyiter st.2 h
theorem Inv.freeze{σ:am^Option V}(I:Inv X J σ H s)(g:H d=cr kvs)(i:s.heap.get? d=ih o):Inv X J σ (upd H d^.bf o^.dK kvs) s:=by
 have ok:bH X.prog X.w H s.heap d^.dK kvs:=I.aH d _ g;have a:∀{b:FG}{u:HO},H b=ih u->u ≠ .dK kvs->b≠d:=λe n z=>by rw[z,g]at e;exact n (cQ e).symm
 refine I.un (h':=s.heap) (t':=s.toks) #[λb f q _ _ _=>q,λb f q _ _ _=>#[f.slots,q],λb f q n _=>?_,λb f q _=>#[f,q],λb xs e=>?_,λb f u e=>?_,λb ps e=>#[#v[],?_]] λb u e=>?_
 .rw[ag (λz=>by rw[z,g]at n;cases n)];exact n
 .rw[ag^a e^by intro z;cases z];exact e
 .rw[ag^a e^by intro z;cases z];exact e
 .rw[ag (a e^by intro z;cases z),e];simp
 .by_cases h:b=d
  .subst h
   rw[ah]at e;cases e
   exact#[i,ok.eF (λ_ _ _ q=>q) (λc q=>by rw[ag^a q^by intro z;cases z];exact q) λc xs q=>by rw[ag^a q^by intro z;cases z];exact q]
  .rw[ag h]at e
   exact(I.aH b u e).eF (λ_ _ _ q=>q) (λc q=>by rw[ag^a q^by intro z;cases z];exact q) λc xs q=>by rw[ag^a q^by intro z;cases z];exact q
def Nq(te:TE):TI:=λσ H R=>te σ H λv Y=>∃d kvs,v=.ref d/\((Y d=ih (.dK kvs) /\∀o,R (mZ d o kvs) (upd Y d (.bf o (.dK kvs)))) \/∃o,Y d=ih (.bf o (.dK kvs))/\R (mZ d o kvs) Y)
theorem Lb(x:PE X e te):PI X tg e^Nq te:=by
 intro J s σ H R I h;refine aG (x J s σ H _ I h) λv s1 G=>?_;obtain⟨y,Y,a,A,d,kvs,B,q⟩:=G;subst B;cases A
 have C:Rd Y d^.dK kvs:=by
  rcases q with⟨e,_⟩|⟨o,e,_⟩
  .exact .inl e
  .exact .inr #[o,e]
 obtain⟨E,D,vs,k,u⟩:=k4 a.aH C;obtain⟨o,es,ep,c,l,i,m,n,p⟩:=id u;refine wpAny_pyIter_dict (knd:=cp X.prog X.w) (kvs:=vs) (ep:=ep) D #[o,es,c,l,i,m,n,p] ?_;have f:d≠s1.aj:=bK^bA c;have r:∀h:Yb,h.get? d=ih o->h.DictAt (cp X.prog X.w) d vs ep:=λh e=>#[o,es,e,l,i,m,n,p];have t:Inv X J σ Y { s1 with heap:=s1.heap.push { cls:=.type "dict_keyiterator",data:=.fields #v[.ref d,.int 0 0,.int vs.length 0,.int ep 0] } }:=a.kept (t':=s1.toks) λb F z=>a9 _ z;have st:0<=kvs.length/\aaM (s1.heap.push { cls:=.type "dict_keyiterator",data:=.fields #v[.ref d,.int 0 0,.int vs.length 0,.int ep 0] }) s1.aj d 0 vs.length ep:=#[bF _,_,bU _ Z,Z,Z];have j:Y s1.aj=none:=a.aH.fresh^aP _;rcases q with⟨e,q⟩|⟨o',e,q⟩
 .refine#[s1.aj,[s1.aj],_,_,_,Z,t.freeze e^a9 _ c,By d s1.aj f o kvs vs ep k r,st,λb g=>?_,q o]
  obtain rfl:b=s1.aj:=by simpa using g
  exact a.hg (aP _) (by rw[ag^aS f];exact j)
 .obtain rfl:o'=o:=by
   have:=(show bH X.prog X.w Y s1.heap d^.bf o'^.dK kvs from a.aH d _ e).1;rw[c]at this;exact(cQ this).symm
  refine#[s1.aj,[s1.aj],_,_,Y,Z,t,By d s1.aj f o' kvs vs ep k r,st,λb g=>?_,q];obtain rfl:b=s1.aj:=by simpa using g
  exact a.hg (aP _) j
theorem JQ{g:TG}{D:Ends}(Pv:Nat->St->Hp->Prop)(h0:Pv 0 σ H)(j:∀i σ H,i<=kvs.length->Pv i σ H->H d=ih^.bf o^.dK kvs)
  (k:∀i kv σ H,kvs[i]?=ih kv->Pv i σ H->g (kV kv.1) σ H λa H2=>tb { D with nx:=Pv (i+1),ct:=Pv (i+1),bk:=D.nx } a H2) (l:∀σ H,Pv kvs.length σ H->D.nx σ H) :
  ∃W:Nat->Nat->St->Hp->Prop,(∃m,W 0 m σ H) /\∀i m σ H,W i m σ H ->
   ((mZ d o kvs).stop i H/\D.nx σ H)\/((mZ d o kvs).go i H /\∃N:St->Hp->Prop,(∀b H',N b H' ->∃f,f<m/\W (i+1) f b H') /\∀x H',(mZ d o kvs).ie i H x H'->g x σ H' λa H2=>tb { D with nx:=N,ct:=N,bk:=D.nx } a H2):=by
 refine#[λi m σ H=>m=kvs.length - i/\i<=kvs.length/\Pv i σ H,#[kvs.length,by simp,bF _,h0],?_]
 rintro i m σ H ⟨rfl,hi,p⟩;have q:=j i σ H hi p
 by_cases c:i<kvs.length
 .refine .inr #[#[q,c],Pv (i+1),λb H' n=>#[kvs.length - (i+1),(),Z,c,n],λx H' y=>?_]
  obtain⟨e,kv,h,ex⟩:=y;subst e;subst ex;exact k i kv σ _ h p
 .have e:i=kvs.length:=()
  subst e;exact .inl #[#[q,aP _],l σ H p]
def E5(a b:Gd):Prop:=a.cps.toList<=b.cps.toList
theorem JR{a b:Gd}(h1:E5 a b)(h2:E5 b a):a=b:=by
 have e:a.cps.toList=b.cps.toList:=List.le_antisymm h1 h2;cases a;cases b
 exact dy Str.mk^wR.mp e
theorem Bz:∀{us:am i'}{a:am Gd},Yr us a->Vals (a.map V.str) us
 |_,_,.nil=>.nil
 |_,_,.cons _ t r=>.cons #[t,Z]^Bz r
end L2
namespace HS
open Spec PyProof.Rows
theorem Lc(t:Zj)(es:Array (Int×i'))(z:Int)(x:i'):(layNew t es z x).2.1.led=t.led:=by
 unfold layNew;split
 .dsimp only
  unfold SetTable.orStandIn;split <;> rfl
 .rfl
theorem HZ{t u:Zj}{zs:Array Int}{n:Nat}{a:Array Nat}(e:t.relaid zs n=ih (u,a)):u.led=t.led/\u.plain=t.plain:=by
 unfold SetTable.relaid SetTable.laid at e;cases c:SetTable.layClean (SetTable.sizeAbove n - 1) zs with
 |none=>rw[c]at e;cases e
 |some ow =>
  rw[c]at e;have e2:=cQ e;have e3:=dy Prod.fst e2
  dsimp only at e3
  rw[<-e3];exact#[Z,Z]
theorem Hm(t:Zj)(es:Array (Int×i'))(n:Nat):(relayAll t es n).2.1.led=t.led/\(t.plain=false->(relayAll t es n).2.1.plain=false):=by
 unfold relayAll;split
 .rename_i u a e
  obtain⟨h1,h2⟩:=HZ e
  dsimp only
  split
  .exact#[h1,λz=>h2.trans z]
  .exact#[Z,λ_=>rfl]
 .exact#[Z,λ_=>rfl]
def eh(P:Yg)(w:Yo)(h:Yb)(a:FG)(xs:List Gd):Prop:=
 ∃o es ep t,h.get? a=ih o/\o.ExactSet/\o.data=.set es ep t/\aa7 (strKind P w) es.toList/\(∀k,k∈xs ↔ ∃e∈es.toList,(strKind P w).is k e.2=true) /\
  es.size<scanBound/\t.fits es.size=true/\es.size=xs.length/\t.led=(!w.params.followText "set-order")/\(es.size≠0->t.plain=false)
theorem eh.keep{xs:am Gd}(x:eh P w h a xs)(k:∀o,h.get? a=ih o->h'.get? a=ih o):eh P w h' a xs:=let ⟨o,es,ep,t,e,r⟩:=x;#[o,es,ep,t,k o e,r]
theorem eh.lt{xs:am Gd}(x:eh P w h a xs):a<h.objs.size:=let ⟨_,_,_,_,e,_⟩:=x;bA e
theorem eh.typeIs{xs:am Gd}(x:eh P w s.heap a xs):s.TypeIs (.ref a) "set" :=let ⟨o,_,_,_,e,c,_⟩:=x;#[o,e,c.1]
theorem JS(e:h.get? a=ih { cls:=.type "set",dict:=none,data:=.set #v[] 0^.fresh 0 0 (!w.params.followText "set-order") }):eh P w h a []:=
 #[_,#v[],0,_,e,#[Z,Z,Z],Z,λz b=>(by simp at b),λk=>(by simp),∅,by rfl,Z,Z,λz=>absurd Z z]
def gc(xs:List Gd)(k:Gd):List Gd:=if k∈xs then xs else xs++[k]
section
variable{xs:am Gd}
theorem Cg{es b:Array (Int×i')}{t t':Zj}(g:h.get? a=ih o)(i:o.ExactSet)(c:o.data=.set es ep t)(f:aa7 (strKind P w) b.toList)
  (j:∀k,k∈ys ↔ ∃e∈b.toList,(strKind P w).is k e.2=true) (l:b.size<scanBound) (m:t'.fits b.size=true) (n:b.size=ys.length) (p:t'.led=(!w.params.followText "set-order")) (q:t'.plain=false) :
  (h.update a^Zt b t').get? a=ih { o with data:=.set b (ep+1) t' }/\eh P w (h.update a^Zt b t') a ys:=by
 have d:(h.update a^Zt b t').get? a=ih { o with data:=.set b (ep+1) t' }:=by
  have z:=ng (Zt b t') g (by rw[putSet_of b t' c];rfl)
  rw[putSet_of b t' c]at z;exact z
 exact#[d,_,b,ep+1,t',d,i,Z,f,j,l,m,n,p,λ_=>q]
theorem JT{k:Gd}{Q:Bool->UJ->Prop}(ye:eh P w s.heap a xs)(room:xs.length+1<scanBound)(h:∀h',X5 a s.heap h'->eh P w h' a^gc xs k ->∀b,Q b { s with heap:=h' }) :
  UL (U0 P w) A (setAddHashed a (.str k tk)^hashStr w k) Q E s:=by
 obtain⟨o,es,ep,t,m,H,n,B,v,ya,K,ze,F,xc⟩:=ye;have x:(strKind P w).is k^.str k tk=true:=by show YG k^.str k tk=true;simp[YG]
 have I:(YX k tk).scannable=true:=rfl;have zf:es.size+1<scanBound:=()
 unfold setAddHashed setAddHashedIn;refine ed^ae^hO m n K ?_;dsimp only;rw[byScan_of (knd:=strKind P w) I ya B,aB Z];refine ae ?_;unfold setAddByScan;refine ae^jv^ae^wpAny_setScan_of (knd:=strKind P w) (k:=k) x m n K B ?_;cases za:List.findIdx? (λe=>(strKind P w).is k e.2) es.toList with
 |some j =>
  obtain⟨xf,yc,_⟩:=List.findIdx?_eq_some_iff_getElem.mp za;have C:k∈xs:=(v k).mpr #[es.toList[j],eJ xf,yc];refine ak^ak ?_;have e0:s={ s with heap:=s.heap }:=by cases s;rfl
  rw[e0];refine h s.heap (ab1 a s.heap) ?_ _;unfold gc;rw[aB C];exact#[o,es,ep,t,m,H,n,B,v,ya,K,ze,F,xc]
 |none =>
  dsimp only
  have C:k ∉ xs:=λz=>by
   obtain⟨e,he,i⟩:=(v k).mp z;have:=List.findIdx?_eq_none_iff.mp za e he;rw[i]at this;cases this
  have xb:∀(b:Bool) {G:UJ}{M:Unit->UJ->Prop},M Unit.unit G->UL (U0 P w) A (match b with|true=>rule "set.scan.the-table-gave-way" | false=>pure Unit.unit) M E G:=λb G M yb=>by
   cases b
   .exact ak yb
   .exact jv yb
  have g:=layNew_perm t es ((strKind P w).hash k)^.str k tk;have u:=layNew_fits t es ((strKind P w).hash k)^.str k tk;have y:=Lc t es ((strKind P w).hash k)^.str k tk;generalize yf:layNew t es (hashStr w k)^.str k tk=L;rw[show(strKind P w).hash k=hashStr w k from rfl,yf]at g u y;obtain⟨c,p,wd,xg⟩:=L
  dsimp only at g u y⊢
  rw[Vd]at g;have S:aa7 (strKind P w) c.toList:=(B.push (k:=k) x I).perm g;have yg:c.size=es.size+1:=by rw[<-gk,g.length_eq,cz,gk];rfl
  have O:∀f,f∈gc xs k ↔ ∃e∈c.toList,(strKind P w).is f e.2=true:=λf=>by
   unfold gc;rw[ao C,bT,bR,v f]
   constructor
   .rintro(⟨e,he,i⟩|rfl)
    .exact#[e,g.mem_iff.mpr^gj _ he,i]
    .exact#[_,g.mem_iff.mpr^et _^bR.mpr Z,x]
   .rintro⟨e,he,i⟩
    rcases bT.mp^g.mem_iff.mp he with he|he
    .exact .inl #[e,he,i]
    .rw[bR]at he;subst he
     exact .inr^(strKind P w).inj _ f k i x
  have zc:c.size=(gc xs k).length:=by unfold gc;rw[ao C,cz,lL];omega
  have U:c.size<scanBound:=()
  refine ae^xb _ ?_;have T:∀d:Zj,d.fits c.size=true->d.led=t.led->d.plain=false->UL (U0 P w) A (do
    storeSet a c d
    if (!wd&&d.tooFull)=true then do
      let r:=relayAll d c (YU c.size)
      (match r.2.2 with|true=>rule "set.scan.the-table-gave-way" | false=>pure Unit.unit)
      storeSet a r.1 r.2.1
      pure (ih true)
     else pure^ih true) (λr s'=>UL (U0 P w) A (match r with|some zb=>pure zb|none=>setAddHashedIn a (.str k tk) (hashStr w k) 99999) Q E s') E s:=by
   intro d xd V W;obtain⟨X,yd⟩:=Cg (P:=P) (w:=w) m H n S O U xd zc (V.trans F) W;have Y:=nz s.heap a^Zt c d;refine ae^wpAny_storeSet_of m n ?_^w6 U;split
   .have l:=relayAll_perm d c^YU c.size
    have N:=relayAll_fits d c^YU c.size;have D:=Hm d c^YU c.size
    dsimp only
    generalize relayAll d c^YU c.size=R at l N D⊢;obtain⟨xa,zg,xh⟩:=R
    dsimp only at l N D⊢
    have bQ:xa.size=c.size:=by rw[<-gk,l.length_eq,gk]
    have zd:∀f,f∈gc xs k ↔ ∃e∈xa.toList,(strKind P w).is f e.2=true:=λf=>(O f).trans #[λ⟨e,he,q⟩=>#[e,l.mem_iff.mpr he,q],λ⟨e,he,q⟩=>#[e,l.mem_iff.mp he,q]];obtain⟨_,xe⟩:=Cg (P:=P) (w:=w) X H Z (S.perm l) zd () N () (D.1.trans (V.trans F))^D.2 W
    refine ae^xb _^ae^wpAny_storeSet_of X Z ?_^w6 ()
    exact ak^ak^h _ (Y.trans^nz _ a _) xe _
   .exact ak^ak^h _ Y yd _
  by_cases J:p.plain=true
  .rw[aB J]
   refine ae ?_;rw[hashByValue_scannable 8 I];refine ak ?_;show UL (U0 P w) A (do
    storeSet a c { p with plain:=false }
    _) _ E s
   exact T { p with plain:=false } (SetTable.fits_plain_off u) y Z
  .rw[ao J]
   refine ae^ak ?_;show UL (U0 P w) A (do
    storeSet a c p
    _) _ E s
   exact T p u y ⇑J
end
def gQ(val:Nat->Gd)(i:Nat):List Gd:=((VQ i).map val).foldl gc []
theorem pT(val:Nat->Gd)(i:Nat):gQ val (i+1)=gc (gQ val i)^val i:=by
 unfold gQ;rw[aaA,bj,List.foldl_append];rfl
theorem JU(xs:am Gd)(k:Gd):(gc xs k).length<=xs.length+1:=by
 unfold gc;split
 .omega
 .rw[cz,lL];omega
theorem Ld{xs:am Gd}(h:xs.Nodup)(k:Gd):(gc xs k).Nodup:=by
 unfold gc;split
 .exact h
 .rename_i c
  rw[dz];exact#[h,by simp,λa d b f e=>c^by rw[<-(bR.mp f),<-e];exact d]
theorem JV{xs:am Gd}{k y:Gd}:y∈gc xs k ↔ y∈xs\/y=k:=by
 unfold gc;split
 .rename_i h
  exact#[.inl,λz=>z.elim id λe=>e ▸ h]
 .rw[bT,bR]
theorem Ci(val:Nat->Gd):∀i,(gQ val i).length<=i
 |0=>aP _
 |i+1=>by rw[pT];have:=JU (gQ val i)^val i;have:=Ci val i;omega
theorem Dc(val:Nat->Gd):∀i,(gQ val i).Nodup
 |0=>ff
 |i+1=>by rw[pT];exact Ld (Dc val i) _
theorem Cj(val:Nat->Gd)(y:Gd):∀i,y∈gQ val i ↔ ∃j,j<i/\val j=y
 |0=>#[λh=>(by cases h),λ⟨_,h,_⟩=>absurd h^pq _]
 |i+1=>by
  rw[pT,JV,Cj val y i]
  constructor
  .rintro(⟨j,h,e⟩|e)
   .exact#[j,(),e]
   .exact#[i,(),e.symm]
  .rintro⟨j,h,e⟩
   by_cases c:j=i
   .exact .inr (by rw[<-e,c])
   .exact .inl #[j,(),e]
section
variable{R:ZC->UJ->Prop}{wr:am FG}{G:Array ZT->Array ZT->Prop}{n:Nat}{Pv:Nat->i'->Prop}{St:Nat->UJ->Prop}
theorem JW(W:WalksS P w A.in1 I fp wr G n Pv St)(S:FG)(d:S ∉ fp)(val:Nat->Gd)(y:∀i v,Pv i v ->∃t,v=.str (val i) t)(H:n+1<scanBound) :
  ∀(k i:Nat) (s:UJ),n - i=k->i<=n->St i s->eh P w s.heap S^gQ val i->(∀s',Moved (S::wr) G s s'->eh P w s'.heap S^gQ val n->R (.ok^.ret .none) s') ->
   codeAny (U0 P w) A (.builtin "set.update.loop" #[[.ref S,.ref I],[]]) R s:=by
 have f:S ∉ wr:=λz=>d^W.sub _ z;have up:∀b∈wr,b∈S::wr:=λb z=>bh _ z;intro k
 induction k with
 |zero =>
  intro i s B hi st x q;obtain rfl:i=n:=()
  refine iu Z3 ?_;rw[iU Gf _];show UL _ A.in1 (pyNext^.ref I >>= _) _ _ s;refine ae^W.done s _ _ st λs' m=>?_;show UL _ A.in1 (ret Vv) _ _ s';exact ak^q s' (m.mono up)^x.keep λo e=>m.heap S o f e
 |succ k C =>
  intro i s B hi st x q;have lt:i<n:=()
  refine iu Z3 ?_;rw[iU Gf _];show UL _ A.in1 (pyNext^.ref I >>= _) _ _ s;refine ae^W.item i s _ _ lt st λv s' D l m=>?_;obtain⟨t,rfl⟩:=y i v D;have E:eh P w s'.heap S^gQ val i:=x.keep λo e=>m.heap S o f e;show UL _ A.in1 (holding [YX (val i) t]^setAdd S^.str (val i) t >>= _) _ _ s';refine ae^ed ?_;unfold setAdd;have j:(strKind P w).is (val i)^.str (val i) t=true:=by show YG (val i)^.str (val i) t=true;simp[YG]
  refine ed^ae^(strKind P w).pyHash (k:=val i) j ?_;have room:(gQ val i).length+1<scanBound:=by have:=Ci val i;omega
  refine JT (s:={ s' with toks:=s'.toks+1 }) E room λh' g h b=>?_;rw[<-pT]at h;refine ak #[jB Gf _,C (i+1) _ () lt (W.frame _ s' _ _ l (gm _) λc a o e=>?_) h λp r u=>?_]
  .rw[g.2 c (λz:c=S=>d^by rw[<-z];exact a)];exact e
  .refine q p (Moved.trans W.gtrans ((m.mono up).then_heap (gm _) λc o a e=>?_) r) u
   rw[g.2 c (λz:c=S=>a^by rw[z];exact aY)];exact e
end
abbrev jl(w:Yo):YC:={ cls:=.type "set",dict:=none,data:=.set #v[] 0 (.fresh 0 0 (!w.params.followText "set-order")) }
theorem Hn(a:i'){Q₁:i'->UJ->Prop}(h:Q₁ (.ref s.aj) { s with heap:=s.heap.push^jl w }) :
  codeAny (U0 P w) A (.call (.builtin "set.__new__") #[[.type "set",a],[]]) (wants Q₁ E) s:=by
 refine wK ?_;show UL _ A.in1 (do checkBuiltinCall "set.__new__" #[[.type "set",a],[]];again^.builtin "set.__new__" #[[.type "set",a],[]]) _ _ s;refine ae^w7 (F.newCall_set_1 a)^ak #[jB abe _,iu F.entry_set_new ?_];rw[iU abe _];unfold Yh.«set.__new__» aaI;have b:=sub_set_self;obtain⟨c,g,d,tk,os⟩:=s;dsimp only
 wp_walk
 refine iT^ak ?_;dsimp only;simp only[newObj];refine ae^wpAny_alloc^ak ?_;exact ak h
structure Src(P:Yg)(w:Yo)(T:String)(l:FG)(ol:YC)(n:Nat)(Pv:Nat->i'->Prop):Prop where
 cls:ol.cls=.type T
 ns:isSubtype (.type T) (.type "set")=pure false
 nf:isSubtype (.type T) (.type "frozenset")=pure false
 nd:(Yn T==Yn "dict")=false
 iter:∀(A:Yq) (s:UJ),A.handled=none->s.heap.get? l=ih ol ->∃(oI:YC) (St:Nat->Yb->Prop),
  (∀(E:i'->UJ->Prop) (Q:i'->UJ->Prop),Q (.ref s.aj) { s with heap:=s.heap.push oI }->UL (U0 P w) A (pyIter (.ref l)) Q E s) /\
  Walks P w A s.aj [s.aj,l] [s.aj] n Pv St/\St 0 (s.heap.push oI)
theorem IT{n:Nat}{Pv:Nat->i'->Prop}{val:Nat->Gd}{Q:i'->UJ->Prop}(I:A.handled=none)(C:Src P w T l ol n Pv)(p:s.heap.get? l=ih ol)(J:∀i v,Pv i v ->∃t,v=.str (val i) t)(a:n+1<scanBound)
  (h:∀(h':Yb) (tk:Nat),eh P w h' s.heap.objs.size^gQ val n->(∀b o,b<s.heap.objs.size->s.heap.get? b=ih o->h'.get? b=ih o)->Q (.ref s.heap.objs.size) { s with heap:=h',toks:=tk }) :
  UL (U0 P w) A (call (.type "set") [.ref l]) Q E s:=by
 obtain⟨zb,yb,za⟩:=lP.mro;have Y:=lP.made;have xb:=lP.sub;refine kz^wK ?_;show UL _ _ (callAny (.type "set") _) _ _ _;refine ak #[FZ _ ⋯,iu F.entry_type_call ?_];rw[Around.under_plain (weight_type_call_type "set" [.ref l] []) Z]
 have xc:=lP.notType;have yc:=lP.canCreate;have zc:=F.typeCall_set_1^.ref l
 repeat (any_goals (first|assumption|wp_step))
 refine lJ (Hn (.ref l) (E:=E) (Q₁:=λk g=>k=.ref s.heap.objs.size/\g={ s with heap:=s.heap.push^jl w }) #[Z,Z]) λr g d=>?_;cases r with
 |error e=>exact d
 |ok K =>
  cases K with
  |ret k =>
   obtain⟨rfl,rfl⟩:=d;have q:(s.heap.push^jl w).get? s.heap.objs.size=ih^jl w:=bU _ Z;have L:Y4 { s with heap:=s.heap.push^jl w } (.ref s.heap.objs.size) "set" :=#[_,q,Z];have xd:=lP.init.lookup;have yd:=lP.init.bind^.ref s.heap.objs.size
   repeat (any_goals (first|assumption|wp_step))
   refine lJ (wL (R:=wants (λr j=>r=.none /\∃h' tk,j={ s with heap:=h',toks:=tk }/\eh P w h' s.heap.objs.size^gQ val n/\(∀b o,b<s.heap.objs.size->s.heap.get? b=ih o->h'.get? b=ih o)) E) lP.init.plain F.entry_set_init^check_set_init_1 L ?_) λx j c=>?_
   .have B:(s.heap.push^jl w).get? l=ih ol:=a9 _ p
    obtain⟨y,xa,ya,X⟩:=ol;have z:y=.type T:=C.cls;subst z;have ns:=C.ns;have zd:=C.nf;have xe:=C.nd;unfold Yh.«set.__init__» noKeywords aaF;generalize D:pyIter=PI
    wp_walk
    subst D;obtain⟨oI,St,it,W,st⟩:=C.iter A.in1.in1.in1 { s with heap:=s.heap.push^jl w } (by simp[I]) B
    refine wpAny_of_in1^it _ _ ?_;refine ae^Gg ?_;have M:l<s.heap.objs.size:=bA p;have N:s.heap.objs.size ∉ [(s.heap.push^jl w).objs.size,l]:=by
     rw[hJ];simp only[bL,bR,jC,jD,not_or];exact#[bK^kx _,jw M]
    refine JW W.toS s.heap.objs.size N val J a (n - 0) 0 _ () (bF _) st (JS^a9 _ q) ?_
    intro s' m f;obtain⟨h',O,S,G,H⟩:=s';have e1:O=s.gens:=m.gens;have e2:S=s.drawn:=m.drawn;have e3:H=s.os:=m.os;subst e1;subst e2;subst e3;show UL _ _ _ _ _ _;refine ak ?_;show UL _ _ (ret Vv) _ _ _;refine ak #[Z,h',G,Z,f,λb o a e=>?_];have b1:b≠s.heap.objs.size:=bK a;have U:b≠(s.heap.push^jl w).objs.size:=by rw[hJ];exact bK^lQ a
    exact m.heap b o (by simp only[bL,bR,jC,jD,not_or];exact#[b1,U])^a9 _^a9 _ e
   .cases x with
    |error e=>exact c
    |ok u =>
     cases u with
     |ret r =>
      obtain⟨rfl,h',tk,rfl,f,V⟩:=c
      repeat (any_goals (first|assumption|wp_step))
      exact h _ _ f V
     |_=>exact c.elim
  |_=>exact d.elim
theorem src_list(a:ol.cls=.type "list")(d:∃n,ol.data=.seq items n):Src P w "list" l ol items.size (λi v=>items[i]?=ih v) where
 cls:=a
 ns:=F.sub_list_set
 nf:=F.sub_list_frozenset
 nd:=by decide
 iter:=λA s e b=>by
  have c:s.heap.IsList l items:=#[ol,b,a,d];have lt:=bA b;exact#[_,_,λE Q q=>sb c q,Z5 e _ l (bK lt) items,#[_,bU _ Z,Z,Z],c.push _]
theorem Le(a:ol.cls=.type "tuple")(d:∃n,ol.data=.seq items n):Src P w "tuple" l ol items.size (λi v=>items[i]?=ih v) where
 cls:=a
 ns:=F.sub_tuple_set
 nf:=F.sub_tuple_frozenset
 nd:=by decide
 iter:=λA s e b=>by
  have c:s.heap.IsTuple l items:=#[ol,b,a,d];have lt:=bA b;exact#[_,_,λE Q q=>wpAny_pyIter_tuple c q,Walks.tuple e _ l (bK lt) items,#[_,bU _ Z,Z,Z],c.push _]
theorem lX:Slot "set_iterator" "__next__" "set_iterator.__next__" :=
 Slot.of (owner:= "set_iterator") (n:= "__next__") (by rw[F8,F9];kernel_rfl) ⋯ ⋯ ⋯ (by first|exact .inl ⋯|exact .inr ⋯) (by rw[Gh];kernel_rfl)
theorem GQ:entryFor table "set_iterator.__next__" = ih Yh.«set_iterator.__next__» :=entryFor_of_tree (by kernel_rfl)
theorem Ck:Manifest.owners.lookup^String.ofList "rotareti_tes".toList.reverse=ih Manifest.sig_set_iterator:=by kernel_rfl
theorem GZ(a:i'):argsOk "set_iterator.__next__" #[[a],[]]:=by
 unfold argsOk;rw[signature?_of (id:= "set_iterator.__next__") (n:=['_','_','t','x','e','n','_','_']) (o:= "rotareti_tes".toList) (by kernel_rfl) Ck];kernel_rfl
theorem pH:Slot "set_iterator" "__iter__" "set_iterator.__iter__" :=
 Slot.of (owner:= "set_iterator") (n:= "__iter__") (by rw[F8,F9];kernel_rfl) ⋯ ⋯ ⋯ (by first|exact .inl ⋯|exact .inr ⋯) (by rw[Gh];kernel_rfl)
theorem An:entryFor table "set_iterator.__iter__" = ih Yh.«dict_keyiterator.__iter__» :=entryFor_alias (id':= "dict_keyiterator.__iter__") (by kernel_rfl) Z ⋯ (by kernel_rfl)
theorem Ar(a:i'):argsOk "set_iterator.__iter__" #[[a],[]]:=by
 unfold argsOk;rw[signature?_of (id:= "set_iterator.__iter__") (n:=['_','_','r','e','t','i','_','_']) (o:= "rotareti_tes".toList) (by kernel_rfl) Ck];kernel_rfl
theorem G0:entryFor table "set.__iter__" = ih Yh.«frozenset.__iter__» :=entryFor_alias (id':= "frozenset.__iter__") (by kernel_rfl) Z ⋯ (by kernel_rfl)
abbrev ig(first:i')(i:Nat)(a:FG)(n ep:Nat):YC:={ cls:=.type "set_iterator",dict:=none,data:=.fields #v[first,.int i 0,.ref a,.int n 0,.int ep 0],slots:= #v[] }
section
variable{es:Array (Int×i')}{t:Zj}
theorem pZ{first:i'}{n:Nat}{Q:a2 i'->UJ->Prop}(b:s.heap.get? I=ih (ig first i a n ep))(k:s.heap.get? a=ih o)(l:o.data=.set es ep t)(m:t.fits es.size=true)(p:es.size=n)
  (body:UL (U0 P w) A.in1 (do
   if let .int j _:=first then
    match <- setNext a j.toNat ((i:Int)).toNat ((ep:Int)).toNat with
    |some (x,next) =>
     setField (.ref I) 0 (rawInt next)
     setField (.ref I) 1 (rawInt ((i:Int)+1))
     ret x
    |none=>setField (.ref I) 2 .none;raiseNew (<- newExc (.type "StopIteration") [])
   else
    let ih f <- seqItems? first|unsupported "internal:set_iterator"
    match f[((i:Int)).toNat]? with
    |some (.int g _) =>
     let x <- setNextDrawn a g.toNat ((ep:Int)).toNat
     setField (.ref I) 1 (rawInt ((i:Int)+1))
     ret x
    |some _=>unsupported "internal:set_iterator"
    |none=>setField (.ref I) 0^rawInt 0;setField (.ref I) 2 .none;raiseNew (<- newExc (.type "StopIteration") []))
   (λc s'=>∃r,c=.done^.ret r/\Q (ih r) s') (λe s'=>UL (U0 P w) A (do if <- isInstance e^.type "StopIteration" then pure none else throw e) Q E s') s):UL (U0 P w) A (pyNext^.ref I) Q E s:=by
 have d:s.TypeIs (.ref I) "set_iterator" :=#[_,b,Z];unfold pyNext;refine ae^nu^nc (name:=Yj "__next__") d lX^gE lX d GQ ?_^GZ _;unfold Yh.«set_iterator.__next__»;refine ae^ak ?_
 dsimp only
 refine ae^so b Z ?_
 dsimp only
 refine ae ?_;unfold setEntries;refine ae^hO k l m^ak ?_
 dsimp only
 rw[ao^by rw[p];simp]
 refine ir body (λc s' h=>?_) λe s' h=>?_
 .obtain⟨r,rfl,q⟩:=h
  exact#[r,Z,ak q]
 .exact h
theorem Cm{Q:a2 i'->UJ->Prop}(f:A.handled=none)(q:∀h',(∀b c,s.heap.get? b=ih c->h'.get? b=ih c)->Q none { s with heap:=h' }) :
  UL (U0 P w) A.in1 (newExc (.type "StopIteration") [] >>= λe=>(raiseNew e:Zi ZJ)) (λd s'=>∃r,d=.done^.ret r/\Q (ih r) s') (λe s'=>UL (U0 P w) A (do if <- isInstance e^.type "StopIteration" then pure none else throw e) Q E s') s:=by
 refine ae ?_;simp only[newExc,newTuple];refine ae (e4 ?_^by size_fits)
 refine ae (m:=firstArgMember _ _) (w7 (a:=Vv) (by first|rfl|(simp only[firstArgMember];rfl))^e4 ?_^by size_fits)
 simp only[raiseNew];refine ae^Gi ?_;rw[show A.in1.handled=none from f];refine ae^ak^sj ?_;refine ae^w8 (T:= "StopIteration") (b:=true) (show Y4 _ _ _ from#[_,bU _ Z,Z]) Gj ?_;exact ak^q _ λb c e=>a9 _^a9 _ e
theorem GR{b n d:Nat}{x:i'}{Q:a2 i'->UJ->Prop}(c:s.heap.get? I=ih^ig (.int b 0) i a n ep)(f:s.heap.get? a=ih o)(g:o.data=.set es ep t)(h:t.fits es.size=true)(j:es.size=n)
  (bO:∀(k:i'->UJ->Prop) (e:a2 (i'×Nat)->UJ->Prop),e (ih (x,d)) s->UL (U0 P w) A.in1 (setNext a b i ep) e k s)
  (q:∀h',h'.get? I=ih^ig (.int d 0) (i+1) a n ep->X5 I s.heap h'->Q (ih x) { s with heap:=h' }):UL (U0 P w) A (pyNext^.ref I) Q E s:=by
 refine pZ c f g h j ?_;simp only[gD];refine ae^bO _ _ ?_;refine ae^iW c (by simp) λh1 l s1=>?_
 refine ae^iW l (by simp) λh2 m s2=>?_
 exact ak #[x,Z,q h2 (by rw[m];simp[rawInt])^s1.trans s2]
theorem G3{d n:Nat}{Q:a2 i'->UJ->Prop}(h:A.handled=none)(f:s.heap.get? I=ih^ig (.int d 0) i a n ep)(j:s.heap.get? a=ih o)(k:o.data=.set es ep t)(l:t.fits es.size=true)(m:es.size=n)
  (bO:∀(p:i'->UJ->Prop) (g:a2 (i'×Nat)->UJ->Prop),g none s->UL (U0 P w) A.in1 (setNext a d i ep) g p s)
  (q:∀h',(∀b c,b≠I->s.heap.get? b=ih c->h'.get? b=ih c)->Q none { s with heap:=h' }):UL (U0 P w) A (pyNext^.ref I) Q E s:=by
 refine pZ f j k l m ?_;simp only[gD];refine ae^bO _ _ ?_;refine ae^iW f (by simp) λh1 v s1=>?_
 exact Cm h λh2 r=>q h2 λb c u e=>r b c (by rw[s1.2 b u];exact e)
theorem GS{pt:FG}{ps:am Nat}{n pl:Nat}{x:i'}{Q:a2 i'->UJ->Prop}(b:s.heap.get? I=ih^ig (.ref pt) i a n ep)(d:s.heap.get? a=ih o)(e:o.data=.set es ep t)(f:t.fits es.size=true)(k:es.size=n)
  (l:∃op c,s.heap.get? pt=ih op/\op.data=.seq (ps.map λ(j:Nat)=>rawInt j).toArray c) (hi:ps[i]?=ih pl) (m:es[pl]?=ih (z,x))
  (q:∀h',h'.get? I=ih^ig (.ref pt) (i+1) a n ep->X5 I s.heap h'->Q (ih x) { s with heap:=h' }):UL (U0 P w) A (pyNext^.ref I) Q E s:=by
 refine pZ b d e f k ?_;obtain⟨op,c,g,h⟩:=l
 dsimp only
 simp only[gD];refine ae ?_;unfold seqItems?;refine ae^pb g ?_;rw[h];refine ak ?_
 dsimp only
 have e1:(ps.map λ(j:Nat)=>rawInt j).toArray[i]?=ih^rawInt pl:=by simp[hi]
 rw[e1];show UL _ _ (setNextDrawn a ((pl:Int)).toNat ep >>= _) _ _ s;rw[gD];unfold setNextDrawn;refine ae^ae^hO d e f ?_
 dsimp only
 rw[ao (by simp),m]
 refine ak ?_;refine ae^iW b (by simp) λh2 p s2=>?_
 exact ak #[x,Z,q h2 (by rw[p];simp[rawInt]) s2]
theorem G4{pt:FG}{ps:am Nat}{n:Nat}{Q:a2 i'->UJ->Prop}(l:A.handled=none)(f:s.heap.get? I=ih^ig (.ref pt) i a n ep)(m:s.heap.get? a=ih o)(p:o.data=.set es ep t)(r:t.fits es.size=true)(u:es.size=n)
  (v:∃op c,s.heap.get? pt=ih op/\op.data=.seq (ps.map λ(j:Nat)=>rawInt j).toArray c) (hi:ps.length<=i)
  (q:∀h',(∀b d,b≠I->s.heap.get? b=ih d->h'.get? b=ih d)->Q none { s with heap:=h' }):UL (U0 P w) A (pyNext^.ref I) Q E s:=by
 refine pZ f m p r u ?_;obtain⟨op,c,h,k⟩:=v
 dsimp only
 simp only[gD];refine ae ?_;unfold seqItems?;refine ae^pb h ?_;rw[k];refine ak ?_
 dsimp only
 have e1:(ps.map λ(j:Nat)=>rawInt j).toArray[i]?=none:=by simp;omega
 rw[e1];refine ae^iW f (by simp) λh1 x s1=>?_
 refine ae^iW x (by simp) λh2 B s2=>?_
 exact Cm l λy z=>q y λb d g e=>z b d (by rw[s2.2 b g,s1.2 b g];exact e)
end
theorem BA{α:Type}(next:Nat->Nat):∀(fuel k:Nat) (left:am α) (out:Array α),left.length=fuel->(Zk next fuel k left out).toList.Perm (out.toList++left)
 |0,k,left,out,h=>by
  have:left=[]:=lR h;subst this;unfold Zk;simp
 |fuel+1,k,left,out,h=>by
  have a:next k % left.length<left.length:=w9 _ ()
  unfold Zk;rw[bG a]
  dsimp only
  refine(BA next fuel (k+1) _ _ (by rw[Vf,aB a];omega)).trans ?_
  rw[Vd,nj];refine Vg _ ?_;generalize next k % left.length=j at a;have b:∀(l:am α) (j:Nat) (h:j<l.length),(l[j]::l.eraseIdx j).Perm l:=by
   intro l
   induction l with
   |nil=>intro j h;exact absurd h^pq _
   |cons x l c =>
    intro j h;cases j with
    |zero=>exact kB _
    |succ j=>exact(YT _ _ _).trans ((c j^xZ h).cons x)
  exact b left j a
section
variable{xs:am Gd}
theorem Dd{α:Type}:∀(m:Nat) (l:am α) {s:UJ}{Q:am α->UJ->Prop},l.length=m->(∀ps d,ps.Perm l->Q ps { s with drawn:=d })->UL (U0 P w) A (drawOrder m l) Q E s
 |0,l,s,Q,h,q=>by
  have:l=[]:=lR h;subst this;unfold drawOrder;exact ak^q [] s.drawn^kB _
 |m+1,[],s,Q,h,q=>by simp at h
 |m+1,x::l,s,Q,h,q=>by
  unfold drawOrder;refine ae ?_;have ch:∀{a:Nat->UJ->Prop}{s:UJ},(∀i d,i<(x::l).length->a i { s with drawn:=d })->UL (U0 P w) A (choose .order (x::l).length) a E s:=λ{a s} c=>by
   intro Γ p hΓ;exact#[by simp,c _ _^w9 _^by simp]
  refine ch λi d hi=>?_;rw[bG hi]
  dsimp only
  refine ae^Dd m _ (by rw[Vf,aB hi];omega) λps g e=>ak ?_
  refine q _ _^(e.cons _).trans ?_;have b:∀(l:am α) (j:Nat) (h:j<l.length),(l[j]::l.eraseIdx j).Perm l:=by
   intro l
   induction l with
   |nil=>intro j h;exact absurd h^pq _
   |cons x l f =>
    intro j h;cases j with
    |zero=>exact kB _
    |succ j=>exact(YT _ _ _).trans ((f j^xZ h).cons x)
  exact b _ i hi
theorem H9{es:am (Int×i')}(h:aa7 (strKind P w) es):∃ks:am Gd,Yr (es.map (·.2)) ks /\∀k,k∈ks ↔ ∃e∈es,(strKind P w).is k e.2=true:=by
 induction es with
 |nil=>exact#[[],.nil,λk=>(by simp)]
 |cons e es c =>
  obtain⟨ks,h1,h2⟩:=c h.tail;obtain⟨⟨k,a,_⟩,_⟩:=h.head;obtain⟨t,d⟩:=Ft a;refine#[k::ks,?_,λy=>?_]
  .rw[bY,d];exact .cons k t h1
  .rw[bL,h2 y]
   constructor
   .rintro(rfl|⟨b,he,q⟩)
    .exact#[e,aY,a]
    .exact#[b,bh _ he,q]
   .rintro⟨b,he,q⟩
    rcases bL.mp he with rfl|he
    .exact .inl^(strKind P w).inj _ _ _ q a
    .exact .inr #[b,he,q]
theorem BB{vs:am i'}(h:Yr us ks)(p:vs.Perm us):∃ys,Yr vs ys/\ys.Perm ks:=by
 induction p generalizing ks with
 |nil=>exact#[ks,h,kB _]
 |cons x _ e =>
  cases h with
  |cons y t r=>obtain⟨ys,h1,h2⟩:=e r;exact#[y::ys,.cons y t h1,h2.cons y]
 |swap x y l =>
  cases h with
  |cons a f g =>
   cases g with
   |cons b i j=>exact#[b::a::_,.cons b i^.cons a f j,YT _ _ _]
 |trans _ _ c d =>
  obtain⟨ys,h1,h2⟩:=d h;obtain⟨zs,k,m⟩:=c h1;exact#[zs,k,m.trans h2]
theorem l'{vs:am i'}(h:Yr vs ys):vs.length=ys.length:=by
 induction h with
 |nil=>rfl
 |cons _ _ _ a=>rw[c4,c4,a]
theorem G'{a b:am Gd}(c:a.Nodup)(d:b.length=a.length)(h:∀x∈a,x∈b):b.Perm a:=by
 induction a generalizing b with
 |nil=>have:b=[]:=lR d;subst this;exact kB _
 |cons x a j =>
  rw[d6]at c;have f:=h x aY;have k:=List.perm_cons_erase f;have i:(b.erase x).length=a.length:=by rw[F1 f,d];rfl
  have h2:∀y∈a,y∈b.erase x:=λy g=>(F3 (show y≠x from λe=>c.1 (by rw[<-e];exact g))).mpr (h y^bh _ g)
  exact k.trans^(j c.2 i h2).cons x
structure vB(P:Yg)(w:Yo)(a:FG)(vs:List i')(I:FG)(fp:List FG)(h:Yb):Prop where
 go:∃St:Nat->Yb->Prop,(∀A:Yq,A.handled=none->Walks P w A I fp [I] vs.length (λi v=>vs[i]?=ih v) St)/\St 0 h
theorem Cn{es:Array (Int×i')}{t:Zj}(j:Nat->Nat){vs:am i'}(C:a≠I)(n:o.data=.set es ep t)(p:t.fits es.size=true)(r:es.size=vs.length)(h0:j 0=0)(D:h.get? a=ih o)(hi:h.get? I=ih^ig (.int 0 0) 0 a vs.length ep)
  (B:∀(A:Yq) (s:UJ) (i:Nat) (v:i') (d:i'->UJ->Prop) (c:a2 (i'×Nat)->UJ->Prop),s.heap.get? a=ih o->vs[i]?=ih v->c (ih (v,j (i+1))) s->UL (U0 P w) A (setNext a (j i) i ep) c d s)
  (done:∀(A:Yq) (s:UJ) (d:i'->UJ->Prop) (c:a2 (i'×Nat)->UJ->Prop),s.heap.get? a=ih o->c none s->UL (U0 P w) A (setNext a (j vs.length) vs.length ep) c d s):vB P w a vs I [I,a] h:=by
 refine#[λi h=>h.get? a=ih o/\h.get? I=ih^ig (.int (j i) 0) i a vs.length ep,λA F=>#[λb f=>(by simp at f;simp[f]),λi h h' st k=>#[k a (by simp) _ st.1,k I (by simp) _ st.2],λi s Q E hi st q=>?_,λs Q E st q=>?_,λi s Q E st q=>?_],D,by rw[h0];exact hi]
 .have u:vs[i]?=ih vs[i]:=bG hi
  refine GR st.2 st.1 n p r (λd c l=>B _ _ i _ d c st.1 u l) λh' g x=>?_;exact q _ h' s.toks u #[by rw[x.2 a C];exact st.1,g] λb y f e=>by rw[x.2 b^λz=>f^by simp[z]];exact e
 .exact G3 F st.2 st.1 n p r (λd c l=>done _ _ d c st.1 l) λh' k=>q h' s.toks λb y f e=>k b y (λz=>f^by simp[z]) e
 .have m:s.TypeIs (.ref I) "set_iterator" :=#[_,st.2,Z]
  refine sq m pH^gE pH m An ?_^Ar _;show UL _ _ (ret^.ref I) _ _ s;exact ak #[_,Z,"set_iterator",_,m,lX.lookup,q]
theorem JX{es:Array (Int×i')}{t:Zj}{pt:FG}{ps:am Nat}{vs:am i'}(B:a≠I)(C:pt≠I)(n:o.data=.set es ep t)(p:t.fits es.size=true)(r:es.size=vs.length)(H:ps.length=vs.length)(D:h.get? a=ih o)(hi:h.get? I=ih^ig (.ref pt) 0 a vs.length ep)
  {op:YC}{c:Nat} (F:h.get? pt=ih op) (m:op.data=.seq (ps.map λ(j:Nat)=>rawInt j).toArray c) (y:∀(i:Nat) (v:i'),vs[i]?=ih v ->∃pl z,ps[i]?=ih pl/\es[pl]?=ih (z,v)):vB P w a vs I [I,a,pt] h:=by
 refine#[λi h=>h.get? a=ih o/\h.get? pt=ih op/\h.get? I=ih^ig (.ref pt) i a vs.length ep,λA G=>#[λb d=>(by simp at d;simp[d]),λi h h' st k=>#[k a (by simp) _ st.1,k pt (by simp) _ st.2.1,k I (by simp) _ st.2.2],λi s Q E hi st q=>?_,λs Q E st q=>?_,λi s Q E st q=>?_],D,F,hi]
 .have u:vs[i]?=ih vs[i]:=bG hi
  obtain⟨pl,z,h1,h2⟩:=y i _ u;refine GS st.2.2 st.1 n p r #[op,c,st.2.1,m] h1 h2 λh' g f=>?_;exact q _ h' s.toks u #[by rw[f.2 a B];exact st.1,by rw[f.2 pt C];exact st.2.1,g] λb x d e=>by rw[f.2 b^λz=>d^by simp[z]];exact e
 .exact G4 G st.2.2 st.1 n p r #[op,c,st.2.1,m] () λh' k=>q h' s.toks λb x d e=>k b x (λz=>d^by simp[z]) e
 .have l:s.TypeIs (.ref I) "set_iterator" :=#[_,st.2.2,Z]
  refine sq l pH^gE pH l An ?_^Ar _;show UL _ _ (ret^.ref I) _ _ s;exact ak #[_,Z,"set_iterator",_,l,lX.lookup,q]
end
theorem BC(j k:Nat):YV #v[j] k=if j<k then 1 else 0:=by
 unfold YV;show YQ #v[j] k 1 0 1=_;unfold YQ
 by_cases h:j<k
 .simp[h,YQ]
 .simp[h,YQ]
theorem Ia(k:Nat):YV #v[] k=0:=by unfold YV;rfl
section
variable{xs:am Gd}
theorem JY{Q:i'->UJ->Prop}(X:eh P w s.heap a xs)(yc:xs.Nodup)
  (q:∀(h':Yb) (d':Drawn) (I:FG) (fp:am FG) (vs:am i') (ys:am Gd),vB P w a vs I fp h'->Yr vs ys->ys.Perm xs->(∀b∈fp,b=a\/s.heap.objs.size<=b)->I∈fp->(∀b∈fp,b<h'.objs.size)->s.heap.objs.size<=I->(∀b G,s.heap.get? b=ih G->h'.get? b=ih G)->Q (.ref I) { s with heap:=h',drawn:=d' }) :
  UL (U0 P w) A (pyIter^.ref a) Q E s:=by
 have Y:=X.typeIs;obtain⟨o,es,ep,t,m,ze,f,yb,za,zc,c,xg,xb,zb⟩:=X;have D:=bA m;obtain⟨ks,K,xd⟩:=H9 yb;have yd:ks.length=xs.length:=by have:=l' K;rw[aE,gk]at this;omega
 have kp:ks.Perm xs:=G' yc yd λx zd=>(xd x).mpr ((za x).mp zd);refine sq Y abc^gE abc Y G0 ?_^F.args_set_iter_1 _;unfold Yh.«frozenset.__iter__» aaG aaH setEntries setDrawn setsByText;refine ae^ae^ak^ak ?_;refine ae^ae^ae^hO m f c^ak^ak ?_
 dsimp only
 refine ae^ae^hO m f c ?_;dsimp only;refine ae^ae^iT^ak^ak ?_;show UL _ _ (if (!w.params.followText "set-order" && (!t.plain&&decide (es.size>1)))=true then _ else _) _ _ s
 by_cases big:(!w.params.followText "set-order" && (!t.plain&&decide (es.size>1)))=true
 ·
  rw[aB big];refine ae^Dd es.size (VQ es.size) (by simp) λps d M=>?_
  have h:ps.length=es.size:=by rw[M.length_eq];simp
  refine ae (e4 ?_^by show(ps.map _).toArray.size<=UM;rw[b5,aE,h];exact w6 zc)
  refine ae ?_;unfold setEpoch;refine ae^hO (a9 _ m) f c^ak ?_
  dsimp only
  refine ae^e4^ak #[_,Z,"set_iterator",_,#[_,bU _ Z,Z],lX.lookup,?_];have xc:∀p∈ps,p<es.size:=λp C=>ju.mp^M.mem_iff.mp C
  let vs:am i':=ps.map λp=>(es.toList.map (·.2)).getD p .none
  have pv:vs.Perm^es.toList.map (·.2):=by
   have e1:(VQ es.size).map (λp=>(es.toList.map (·.2)).getD p .none)=es.toList.map (·.2):=by
    apply Gb
    .simp
    .intro n h1 h2
     have:n<es.size:=by simpa using h1
     simp[this]
   rw[<-e1];exact M.map _
  obtain⟨ys,N,O⟩:=BB K pv;have vl:vs.length=es.size:=by show(ps.map _).length=_;rw[aE,h]
  have eW:(s.heap.push { cls:=.type "tuple",data:=.seq (ps.map λ(i:Nat)=>rawInt i).toArray }).objs.size=s.heap.objs.size+1:=hJ ..;refine q _ d _ [_,a,s.heap.objs.size] vs ys (JX (o:=o) (op:={ cls:=.type "tuple",data:=.seq (ps.map λ(i:Nat)=>rawInt i).toArray }) (ps:=ps) (by rw[eW];exact bK^lQ D) (by rw[eW];exact bK^kx _) f c vl.symm (by rw[vl,h]) (a9 _^a9 _ m) ?_ (a9 _^bU _ Z) Z ?_) N (O.trans kp) ?_ aY ?_ (by rw[eW];omega) λb G e=>a9 _^a9 _ e
  .rw[bU _ Z,vl];rfl
  .intro i v y
   have S:(ps.map λp=>(es.toList.map (·.2)).getD p .none)[i]?=ih v:=y;rw[c5]at S;obtain⟨p,C,H⟩:=gF.mp S;have T:=xc p^eu C;refine#[p,es[p].1,C,?_];rw[nA T]
   congr 1
   rw[<-H];simp[T]
  .intro b g
   simp only[bL,jC,jD]at g;rcases g with rfl|rfl|rfl
   .exact .inr (by rw[eW];omega)
   .exact .inl Z
   .exact .inr^aP _
  .intro b g
   simp only[bL,jC,jD]at g;rw[hJ,eW];rcases g with z|z|z
   .rw[z,eW];exact kx _
   .rw[z];exact lQ^lQ D
   .rw[z];exact lQ^kx _
 .rw[ao big]
  refine ae^ak ?_;refine ae ?_;unfold setEpoch;refine ae^hO m f c^ak ?_
  dsimp only
  refine ae^e4^ak #[_,Z,"set_iterator",_,#[_,bU _ Z,Z],lX.lookup,?_];have U:∀b ∈ [s.heap.objs.size,a],b=a\/s.heap.objs.size<=b:=λb g=>by
   simp only[bL,jC,jD]at g;rcases g with rfl|rfl
   .exact .inr^aP _
   .exact .inl Z
  have V:∀(xa:YC),∀b ∈ [s.heap.objs.size,a],b<(s.heap.push xa).objs.size:=λxa b g=>by
   simp only[bL,jC,jD]at g;rw[hJ];rcases g with z|z
   .rw[z];exact kx _
   .rw[z];exact lQ D
  cases r:w.params.followText "set-order" with
  |true =>
   have ya:∀next:Nat->Nat,((pickOrder next es).toList.map (·.2)).Perm (es.toList.map (·.2)):=λnext=>by
    unfold pickOrder;have:=BA next es.size 0 es.toList #v[] (by simp)
    exact(by simpa using this:(Zk next es.size 0 es.toList #v[]).toList.Perm es.toList).map _
   obtain⟨ys,N,O⟩:=BB K^ya^w.params.setOrder a ep;have vl:=(ya^w.params.setOrder a ep).length_eq;rw[aE,gk,aE,gk]at vl;refine q _ s.drawn _ [_,a] ((pickOrder (w.params.setOrder a ep) es).toList.map (·.2)) ys (Cn (o:=o) (λ_=>0) (bK D) f c (by rw[aE,gk,vl]) Z (a9 _ m) ?_ ?_ ?_) N (O.trans kp) U aY (V _) (aP _) λb G e=>a9 _ e
   .rw[bU _ Z,aE,gk,vl];rfl
   .intro A s i v R B l y u
    unfold setNext setsByText;refine ae^hO l f c ?_;dsimp only;refine ae^ae^iT^ak ?_;show UL _ _ (if w.params.followText "set-order" = true then _ else _) _ _ _;rw[aB r,ao^by simp]
    unfold setWalk setsByText;refine ae^ae^hO l f c ?_;dsimp only;refine ae^ae^iT^ak ?_;show UL _ _ (if w.params.followText "set-order" = true then _ else _) _ _ _;rw[aB r];refine ae^iT^ak^ak ?_;show B (((pickOrder (w.params.setOrder a ep) es)[i]?).map λe=>(e.2,0)) s;rw[c5,pe]at y;obtain⟨e,L,H⟩:=gF.mp y;rw[L];show B (ih (e.2,0)) s;rw[H];exact u
   .intro A s R B l u
    unfold setNext setsByText;refine ae^hO l f c ?_;dsimp only;refine ae^ae^iT^ak ?_;show UL _ _ (if w.params.followText "set-order" = true then _ else _) _ _ _;rw[aB r,ao^by simp]
    unfold setWalk setsByText;refine ae^ae^hO l f c ?_;dsimp only;refine ae^ae^iT^ak ?_;show UL _ _ (if w.params.followText "set-order" = true then _ else _) _ _ _;rw[aB r];refine ae^iT^ak^ak ?_;show B (((pickOrder (w.params.setOrder a ep) es)[((pickOrder (w.params.setOrder a ep) es).toList.map (·.2)).length]?).map λe=>(e.2,0)) s;rw[pw^by simp]
    exact u
  |false =>
   have a5:es.size<=1:=by
    rw[r]at big
    by_cases z:es.size<=1
    .exact z
    .have C:=zb ()
     rw[C]at big;exact absurd (by simp;omega) big
   have W:t.led=true:=by rw[xb,r];rfl
   have zf:t.place.size=es.size:=by
    have:=c;simp only[SetTable.fits,gW,dJ,decide_eq_true_eq]at this;exact this.1
   refine q _ s.drawn _ [_,a] (es.toList.map (·.2)) ks (Cn (o:=o) (λi=>if i=0 then 0 else t.place.getD 0 0+1) (bK D) f c (by rw[aE,gk]) Z (a9 _ m) ?_ ?_ ?_) K kp U aY (V _) (aP _) λb G e=>a9 _ e
   .rw[bU _ Z,aE,gk];rfl
   .intro A s i v R B l y u
    rw[c5,pe]at y;obtain⟨e,L,H⟩:=gF.mp y;have hi:i<es.size:=(wU.mp L).1;have xe:i=0:=()
    subst xe;obtain⟨h,J⟩:∃j,t.place = #v[j]:=by
     have:t.place.size=1:=()
     exact#[t.place[0],by
      apply abH
      .simp[this]
      .intro k h1 h2;have:k=0:=()
       subst this;simp]
    unfold setNext setsByText;refine ae^hO l f c ?_;dsimp only;refine ae^ae^iT^ak ?_;show UL _ _ (if w.params.followText "set-order" = true then _ else _) _ _ _;rw[ao^by rw[r];exact b7]
    show UL _ _ (if (!t.plain&&decide (es.size>1))=true then _ else _) _ _ _;rw[ao^by simp;omega]
    show UL _ _ ((if (!t.led && !es.isEmpty)=true then unsupported "set:maker-not-led" else pure Unit.unit) >>= _) _ _ _;rw[W,ao^by simp]
    refine ae^ak ?_;rw[J,aB Z,BC,ao (),L]
    refine ak ?_;show B (ih (e.2,h+1)) s;rw[H];have:(if 0+1=0 then 0 else t.place.getD 0 0+1)=h+1:=by rw[J];rfl
    rw[this]at u;exact u
   .intro A s R B l u
    unfold setNext setsByText;refine ae^hO l f c ?_;dsimp only;refine ae^ae^iT^ak ?_;show UL _ _ (if w.params.followText "set-order" = true then _ else _) _ _ _;rw[ao^by rw[r];exact b7]
    show UL _ _ (if (!t.plain&&decide (es.size>1))=true then _ else _) _ _ _;rw[ao^by simp;omega]
    show UL _ _ ((if (!t.led && !es.isEmpty)=true then unsupported "set:maker-not-led" else pure Unit.unit) >>= _) _ _ _;rw[W,ao^by simp]
    refine ae^ak ?_;have out:es[YV t.place (if (es.toList.map (·.2)).length=0 then 0 else t.place.getD 0 0+1)]?=none:=by
     rw[aE,gk]
     by_cases z:es.size=0
     .have:t.place = #v[]:=Array.eq_empty_of_size_eq_zero ()
      rw[this,Ia];exact pw ()
     .have e1:es.size=1:=()
      obtain⟨h,J⟩:∃j,t.place = #v[j]:=by
       have:t.place.size=1:=()
       exact#[t.place[0],by
        apply abH
        .simp[this]
        .intro k h1 h2;have:k=0:=()
         subst this;simp]
      rw[ao z,J,BC];have : #v[h].getD 0 0=h:=rfl;rw[this,aB ()]
      exact pw ()
    rw[out];exact ak u
end
end HS
namespace HS
open Spec PyProof.Rows W
section
variable{xs:am Gd}
theorem JZ{Q:Bool->UJ->Prop}(c:s.TypeIs (.ref a) "set")(h:Q false s):UL (U0 P w) A (Zp^.ref a) Q E s:=by
 unfold Zp;refine ae^wpAny_specialOf c PySem.F.slot_set_len.lookup ?_;generalize d:("set.__len__" : String)=e
 wp_delta
 rw[show splitId e=ih ("set","__len__") from by subst d;decide +kernel];subst d
 refine ae^w8 (T:= "set") (b:=true) c (by rw[Gh];kernel_rfl) ?_
 refine Gk (λz=>absurd z ∅) λ_=>Gk (λ_=>?_) λz=>absurd ⋯ z
 exact ae^jy c^ak h
theorem Ib{R:ZC->UJ->Prop}(V:A.handled=none)(p:eh P w s.heap a xs)(X:xs.Nodup)(S:FG)(v:S≠a)(i:i')(r:Nat)(D:s.heap.get? S=ih { cls:=.type "list",data:=.seq #v[] r })
  (Y:∀h' d' tk (vs:am i') (ys:am Gd) g,(∀b o,b≠S->s.heap.get? b=ih o->h'.get? b=ih o)->h'.get? S=ih { cls:=.type "list",dict:=none,data:=.seq vs.toArray g,slots:= #v[] }->Yr vs ys->ys.Perm xs->R (.ok^.ret i) { s with heap:=h',drawn:=d',toks:=tk }) :
  UL (U0 P w) A.in1 (Ye (.ref S) (.ref a) i)
   (λN s'=>match N with|.done f=>R (.ok f) s'|.again g=>g.quiet=true/\codeAny (U0 P w) A g R s') (λe s'=>R (.error e) s') s:=by
 have E:=p.typeIs;have O:xs.length<scanBound:=by obtain⟨o,es,ep,t,zd,xd,xe,yd,q3,d,ye,ze,_⟩:=p;omega
 unfold Ye;refine ae^jy (T:= "set") E ?_;have h1:Zw (.ref S)^.ref a=false:=by simp[Zw,v]
 have h2:(Yn "set" == Yn "list")=false:=by decide
 have F:(Yn "set" == Yn "tuple")=false:=by decide
 simp only[h1,h2,F,FT,ph,hK];refine ae^JY p X λh' d' I fp vs ys W G H ya xf yf za k=>?_;obtain⟨St,xb,st⟩:=W.go;have J:=xb A.in1 ⇑V
 have vl:vs.length=xs.length:=by rw[l' G,H.length_eq]
 have x:S ∉ fp:=λz=>by
  rcases ya S z with e|e
  .exact v e
  .exact absurd (bA D)^F4.mpr e
 have yb:Y4 { s with heap:=h',drawn:=d' } (.ref a) "set" :=by
  obtain⟨o,e,c⟩:=E;exact#[o,k _ _ e,c]
 refine ae^ed^JZ yb ?_;have n:=k _ _ D;have y:∀(h:Yb) (l:Nat),St 0 h->(∀b o,b≠S->s.heap.get? b=ih o->h.get? b=ih o)->h.get? S=ih { cls:=.type "list",data:=.seq #v[] l } ->
   codeAny (U0 P w) A (.builtin "list.extend.loop" #[[.ref S,.ref I,i],[]]) R { s with heap:=h,drawn:=d' }:=by
  intro h l Q zb L;refine codeAny_extend_loopS J.toS (by rw[vl];exact w6 O) S x i vs.length 0 _ #v[] l Z (bF _) Q L (ItemsOf.nil _) λs' u g K U m=>?_
  rw[Moved.eq_with K];have xc:u.toList=vs:=by
   apply List.ext_getElem?
   intro j;rw[pe]
   by_cases yc:j<vs.length
   .have B:j<u.size:=by rw[m.1];exact yc
    rw[nA B];exact(m.2 j _^nA B).symm
   .rw[pw (by rw[m.1];omega),sk ()]
  refine Y s'.heap d' s'.toks vs ys g (λb o d e=>K.heap b o (λq3=>?_)^zb b o d e) (by rw[U,<-xc]) G H
  rcases bL.mp q3 with zc|q3
  .exact d zc
  .exact absurd (bA e) (by rw[bR.mp q3];exact F4.mpr za)
 refine Gk (λ_=>?_)^λ_=>ak #[jB Vh _,y _ r st (λb o _ e=>k b o e) n];refine ae^jv^ae ?_;show UL _ _ (updateSeq S (·.push .none) >>= λ_=>updateSeq S (·.pop)) _ _ _;refine ae^Gm n Z ?_;have q:=ng (X4 (·.push Vv)) n Z;refine Gm (hz:=by seq_fits) q Z ?_
 have M:=ng (X4 (·.pop)) q Z;have C:∀b o,b≠S->h'.get? b=ih o->((h'.update S^X4 (·.push Vv)).update S^X4 (·.pop)).get? b=ih o:=λb o d e=>(kA _ _^aS d).trans ((kA _ _^aS d).trans e);exact ak #[jB Vh _,y _ _ (J.frame 0 _ _ st λb d o e=>C b o (λz=>x (z ▸ d)) e) (λb o d e=>C b o d^k b o e) M]
theorem Ho{Q:am i'->UJ->Prop}(d:A.handled=none)(c:eh P w s.heap a xs)(f:xs.Nodup)
  (g:∀h' d' tk (vs:am i') (ys:am Gd),(∀b o,s.heap.get? b=ih o->h'.get? b=ih o)->Yr vs ys->ys.Perm xs->Q vs { s with heap:=h',drawn:=d',toks:=tk }):UL (U0 P w) A (collect^.ref a) Q E s:=by
 unfold collect;refine ae^Gg^iu Vi ?_;rw[iU Vj _];show UL _ A.in1 (newList [] >>= λl=>again^.builtin "list.__iadd__" #[[l,.ref a],[]]) _ _ s;refine ae^e4^ak #[jB yZ _,iu Vk ?_];rw[iU yZ _];show UL _ A.in1 (Ye (.ref s.aj) (.ref a)^.ref s.aj) _ _ _;have h:s.aj≠a:=jw c.lt;refine Ib (R:=λr s'=>match r with|.ok (.ret v)=>UL (U0 P w) A (match v with|.ref a=>(do match (<- load a).data with|.seq xs _=>pure xs.toList|_=>unsupported "internal:collect")|_=>unsupported "internal:collect") Q E s'|.ok _=>False|.error e=>E e s') (s:={ s with heap:=s.heap.push { cls:=.type "list",data:=.seq ([]:am i').toArray } }) d (c.keep λo e=>a9 _ e) f _ h _ 0 (bU _ Z) λh' d' tk vs ys n k i j m=>?_;show UL _ A (load s.aj >>= _) _ _ _;refine ae^pb i^ak ?_;exact g h' d' tk vs ys (λb o e=>k b o (bK^bA e)^a9 _ e) j m
theorem Ic{Q:i'->UJ->Prop}(l:A.handled=none)(p:eh P w s.heap a xs)(q:xs.Nodup)(F:xs.length<=63)
  (r:∀D c h' d' tk (vs:am i') (ys:am Gd),(∀b o,s.heap.get? b=ih o->h'.get? b=ih o)->(∀b o,s.heap.get? b=ih o->b≠D)->h'.get? D=ih^listOf vs.toArray c->Yr vs ys->ys.Perm xs->sortedS ys=true->Q (.ref D) { s with heap:=h',drawn:=d',toks:=tk }) :
  UL (U0 P w) A (call (.builtin "sorted") [.ref a]) Q E s:=by
 refine Vl kind_sorted plain_sorted entry_sorted (args_sorted1 _) ?_;unfold Yh.«sorted»;refine ae (m:=checkCount "sorted" 1 1 _)^ak^ae^Ho ⇑l p q λh1 d1 t vs ys h d i=>?_
 have vl:vs.length=xs.length:=by rw[l' d,i.length_eq]
 refine ae (w5 ?_^by rw[aV];omega)
 have f:(h1.push^seqObj "list" vs.toArray 0).get? h1.objs.size=ih^seqObj "list" vs.toArray 0:=bU _ Z;refine ae^ed^gE slot_list_sort #[_,f,Z] entry_list_sort (list_sort_treeK strKind_oneLt f d.keysOf (λB C rest e=>keyKind_strs^by rw[<-e];exact d) () λj u v=>#[_,Z,?_])^args_list_sort _
 obtain⟨k,b1,x,y⟩:=sorted_out_str d u v;obtain⟨c,z⟩:=sortedHeap_at (n:=0) (vs:=vs) (out:=(arrOf j).map (·.2)) f;refine ak #[_,Z,r _ c _ d1 t _ k (λb o e=>?_) (λb o e=>bK^bA^h b o e) (by rw[z]) b1 (x.trans i) y]
 have e1:=h b o e;have g:=bA e1;rw[sortedHeap_old (bK g) (by rw[size_push'];exact lQ g),Heap.get?_push_ne _ _ _^bK g]
 exact e1
end
end HS
namespace L2
open Spec PyProof.Rows W HS
def jm(P:Yg)(w:Yo)(a:FG)(xs:List Gd):HO:=.ext λh=>xs.Nodup/\eh P w h a xs
theorem Lf{xs:am Gd}(b:xs.Nodup)(x:eh P w h a xs):bH P w H h a^jm P w a xs:=
 #[#[b,x],(let ⟨o,_,_,_,e,_⟩:=x;#[o,e]),λ_ _ q k=>#[q.1,q.2.keep k]]
theorem Inv.draw{σ:am^Option V}(I:Inv X J σ H s)(d:Drawn):Inv X J σ H { s with drawn:=d }:=#[I.ok,I.os,I.bare,I.base,I.loc,I.cell,I.free,I.eR,I.pin,I.aH,I.len]
theorem ud:∀{vs:am i'}{ys:am Gd},Yr vs ys ->∀(i:Nat) (v:i'),vs[i]?=ih v ->∃t,v=.str (ys.getD i "") t
 |_,_,.nil,i,v,h=>by simp at h
 |_,_,.cons y t r,0,v,h=>by simp at h;exact#[t,by rw[<-h];rfl]
 |_,_,.cons y t r,i+1,v,h=>by
  obtain⟨t',e⟩:=ud r i v ⇑h
  exact#[t',by rw[e];rfl]
theorem Co(D:X.calm=true):cU X (.type "set") (λvs H Q=>∃(p:FG) (c:am Gd),vs=[.ref p]/\(au X.K H p^c.map V.str\/aX X.K H p^c.map V.str)/\c.length<=1000 /\∀a ds,H a=none->ds.Nodup->(∀y,y∈ds ↔ y∈c)->Q (.ref a)^upd H a^jm X.prog X.w a ds):=by
 rintro J s σ H vs us Q I r ⟨p,c,rfl,hq,O,q⟩;obtain⟨u,rfl,E⟩:=vals1 r;cases E
 have A:∀(its:am i') {T:String}{ol:YC},Vals (c.map V.str) its->Src X.prog X.w T p ol its.toArray.size (λi v=>its.toArray[i]?=ih v)->s.heap.get? p=ih ol->wA X (call (.type "set") [.ref p]) (EP X J σ Q) X.xe s:=λits {T ol} F C G=>by
  have st:=pL F;have z:its.length=c.length:=l' st;refine IT (val:=λi=>c.getD i "") (I.ok.hd D) C G (λi v L=>ud st i v ⇑L) (by rw[b5,z];unfold scanBound;omega) λh' tk x k=>?_
  have kp:∀b o,s.heap.get? b=ih o->h'.get? b=ih o:=λb o e=>k b o (bA e) e;have B:=Dc (λi=>c.getD i "") its.toArray.size;refine#[.ref s.heap.objs.size,_,I.laid (t':=tk) kp (aP _)^Lf B x,Z,q _ _ (I.aH.fresh^aP _) B λy=>?_];rw[Cj,b5,z]
  constructor
  .rintro⟨j,d,rfl⟩
   rw[show c.getD j "" = c[j] by simp[d]]
   exact eJ d
  .intro M
   obtain⟨j,d,e⟩:=zZ.mp M;exact#[j,d,by simp[d,e]]
 rcases hq with hq|hq
 .obtain⟨its,g,l,N⟩:=I.list hq
  obtain⟨o,m,f,n,t⟩:=l.isList;exact A its g (src_list f #[n,t]) m
 .obtain⟨its,g,l,N⟩:=I.tuple hq
  obtain⟨o,m,f,n,t⟩:=l;exact A its g (Le f #[n,t]) m
theorem Hq:cU X (.builtin "len") (λvs H Q=>∃(a:FG) (ds:am Gd),vs=[.ref a]/\H a=ih^jm X.prog X.w a ds/\Q (.int ds.length) H):=by
 rintro J s σ H vs us Q I r ⟨a,ds,rfl,c,q⟩;obtain⟨u,rfl,d⟩:=vals1 r;cases d
 obtain⟨⟨m,o,es,ep,t,e,b,f,l,k,g,i,j,_⟩,_⟩:=(show bH X.prog X.w H s.heap a^jm X.prog X.w a ds from I.aH a _ c);refine call_len_set e b f i (by unfold scanBound at g;omega) ?_
 rw[<-j]at q;exact#[.int es.size,H,I.tok _,#[_,Z],q]
theorem GK(j:X.calm=true):cU X (.builtin "sorted") (λvs H Q=>∃(a:FG) (ds:am Gd),vs=[.ref a]/\H a=ih^jm X.prog X.w a ds/\ds.length<=63 /\∀D d,H D=none->d.Perm ds->sortedS d=true->Q (.ref D)^upd H D^.lst^d.map V.str):=by
 rintro J s σ H vs us Q I r ⟨a,ds,rfl,l,g,q⟩;obtain⟨u,rfl,n⟩:=vals1 r;cases n
 obtain⟨⟨t,x⟩,_⟩:=(show bH X.prog X.w H s.heap a^jm X.prog X.w a ds from I.aH a _ l);obtain⟨m,f,_⟩:=id I.loc;refine Ic (I.ok.hd j) x t g λD c h' v tk out ys k y new st p i=>?_;obtain⟨z,A⟩:=Inv.sorted (t':=tk) (ys:=ys.map V.str) I f (f.at' λo e=>k _ _ e) (λb o _ e=>k b o e) y new (Bz st) (by rw[aE,p.length_eq,aV];omega)
 exact#[.ref D,_,A.draw v,Z,q _ ys z p i]
end L2
namespace L2
open W Calls PyProof.Rows
section
variable{α β:Type}{n:Nat}{lt:Nat->Nat->Bool}
def ij(lt:Nat->Nat->Bool)(p:Array Nat)(k:Nat):Prop:= ∀i j,i<j->j<k->lt (p.getD i 0) (p.getD j 0)=true
def kg(lt:Nat->Nat->Bool)(p:Array Nat)(k:Nat):Prop:= ∀i j,i<j->j<k->lt (p.getD j 0) (p.getD i 0)=true
theorem Pm.size{p:Array Nat}(h:Pm n p):p.size=n:=by have:=h.length_eq;simpa using this
theorem Pm.ne{p:Array Nat}(h:Pm n p)(hi:i<n)(c:j<n)(e:i≠j):p.getD i 0≠p.getD j 0:=by
 have d:=h.size;have a:p.toList.Nodup:=h.nodup_iff.mpr aan;intro z;rw[iV,iV,nA (),nA ()]at z
 have b:p.toList[i]'(by simp;omega)=p.toList[j]'(by simp;omega):=by simpa using z
 exact e^(aap a).mp b
theorem Cp{p:Array Nat}{m:Nat}(a:m<=p.size)(k:Nat)(b:k<m):(kas_rev p 0 m).getD k 0=p.getD (m - 1 - k) 0:=by
 unfold kas_rev;rw[iV,getElem?_mirror_all a,aB #[bF _,b],iV,Nat.zero_add]
theorem kg.rev{p:Array Nat}{m:Nat}(b:m<=p.size)(a:kg lt p m):ij lt (kas_rev p 0 m) m:=λi j d c=>by
 rw[Cp b i (),Cp b j c]
 exact a _ _ () ()
theorem Cq{p:Array Nat}{k l:Nat}(c:k<p.size)(d:l<=k)(i:Nat):(bubble p k (k - l)).getD i 0=if i=l then p.getD k 0 else if l<i/\i<=k then p.getD (i - 1) 0 else p.getD i 0:=by
 rw[iV,getElem?_bubble c (k - l) ()]
 have:k - (k - l)=l:=()
 rw[this]
 by_cases a:i=l
 .rw[aB a,aB a];exact(iV ..).symm
 .rw[ao a,ao a]
  by_cases b:l<i/\i<=k
  .rw[aB b,aB b];exact(iV ..).symm
  .rw[ao b,ao b];exact(iV ..).symm
end
def iQ(p q:Gd):Bool:=decide (p.cps.toList<q.cps.toList)
theorem Cr(p:Gd):iQ p p=false:=er^List.lt_irrefl _
theorem Mr{p r:Gd}(h1:iQ p q=true)(h2:iQ q r=true):iQ p r=true:=cb^List.lt_trans (dA h1)^dA h2
theorem Lg{p:Gd}(h:p≠q)(f:iQ p q=false):iQ q p=true:=by
 refine cb ?_;have h1 : ¬ p.cps.toList<q.cps.toList:=of_decide_eq_false f;have h2:q.cps.toList<=p.cps.toList:=abm.mp h1
 by_cases z:q.cps.toList<p.cps.toList
 .exact z
 .exact absurd (JR (a:=p) (b:=q) (abm.mp z) h2) h
theorem IU{α β:Type}{F:α->β->Prop}{l:am α}{m:am β}(h:VT F l m)(dl:α)(a:β)(i:Nat)(hi:i<l.length):F (l.getD i dl)^m.getD i a:=by
 induction h generalizing i with
 |nil=>exact absurd hi^pq _
 |cons p _ b =>
  cases i with
  |zero=>exact p
  |succ i=>exact b i^xZ hi
theorem nG{α β γ:Type}{F:α->β->Prop}{f:γ->α}{g:γ->β}:∀{l:am γ},(∀x∈l,F (f x)^g x)->VT F (l.map f)^l.map g
 |[],_=>.nil
 |x::l,h=>.cons (h x aY)^nG λy a=>h y^bh _ a
theorem Ms{lt:Nat->Nat->Bool}{p:Array Nat}{n:Nat}(d:p.size=n)(a:ij lt p n):p.toList.Pairwise λi j=>lt i j=true:=by
 rw[List.pairwise_iff_getElem];intro i j hi c b;have h1:i<p.size:=by simpa using hi
 have h2:j<p.size:=by simpa using c
 have:=a i j b ()
 rw[iV,iV,nA h1,nA h2]at this
 simpa using this
end L2
namespace HS
open Spec PyProof.Rows W
theorem Hr{vs:am i'}{Q:am i'->UJ->Prop}(c:Yz s.heap l vs.toArray)(hz:vs.length<=UM)(q:∀h',(∀b o,s.heap.get? b=ih o->h'.get? b=ih o)->Q vs { s with heap:=h' }) :
  UL (U0 P w) A (collect^.ref l) Q E s:=by
 obtain⟨o,d,f,n,g⟩:=id c;unfold collect;refine ae^Gg^iu Vi ?_;rw[iU Vj _];show UL _ A.in1 (newList [] >>= λz=>again^.builtin "list.__iadd__" #[[z,.ref l],[]]) _ _ s;refine ae^w5^ak #[jB yZ _,iu Vk ?_];rw[iU yZ _];show UL _ _ (Ye (.ref s.heap.objs.size) (.ref l)^.ref s.heap.objs.size) _ _ { s with heap:=s.heap.push^seqObj "list" #v[] 0 };unfold Ye;have a:(s.heap.push^seqObj "list" #v[] 0).get? l=ih o:=a9 _ d;refine ae^jy (T:= "tuple") #[o,a,f] ?_;have h:(Yn "tuple" == Yn "tuple")=true:=by rfl
 rw[aB^by rw[h];simp]
 refine ae^listItems_at a g^ae^listItems_at (xs:= #v[]) (n:=0) (bU _ Z) Z ?_;rw[ao^by simp]
 refine ae (listUpdate_at (xs:= #v[]) (n:=0) (bU _ Z) Z (ak ?_) (bF _)^by show(#v[]++vs.toArray).size<=UM+1;simp only[sh,b5,jA];omega)
 show UL (U0 P w) A (load s.heap.objs.size >>= _) Q E { s with heap:=(s.heap.push^seqObj "list" #v[] 0).update s.heap.objs.size^X4 (· ++ vs.toArray) };refine ae^pb (get?_update_seq (bU _ Z) _) ?_;show UL _ _ (pure ((#v[]:Array i')++vs.toArray).toList) Q E _;rw[show((#v[]:Array i')++vs.toArray).toList=vs by simp]
 refine ak^q _ λb i e=>?_;exact(kA _ _^jw^bA e).trans (a9 _ e)
end HS
namespace L2
open Spec PyProof.Rows W HS
end L2
namespace L2
open W Calls PyProof.Rows
structure h3(n:Nat)(lt:Nat->Nat->Bool):Prop where
 tr:∀i j k,i<n->j<n->k<n->lt i j=true->lt j k=true->lt i k=true
 P':∀i j,i<n->j<n->i≠j->lt i j=false->lt j i=true
def cV{α:Type}(n:Nat)(lt:Nat->Nat->Bool)(φ:α->Prop):KasT α->Prop
 |.ret a=>φ a
 |.ask i j k=>i<n/\j<n/\i≠j/\cV n lt φ (k (lt i j))
section
variable{α β:Type}{n:Nat}{lt:Nat->Nat->Bool}
theorem cV.bind{b:α->Prop}{ψ:β->Prop}{f:α->KasT β}(g:∀a,b a->cV n lt ψ^f a):∀{t:KasT α},cV n lt b t->cV n lt ψ^t.bind f
 |.ret a,h=>g a h
 |.ask _ _ _,h=>#[h.1,h.2.1,h.2.2.1,cV.bind g h.2.2.2]
theorem cV.wp{c:α->Prop}{b:Nat->Nat->(Bool->UJ->Prop)->UJ->Prop}{Q:α->UJ->Prop}{s:UJ}(d:∀i j C,i<n->j<n->i≠j->C (lt i j) s->b i j C s):∀{t:KasT α},cV n lt c t->(∀a,c a->Q a s)->t.kasWp b Q s
 |.ret a,h,q=>q a h
 |.ask _ _ _,h,q=>d _ _ _ h.1 h.2.1 h.2.2.1^cV.wp d h.2.2.2 q
theorem cV.mono{b ψ:α->Prop}(g:∀a,b a->ψ a):∀{t:KasT α},cV n lt b t->cV n lt ψ t
 |.ret a,h=>g a h
 |.ask _ _ _,h=>#[h.1,h.2.1,h.2.2.1,cV.mono g h.2.2.2]
theorem u0{p:Array Nat}(O:h3 n lt)(h:Pm n p)(hi:i<n)(a:j<n)(e:i≠j)(f:lt (p.getD i 0)^p.getD j 0=false):lt (p.getD j 0)^p.getD i 0=true:=
 O.P' _ _ (h.lt () i) (h.lt () j) (h.ne hi a e) f
theorem IV{p:Array Nat}(O:h3 n lt)(h:Pm n p){m:Nat}(h1:1<=m)(c:m<n)(a:ij lt p m)(l:lt (p.getD (m - 1) 0)^p.getD m 0=true):ij lt p (m+1):=λi j b d=>by
 by_cases e:j<m
 .exact a i j b e
 .obtain rfl:j=m:=()
  by_cases e2:i=j - 1
  .rw[e2];exact l
  .exact O.tr _ _ _ (h.lt () _) (h.lt () _) (h.lt () _) (a i (j - 1) () ()) l
theorem IW{p:Array Nat}(O:h3 n lt)(h:Pm n p){m:Nat}(h1:1<=m)(c:m<n)(a:kg lt p m)(l:lt (p.getD m 0)^p.getD (m - 1) 0=true):kg lt p (m+1):=λi j b d=>by
 by_cases e:j<m
 .exact a i j b e
 .obtain rfl:j=m:=()
  by_cases e2:i=j - 1
  .rw[e2];exact l
  .exact O.tr _ _ _ (h.lt () _) (h.lt () _) (h.lt () _) l^a i (j - 1) () ()
theorem tL{p:Array Nat}(O:h3 n lt)(h:Pm n p):∀(f m:Nat),1<=m->m+f<=n->ij lt p m->cV n lt (λr=>m<=r/\r<=m+f/\ij lt p r/\(r<m+f->lt (p.getD r 0)^p.getD (r - 1) 0=true))^kas_asc p f m
 |0,m,h1,h2,a=>#[aP _,aP _,a,λz=>absurd z ()]
 |f+1,m,h1,h2,a=>#[h.lt () _,h.lt () _,h.ne () () (),by
  cases c:lt (p.getD m 0)^p.getD (m - 1) 0 with
  |true=>exact#[aP _,(),a,λ_=>c]
  |false =>
   refine cV.mono (λr b=>?_)^tL O h f (m+1) () ()^IV O h h1 () a^u0 O h () () () c
   exact#[(),(),b.2.2.1,λz=>b.2.2.2 ()]]
theorem BD{p:Array Nat}(O:h3 n lt)(h:Pm n p):∀(f m:Nat),1<=m->m+f<=n->kg lt p m->cV n lt (λr:Array Nat×Nat×Nat=>r.1=p/\r.2.2=0/\m<=r.2.1/\r.2.1<=m+f/\kg lt p r.2.1)^kas_desc f p m 0
 |0,m,h1,h2,a=>#[Z,Z,aP _,aP _,a]
 |f+1,m,h1,h2,a=>#[h.lt () _,h.lt () _,h.ne () () (),by
  cases c:lt (p.getD m 0)^p.getD (m - 1) 0 with
  |true =>
   show cV n lt _ (if 0>0 then kas_desc f (kas_rev p (m - (0+1)) m) (m+1) 0 else kas_desc f p (m+1) 0);rw[ao ()]
   refine cV.mono (λr b=>?_)^BD O h f (m+1) () ()^IW O h h1 () a c
   exact#[b.1,b.2.1,(),(),b.2.2.2.2]
  |false =>
   refine#[h.lt () _,h.lt () _,h.ne () () (),?_]
   rw[u0 O h () () () c]
   exact#[Z,Z,aP _,aaz _ _,a]]
def q4(n:Nat)(lt:Nat->Nat->Bool)(r:Nat×Array Nat):Prop:=Pm n r.2/\ij lt r.2 r.1/\1<=r.1/\r.1<=n
theorem Ie{p:Array Nat}(O:h3 n lt)(h:Pm n p){m:Nat}(h1:1<=m)(h2:m<=n)(a:kg lt p m):cV n lt (q4 n lt)^kas_tail3 m n p:=
 cV.bind (ψ:=q4 n lt) (f:=λk=>.ret (k,kas_rev p 0 m)) (λr b=>(show q4 n lt (r,kas_rev p 0 m) from#[h.rev _ _,b.2.2.1,ec h1 b.1,by have:=b.2.1;show r<=n;omega])) (tL O (h.rev 0 m) (n - m) m h1 ()^a.rev^by rw[h.size];exact h2)
theorem Ig{p:Array Nat}(O:h3 n lt)(u:2<=n)(h:Pm n p):cV n lt (q4 n lt)^kas_count n p:=
 (tL O h (n - 1) 1 (aP _) ()^λi j d b=>absurd b ()).bind λm f=>by
  obtain⟨c,v,a,k⟩:=f;show cV n lt _ (if (m==n)=true then _ else if m>1 then _ else _);split
  .rename_i e
   have:m=n:=by simpa using e
   subst this;exact#[h,a,c,aP _]
  .rename_i e
   have ne:m≠n:=by simpa using e
   split
   .rename_i g
    refine#[h.lt () _,h.lt () _,h.ne () () (),?_]
    rw[a 0 (m - 1) () ()]
    exact#[h,a,c,()]
   .obtain rfl:m=1:=()
    have l:=k ()
    have o:kg lt p 2:=λi j d b=>by
     obtain rfl:j=1:=()
     obtain rfl:i=0:=()
     exact l
    refine cV.bind (λr q=>?_)^BD O h (n - (1+1)) (1+1) () () o
    obtain⟨s,w,x,y,t⟩:=q;show cV n lt _ (if r.2.2>0 then _ else _);rw[ao (),s]
    exact Ie O h () () t
theorem sR{p:Array Nat}(O:h3 n lt)(h:Pm n p){k:Nat}(d:k<n)(a:ij lt p k):∀(f l r:Nat),r - l<=f->l<=r->r<=k->(∀i,i<l->lt (p.getD i 0)^p.getD k 0=true)->(∀i,r<=i->i<k->lt (p.getD k 0)^p.getD i 0=true) ->
  cV n lt (λm=>m<=k/\(∀i,i<m->lt (p.getD i 0)^p.getD k 0=true) /\∀i,m<=i->i<k->lt (p.getD k 0)^p.getD i 0=true)^kas_place p k f l r
 |0,l,r,s,t,b,lo,hi=>by
  obtain rfl:l=r:=()
  exact#[b,lo,hi]
 |f+1,l,r,s,t,b,lo,hi=>by
  show cV n lt _ (if l ≥ r then _ else _);split
  .obtain rfl:l=r:=()
   exact#[b,lo,hi]
  .refine#[h.lt () _,h.lt () _,h.ne () () (),?_]
   cases c:lt (p.getD k 0)^p.getD ((l+r) / 2) 0 with
   |true =>
    refine sR O h d a f l ((l+r) / 2) () () () lo λi o q=>?_
    by_cases e:i=(l+r) / 2
    .rw[e];exact c
    .exact O.tr _ _ _ (h.lt () _) (h.lt () _) (h.lt () _) c^a _ i () q
   |false =>
    have g:=u0 O h (i:=k) (j:=(l+r) / 2) d () () c
    refine sR O h d a f ((l+r) / 2+1) r () () b (λi o=>?_) hi
    by_cases e:i=(l+r) / 2
    .rw[e];exact g
    .exact O.tr _ _ _ (h.lt () _) (h.lt () _) (h.lt () _) (a i _ () ()) g
theorem Cs(O:h3 n lt):∀(f:Nat) (p:Array Nat) (k:Nat),k+f=n->Pm n p->ij lt p k->cV n lt (λr=>Pm n r/\ij lt r n)^kas_bin f p k
 |0,p,k,e,h,a=>by
  obtain rfl:k=n:=()
  exact#[h,a]
 |f+1,p,k,e,h,a=>(sR O h () a k 0 k () (bF _) (aP _) (λi hi=>absurd hi^pq _)^λi h1 h2=>absurd h2 ()).bind λl q=>by
  obtain⟨b,s,t⟩:=q;refine Cs O f _ _ () (h.P9 _ _) λi j o v=>?_
  have u:=h.size;rw[Cq () b i,Cq () b j]
  by_cases c:i=l
  .rw[aB c,ao (),aB ()]
   exact t _ () ()
  .rw[ao c]
   by_cases d:l<i/\i<=k
   .rw[aB d,ao (),aB ()]
    exact a _ _ () ()
   .rw[ao d]
    by_cases g:j=l
    .rw[aB g];exact s i ()
    .rw[ao g]
     by_cases m:l<j/\j<=k
     .rw[aB m]
      exact a _ _ () ()
     .rw[ao m]
      exact a _ _ o ()
theorem IX(O:h3 n lt)(c:2<=n):cV n lt (λr=>Pm n r/\ij lt r n)^kas_sort n:=
 (Ig O c^kB _).bind λr d=>by
  obtain⟨b,a,f,g⟩:=d;show cV n lt _ (if r.1<n then _ else _);split
  .refine Cs O _ _ _ () b ?_
   rw[show max r.1 1=r.1 by omega];exact a
  .obtain e:r.1=n:=()
   rw[e]at a;exact#[b,a]
end
end L2
namespace L2
open W Calls PyProof.Rows HS
def fc:List Gd->List Gd->Bool
 |a::as,b::bs=>if a=b then fc as bs else iQ a b
 |_,_=>false
theorem DH:∀{a b c:am Gd},a.length=b.length->b.length=c.length->fc a b=true->fc b c=true->fc a c=true
 |[],_,_,h1,_,h,_=>by unfold fc at h;cases h
 |a::f,[],_,h1,_,_,_=>by simp at h1
 |a::f,b::bs,[],_,h2,_,_=>by simp at h2
 |a::f,b::bs,c::g,h1,h2,e,d=>by
  unfold fc at e d⊢
  by_cases e1:a=b
  .rw[aB e1]at e
   subst e1
   by_cases e2:a=c
   .rw[aB e2]at d⊢;exact DH ⇑h1 ⇑h2 e d
   .rw[ao e2]at d⊢;exact d
  .rw[ao e1]at e
   by_cases e2:b=c
   .subst e2
    rw[ao e1];exact e
   .rw[ao e2]at d
    have t:=Mr e d
    by_cases e3:a=c
    .subst e3;rw[Cr]at t;cases t
    .rw[ao e3];exact t
theorem De:∀{a b:am Gd},a.length=b.length->a≠b->fc a b=false->fc b a=true
 |[],[],_,h,_=>absurd Z h
 |[],b::bs,h,_,_=>by simp at h
 |a::d,[],h,_,_=>by simp at h
 |a::d,b::bs,h1,h2,c=>by
  unfold fc at c⊢
  by_cases e:a=b
  .subst e
   rw[aB Z]at c⊢;exact De ⇑h1 (λz=>h2^by rw[z]) c
  .rw[ao e]at c;rw[ao^aS e]
   exact Lg e c
theorem Lh(a b:Gd):fc [a] [b]=iQ a b:=by
 unfold fc
 by_cases e:a=b
 .rw[aB e,e,Cr];rfl
 .rw[ao e]
theorem IY{a b:Gd}{t u:Tok}{c:Bool}{Q:Bool->UJ->Prop}(h:Q (iQ a b) s):UL (U0 P w) A (oneLt' c (.str a t)^.str b u) Q E s:=by
 cases c with
 |true=>exact oneLt_str h
 |false =>
  rw[oneLt'_eq];simp only[ph,hK];exact ae^abW^hI h
theorem BE{b g:Bool}{Q:Bool->UJ->Prop}:∀{c bs:am Gd}{us vs:am i'}{d f:am i'} (i:Nat),Yr us c->Yr vs bs->c.length=bs.length->c≠bs->Q (fc c bs) s->KatLex P w A b g Q ((us++d).zip (vs++f)) i s
 |[],[],_,_,_,_,_,_,_,_,h,_=>absurd Z h
 |[],_::_,_,_,_,_,_,_,_,h,_,_=>by simp at h
 |_::_,[],_,_,_,_,_,_,_,h,_,_=>by simp at h
 |a::c,k::bs,_,_,d,f,i,.cons _ t h1,.cons _ u h2,l,j,q=>by
  unfold fc at q;refine kat_cons^Fu ?_
  by_cases e:a=k
  .rw[cb e]
   rw[aB e]at q;exact kat_yes^BE (i+1) h1 h2 ⇑l (λz=>j^by rw[e,z]) q
  .rw[er e]
   rw[ao e]at q;exact kat_no^IY q
def iC(H:Hp)(m:Nat)(vs:List V)(kvs:List (List Gd×List V)):Prop:=VT (λy p=>∃a,y=V.ref a/\H a=ih (.tup (p.1.map V.str++p.2))/\p.1.length=m) vs kvs
theorem AS{H:Hp}:∀{ks:am Gd}{rest:am V}{its:am i'},Vals (ks.map V.str++rest) its ->∃us a,its=us++a/\Yr us ks
 |[],rest,its,h=>#[[],its,Z,.nil]
 |k::ks,rest,its,h=>by
  cases h with
  |cons r t =>
   obtain⟨tk,rfl⟩:=r;obtain⟨us,a,e,st⟩:=AS (H:=H) t;exact#[.str k tk::us,a,by rw[e];rfl,.cons k tk st]
theorem BF{σ:am^Option V}
  (xj:∀(A:Yq) (E:i'->UJ->Prop) (yg:am i'->UJ->Prop),(X.A.handled=none->A.handled=none)->(∀(its:am i') (s1:UJ) (H:Hp) (ys:am V) (kvs:am (List Gd×List V)) (G:Nat),Inv X J σ H s1->Vals ys its->iC H G ys kvs->1<=G->(kvs.map (·.1)).Nodup->ys.length<=63 ->
   (∀D za ya,H D=none->za.Perm ys->iC H G za ya->ya.Perm kvs->(ya.map (·.1)).Pairwise (λa b=>fc a b=true)->Q (.ref D)^upd H D^.lst za)->yg its s1)->UL X.dt A (collect^.ref p) yg E s) :
  wA X (call (.builtin "sorted") [.ref p]) (EP X J σ Q) X.xe s:=by
 refine Vl kind_sorted plain_sorted entry_sorted (args_sorted1 _) ?_;unfold Yh.«sorted»;refine ae (m:=checkCount "sorted" 1 1 _)^ak^ae^xj _ _ _ (λh=>by simpa using h) λits s H ys kvs G I yb pr zz xq xA q=>?_
 have yq:ys.length<=UM:=by rw[aV];omega
 have yj:ys.length=kvs.length:=cy pr;have ye:=yb.length;have S:∀(i:Nat),i<its.length ->∃(ks:am Gd) (a:FG) (w l:am i'),(kvs.map (·.1))[i]?=ih ks/\its[i]?=ih^.ref a/\a≠X.env.locals/\Yz s.heap a (w++l).toArray/\Yr w ks/\ks.length=G:=by
  intro i hi;have ze:i<ys.length:=()
  obtain⟨zq,zj,a,xr,zb,xk⟩:=mh pr (show ys[i]?=ih ys[i] from bG ze);obtain⟨u,xc,l⟩:=yb.get (show ys[i]?=ih (V.ref a) by rw[bG ze,xr])
  cases l
  obtain⟨yB,yr,zg,_⟩:=I.tuple^aX.of zb;obtain⟨w,l,e,st⟩:=AS (H:=H) yr;rw[e]at zg;exact#[zq.1,a,w,l,by rw[c5,zj];rfl,xc,(λz=>by rw[z,I.free]at zb;cases zb),zg,st,xk]
 obtain⟨m,W,_⟩:=id I.loc
 let lt:Nat->Nat->Bool:=λi j=>fc ((kvs.map (·.1)).getD i [])^(kvs.map (·.1)).getD j []
 have zB:(kvs.map (·.1)).length=its.length:=by rw[aE];omega
 have K:∀i,i<its.length->((kvs.map (·.1)).getD i []).length=G:=λi hi=>by
  obtain⟨ks,_,_,_,h1,_,_,_,_,h2⟩:=S i hi;rw[gG,h1];exact h2
 have xf:∀i j,i<its.length->j<its.length->i≠j->(kvs.map (·.1)).getD i []≠(kvs.map (·.1)).getD j []:=λi j hi y M e=>M^(Vo () xq).mp (by
  rw[gG,gG,bG (),bG ()]at e
  rw[bG (),bG ()]
  exact dy ih e)
 have O:h3 its.length lt:=#[λi j k hi y zr h1 h2=>DH ((K i hi).trans (K j y).symm) ((K j y).trans (K k zr).symm) h1 h2,λi j hi y M f=>De ((K i hi).trans (K j y).symm) (xf i j hi y M) f];have yf:∀(h':Yb) (D:FG) (c:Nat) (d:Array Nat),(∀b o,b≠X.env.locals->s.heap.get? b=ih o->h'.get? b=ih o)->h'.Ns X.env.locals m->(∀b o,s.heap.get? b=ih o->b≠D)->Pm its.length d->(d.toList.Pairwise λi j=>lt i j=true) ->
   h'.get? D=ih^listOf (d.toList.map λi=>its.getD i Vv).toArray c ->∃v H',Inv X J σ H' { s with heap:=h' }/\RelV v^.ref D/\Q v H':=by
  intro h' D c d k yk B x zk new;have zf:∀i∈d.toList,i<its.length:=λi hi=>ju.mp^x.mem_iff.mp hi;have xh:(d.toList.map λi=>ys.getD i V.aK).Perm ys:=DG V.aK (by rw[ye];exact x)
  have xl:Pm kvs.length d:=by rw[<-yj,ye];exact x
  have xt:(d.toList.map λi=>kvs.getD i (([],[]):am Gd×List V)).Perm kvs:=DG _ xl;have yt:iC H G (d.toList.map λi=>ys.getD i V.aK) (d.toList.map λi=>kvs.getD i ([],[])):=nG λi hi=>IU pr V.aK ([],[]) i (by have:=zf i hi;omega)
  have zt:(d.toList.map λi=>kvs.getD i ([],[])).map (·.1)=d.toList.map λi=>(kvs.map (·.1)).getD i []:=by
   rw[dY];refine lS λi hi=>?_;have:i<kvs.length:=by have:=zf i hi;omega
   show(kvs.getD i ([],[])).1=_;rw[gG,gG,c5,bG this];rfl
  have yl:Vals (d.toList.map λi=>ys.getD i V.aK) (d.toList.map λi=>its.getD i Vv):=Bx (λi=>by
   by_cases hi:i<ys.length
   .obtain⟨u,xc,l⟩:=yb.get (show ys[i]?=ih ys[i] from bG hi)
    rw[gG,gG,xc,bG hi];exact l
   .rw[gG,gG,sk (),sk ()];trivial) d.toList
  obtain⟨xu,yu⟩:=Inv.sorted (t':=s.toks) I W yk k B new yl (by rw[xh.length_eq];exact yq)
  refine#[.ref D,_,yu,Z,q D _ _ xu xh yt xt ?_];rw[zt,kC];exact zk
 refine ae (w5 ?_^by rw[aV];omega)
 have xb:(s.heap.push^seqObj "list" its.toArray 0).get? s.heap.objs.size=ih^seqObj "list" its.toArray 0:=bU _ Z;have B:∀b o,s.heap.get? b=ih o->b≠s.heap.objs.size:=λb o e=>bK^bA e;refine ae^ed^gE slot_list_sort #[_,xb,Z] entry_list_sort ?_^args_list_sort _;have keep:∀b o,s.heap.get? b=ih o->(s.heap.push^seqObj "list" its.toArray 0).get? b=ih o:=λb o e=>a9 _ e
 by_cases h2:its.length<2
 .refine IS xb h2 λc g yh new=>#[_,Z,ak #[_,Z,?_]]
  refine yf g _ c (VQ its.length).toArray (λb o _ e=>yh b o (B b o e)^keep b o e) (W.at' λo e=>yh _ o (B _ o e)^keep _ o e) B (kB _) ?_ ?_
  .show(VQ its.length).Pairwise _
   have:its.length=0\/its.length=1:=()
   rcases this with z|z <;> rw[z]
   .exact Zh
   .exact List.pairwise_singleton _ _
  .have:(VQ its.length).map (λi=>its.getD i Vv)=its:=by
    apply Gb
    .simp
    .intro i h1 h2;simp[Y1,h2]
   show g.get? s.heap.objs.size=ih^listOf ((VQ its.length).map λi=>its.getD i Vv).toArray c;rw[this];exact new
 .have h2:2<=its.length:=()
  obtain⟨P,zl,U⟩:∃P:Yb,P.objs.size=0 /\∀b,P.get? b=none:=#[{ s.heap with objs:= #v[] },Z,λb=>r9^bF _];have F:Fr P X.env.locals s.heap m:=#[W,λb o e=>(by rw[U]at e;cases e),by rw[zl];exact bF _]
  have N:=Jl (g:=P) (L:=X.env.locals) (h:=s.heap);have xm:∃o,s.heap.get? X.env.locals=ih o:=let ⟨o,_,_,e,_⟩:=W;#[o,e];obtain⟨xC,zu⟩:=xm;refine kat_list_sort (s:={ s with heap:=s.heap.push^seqObj "list" its.toArray 0 }) (F.kept keep) (N.grown keep) xb (aS^B _ _ zu) (U _) (λp x=>B p.1 p.2 (sD x).2.2) h2 () λe1 h' xv N'=>?_
  have kp:∀b o,b≠X.env.locals->s.heap.get? b=ih o->h'.get? b=ih o:=λb o n e=>(N' (b,o)^bh _^Av n (U b) e).1;have tk:∀{a:FG}{zs:Array i'},a≠X.env.locals->Yz s.heap a zs->Yz h' a zs:=λn ⟨o,yc,r⟩=>#[o,kp _ o n yc,r];have yv:∀(vs:am i'),(∀v∈vs,∃a w l ks,v=UZ a/\Yz h' a (w++l).toArray/\Yr w ks/\ks.length=G) ->∃fs,fs.length=vs.length/\KatTups h' vs fs /\∀f∈fs,∃k t,f=YX k t:=by
   intro vs
   induction vs with
   |nil=>intro _;exact#[[],Z,KatTups.nil,λf R=>(by cases R)]
   |cons v vs zv =>
    intro Y;obtain⟨fs,xw,yw,zw⟩:=zv λxx h'=>Y xx^bh _ h';obtain⟨a,w,l,ks,rfl,⟨o,yc,yx,n,zx⟩,st,ym⟩:=Y v aY;cases st with
    |nil=>simp at ym;omega
    |cons k t r =>
     refine#[.str k t::fs,by rw[c4,c4,xw],KatTups.cons yc yx zx (by simp) yw,λf R=>?_]
     rcases bL.mp R with z|z
     .exact#[k,t,z]
     .exact zw f z
  obtain⟨fs,yA,zm,xn⟩:=yv its λv Y=>by
   obtain⟨i,hi,rfl⟩:=wY Y;obtain⟨ks,a,w,l,_,xa,zc,xd,yd,zd⟩:=S i hi;rw[bG hi]at xa;exact#[a,w,l,ks,cQ xa,tk zc xd,yd,zd]
  refine kat_kind (T:=.type "str") zm () (λf R=>?_) ∅ ?_
  .obtain⟨k,t,rfl⟩:=xn f R
   exact Looks.of_pure Z
  .refine(IX O h2).wp (λi j C hi y M zh=>?_) λd x=>?_
   .obtain⟨k,a,w,l,xy,xa,zc,xd,yd,zd⟩:=S i hi
    obtain⟨xi,yC,zA,xB,yn,zn,xo,yo,zo,xp⟩:=S j y;unfold kas_ask;rw[gG,gG,xa,zn];have yi:(kvs.map (·.1)).getD i []=k:=by rw[gG,xy];rfl
    have zi:(kvs.map (·.1)).getD j []=xi:=by rw[gG,yn];rfl
    have yy:lt i j=fc k xi:=by show fc ((kvs.map (·.1)).getD i [])^(kvs.map (·.1)).getD j []=_;rw[yi,zi]
    have ne:=xf i j hi y M;rw[yi,zi]at ne;rw[yy]at zh;obtain⟨ox,zy,_,zC,dx⟩:=tk zc xd;obtain⟨xD,xz,_,yD,yz⟩:=tk xo yo;exact kat_lt zy dx xz yz^BE 0 yd zo (zd.trans xp.symm) ne zh
   .refine KasFin.intro xv N' (UpdF.head λp x=>?_) λyp c zp xg=>?_
    .exact B p.1 p.2 (sD x).2.2
    .refine#[_,Z,ak #[_,Z,?_]]
     exact yf yp _ c d (λb o n e=>(xg (b,o)^bh _^Av n (U b) e).1) zp.ns B x.1 (Ms x.1.size x.2) (xg _ aY).1
theorem sJ:cU X (.builtin "sorted") (λxs H Q=>∃(p:FG) (ys:am V) (kvs:am (List Gd×List V)) (m:Nat),xs=[.ref p]/\(au X.K H p ys\/aX X.K H p ys)/\iC H m ys kvs/\1<=m/\(kvs.map (·.1)).Nodup/\ys.length<=63 /\
  ∀D f d,H D=none->f.Perm ys->iC H m f d->d.Perm kvs->(d.map (·.1)).Pairwise (λa b=>fc a b=true)->Q (.ref D)^upd H D^.lst f):=by
 rintro J s σ H xs us Q I r ⟨p,ys,kvs,j,ex,hq,pr,h,l,i,q⟩;subst ex;obtain⟨u,rfl,t⟩:=vals1 r;cases t
 refine BF λA E w _ n=>?_;rcases hq with hq|hq
 .obtain⟨its,c,g,v⟩:=I.list hq
  have:=c.length;exact collect_list g.isList (n its _ H ys kvs j (I.kept (t':=s.toks) λb o e=>(kA _ _^jw^bA e).trans (a9 _ e)) c pr h l i q) (by rw[aV];omega)
 .obtain⟨its,c,g,v⟩:=I.tuple hq
  have:=c.length;exact Hr g (by rw[aV];omega) λh' k=>n its _ H ys kvs j (I.kept (t':=s.toks) k) c pr h l i q
end L2
namespace L2
open Spec PyProof.Rows W
end L2
namespace HT
open PyProof.Rows
section
open SeqAt
open AutoSeq1 (wpAny_loadPart')
open MeetsSeq MeetsSeq2 MeetsSeq3
end
end HT
namespace L2
open Spec PyProof.Rows W HT
end L2
namespace HS
open Spec PyProof.Rows W
theorem Ct{vs:am i'}{ys:am Gd}{y:Gd}{t:Tok}{j:Nat}{Q:a2 ZJ×Unit->UJ->Prop}(st:Yr vs ys)(a:ys[j]?=ih y)(d:∀m,m<j->ys[m]? ≠ ih y)(q:∀tk,Q (ih^.done^.ret^.int j tk,Unit.unit) { s with toks:=s.toks+1 }) :
  ∀(k i:Nat),i<=j->j<i+k->UL (U0 P w) A (forIn (m:=Zi) (List.range' i k) ((none,Unit.unit):a2 ZJ×Unit) λ(i:Nat) n=>match vs.toArray[i]? with
      |some f=>do
       let b <- eqBool f^.str y t
       if b=true then do
         let r <- retInt (i:Int)
         pure (acI (ih r,Unit.unit))
        else pure^X9 (none,Unit.unit)
      |_=>pure^X9 (none,Unit.unit)) Q E s
 |0,i,h1,h2=>absurd h2 ()
 |k+1,i,h1,h2=>by
  rw[List.range'_succ,aaC];have h:=l' st;have l:j<ys.length:=(b4.mp a).1;have hi:i<vs.length:=()
  obtain⟨tk,g⟩:=L2.ud st i vs[i]^bG hi;have c:i<ys.length:=()
  have e1:vs.toArray[i]?=ih^.str ys[i] tk:=by
   rw[List.getElem?_toArray,bG hi,g];simp[c]
  rw[e1]
  dsimp only
  refine ae^ae^Fu ?_
  by_cases e:ys[i]=y
  .rw[cb e,aB Z]
   have:i=j:=by
    by_cases z:i<j
    .exact absurd (by rw[bG c,e])^d i z
    .omega
   subst this;refine ae ?_;unfold retInt;exact ae^wpAny_mkInt^ak^ak^ak^q _
  .rw[er e,ao b7]
   refine ak ?_;refine Ct st a d q k (i+1) ?_ ()
   by_cases z:i=j
   .subst z
    rw[bG c]at a;exact absurd (cQ a) e
   .omega
theorem IZ{vs:am i'}{y:Gd}{t:Tok}{Q:i'->UJ->Prop}(d:Yz s.heap l vs.toArray)(st:Yr vs ys)(a:ys[j]?=ih y)(c:∀m,m<j->ys[m]? ≠ ih y)(q:∀tk,Q (.int j tk) { s with toks:=s.toks+1 }) :
  UL (U0 P w) A (call (.builtin "tuple.index") [.ref l,.str y t]) Q E s:=by
 obtain⟨o,b,e,n,f⟩:=d;have h:j<ys.length:=(b4.mp a).1;have g:=l' st;refine gE Vp #[o,b,e] PySem.F.entry_tuple_index ?_^PySem.F.args_tuple_index_2 _ _;unfold Yh.«tuple.index»;refine ae^ak ?_
 dsimp only
 refine ae ?_;unfold YM seqItems?;refine ae^ae^pb b ?_;rw[f];refine ak^ak ?_;refine ae^ak^ae^ak ?_;rw[aaS];refine ae ?_;have e2:([0:min vs.toArray.size vs.toArray.size]:aci).size=vs.length:=by simp[aaR]
 rw[e2];refine Ct st a c (λtk=>?_) vs.length 0 (bF _) ()
 exact ak #[_,Z,q tk]
end HS
namespace L2
open Spec PyProof.Rows W HS
def Li(K:Ys):V->List V->Hp->VK->Prop:=λx vs H Q=>∃(l:FG) (ys:List Gd) (y:Gd) (j:Nat),x=.ref l/\vs=[.str y]/\aX K H l (ys.map V.str)/\ys[j]?=ih y/\(∀m,m<j->ys[m]? ≠ ih y)/\Q (.int j) H
theorem I0:lH X "tuple.index"^Li X.K:=by
 rintro J s σ H x vs v us Q I b c ⟨l,ys,y,j,rfl,rfl,d,e,a,q⟩;cases b
 obtain⟨u,rfl,t,rfl⟩:=c.one;obtain⟨its,r,f,g⟩:=I.tuple d;exact IZ f (pL r) e a λtk=>#[.int j,H,I.tok _,#[tk,Z],q]
end L2
namespace L2
open W Spec PyProof.Rows
end L2
namespace L2
open W
end L2
namespace L2
open W Spec PyProof.Rows
def iI(h:Yb)(d:FG)(es:Array Yf)(ep:Nat):Prop:= ∃o,h.get? d=ih o/\o.ExactDict/\o.data=.dict es ep
theorem iI.ty{es:Array Yf}(x:iI s.heap d es ep):s.TypeIs (.ref d) "dict" :=let ⟨o,e,c,_⟩:=x;#[o,e,c.1]
theorem J0{es:Array Yf}{Q:i'->UJ->Prop}(e:(d==sysModules)=false)(x:iI s.heap d es ep)
  (q:Q (.ref s.aj) { s with heap:=s.heap.push { cls:=.type "dict_keyiterator",data:=.fields #v[.ref d,.int 0 0,.int es.size 0,.int ep 0] } }):UL (U0 P w) A (pyIter^.ref d) Q E s:=by
 have a:=x.ty;obtain⟨o,c,f,b⟩:=x;refine sq a aaY^gE aaY a F.entry_dict_iter ?_^F.args_dict_iter_1 _;unfold Yh.«dict.__iter__»;refine ae ?_;unfold ab4;refine ae^Ga a ?_;show UL _ _ (pure^UZ d) _ _ s;refine ak ?_;show UL _ _ (YH d >>= _) _ _ s;unfold YH;rw[ao^by rw[e];exact b7]
 refine ae^ak^ae^px c b^ae^pz c b ?_;exact ae^e4^ak #[_,Z,"dict_keyiterator",_,#[_,bU _ Z,Z],sr.lookup,q]
theorem J1{es:Array Yf}{e:Yf}{Q:a2 i'->UJ->Prop}(a:s.heap.IsKeyIter it d i es.size ep)(x:iI s.heap d es ep)(j:es[i]?=ih e)
  (q:∀h',h'.IsKeyIter it d (i+1) es.size ep->X5 it s.heap h'->Q (ih e.key) { s with heap:=h' }):UL (U0 P w) A (pyNext^.ref it) Q E s:=by
 obtain⟨o,c,k,b⟩:=id a;obtain⟨od,g,l,h⟩:=id x;unfold pyNext;refine ae^nu (nc (name:=Yj "__next__") a.typeIs sr
  (gE sr a.typeIs Vq ?_^Vr _))
 refine ae^ak^ae^ae ?_
 first|refine ae (z' a.typeIs (ak ?_))|refine ae (Aa a.typeIs (ak ?_))
 refine ae^so c b ?_;simp only[show Ya "dict_keyiterator" = false by decide,ph,hK]
 show UL _ _ (if (UZ d==Vv)=true then _ else _) _ _ s;rw[ao (show ¬ ((UZ d==Vv)=true) from b7)];refine ae^ak^ae^px g h ?_;rw[ao^by simp]
 refine ae^ak^ae^pz g h ?_;rw[ao^by simp]
 refine ak ?_;simp only[show ¬ ((i:Int)<0) from by omega,hK,gD,j]
 refine ae ?_
 first|refine ae (z' a.typeIs (ak ?_))|refine ae (Aa a.typeIs (ak ?_))
 refine ae^wpAny_isOneOf_keyiter a.typeIs ?_;show UL _ _ (setField (.ref it) 1^rawInt ((i:Int)+1) >>= _) _ _ s;refine ae^Gn c b (by simp) ?_
 have f:(s.heap.update it^Y9 (·.setIfInBounds 1^rawInt ((i:Int)+1))).IsKeyIter it d (i+1) es.size ep:=
  #[_,ng _ c^Obj.isFreed_of_fields^aak b _,(Obj.cls_mapFields ..).trans k,by rw[aak b];simp[rawInt]]
 refine ae^ed^ae^wpAny_isOneOf_keyiter (s:={ s with heap:=s.heap.update it^Y9 (·.setIfInBounds 1^rawInt ((i:Int)+1)) }) f.typeIs ?_;show UL _ _ (pure e.key) _ _ _;exact ak^ak #[_,Z,ak^q _ f (nz ..)]
theorem J2{es:Array Yf}{Q:a2 i'->UJ->Prop}(i:A.handled=none)(c:s.heap.IsKeyIter it d es.size es.size ep)(x:iI s.heap d es ep)
  (q:∀h',abn it s.heap h'->Q none { s with heap:=h' }):UL (U0 P w) A (pyNext^.ref it) Q E s:=by
 obtain⟨o,g,k,h⟩:=id c;obtain⟨od,e,j,f⟩:=id x;unfold pyNext;refine ae^nu (nc (name:=Yj "__next__") c.typeIs sr
  (gE sr c.typeIs Vq ?_^Vr _))
 refine ae^ak^ae^ae ?_
 first|refine ae (z' c.typeIs (ak ?_))|refine ae (Aa c.typeIs (ak ?_))
 refine ae^so g h ?_;simp only[show Ya "dict_keyiterator" = false by decide,ph,hK]
 show UL _ _ (if (UZ d==Vv)=true then _ else _) _ _ s;rw[ao (show ¬ ((UZ d==Vv)=true) from b7)];refine ae^ak^ae^px e f ?_;rw[ao^by simp]
 refine ae^ak^ae^pz e f ?_;rw[ao^by simp]
 refine ak ?_;simp only[show ¬ ((es.size:Int)<0) from by omega,hK,gD,pw^aP es.size]
 refine ae ?_
 first|refine ae (z' c.typeIs (ak ?_))|refine ae (Aa c.typeIs (ak ?_))
 show UL _ _ (setField (.ref it) 0 .none >>= _) _ _ s;refine ae^Gn g h (by simp) ?_
 show UL _ _ (newExc (.type "StopIteration") [] >>= _) _ _ _;refine ae ?_;simp only[newExc,newTuple];refine ae (e4 ?_^by size_fits)
 refine ae (m:=firstArgMember _ _)^w7 (a:=Vv) (by first|rfl|(simp only[firstArgMember];rfl)) ?_
 refine e4 ?_ (by size_fits)
 simp only[raiseNew];refine ae^Gi ?_;rw[show A.in1.handled=none from i];refine ae^ak^sj ?_;refine ae^w8 (T:= "StopIteration") (b:=true) #[_,bU _ Z,Z] Gj ?_;exact ak^q _^((nz ..).extBut.push _).push _
def oX(d:FG)(o:YC)(kvs:List (List Key×V)):It:=⟨λi H=>H d=ih (.bf o (.dT kvs))/\i<kvs.length,λi H v H'=>H'=H /\∃kv b,kvs[i]?=ih kv/\v=.ref b/\H b=ih (.tup (kv.1.map kV)),λi H=>H d=ih (.bf o (.dT kvs))/\kvs.length<=i⟩
theorem Paired.get{α β:Type}{F:α->β->Prop}{l:am α}{m:am β}(h:VT F l m):∀{i:Nat}{a:α},l[i]?=ih a ->∃b,m[i]?=ih b/\F a b:=by
 induction h with
 |nil=>intro i a e;cases e
 |cons r _ c =>
  intro i a e;cases i with
  |zero=>cases e;exact#[_,Z,r]
  |succ i=>exact c ⇑e
theorem Df{kvs:am (List Key×V)}{es:Array Yf}(I:Inv X J σ H s)(g:H d=ih^.bf o^.dT kvs)(f:o.data=.dict es ep) :
  s.heap.get? d=ih o/\o.ExactDict/\es.size=kvs.length /\∀(i:Nat) (kv:am Key×V),kvs[i]?=ih kv ->∃(b:FG) (e:Yf),es[i]?=ih e/\e.key=.ref b/\H b=bn^kv.1.map kV:=by
 obtain⟨h1,z,y,xs,r,o',l,m,h2,h,a,c,n⟩:=(show bH X.prog X.w H s.heap d^.bf o^.dT kvs from I.aH d _ g);rw[h1]at h2;cases h2
 rw[f]at a;cases a
 refine#[h1,h,by rw[Gp c];exact(cy r).symm,λi kv j=>?_]
 obtain⟨x,k,e1,e2,e3⟩:=Paired.get r j;exact#[x.2.1,_,by rw[entry_at c,k];rfl,Z,e2]
theorem Lj(d it:FG)(za:d≠it)(o:YC)(kvs:am (List Key×V))(es:Array Yf)(ep:Nat)(g:o.data=.dict es ep) :
  Turn P w K tg (oX d o kvs) [it] it (λi h=>i<=kvs.length/\h.IsKeyIter it d i es.size ep) where
 mem:=by simp
 obj:=λi h st b a=>by
  obtain rfl:b=it:=by simpa using a
  obtain⟨_,o,e,c,d⟩:=st;exact#[o,e,λv z=>by rw[d]at z;cases z]
 keep:=λi h h' st k=>by
  obtain⟨l,o,e,r⟩:=st;exact#[l,o,k it (by simp) _ e,r]
 item:=by
  intro X m n p G i J s σ H E I j st f;subst m n p;obtain⟨f0,q,O,t,u,x⟩:=j it (by simp)
  obtain⟨y,B,L,M⟩:=Df I f.1 g;have N:i<kvs.length:=f.2;have C:kvs[i]?=ih kvs[i]:=bG N;obtain⟨b,e,R,S,a⟩:=M i _ C;refine J1 st.2 #[o,y,B,g] R λh' D T=>?_;have U:Inv X J σ H { s with heap:=h' }:=I.turned (t':=s.toks) (λb o a e=>T.extBut b o ⇑a e) f0 q t u x
  obtain⟨xb,e0,W,Y⟩:=id D;exact#[_,Z,mE (s:={ s with heap:=h' }) e0 W Y ∅ #[.ref b,H,U,S,#[Z,kvs[i],b,C,Z,a],#[f.2,D],λb a=>(j b a).1]]
 done:=by
  intro X m n p G i J s σ H E I j st f;subst m n p;obtain⟨f0,q,O,t,u,x⟩:=j it (by simp)
  obtain⟨y,B,L,M⟩:=Df I f.1 g;have xa:i=es.size:=by rw[L];exact w3 st.1 f.2
  have F:=st.2;rw[xa]at F;exact J2 (I.ok.hd G) F #[o,y,B,g] λh' ya=>#[Z,I.turned (t':=s.toks) (λb o a e=>ya b o ⇑a e) f0 q t u x]
 self:=λA i s Q E st h=>wpAny_pyIter_keyiter st.2 h
theorem Inv.Dg{σ:am^Option V}{kvs:am (List Key×V)}(I:Inv X J σ H s)(g:H d=cs kvs)(i:s.heap.get? d=ih o):Inv X J σ (upd H d^.bf o^.dT kvs) s:=by
 have ok:bH X.prog X.w H s.heap d^.dT kvs:=I.aH d _ g;have a:∀{b:FG}{u:HO},H b=ih u->u ≠ .dT kvs->b≠d:=λe n z=>by rw[z,g]at e;exact n (cQ e).symm
 refine I.un (h':=s.heap) (t':=s.toks) #[λb f q _ _ _=>q,λb f q _ _ _=>#[f.slots,q],λb f q n _=>?_,λb f q _=>#[f,q],λb xs e=>?_,λb f u e=>?_,λb ps e=>#[#v[],?_]] λb u e=>?_
 .rw[ag (λz=>by rw[z,g]at n;cases n)];exact n
 .rw[ag^a e^by intro z;cases z];exact e
 .rw[ag^a e^by intro z;cases z];exact e
 .rw[ag (a e^by intro z;cases z),e];simp
 .by_cases h:b=d
  .subst h
   rw[ah]at e;cases e
   exact#[i,ok.eF (λ_ _ _ q=>q) (λc q=>by rw[ag^a q^by intro z;cases z];exact q) λc xs q=>by rw[ag^a q^by intro z;cases z];exact q]
  .rw[ag h]at e
   exact(I.aH b u e).eF (λ_ _ _ q=>q) (λc q=>by rw[ag^a q^by intro z;cases z];exact q) λc xs q=>by rw[ag^a q^by intro z;cases z];exact q
def Mt(te:TE):TI:=λσ H R=>te σ H λv Y=>∃d kvs,v=.ref d/\Y d=ih (.dT kvs) /\∀o,R (oX d o kvs) (upd Y d (.bf o (.dT kvs)))
theorem J3(j:PE X e te):PI X tg e^Mt te:=by
 intro J s σ H R I h;refine aG (j J s σ H _ I h) λv s1 C=>?_;obtain⟨y,Y,a,k,d,kvs,l,e1,q⟩:=C;subst l;cases k
 obtain⟨z,m,xs,r,o,es,ep,c,n,f,p,A⟩:=(show bH X.prog X.w Y s1.heap d^.dT kvs from a.aH d _ e1);have x:es.size=kvs.length:=by rw[Gp p];exact(cy r).symm
 refine J0 m #[o,c,n,f] ?_;have g:d≠s1.aj:=bK^bA c;have t:Inv X J σ Y { s1 with heap:=s1.heap.push { cls:=.type "dict_keyiterator",data:=.fields #v[.ref d,.int 0 0,.int es.size 0,.int ep 0] } }:=a.kept (t':=s1.toks) λb B z=>a9 _ z;have st:0<=kvs.length/\aaM (s1.heap.push { cls:=.type "dict_keyiterator",data:=.fields #v[.ref d,.int 0 0,.int es.size 0,.int ep 0] }) s1.aj d 0 es.size ep:=#[bF _,_,bU _ Z,Z,Z];have i:Y s1.aj=none:=a.aH.fresh^aP _;refine#[s1.aj,[s1.aj],_,_,_,Z,t.Dg e1^a9 _ c,Lj d s1.aj g o kvs es ep f,st,λb u=>?_,q o];obtain rfl:b=s1.aj:=by simpa using u
 exact a.hg (aP _) (by rw[ag^aS g];exact i)
theorem Inv.Nr{σ:am^Option V}{kvs:am (List Key×V)}(I:Inv X J σ H s)(i:H d=ih^.bf o^.dT kvs)(h0:∀o u,X.g9 d≠ih^.bf o u):Inv X J σ (upd H d^.dT kvs) s:=by
 obtain⟨_,ok⟩:=(show bH X.prog X.w H s.heap d^.bf o^.dT kvs from I.aH d _ i);have a:∀{b:FG}{u:HO},H b=ih u->u ≠ .bf o^.dT kvs->b≠d:=λe n z=>by rw[z,i]at e;exact n (cQ e).symm
 have f:∀{b:FG},H b=none->upd H d (.dT kvs) b=none:=λ{b} e=>by rw[ag (λz=>by rw[z,i]at e;cases e)];exact e
 refine#[I.ok,I.os,I.bare,#[I.base.keep,I.base.slot,λb g e n k=>f^I.base.free b g e n k,I.base.there,λb xs e=>?_,λb g u e=>?_,λb ps e=>?_],I.loc,I.cell,f I.free,λx c e=>f^I.eR x c e,λp l=>?_,λb u e=>?_,I.len]
 .rw[ag^a (I.base.gy b xs e)^by intro z;cases z];exact I.base.gy b xs e
 .have h:b≠d:=λz=>h0 g u (z ▸ e)
  rw[ag h];exact I.base.gN b g u e
 .obtain⟨j,e2⟩:=I.base.g8 b ps e
  exact#[j,by rw[ag^a e2^by intro z;cases z];exact e2]
 .obtain⟨m,r,t⟩:=I.pin p l
  exact#[m,f r,t]
 .by_cases h:b=d
  .subst h
   rw[ah]at e;cases e
   exact ok.eF (λ_ _ _ q=>q) (λc q=>by rw[ag^a q^by intro z;cases z];exact q) λc xs q=>by rw[ag^a q^by intro z;cases z];exact q
  .rw[ag h]at e
   exact(I.aH b u e).eF (λ_ _ _ q=>q) (λc q=>by rw[ag^a q^by intro z;cases z];exact q) λc xs q=>by rw[ag^a q^by intro z;cases z];exact q
def Nt(H0:Hp)(t:TE):TE:=λσ H Q=>t σ H λv H'=>∃d o kvs,H' d=ih (.bf o (.dT kvs))/\(∀o u,H0 d≠ih (.bf o u))/\Q v (upd H' d (.dT kvs))
theorem Dh(a:PE X e te):PE X e^Nt X.g9 te:=by
 intro J s σ H Q I h;exact aG (a J s σ H _ I h) λv s1 ⟨y,Y,b,c,d,o,kvs,e1,h0,q⟩=>#[y,_,b.Nr e1 h0,c,q]
end L2
namespace HT
open PyProof.Rows W
open AutoSeq1 (wpAny_loadPart')
end HT
namespace L2
open Spec PyProof.Rows W HT
end L2
namespace L2
open W Spec PyProof.Rows
end L2
namespace L2
open Spec PyProof.Rows W HS
def p0(k v:VH)(cG:i')(env:Zq):Zi Unit:=do
 let kv <- eval k env
 let vv <- holding [kv] (eval v env)
 match cG with
 |.ref d=>do
  standAt { k.pos with endLine:=v.pos.endLine,endCol:=v.pos.endCol }
  holding [kv,vv] (dictSet d kv vv)
 |_=>unsupported "internal:dictcomp"
theorem I1{k v:VH}:kJ (.DictComp k v [#[tg,iter,Qh,0]] scope pos) tg iter Qh^p0 k v:=#[Z,λ_ _ _=>rfl,λ_ _ _ _ _ _=>#[Z,Z],λ_ _ _ _ _ _=>#[Z,Z]]
def uK(J9:It)(g:TG)(ti:TT)(Qm:FG->St->Hp->(Hp->Prop)->Prop)(e7:St)(Q:VK)(p:FG)(Y:Hp):Prop:=
 ∃W:Nat->Nat->St->Hp->Prop,(∃m,W 0 m e7 Y) /\∀i m τ H2,W i m τ H2 ->
  ((J9.stop i H2/\Q (.ref p) H2)\/(J9.go i H2 /\∀x H3,J9.ie i H2 x H3->g x τ H3 λgB H4=>ti gB H4 λb H5 =>
   if b=true then Qm p gB H5 λH6=>∃m',m'<m/\W (i+1) m' gB H6
   else ∃m',m'<m/\W (i+1) m' gB H5))
def rT(X:Cx)(Qi:i'->Zq->Zi Unit)(Qm:FG->St->Hp->(Hp->Prop)->Prop):Prop:=
 ∀J s σ H (p:FG) (Q:Hp->Prop),Inv X J σ H s->Qm p σ H Q->wA X (Qi (.ref p) X.env) (λ_ s'=>∃H',Inv X J σ H' s'/\Q H') X.xe s
def DI(wi:TI)(Qf:List (Option Nat))(g:TG)(ti:TT)(Qm:FG->St->Hp->(Hp->Prop)->Prop)(start:FG->HO):TE:=λσ H Q=>wi σ H λJ9 Y=>∀p,Y p=none->uK J9 g ti Qm (pick Qf σ) Q p (upd Y p (start p))
section
variable{Qi:i'->Zq->Zi Unit}{Qm:FG->St->Hp->(Hp->Prop)->Prop}
theorem Ih{k:It}{g:TG}{f:Zi i'}{start:FG->HO}(F:kJ e tg iter Qh Qi)(n:X.calm=true)(S:b8 X.N X.env.scope N' Qf scope)
  (o:Inv X J σ H2 s2) (T:Turn X.prog X.w X.K tg k fp it tn) (st:tn 0 s2.heap) (r:∀b∈fp,gb X J H2 b) (l:oj X f start)
  (c:∀s H fp,PG (cJ X N' scope s H fp) tg g/\jj (cJ X N' scope s H fp) Qh ti/\rT (cJ X N' scope s H fp) Qi Qm)
  (t:∀p,H2 p=none->uK k g ti Qm (pick Qf σ) Q p^upd H2 p^start p) (u:∀a C s',CompEnd X J σ Q a C s'->RR a C (.ok .next) s') :
  wA X f (λa v=>wA X (newFunctionEnv scope X.env.globals (eS X.env.cells scope.names []) [] X.env.qual none .none^ih X.env) (λj x =>
   codeAny X.dt X.A (.compStart e 0 (.ref it) a { j with scope:=relabel scope X.env }) (RR a j.locals) x) E v) E s2:=by
 refine AM (y0:=Unit.unit) (temI:=λ_ p σ H R=>Qm p σ H λH'=>R Unit.unit H') F n S o T st r l (λs H fp=>#[(c s H fp).1,(c s H fp).2.1,λJ s σ H p y Q I h=>aG ((c _ _ _).2.2 J s σ H p _ I h) λ_ s' ⟨H',z,q⟩=>#[Unit.unit,H',z,q]]) (λp B=>?_) u;obtain⟨W,h0,st⟩:=t p B;exact#[λi m _ d H=>W i m d H,h0,λi m _ d H w=>st i m d H w]
theorem J4{wi:TI}{g:TG}{c:Zi i'}{start:FG->HO}(F:kJ e tg iter Qh Qi)(i:eval e X.env=comprehension e scope X.env pos c false^eval iter X.env)(f:oj X c start)(l:X.calm=true)(S:b8 X.N X.env.scope N' Qf scope)(hi:PI X tg iter wi)
  (a:∀s H fp,PG (cJ X N' scope s H fp) tg g/\jj (cJ X N' scope s H fp) Qh ti/\rT (cJ X N' scope s H fp) Qi Qm)
  (r:∀x,foldedSetIterable iter X.env x=pure x:=by intro _;rfl):PE X e^DI wi Qf g ti Qm start:=by
 intro J s σ H Q I h;rw[i];refine FY (use:=none) F.cl r (sF λn t=>pP I S t) S.kind (λx u w=>lW S.keys^by rw[<-w];exact u) ?_
 refine aG (hi J s σ H _ I h) λv s1 h1=>aG h1 λG s2 h2=>?_;obtain⟨it,fp,tn,K,H2,e,y,T,j,z,B⟩:=h2;subst e;refine Ih (RR:=λd C=>compPost X.dt X.A X.xe none (EP X J σ Q) d C) F l S y T j z f a B ?_;rintro d C s' ⟨p,H',rfl,D,fC,⟨m,E⟩,q⟩;refine#[m,E,λh' k=>#[.ref p,H',?_,Z,q]];exact D.turned (it:=C) (t':=s'.toks) (λb o a e=>(k.2 b a).trans e) fC.1 fC.2.1 fC.2.2.2.1 fC.2.2.2.2.1 fC.2.2.2.2.2
end
section
variable{k v:VH}{tk:TE}
def vC(tk tv:TE)(p:FG)(σ:St)(H:Hp)(Q:Hp->Prop):Prop:=tk σ H λy Y=>tv σ Y λz H2=>∃kvs ks b,y=.ref b/\H2 b=ih (.tup (ks.map kV))/\H2 p=ih (.dT kvs)/\kvs.length<UM/\Q (upd H2 p (.dT (putK kvs ks z)))
theorem Nu(R:X.A.units+1<YZ)(n:PE X k tk)(o:PE X v tv):rT X (p0 k v)^vC tk tv:=by
 intro J s σ H p Q I h;unfold p0;refine ae^aG (n J s σ H _ I h) λu s1 ⟨y,Y,t,x,B⟩=>ae^ed^aG (o J s1 σ Y _ t B) λr s2 S=>?_;obtain⟨z,H2,a,C,kvs,ks,b,D,f,e,l,q⟩:=S;subst D;cases (show u=UZ b from x)
 refine ae^ku^ed ?_;obtain⟨E,F,xs,d,G⟩:=DV a.aH e;have K:xs.length<=UM:=by rw[<-cy d];exact E
 have L:(putK kvs ks z).length<=UM:=by have:=lY kvs ks z;omega
 refine wpAny_dictSet_heap (hsz:=K) (knd:=tupleKind^cp X.prog X.w) (k:=ks) (show X.A.units<YZ by omega) (mq a.aH f) G λh' m M=>#[_,?_,q]
 obtain⟨g,es,ep,i,h2,N,O,_,P⟩:=m;refine t9 a (by rw[e];exact VL) M #[g,i] #[L,F,_,(d.put ks f C).keeps λc ys j=>?_,g,es,ep,i,h2,N,O,P]
 rw[ag^aq j e^λz=>nomatch z];exact j
theorem Mu:oj X (newDict) (λ_=>.dT []):=#[λJ s σ H E Q I h=>by
 refine e4 ?_;exact h _ (I.laid (a:=s.aj) (o:=.dT []) (t':=s.toks) (λ_ _ q=>a9 _ q) (aP _)^Cc s.heap I.big) λb o e=>a9 _ e]
variable{wi:TI}{g:TG}
theorem I2(a:X.calm=true)(S:b8 X.N X.env.scope N' Qf scope)(hi:PI X tg iter wi)
  (b:∀s H fp,PG (cJ X N' scope s H fp) tg g/\jj (cJ X N' scope s H fp) Qh ti/\rT (cJ X N' scope s H fp) (p0 k v)^vC tk tv)
  (c:∀x,foldedSetIterable iter X.env x=pure x:=by intro _;rfl):PE X (.DictComp k v [#[tg,iter,Qh,0]] scope pos) (DI wi Qf g ti (vC tk tv) λ_=>.dT []):=
 J4 I1 Z Mu a S hi b c
end
def rV(Pv:Nat->St->Hp->Prop)(n i m:Nat)(τ:St)(H:Hp):Prop:=m=n - i/\i<=n/\Pv i τ H
theorem J5{Pv:Nat->St->Hp->Prop}{n:Nat}{a:St}(h:i<n)(p:Pv (i+1) a H):∃b,b<n - i/\rV Pv n (i+1) b a H:=#[n - (i+1),(),Z,h,p]
theorem I3{g:TG}{Qm:FG->St->Hp->(Hp->Prop)->Prop}(Pv:Nat->St->Hp->Prop)(h0:Pv 0 e7 Y)(l:∀i c H,Pv i c H->aX K H a xs)
  (n:∀i x c H,xs[i]?=ih x->Pv i c H->g x c H λf o=>ti f o λb j=>if b=true then Qm p f j λq=>∃d,d<xs.length - i/\rV Pv xs.length (i+1) d f q else ∃d,d<xs.length - i/\rV Pv xs.length (i+1) d f j)
  (r:∀c H,Pv xs.length c H->Q (.ref p) H):uK (jo K a) g ti Qm e7 Q p Y:=by
 refine#[rV Pv xs.length,#[xs.length,by simp,bF _,h0],?_]
 rintro i m c H ⟨rfl,hi,pv⟩;have h:=l i c H pv
 by_cases k:i<xs.length
 .refine .inr #[#[xs,xs[i],h,by simp[k]],λx t s=>?_]
  obtain⟨e3,ex⟩:=s;subst e3;exact n i x c _ (ex xs h) pv
 .have e:i=xs.length:=()
  subst e;exact .inl #[#[xs,h,aP _],r c H pv]
end L2
namespace L2
open Spec PyProof.Rows
structure oK(K:U2)(x qual:Gd)(st:Vm)(dv:i')(f:FG)(fd:X3):Prop where
 ex:∃(oc:i') (od:Option FG) (kV Qe pm:i') (an:Option FG) (Qb ct:i') (Qn:Array (Option i')),
  fd=Ym x qual (dB st) (bJ st) (aI st) dv kV Qe pm an Qb ct/\K.lookup f=ih ⟨oc,od,.func fd,Qn⟩/\YW K Qb qual=true
 kp:Yw K (.ref f)=true
theorem oK.binds{T:FG}{ds:am i'}{n:Nat}(F:oK K x qual st (.ref T) f fd)(a:K.lookup T=ih #[oc,od,.seq items n,Qn])
  (h:∀(kV Qe pm:i') (an:a2 FG) (Qb ct:i') (us:am i'),(us++ds).length=ps.length ->∃k:a2 (Array i')->Zi (List (Gd×i')),(bindArgs (Ym x qual (dB st) (bJ st) (aI st) (.ref T) kV Qe pm an Qb ct) #[us,[]]=seqItems?^.ref T >>= k)/\k^ih items=pure^ps.zip (us++ds)):Binds K fd ps ds:=by
 obtain⟨e,g,kV,Qe,pm,an,Qb,ct,d,rfl,lk,i⟩:=F.ex;intro s us b c;obtain⟨k,h1,h2⟩:=h kV Qe pm an Qb ct us c;exact .of_defaults (T:=T) Z (b _ _ a) Z h1 h2
theorem Lk{kV:i'}(l:K.lookup f=ih #[oc,od,.func^Ym x qual (dB st) (bJ st) (aI st) dv kV Qe pm an Qb ct,Qn])
  (c:YW K Qb qual=true) (k:Yw K^.ref f=true):oK K x qual st dv f^Ym x qual (dB st) (bJ st) (aI st) dv kV Qe pm an Qb ct:=#[#[oc,od,kV,Qe,pm,an,Qb,ct,Qn,Z,l,c],k]
end L2
namespace L2
open Spec PyProof.Rows W HT
theorem Ii(G:X.calm=true):cU X (.type "dict") (λxs H Q=>∃t vs kvs,xs=[.ref t]/\H t=bn vs/\kY H vs kvs/\(kvs.map (·.1)).Nodup /\∀d,H d=none->Q (.ref d)^upd H d^.dK^f9 kvs):=by
 rintro J s σ H xs us Q I r ⟨t,vs,kvs,rfl,K,pr,L,q⟩;obtain⟨u,rfl,c⟩:=vals1 r;cases c
 obtain⟨zc,its,m,⟨M,e,N,sl⟩,O,A,n,B,C⟩:=(show bH X.prog X.w H s.heap t^.tup vs from I.aH t _ K);obtain rfl:M=.type "tuple" :=A;obtain rfl:e=none:=C;obtain rfl:N=.seq its.toArray n:=B;have D:vs.length=kvs.length:=cy pr;have yc:=m.length;have pairs:∀(i:Nat) p,kvs[i]?=ih p ->∃a x y,its.toArray[i]?=ih^.ref a/\Yz s.heap a #v[x,y]/\RelV (.str p.1) x/\RelV p.2 y:=by
  intro i p b;have hi:i<vs.length:=by rw[D];exact(b4.mp b).1
  obtain⟨xd,g,a,P,R⟩:=mh pr (show vs[i]?=ih vs[i] from bG hi);rw[b]at g;cases g;obtain⟨u,S,c⟩:=m.get (show vs[i]?=ih (V.ref a) by rw[bG hi,P])
  cases c
  obtain⟨yd,T,U,_⟩:=I.tuple^aX.of R;obtain⟨x,y,rfl,W,Y⟩:=T.two;exact#[a,x,y,⇑S,U,W,Y]
 have ch:∀i:Fin kvs.length,∃y,∃a x,its.toArray[i.1]?=ih^.ref a/\Yz s.heap a #v[x,y]/\RelV (.str kvs[i].1) x/\RelV kvs[i].2 y:=λi=>by
  obtain⟨a,x,y,h1,h2,xa,ya⟩:=pairs i.1 kvs[i]^bG i.2;exact#[y,a,x,h1,h2,xa,ya]
 obtain⟨ys,E,j⟩:∃ys:am i',ys.length=kvs.length /\∀(i:Nat) (hi:i<kvs.length),∃y,ys[i]?=ih y /\∃a x,its.toArray[i]?=ih (.ref a)/\Yz s.heap a #v[x,y]/\RelV (.str kvs[i].1) x/\RelV kvs[i].2 y:=
  #[List.ofFn λi=>ZY^ch i,List.length_ofFn,λi hi=>#[ZY^ch #[i,hi],by simp[List.getElem?_ofFn,hi],acL^ch #[i,hi]]]
 have F:((kvs.map λp=>(n' p.1:Key)).zip ys).map (·.1)=kvs.map λp=>(n' p.1:Key):=by
  rw[List.map_fst_zip];rw[aE];omega
 have l:((kvs.map λp=>(n' p.1:Key)).zip ys).length=kvs.length:=by rw[List.length_zip,aE];omega
 have inj:(kvs.map λp=>(n' p.1:Key)).Nodup:=by
  have:(kvs.map λp=>(n' p.1:Key))=(kvs.map (·.1)).map n':=by rw[dY];rfl
  rw[this,jE,kC];exact(jE.mp L).imp λh z=>h^fZ z
 refine GO (I.ok.hd G) ((kvs.map λp=>(n' p.1:Key)).zip ys) (by rw[F];exact inj) (by rw[l];omega) (by rw[b5,l];omega) O (λi p b=>?_) λd h' tk dl e kp=>?_
 .obtain⟨h1,h2⟩:=List.getElem?_zip_eq_some.mp b
  rw[c5]at h1;obtain⟨zd,za,xb⟩:=gF.mp h1;obtain⟨hi,rfl⟩:=b4.mp za;obtain⟨y,f,a,x,yb,zb,xc,v⟩:=j i hi;rw[f]at h2;cases h2
  exact#[a,x,yb,zb,by rw[<-xb];exact mG (k:=n' kvs[i].1) xc]
 .have big:=I.big
  refine#[.ref d,_,I.laid (a:=d) (o:=.dK^f9 kvs) (t':=tk) kp dl^uI (by unfold f9;rw[aE];omega) (iq.mpr^aS^bK^eZ big dl) ?_ e,Z,q d^I.aH.fresh dl]
  exact C9 kvs ys E λi hi=>by
   obtain⟨y,f,a,x,_,_,_,v⟩:=j i hi;exact#[y,f,v]
theorem BG:cU X (.builtin "len") (λxs H Q=>∃a kvs,xs=[.ref a]/\H a=cr kvs/\Q (.int kvs.length) H):=by
 rintro J s σ H xs us Q I r ⟨a,kvs,rfl,e,q⟩;obtain⟨u,rfl,b⟩:=vals1 r;cases b
 exact Ng I (.inl e) λt s' c=>#[.int _,H,c,#[_,Z],q]
theorem AU:cU X (.type "dict") (λxs H Q=>∃a kvs,xs=[.ref a]/\H a=cr kvs /\∀d,H d=none->Q (.ref d)^upd H d^.dK kvs):=by
 rintro J s σ H xs us Q I r ⟨a,kvs,rfl,e,q⟩;obtain⟨u,rfl,i⟩:=vals1 r;cases i
 obtain⟨z,j,vs,c,k⟩:=qH I.aH e;have big:=I.big;refine kt_call_dict j k (by rw[<-c.length];exact z) λh' g l=>?_
 refine#[.ref s.aj,_,I.laid (a:=s.aj) (o:=.dK kvs) (t':=s.toks) (λb o f=>?_) (aP _)^uI z (iq.mpr^aS^bK big) c g,Z,q _^I.aH.fresh^aP _];have m:b≠s.aj:=bK^bA f;rw[l.2 b m];exact a9 _ f
theorem Ij:cU X (.type "dict") (λxs H Q=>∃a,xs=[.ref a]/\H a=cs [] /\∀d,H d=none->Q (.ref d)^upd H d^.dT []):=by
 rintro J s σ H xs us Q I r ⟨a,rfl,e,q⟩;obtain⟨u,rfl,p⟩:=vals1 r;cases p
 obtain⟨z,t,F,v,o,es,ep,x,y,i,A,K⟩:=(show bH X.prog X.w H s.heap a^.dT [] from I.aH a _ e);cases v
 have e0:es = #v[]:=by simpa using A
 subst e0;have B:s.heap.DictOf (cp X.prog X.w) a []:=#[o,#v[],ep,x,y,i,by intro e C;simp at C,by first|exact .nil|trivial|constructor,ff]
 have big:=I.big;refine kt_call_dict t B (bF _) λh' j D=>?_;obtain⟨o',c,k,l,m,g,G,n,_⟩:=j;have e1:c.toList=[]:=List.length_eq_zero_iff.mp n.length;refine#[.ref s.aj,_,I.laid (a:=s.aj) (o:=.dT []) (t':=s.toks) (λb o f=>?_) (aP _) #[bF _,iq.mpr^aS^bK big,[],.nil,o',c,k,l,m,g,e1,ff],Z,q _^I.aH.fresh^aP _];have E:b≠s.aj:=bK^bA f;rw[D.2 b E];exact a9 _ f
end L2
namespace L2
open Spec PyProof.Rows W
theorem Ik(l:FG)(items:Array i')(n:Nat)(b:FG)(a:Array i')(j:Nat)(k:a2 FG)(sl:Array^Option i')(o : ¬(!items.isEmpty&&Yy (items.size+a.size))=true)(e:items.size<=UM)(f:items.size+a.size<=UM+1) :
  Meets (Yh.«list.extend» #[[.ref l,.ref b],[]]) (λ_ R s=>s.heap.get? l=ih { cls:=.type "list",dict:=none,data:=.seq items n,slots:= #v[] }/\s.heap.get? b=ih { cls:=.type "tuple",dict:=k,data:=.seq a j,slots:=sl }/\R (.ok^.ret Vv) { s with heap:=s.heap.update l^X4 λx=>x++a,toks:=s.toks }):=
 .of_wp λprog w A R s h=>by
  obtain⟨p,g,d,tk,os⟩:=s;obtain⟨c,m,h⟩:=h;have q:=AutoSeq1.idx_int;have r:=AutoSeq1.sub_tuple_tuple;have t:=AutoSeq1.sub_list_list;have u:=AutoSeq1.sub_tuple_list;have v:=AutoSeq1.sub_list_tuple;have i:(items++a).size<=UM+1:=by rw[sh];exact f
  wp_walk using (Gm c Z (hz:=e) (_hz':=i)),Vt c,Vt m
  exact#[_,Z,h]
def J6:V->List V->Hp->VK->Prop:=λx vs H Q=>∃l b xs zs,x=.ref l/\vs=[.ref b]/\H l=ih (.lst xs)/\H b=ih (.tup zs)/\xs.length+zs.length<=UM/\Q .aK (upd H l (.lst (xs++zs)))
theorem Il:lH X "list.extend" J6:=by
 rintro J s σ H x vs v us Q I m o ⟨l,b,xs,zs,rfl,rfl,d,p,D,q⟩;cases m
 obtain⟨u,rfl,t⟩:=o.one;cases t
 obtain⟨z,its,n,r,E,e⟩:=I.j1 d;obtain⟨G,a,f,⟨B,K,A,sl⟩,e2,g,y,i,c⟩:=(show bH X.prog X.w H s.heap b^.tup zs from I.aH b _ p);simp only at g i c;subst g i c;have C:=f.length;have k:its.toArray.size+a.toArray.size<=UM:=by rw[b5,b5];omega
 have j : ¬ (!its.toArray.isEmpty&&Yy (its.toArray.size+a.toArray.size))=true:=by
  rw[Jy k,Bool.and_false];exact b7
 refine ni F.slot_list_extend #[_,e,Z] F.entry_list_extend (F.args_list_extend_2 _ _)
  (Ik l its.toArray n b a.toArray y none sl j (by rw[b5];omega) ()) #[e,e2,?_]
 refine#[.aK,_,I.q0 (its':=its++a) d e (by simp) (r.append f) ?_,Z,q]
 rw[cz];omega
end L2
namespace L2
open Spec PyProof.Rows W HT
def Ll:V->List V->Hp->VK->Prop:=λx vs H Q=>∃(l:FG) (ys:List V) (ds:List UN) (y:V) (d dj:UN) (j:Nat),x=.ref l/\vs=[y]/\H l=ih (.lst ys)/\bM H ys ds/\Rep H y d/\X' ds=true/\d.canLay0=true/\d.depth<=60/\ds[j]?=ih dj/\X8 dj d=true/\(∀m dm,m<j->ds[m]?=ih dm->X8 dm d=false)/\Q (.int j) H
theorem I4(S:X.A.units+64<YZ):lH X "list.index" Ll:=by
 rintro J s σ H x vs v us Q I k G ⟨l,ys,ds,y,d,T,j,rfl,rfl,o,rs,K,p,L,U,t,B,C,q⟩;obtain⟨c,M⟩:=(Rep.lst o rs).reads I k;cases k
 obtain⟨u,rfl,N⟩:=G.one;obtain⟨bs,O⟩:=K.reads I N;obtain⟨z,its,n,r,P,e⟩:=I.j1 o;have a:∃c,ReadsAll s.heap its ds c:=by
  cases M with
  |list h1 h2 R a =>
   rw[e]at h1;cases h1
   cases R
   exact#[_,⇑a]
 obtain⟨c,a⟩:=a;have w:=SeqAt.readsAll_map ds its c p a;have g:∀m (f:m<its.length),∃b,ds[m]?=ih b/\Zu s.heap its[m]=b:=λm f=>#[_,by rw[<-w,c5,bG f];rfl,Z]
 have i:j<its.length:=by
  have:=(b4.mp t).1;rw[<-w,aE]at this;exact this
 refine ni aaO #[_,e,Z] aaD (aar _ _) (Z9 l its.toArray n none #v[] u (λy=>X8 (Zu s.heap y) d) j ⇑i ?_ ?_ ?_) #[e,?_,?_]
 .rw[aV]at z;have:=P;omega
 .obtain⟨b,h1,h2⟩:=g j i
  show X8 (Zu s.heap^its.toArray[j]) d=true;rw[w0,h2];rw[t]at h1;cases h1;exact B
 .intro m f D
  have E:m<its.length:=by simpa using f
  obtain⟨b,h1,h2⟩:=g m E;show X8 (Zu s.heap^its.toArray[m]) d=false;rw[w0,h2];exact C m b D h1
 .exact SeqAt.items_eqAt ⇑a O p L ()
 .exact#[.int j,H,I.tok _,#[_,Z],q]
end L2
namespace L2
open Spec PyProof.Rows W
section
variable{p5 p6 p7:Z4}{b0 b1:Vm}{Qu:am Vm}{tb:Ends->TS}{th:FG->TS}{ci:a2 i'}
def qj(X:Cx)(hs:List YY)(Eh:FG->FG->TS):Prop:= ∀(J:List (FG×YC)) (cM:St) (D:Ends) (s2:UJ) (h4:Yb) (B:Yb) (a C':FG) (a0:i') (nn:Option i') (dx:Option FG) (H':Hp),
 YE B (X.env::X.outer) a (.ref C') a0 h4->s2.heap.UpToSlots h4->RD s2.heap h4->(∀h5,YE B (X.env::X.outer) a (.ref C') a0 h5->s2.heap.UpToSlots h5->RD s2.heap h5->Inv X J cM (upd H' a (hj nn C' dx a)) { s2 with heap:=h5 }) ->
 Eh a C' D cM (upd H' a (hj nn C' dx a))->wA X (handleBy (.ref a) X.env hs) (SP X J D) X.xe { s2 with heap:=h4 }
theorem I5:qj X [] λ_ _ _ _ _=>False:=λ_ _ _ _ _ _ _ _ _ _ _ _ _ _ _ _ h=>h.elim
theorem AV{F:am YY}{L:FG->FG->TS}(g:X.N.Nodup)(h:X.N[j]?=ih n)(e:X.env.scope.names.lookup n=ih .local)(h0:X.xe=λ_ _=>False)(xb:X.env.frame=ih X.env.locals)
  (U:Gl X cn) (V:X.mg cn=ih^.ref C) (M:f7 X.K C ci=true) (W:∀a,dH (X.kX a) (b0::Qu)^th a) (Y:qj X F L) (P:(cn==("__debug__" : Gd))=false:=by decide) :
  qj X (.ExceptHandler (ih^.Name cn p5) (ih n) (b0::Qu) p6::F) λa f D σ H=>(mroIn X.K f^.ref C=ih true/\th a (E4 j D) (σ.set j^ih^.ref a) H)\/(mroIn X.K f^.ref C=ih false/\L a f D σ H):=by
 intro J R D s2 s B a f O xa dx H' k up t m w;have x:=m s k up t;obtain⟨yb,G,I⟩:=k.there;refine wpAny_handleBy_cons (codeAny_handlers_test ?_) (by intro z;cases z)
 refine md (x.kX a) U V ?_ P;rcases w with⟨y,S⟩|⟨y,w⟩
 .refine Aq (K:=X.K) x.bX M y G I ?_
  refine codeAny_handlers_suite_as ?_;refine n5 sI (lands_againW (Q:=λ_ s'=>∃h',s'={ s2 with heap:=h' }/\YE B (X.env::X.outer) a (.ref f) O h'/\s.UpToSlots h') k λA l o=>#[A,Z,l,o]) λ_ zb ⟨A,e5,l,o⟩ T=>?_;subst e5;have i:=m A l (w2 up o)^t.trans T;refine nP (X:=X.kX a) (v:=.ref a) (i.kX a) g h (.inl e) Z (λxc ya=>?_)^.inr e;refine FX^aG (W a J _ _ _ (E4 j D) ya S) λza yc z=>?_;cases za with
  |next=>obtain⟨p,b,c,q⟩:=z;exact qi (c.uncaught (J8:=X) i.ok) g h e λE d=>#[_,b,d,q]
  |brk=>obtain⟨p,b,c,q⟩:=z;exact qi (c.uncaught (J8:=X) i.ok) g h e λE d=>#[_,b,d,q]
  |cont=>obtain⟨p,b,c,q⟩:=z;exact qi (c.uncaught (J8:=X) i.ok) g h e λE d=>#[_,b,d,q]
  |ret u=>obtain⟨v,p,b,c,r,q⟩:=z;exact qi (c.uncaught (J8:=X) i.ok) g h e λE d=>#[v,_,b,d,r,q]
 .refine Aq (K:=X.K) x.bX M y G I ?_
  exact Y J R D s2 s B a f O xa dx H' k up t m w
def QA(Eh:FG->FG->TS)(D:Ends):St->XK:=λcM cls oa H2=>∃C a,cls=.ref C/\oa=ih a/\Eh a C D cM H2
theorem Lm{h0:YY}{q:am YY}{r:FG->FG->TS}(K:∀J D,dH (X.hV J^QA r D) (b1::body)^tb D)
  (n:X.stack=X.env::X.outer) (L:X.env.frame=ih X.env.locals) (M:qj X (h0::q) r):PS X (.Try (b1::body) (h0::q) [] [] p7)^Mo tb:=by
 intro J s σ H D I h;refine wpAny_Try_except ?_;refine ir (K J D [] s σ H D I.hV h) (λN s1 z=>?_) λxa s2 z=>?_
 .have c:=SP.k6 I.ok z
  cases N with
  |next=>exact o9 c
  |brk=>exact c
  |cont=>exact c
  |ret u=>exact c
 .obtain⟨C,H0,s1,t,a,O,i,j,dx,H',B,rfl,os,A,o,⟨ox,p,P,R⟩,E,v,new,ya,za,eC,S,T⟩:=z
  cases eC
  cases S
  rw[n]at o;refine n5 C6 (wpAny_looks_onW (Q:=λ_ s'=>∃h',s'={ s2 with heap:=h' }/\Heap.HeldW B (X.env::X.outer) a (.ref i) j X.env.locals h'/\s2.heap.UpToSlots h') (by rw[<-n];exact t.ok.frames) L o λk d f=>#[k,Z,d,f]) λ_ xb ⟨k,e3,d,f⟩ F=>?_
  subst e3;refine n5 sI (wpAny_landsW (Q:=λ_ s'=>∃h',s'={ s2 with heap:=h' }/\YE B (X.env::X.outer) a (.ref i) j h'/\k.UpToSlots h') d λl e g=>#[l,Z,e,g]) λ_ yb ⟨l,U,e,g⟩ G=>?_;subst U;refine M J C D s2 l B a i j O dx H' e (w2 f g) (F.trans G) (λw m V x=>?_) T;obtain⟨u,ok⟩:=E w m.1 V;obtain⟨W,e5,_⟩:=m.there;exact t.uS (s':={ s2 with heap:=w }) os (u.add v new) (C7 ok v^K7 m #[W,e5,(x.dict p e5).1.trans P,λy Y=>(x.dict p e5).2.trans (R y Y)]) A (λb z=>absurd z^by simp)
end
end L2
namespace L2
open Spec PyProof.Rows W HT
theorem KV.get{vs:am (Key×i')}(r:KV kvs vs){kv:Key×V}(h:kvs[i]?=ih kv):∃v,vs[i]?=ih (kv.1,v)/\RelV kv.2 v:=by
 induction r generalizing i with
 |nil=>cases h
 |@cons p q _ _ a _ b =>
  cases i with
  |zero=>cases h;exact#[q.2,by rw[a.1];rfl,a.2]
  |succ i=>exact b h
end L2
namespace L2
open Spec PyProof.Rows W HS HT
section
variable{fs:am FG}
theorem I6(l:cu P w H h')(u:Un fs [] H H h h'):∀{d:am FG}{ks:am (Gd×V)},VT (λa p=>h.get? a=none/\H a=none /\∃f x,h'.get? a=ih ({ cls:=.type "tuple",data:=.seq #v[f,x] }:YC)/\RelV (.str p.1) f/\RelV p.2 x) d ks->d.Nodup ->
  ∃H2,Un fs [] H H2 h h'/\cu P w H2 h'/\ax H H2/\kY H2 (d.map V.ref) ks /\∀b,b ∉ d->H2 b=H b:=by
 intro d ks r
 induction r with
 |nil=>exact λ_=>#[H,u,l,ax.refl _,.nil,λ_ _=>rfl]
 |@cons a p d ks e _ n =>
  intro g;obtain⟨s,g⟩:=d6.mp g;obtain⟨H2,t,m,v,pv,i⟩:=n g;obtain⟨n1,y,f,x,A,B,C⟩:=e;have h2:H2 a=none:=(i a s).trans y;have j:ax H2^upd H2 a^.tup [.str p.1,p.2]:=λb o e=>by rw[ag^aA e h2];exact e
  refine#[upd H2 a^.tup [.str p.1,p.2],t.add h2 n1,C7 m h2 #[by rw[aV];show 2<=_;decide,[f,x],.cons B^.cons C .nil,_,A,Z,_,Z,Z],λb o e=>j _ _^v _ _ e,.cons #[a,Z,ah]^Paired.imp' (λ_ _ D=>by obtain⟨c,e,q⟩:=D;exact #[c,e,j _ _ q]) pv,λb k=>?_]
  rw[ag (show b≠a from λz=>k^by rw[z];exact aY),i b λz=>k^bh _ z]
end
theorem Hs{ks:am (Gd×V)}(h:kY H vs ks):iC H 1 vs (ks.map λp=>([p.1],[p.2])):=by
 induction h with
 |nil=>exact .nil
 |cons e _ b=>obtain⟨a,e,q⟩:=e;exact .cons #[a,e,q,Z] b
theorem Ht{kvs:am (List Gd×List V)}(h:iC H 1 vs kvs)(b:∀p∈kvs,∃k v,p=([k],[v])):∃ks,kY H vs ks/\kvs=ks.map λp=>([p.1],[p.2]):=by
 induction h with
 |nil=>exact#[[],.nil,Z]
 |cons e _ c =>
  obtain⟨a,e,q,_⟩:=e;obtain⟨k,v,rfl⟩:=b _ aY;obtain⟨ks,pv,d⟩:=c λp f=>b p^bh _ f;exact#[(k,v)::ks,.cons #[a,e,q] pv,by rw[d];rfl]
theorem BH{α β:Type}{R:α->β->Prop}:∀{c:am α}{bs:am β},c.length=bs.length->(∀(i:Nat) a b,c[i]?=ih a->bs[i]?=ih b->R a b)->VT R c bs
 |[],[],_,_=>.nil
 |[],_::_,h,_=>by simp at h
 |_::_,[],h,_=>by simp at h
 |a::c,b::bs,h,f=>.cons (f 0 a b Z Z)^BH ⇑h λi x y d e=>f (i+1) x y ⇑d ⇑e
theorem BJ:∀a:am FG,Vals (a.map V.ref)^a.map UZ
 |[]=>.nil
 |_::a=>.cons Z^BJ a
def Mv(te:TE):TE:=λσ H Q=>te σ H λv Y=>∃d ks,v=.ref d/\Y d=ih (.dK (f9 ks))/\(ks.map (·.1)).Nodup/\ks.length<=63 /\∀D ys vZ H2,Y D=none->ax Y H2->H2 D=ih (.lst ys)->kY H2 ys vZ->vZ.Perm ks->(vZ.map (·.1)).Pairwise (λa b=>iQ a b=true)->Q (.ref D) H2
theorem GL{p:Z4}(yc:X.calm=true)(zc:Gl X "sorted")(xd:X.mg "sorted" = none)(yd:PE X e te)(h1:Vc [.Call (.Attribute e "items" Qg) [] [] Qk] X.env=[(false,eval (.Call (.Attribute e "items" Qg) [] [] Qk) X.env)]:=by rfl)
  (O:attributeBase e "items" X.env^eval e X.env=eval e X.env:=by rfl) (P:(Qg.endLine==Qk.line)=true:=by rfl):PE X (.Call (.Name "sorted" p) [.Call (.Attribute e "items" Qg) [] [] Qk] [] pos)^Mv te:=by
 intro J s σ H Q I h;refine m8^kQ I zc xd (show VA "sorted" = ih (.builtin "sorted") by decide +kernel) ?_
 refine FF ?_ h1 Z;rw[h1];refine aac (?_:UL _ _ (eval (.Call (.Attribute e "items" Qg) [] [] Qk) X.env) _ _ _);refine wpAny_Call_method (T:= "dict") (id:= "dict.items") O Z P aaP Ab aaN^aG (yd J s σ H _ I h) λv s1 F=>?_;obtain⟨y,Y,j,zd,d,ks,xe,ye,ze,xj,q⟩:=F;subst xe;cases zd
 obtain⟨yj,xf,vs,B,g⟩:=qH j.aH ye;obtain⟨ep,R⟩:=g.dictAt;refine#[g.typeIs,g.mapOf.noDict,?_];refine method_meetsIn Ab aaE Z^FU #[Z,g.typeIs,aas _,_,meets_dict_items (cp X.prog X.w) d xf,#[vs,g],?_];refine aah ?_;have yf:(f9 ks).length=vs.length:=B.length;have S:ks.length=vs.length:=by rw[<-yf];unfold f9;rw[aE]
 have zf:∀b f,s1.heap.get? b=ih f->(s1.heap.push { cls:=.type "dict_items",data:=.fields #v[.ref d] }).get? b=ih f:=λb f z=>a9 _ z;have U:(s1.heap.push { cls:=.type "dict_items",data:=.fields #v[.ref d] }).DictAt (cp X.prog X.w) d vs ep:=R.push _;have W:(s1.heap.push { cls:=.type "dict_items",data:=.fields #v[.ref d] }).IsItemsView s1.heap.objs.size d:=#[_,bU _ Z,Z,Z];have xa:s1.heap.objs.size<=(s1.heap.push { cls:=.type "dict_items",data:=.fields #v[.ref d] }).objs.size:=by rw[hJ];exact gm _
 refine BF λA E zj xg yg=>?_;refine kdx_collect (knd:=cp X.prog X.w) (s:={ s1 with heap:=s1.heap.push { cls:=.type "dict_items",data:=.fields #v[.ref d] } }) (xg^j.ok.hd yc) W U (by rw[aV];omega) λh' tk l kp zg G=>?_
 have C:∀b f,s1.heap.get? b=ih f->h'.get? b=ih f:=λb f z=>kp _ _^zf _ _ z;have fr:∀a∈l,s1.heap.get? a=none/\Y a=none:=λa n=>by
  have:s1.heap.objs.size<=a:=o8^Vu xa^G.above a n;exact#[r9 this,j.aH.fresh this]
 have pr:VT (λa (p:Gd×V)=>s1.heap.get? a=none/\Y a=none /\∃m x,h'.get? a=ih ({ cls:=.type "tuple",data:=.seq #v[m,x] }:YC)/\RelV (.str p.1) m/\RelV p.2 x) l ks:=by
  refine BH (zg.trans S.symm) λi a p n r=>?_;obtain⟨xh,yh⟩:=fr a^eu n;obtain⟨m,k,x,e1,e2,e3⟩:=G.pairs i a n;obtain⟨v,zh,xi⟩:=B.get (i:=i) (kv:=(n' p.1,p.2)) (by unfold f9;rw[c5,r];rfl)
  rw[zh]at e1;cases e1
  exact#[xh,yh,m,_,e3,ub (k:=n' p.1) e2,xi]
 obtain⟨H2,yi,ya,K,za,_⟩:=I6 (j.aH.kept C) (Un.kept (fs:=X.fs) C) pr^G.rise.imp λh=>bK h;have xb:((ks.map λp=>(([p.1],[p.2]):am Gd×List V)).map (·.1)).Nodup:=by
  rw[dY];have e:(ks.map ((λx=>x.1) ∘ λp=>(([p.1],[p.2]):am Gd×List V)))=(ks.map (·.1)).map λx=>[x]:=by rw[dY];rfl
  rw[e,jE,kC];exact(jE.mp ze).imp λh z=>h (pA z).1
 refine yg (l.map UZ) _ H2 (l.map V.ref) _ 1 (j.un (t':=tk) yi ya) (BJ l) (Hs za) (aP _) xb (by rw[aE];omega) λD t zi L pm yb M u=>?_
 obtain⟨zb,xc,rfl⟩:=Ht yb λp r=>by
  obtain⟨x,_,rfl⟩:=a8.mp^M.mem_iff.mp r;exact#[_,_,Z]
 have N:ax H2^upd H2 D^.lst t:=λb o e=>by rw[ag^aA e L];exact e
 refine q D t zb _ (K.free L) (λb o e=>N _ _^K _ _ e) ah (Paired.imp' (λ_ _ F=>by obtain⟨c,e,q⟩:=F;exact #[c,e,N _ _ q]) xc) ?_ ?_
 .have:=M.map λp:am Gd×List V=>((p.1.headD "",p.2.headD V.aK):Gd×V)
  rw[dY,dY,show((λp:am Gd×List V=>((p.1.headD "",p.2.headD V.aK):Gd×V)) ∘ λp:Gd×V=>(([p.1],[p.2]):am Gd×List V))=id from rfl,Ac,Ac]at this;exact this
 .rw[dY,kC]at u
  rw[kC];exact u.imp λ{a b} h=>by rw[<-Lh];exact h
end L2
namespace L2
open Spec PyProof.Rows W HT
theorem Ha(d:FG)(a:(d==sysModules)=false) :
  MeetsIn P w (Yh.«dict.items» #[[.ref d],[]]) (λ_ R s=>(∃es ep,iI s.heap d es ep)/\R (.ok^.ret^.ref s.aj) { s with heap:=s.heap.push { cls:=.type "dict_items",data:=.fields #v[.ref d] } }):=
 .of_wp λA R s ⟨⟨es,ep,b⟩,h⟩=>by
  unfold Yh.«dict.items»;refine ae ?_;unfold ab3;refine ae^Ga b.ty ?_;show UL _ _ (pure d) _ _ s;refine ak ?_;show UL _ _ (YH d >>= _) _ _ s;unfold YH;rw[ao^by rw[a];exact b7]
  exact ae^ak^ae^e4^ak #[_,Z,h]
theorem Hu{v:FG}{es:Array Yf}{Q:i'->UJ->Prop}(a:s.heap.IsItemsView v d)(x:iI s.heap d es ep)
  (g:Q (.ref s.heap.objs.size) { s with heap:=s.heap.push { cls:=.type "dict_itemiterator",data:=.fields #v[.none,.bool false,.ref d,.int 0 0,.int es.size 0,.int ep 0,.none,.none] } }):UL (U0 P w) A (pyIter^.ref v) Q E s:=by
 obtain⟨i,e,h,f⟩:=id a;obtain⟨o,c,j,b⟩:=id x;refine sq a.typeIs aab^gE aab a.typeIs F.entry_dict_items_iter ?_^F.args_dict_items_iter_1 _;unfold Yh.«dict_items.__iter__»;refine ae^ak^ae ?_;unfold aau;refine ae^lK e f (x:=.ref d) Z^ak^ae ?_;unfold aat;refine ae^px c b^ae^pz c b ?_;simp only[show Ya "dict_itemiterator" = true by decide,hM]
 refine e4 (ak #[_,Z,"dict_itemiterator",_,#[_,bU _ Z,Z],su.lookup,?_]) (by simp only[sizeOk,Y3,b5,cz,c4,jA,aV];omega)
 simpa [rawInt,Y3] using g
theorem Hv{es:Array Yf}{e:Yf}{ok t:i'}{Q:a2 i'->UJ->Prop}(z:YJ s.heap it d i es.size ep ok t)(x:iI s.heap d es ep)(T:es[i]?=ih e)
  (U:∀h',Z8 h' it d (i+1) es.size ep e.key e.val s.heap.objs.size->h'.get? s.heap.objs.size=ih { cls:=.type "tuple",data:=.seq #v[e.key,e.val] }->h'.objs.size=s.heap.objs.size+1 ->
   (∀b o,b≠it->s.heap.get? b=ih o->h'.get? b=ih o)->Q (ih^.ref s.heap.objs.size) { s with heap:=h' }):UL (U0 P w) A (pyNext^.ref it) Q E s:=by
 obtain⟨a,g,dr,tk,os⟩:=s;obtain⟨od,M,V,N⟩:=id x;have f:Y4 #[a,g,dr,tk,os] (.ref it) "dict_itemiterator" :=#[_,z,Z];unfold pyNext;refine ae^nu (nc (name:=Yj "__next__") f su
  (gE su f Vw ?_^Vx _))
 refine ae^ak^ae^ae ?_
 first|refine ae (Ad f (ak ?_))|refine ae (Ae f (ak ?_))
 refine ae^so z Z ?_;simp only[show Ya "dict_itemiterator" = true by decide,hM]
 show UL _ _ (if (UZ d==Vv)=true then _ else _) _ _ _;rw[ao (show ¬ ((UZ d==Vv)=true) from b7)];refine ae^ak^ae^px M N ?_;rw[ao^by simp]
 refine ae^ak^ae^pz M N ?_;rw[ao^by simp]
 refine ak ?_;simp only[show ¬ ((i:Int)<0) from by omega,hK,gD,T]
 refine ae ?_
 first|refine ae (Ad f (ak ?_))|refine ae (Ae f (ak ?_))
 refine ae^Gq f ?_;show UL _ _ (setField (.ref it) 3^rawInt ((i:Int)+1) >>= _) _ _ #[a,g,dr,tk,os];refine ae^iW z (by simp) λc j k=>?_
 replace k:X5 it a c:=k;replace j:YJ c it d (i+1) es.size ep ok t:=by
  have e:((i+1:Nat):Int)=(i:Int)+1:=()
  unfold YJ;rw[e];simpa [rawInt] using j
 have C:Y4 #[c,g,dr,tk,os] (.ref it) "dict_itemiterator" :=#[_,j,Z];refine ae^ed ?_;refine ae^Gq C^ae^Gq C ?_;show UL _ _ (Y7 (.ref it) 6 e.key e.val) _ _ #[c,g,dr,tk,os];unfold Y7;refine ae^wpAny_newTuple ?_;have l:YJ (c.push { cls:=.type "tuple",data:=.seq #v[e.key,e.val] }) it d (i+1) es.size ep ok t:=a9 _ j;generalize u:c.push { cls:=.type "tuple",data:=.seq #v[e.key,e.val] }=r at l;have v:c.objs.size=a.objs.size:=k.1;have B:it<a.objs.size:=bA z;have O:r.get? a.objs.size=ih { cls:=.type "tuple",data:=.seq #v[e.key,e.val] }:=by rw[<-u,<-v];exact bU _ Z
 have R:r.objs.size=a.objs.size+1:=by rw[<-u,hJ,v]
 have S:∀b o,b≠it->a.get? b=ih o->r.get? b=ih o:=λb o h e=>by rw[<-u];exact a9 _^k.extBut b o h e
 show UL _ _ (Y2^.ref it >>= _) _ _ #[r,g,dr,tk,os];rw[v];clear u j k C v c;refine ae ?_;unfold Y2;refine ae^lK l Z (x:=.none) Z^ak ?_;simp only[hM];refine ae^lK l Z (x:=ok) Z^ae^lK l Z (x:=t) Z ?_;refine ae^iW l (by simp) λJ D m=>?_
 replace m:X5 it r J:=m;replace D:YJ J it d (i+1) es.size ep e.key t:=D;refine ae^iW D (by simp) λK G n=>?_
 replace n:X5 it J K:=n;replace G:YJ K it d (i+1) es.size ep e.key e.val:=G;refine ae^iW G (by simp) λL H p=>?_
 replace p:X5 it K L:=p;replace H:Z8 L it d (i+1) es.size ep e.key e.val a.objs.size:=H;refine ae^iW H (by simp) λy I q=>?_
 replace q:X5 it L y:=q;replace I:Z8 y it d (i+1) es.size ep e.key e.val a.objs.size:=I;refine ae^wpAny_letGo^ak^ak #[_,Z,ak^U y I ?_ ?_ ?_]
 .exact q.extBut _ _ (jw B)^p.extBut _ _ (jw B)^n.extBut _ _ (jw B)^m.extBut _ _ (jw B) O
 .show y.objs.size=a.objs.size+1
  rw[q.1,p.1,n.1,m.1,R]
 .exact λb o h e=>q.extBut b o h^p.extBut b o h^n.extBut b o h^m.extBut b o h^S b o h e
theorem Hw{es:Array Yf}{ok h:i'}{Q:a2 i'->UJ->Prop}(i:A.handled=none)(e:YJ s.heap it d es.size es.size ep ok h)(x:iI s.heap d es ep)
  (j:∀h',abn it s.heap h'->Q none { s with heap:=h' }):UL (U0 P w) A (pyNext^.ref it) Q E s:=by
 obtain⟨od,f,k,g⟩:=id x;have c:s.TypeIs (.ref it) "dict_itemiterator" :=#[_,e,Z];unfold pyNext;refine ae^nu (nc (name:=Yj "__next__") c su
  (gE su c Vw ?_^Vx _))
 refine ae^ak^ae^ae ?_
 first|refine ae (Ad c (ak ?_))|refine ae (Ae c (ak ?_))
 refine ae^so e Z ?_;simp only[show Ya "dict_itemiterator" = true by decide,hM]
 show UL _ _ (if (UZ d==Vv)=true then _ else _) _ _ s;rw[ao (show ¬ ((UZ d==Vv)=true) from b7)];refine ae^ak^ae^px f g ?_;rw[ao^by simp]
 refine ae^ak^ae^pz f g ?_;rw[ao^by simp]
 refine ak ?_;simp only[show ¬ ((es.size:Int)<0) from by omega,hK,gD,pw^aP es.size]
 refine ae ?_
 first|refine ae (Ad c (ak ?_))|refine ae (Ae c (ak ?_))
 show UL _ _ (setField (.ref it) 2 .none >>= _) _ _ s;refine ae^Gn e Z (by simp) ?_
 show UL _ _ (newExc (.type "StopIteration") [] >>= _) _ _ _;refine ae ?_;simp only[newExc,newTuple];refine ae (e4 ?_^by size_fits)
 refine ae (m:=firstArgMember _ _)^w7 (a:=Vv) (by first|rfl|(simp only[firstArgMember];rfl)) ?_
 refine e4 ?_ (by size_fits)
 simp only[raiseNew];refine ae^Gi ?_;rw[show A.in1.handled=none from i];refine ae^ak^sj ?_;refine ae^w8 (T:= "StopIteration") (b:=true) #[_,bU _ Z,Z] Gj ?_;exact ak^j _^((nz ..).extBut.push _).push _
def v7(d:FG)(o:YC)(kvs:List (List Key×V)):It:=⟨λi H=>H d=ih (.bf o (.dT kvs))/\i<kvs.length,λi H x H'=>∃t kv b,H t=none/\x=.ref t/\kvs[i]?=ih kv/\H b=ih (.tup (kv.1.map kV))/\H'=upd H t (.tup [.ref b,kv.2]),λi H=>H d=ih (.bf o (.dT kvs))/\kvs.length<=i⟩
theorem Cu{kvs:am (List Key×V)}{es:Array Yf}(I:Inv X J σ H s)(g:H d=ih^.bf o^.dT kvs)(f:o.data=.dict es ep) :
  s.heap.get? d=ih o/\o.ExactDict/\es.size=kvs.length /\∀(i:Nat) (kv:am Key×V),kvs[i]?=ih kv ->∃(b:FG) (e:Yf),es[i]?=ih e/\e.key=.ref b/\H b=bn^kv.1.map kV/\RelV kv.2 e.val:=by
 obtain⟨h1,z,y,xs,r,o',l,m,h2,h,a,c,n⟩:=(show bH X.prog X.w H s.heap d^.bf o^.dT kvs from I.aH d _ g);rw[h1]at h2;cases h2
 rw[f]at a;cases a
 refine#[h1,h,by rw[Gp c];exact(cy r).symm,λi kv j=>?_]
 obtain⟨x,k,e1,e2,e3⟩:=Paired.get r j;exact#[x.2.1,_,by rw[entry_at c,k];rfl,Z,e2,e3]
theorem J7(d it:FG)(zb:d≠it)(o:YC)(kvs:am (List Key×V))(es:Array Yf)(ep:Nat)(t:o.data=.dict es ep) :
  Turn P w K (.Tuple Qw n1 tp) (v7 d o kvs) [it] it (λi h=>i<=kvs.length /\∃ok f,YJ h it d i es.size ep ok f) where
 mem:=by simp
 obj:=λi h st b a=>by
  obtain rfl:b=it:=by simpa using a
  obtain⟨_,ok,f,h1⟩:=st;exact#[_,h1,λv q=>by cases q]
 keep:=λi h h' st k=>by
  obtain⟨l,ok,f,h1⟩:=st;exact#[l,ok,f,k it (by simp) _ h1]
 item:=by
  intro X y A B hc i J s σ H E I C st g;subst y A B;have fi:=C it (by simp)
  obtain⟨G,ok,f,h1⟩:=st;obtain⟨D,F,M,N⟩:=Cu I g.1 t;have xc:i<kvs.length:=g.2;have L:kvs[i]?=ih kvs[i]:=bG g.2;obtain⟨b,e,R,S,a,T⟩:=N i _ L;refine Hv h1 #[o,D,F,t] R λh' e1 U z1 W=>#[_,Z,?_];refine wpAny_letOwnedTupleGo_items (s:={ s with heap:=h' }) e1 λu e2 O=>?_;have Q:it≠s.aj:=bK^bA h1;have j:∀b o,b≠it->s.heap.get? b=ih o->u.get? b=ih o:=λb o n1 q=>(O.2 b n1).trans (W b o n1 q);have Y:u.get? s.aj=ih { cls:=.type "tuple",data:=.seq #v[e.key,e.val] }:=(O.2 _^aS Q).trans U;have p:H s.aj=none:=I.aH.fresh^aP _;have lt:∀b o,s.heap.get? b=ih o->b≠s.aj:=λb o q=>bK^bA q;have hE:∀b o,H b=ih o->b≠it:=λb o q z=>by rw[z,fi.1]at q;cases q
  have x:∀b,b ∉ [it]->b≠it:=λb a z=>a (by simp[z])
  have xa:Inv X J σ (upd H s.aj^.tup [.ref b,kvs[i].2]) { s with heap:=u }:=by
   refine I.step (g':=s.gens) (d':=s.drawn) (t':=s.toks) (ch:=[it]) (λb a=>?_) (λb o _ _ hc q _=>j b o (x b hc) q) (λb o _ _ hc q _=>#[o.slots,j b o (x b hc) q])
    (λb o _ q n=>by rw[ag^lt b o q];exact n) (λb o hc q=>#[o,j b o (x b hc) q]) (λb ys q=>by rw[ag^aA q p];exact q) (λb o v q=>by rw[ag^aA q p];exact q)
    (λb ps q=>#[#v[],by rw[ag^aA q p,q];simp]) (λm ya=>?_) (λb o q=>?_) I.bare
   .obtain rfl:b=it:=by simpa using a
    exact#[fi.2.2.2.1,fi.2.1,fi.2.2.2.2.1,fi.2.2.2.2.2]
   .obtain⟨o,es,ep,za,r⟩:=ya
    exact#[o,es,ep,j _ o (aS fi.2.1) za,r]
   .by_cases a:b=s.aj
    .subst a
     rw[ah]at q;cases q;exact#[by rw[aV];show 2<=_;decide,[e.key,e.val],.cons (by rw[S];rfl)^.cons T .nil,_,Y,Z,_,Z,Z]
    .rw[ag a]at q
     refine(I.aH b o q).eF (λc v hc z=>?_) (λc z=>by rw[ag^aA z p];exact z) λc ys z=>by rw[ag^aA z p];exact z
     rcases hc with hc|hc
     .subst hc;exact j _ v (hE _ _ q) z
     .exact j c v (hE _ _ hc) z
  refine#[.ref s.aj,_,xa,Z,#[s.aj,kvs[i],b,p,Z,L,a,Z],#[g.2,_,_,e2],λb a=>?_];obtain rfl:b=it:=by simpa using a
  rw[ag Q];exact fi.1
 done:=by
  intro X y A B hc i J s σ H E I C st g;subst y A B;have fi:=C it (by simp)
  obtain⟨G,ok,f,h1⟩:=st;obtain⟨D,F,M,N⟩:=Cu I g.1 t;have xb:i=es.size:=by rw[M];exact w3 G g.2
  rw[xb]at h1;exact Hw (I.ok.hd hc) h1 #[o,D,F,t] λh' yb=>#[Z,I.turned (t':=s.toks) (λb o a q=>yb b o a q) fi.1 fi.2.1 fi.2.2.2.1 fi.2.2.2.2.1 fi.2.2.2.2.2]
 self:=λ_ _ _ _ _ st h=>by
  obtain⟨_,ok,f,h1⟩:=st;exact kcp_self h1 h
def Ln(te:TE):TI:=λσ H R=>te σ H λv Y=>∃d kvs,v=.ref d/\Y d=ih (.dT kvs) /\∀o,R (v7 d o kvs) (upd Y d (.bf o (.dT kvs)))
theorem I7(u:PE X e te)(n:attributeBase e "items" X.env^eval e X.env=eval e X.env:=by rfl)(p:(Qg.endLine==Qk.line)=true:=by rfl) :
  PI X (.Tuple Qw n1 tp) (.Call (.Attribute e "items" Qg) [] [] Qk)^Ln te:=by
 intro J s σ H R I h;refine wpAny_Call_method (T:= "dict") (id:= "dict.items") n Z p aaP Ab aaN^aG (u J s σ H _ I h) λv s1 F=>?_;obtain⟨y,Y,g,x,d,kvs,A,e,q⟩:=F;subst A;cases x
 obtain⟨z,B,xs,r,o,es,ep,c,l,i,G,K⟩:=(show bH X.prog X.w Y s1.heap d^.dT kvs from g.aH d _ e);have f:∀h:Yb,h.get? d=ih o->iI h d es ep:=λh e=>#[o,e,l,i];refine#[(f s1.heap c).ty,?_,?_]
 .intro a e
  cases e
  exact#[o,c,l.2.1]
 refine method_meetsIn Ab aaE Z^FU #[Z,(f s1.heap c).ty,aas _,_,Ha d B,#[es,ep,f _ c],?_];have j:d≠s1.aj+1:=λz=>absurd (bA c) (by rw[z];exact Nat.not_lt_of_le^gm _)
 have k:=a9 { cls:=.type "dict_items",data:=.fields #v[.ref d] } c;refine Hu (s:={ s1 with heap:=s1.heap.push { cls:=.type "dict_items",data:=.fields #v[.ref d] } }) #[_,bU _ Z,Z,Z] (f _ k) ?_;have m:(s1.heap.push { cls:=.type "dict_items",data:=.fields #v[.ref d] }).objs.size=s1.aj+1:=hJ ..;have C:Inv X J σ Y { s1 with heap:=(s1.heap.push { cls:=.type "dict_items",data:=.fields #v[.ref d] }).push { cls:=.type "dict_itemiterator",data:=.fields #v[.none,.bool false,.ref d,.int 0 0,.int es.size 0,.int ep 0,.none,.none] } }:=g.kept (t':=s1.toks) λb L z=>a9 _^a9 _ z;have st:0<=kvs.length /\∃ok D,YJ ((s1.heap.push { cls:=.type "dict_items",data:=.fields #v[.ref d] }).push { cls:=.type "dict_itemiterator",data:=.fields #v[.none,.bool false,.ref d,.int 0 0,.int es.size 0,.int ep 0,.none,.none] }) (s1.aj+1) d 0 es.size ep ok D:=
  #[bF _,.none,.none,by show acb _ (s1.aj+1)=_;rw[<-m];exact bU _ Z]
 have t:Y (s1.aj+1)=none:=g.aH.fresh^gm _;show vS X J σ _ R (.ref (s1.heap.push { cls:=.type "dict_items",data:=.fields #v[.ref d] }).objs.size) _;rw[m];refine#[s1.aj+1,[s1.aj+1],_,_,_,Z,C.Dg e^a9 _ k,J7 d (s1.aj+1) j o kvs es ep i,st,λb E=>?_,q o];obtain rfl:b=s1.aj+1:=by simpa using E
 exact g.hg (gm _) (by rw[ag^aS j];exact t)
theorem Hx{kvs:am (List Key×V)}{g:TG}(Pv:Nat->List V->St->Hp->Prop)(h0:Pv 0 [] e7^upd Y p^.lst [])(q:∀i ys a H,Pv i ys a H->H p=ce ys/\H d=ih^.bf o^.dT kvs)
  (r:∀i kv t b ys a H,kvs[i]?=ih kv->H t=none->H b=bn^kv.1.map kV->Pv i ys a H->g (.ref t) a (upd H t^.tup [.ref b,kv.2]) λf s=>ti f s λb h=>if b=true then te f h λy j=>j p=ce ys/\ys.length<UM /\∃c,c<kvs.length - i/\CW Pv kvs.length (i+1) c (ys++[y]) f^upd j p^.lst (ys++[y]) else ∃c,c<kvs.length - i/\CW Pv kvs.length (i+1) c ys f h)
  (u:∀ys a H,Pv kvs.length ys a H->Q (.ref p) H):hX (v7 d o kvs) g ti te e7 Q p Y:=by
 refine#[CW Pv kvs.length,#[kvs.length,by simp,bF _,h0],?_]
 rintro i m ys a H ⟨rfl,hi,pv⟩;obtain⟨v,k⟩:=q i ys a H pv;refine#[v,?_]
 by_cases l:i<kvs.length
 .refine .inr #[#[k,l],λx B w=>?_]
  obtain⟨t,kv,b,z,ex,n,A,e3⟩:=w;subst e3;subst ex;exact r i kv t b ys a _ n z A pv
 .have e:i=kvs.length:=()
  subst e;exact .inl #[#[k,aP _],u ys a H pv]
theorem Inv.Nv{σ:am^Option V}(I:Inv X J σ H s)(i:H d=ih^.bf o^.dK kvs)(h0:∀o u,X.g9 d≠ih^.bf o u):Inv X J σ (upd H d^.dK kvs) s:=by
 obtain⟨_,ok⟩:=(show bH X.prog X.w H s.heap d^.bf o^.dK kvs from I.aH d _ i);have a:∀{b:FG}{u:HO},H b=ih u->u ≠ .bf o^.dK kvs->b≠d:=λe n z=>by rw[z,i]at e;exact n (cQ e).symm
 have f:∀{b:FG},H b=none->upd H d (.dK kvs) b=none:=λ{b} e=>by rw[ag (λz=>by rw[z,i]at e;cases e)];exact e
 refine#[I.ok,I.os,I.bare,#[I.base.keep,I.base.slot,λb g e n k=>f^I.base.free b g e n k,I.base.there,λb xs e=>?_,λb g u e=>?_,λb ps e=>?_],I.loc,I.cell,f I.free,λx c e=>f^I.eR x c e,λp l=>?_,λb u e=>?_,I.len]
 .rw[ag^a (I.base.gy b xs e)^by intro z;cases z];exact I.base.gy b xs e
 .have h:b≠d:=λz=>h0 g u (z ▸ e)
  rw[ag h];exact I.base.gN b g u e
 .obtain⟨j,e2⟩:=I.base.g8 b ps e
  exact#[j,by rw[ag^a e2^by intro z;cases z];exact e2]
 .obtain⟨m,r,t⟩:=I.pin p l
  exact#[m,f r,t]
 .by_cases h:b=d
  .subst h
   rw[ah]at e;cases e
   exact ok.eF (λ_ _ _ q=>q) (λc q=>by rw[ag^a q^by intro z;cases z];exact q) λc xs q=>by rw[ag^a q^by intro z;cases z];exact q
  .rw[ag h]at e
   exact(I.aH b u e).eF (λ_ _ _ q=>q) (λc q=>by rw[ag^a q^by intro z;cases z];exact q) λc xs q=>by rw[ag^a q^by intro z;cases z];exact q
def Mw(H0:Hp)(t:TE):TE:=λσ H Q=>t σ H λv H'=>∃d o kvs,H' d=ih (.bf o (.dK kvs))/\(∀o u,H0 d≠ih (.bf o u))/\Q v (upd H' d (.dK kvs))
theorem J'(a:PE X e te):PE X e^Mw X.g9 te:=by
 intro J s σ H Q I h;exact aG (a J s σ H _ I h) λv s1 ⟨y,Y,b,c,d,o,kvs,e1,h0,q⟩=>#[y,_,b.Nv e1 h0,c,q]
theorem I8{kvs:am (List Key×V)}{g:TG}{D:Ends}(Pv:Nat->St->Hp->Prop)(h0:Pv 0 σ H)(k:∀i σ H,i<=kvs.length->Pv i σ H->H d=ih^.bf o^.dT kvs)
  (l:∀i kv b σ H,kvs[i]?=ih kv->H b=bn^kv.1.map kV->Pv i σ H->g (.ref b) σ H λa H2=>tb { D with nx:=Pv (i+1),ct:=Pv (i+1),bk:=D.nx } a H2) (n:∀σ H,Pv kvs.length σ H->D.nx σ H) :
  ∃W:Nat->Nat->St->Hp->Prop,(∃m,W 0 m σ H) /\∀i m σ H,W i m σ H ->
   ((oX d o kvs).stop i H/\D.nx σ H)\/((oX d o kvs).go i H /\∃N:St->Hp->Prop,(∀c H',N c H' ->∃h,h<m/\W (i+1) h c H') /\∀x H',(oX d o kvs).ie i H x H'->g x σ H' λa H2=>tb { D with nx:=N,ct:=N,bk:=D.nx } a H2):=by
 refine#[λi m σ H=>m=kvs.length - i/\i<=kvs.length/\Pv i σ H,#[kvs.length,by simp,bF _,h0],?_]
 rintro i m σ H ⟨rfl,hi,p⟩;have q:=k i σ H hi p
 by_cases f:i<kvs.length
 .refine .inr #[#[q,f],Pv (i+1),λc H' r=>#[kvs.length - (i+1),(),Z,f,r],λx H' y=>?_]
  obtain⟨e,kv,b,j,ex,s⟩:=y;subst e;subst ex;exact l i kv b σ _ j s p
 .have e:i=kvs.length:=()
  subst e;exact .inl #[#[q,aP _],n σ H p]
end L2
namespace L2
open W
abbrev pr(x:Gd)(s:Vm):Gd×Vm:=(x,s)
def rW(K:Ys):List (Gd×Vm)->Prop
 |[]=>True
 |p::r=>(∃f fd,aQ K p.1 p.1 p.2 f fd/\nsIn K U5 p.1=ih (ih (.ref f)))/\rW K r
def vD(K:Ys):List Gd->Prop
 |[]=>True
 |x::r=>nsIn K U5 x=ih none/\vD K r
theorem Nw{p:Gd×Vm}{r:am (Gd×Vm)}{kV:i'}(a:nsIn K U5 p.1=ih^ih^.ref f)
  (l:K.lookup f=ih #[oc,od,.func^fnOf p.1 p.1 (dB p.2) (bJ p.2) (aI p.2) .none kV Qe pm an Qb ct,Qn]) (c:codeIn K Qb p.1=true) (k:Yv K^.ref f=true) (g:rW K r):rW K (p::r):=#[#[f,_,uE l c k,a],g]
theorem mr{p:Gd×Vm}(X:K.In h)(G:h.Ns U5 mg)(d:∃f fd,aQ K p.1 p.1 p.2 f fd/\nsIn K U5 p.1=ih^ih^.ref f)(ps:am Gd)
  (b:∀(kV Qe pm:i') (an:a2 FG) (Qb ct:i') (us:am i'),us.length=ps.length->bindArgs (fnOf p.1 p.1 (dB p.2) (bJ p.2) (aI p.2) .none kV Qe pm an Qb ct) #[us,[]]=pure^ps.zip us) :
  ∃f fd,aQ K p.1 p.1 p.2 f fd/\Yv K^.ref f=true/\Binds K fd ps []/\mg p.1=ih^.ref f:=by
 obtain⟨f,fd,F,a⟩:=d;exact#[f,fd,F,F.kp,F.binds b,jF X G a]
theorem k7{n:Nat}(h:us.length=n+1):∃u r,us=u::r/\r.length=n:=by
 cases us with
 |nil=>cases h
 |cons u r=>exact#[u,r,Z,Nat.succ.inj h]
theorem q5(h:us.length=2):∃a b,us=[a,b]:=by
 obtain⟨a,r,rfl,h2⟩:=k7 h;obtain⟨b,rfl⟩:=Gr.mp h2;exact#[a,b,Z]
theorem vE(h:us.length=3):∃a b c,us=[a,b,c]:=by
 obtain⟨a,r,rfl,h2⟩:=k7 h;obtain⟨b,c,rfl⟩:=q5 h2;exact#[a,b,c,Z]
theorem mK(h:us.length=4):∃a b c d,us=[a,b,c,d]:=by
 obtain⟨a,r,rfl,h2⟩:=k7 h;obtain⟨b,c,d,rfl⟩:=vE h2;exact#[a,b,c,d,Z]
theorem hU{p:Gd×Vm}(X:K.In h)(G:h.Ns U5 mg)(d:∃f fd,aQ K p.1 p.1 p.2 f fd/\nsIn K U5 p.1=ih^ih^.ref f)(c:Gd)
  (b:∀(kV Qe pm:i') (an:a2 FG) (Qb ct a:i'),bindArgs (fnOf p.1 p.1 (dB p.2) (bJ p.2) (aI p.2) .none kV Qe pm an Qb ct) #[[a],[]]=pure^[c].zip [a]:=by intros;rfl) :
  ∃f fd,aQ K p.1 p.1 p.2 f fd/\Yv K^.ref f=true/\Binds K fd [c] []/\mg p.1=ih^.ref f:=mr X G d _ λkV Qe pm an Qb ct us h=>by obtain⟨a,rfl⟩:=Gr.mp h;exact b _ _ _ _ _ _ _
theorem gq{p:Gd×Vm}(X:K.In h)(G:h.Ns U5 mg)(d:∃f fd,aQ K p.1 p.1 p.2 f fd/\nsIn K U5 p.1=ih^ih^.ref f)(e g:Gd)
  (b:∀(kV Qe pm:i') (an:a2 FG) (Qb ct a c:i'),bindArgs (fnOf p.1 p.1 (dB p.2) (bJ p.2) (aI p.2) .none kV Qe pm an Qb ct) #[[a,c],[]]=pure^[e,g].zip [a,c]:=by intros;rfl) :
  ∃f fd,aQ K p.1 p.1 p.2 f fd/\Yv K^.ref f=true/\Binds K fd [e,g] []/\mg p.1=ih^.ref f:=mr X G d _ λkV Qe pm an Qb ct us h=>by obtain⟨a,c,rfl⟩:=q5 h;exact b _ _ _ _ _ _ _ _
theorem mi{p:Gd×Vm}(X:K.In h)(G:h.Ns U5 mg)(d:∃f fd,aQ K p.1 p.1 p.2 f fd/\nsIn K U5 p.1=ih^ih^.ref f)(g i j:Gd)
  (b:∀(kV Qe pm:i') (an:a2 FG) (Qb ct a c e:i'),bindArgs (fnOf p.1 p.1 (dB p.2) (bJ p.2) (aI p.2) .none kV Qe pm an Qb ct) #[[a,c,e],[]]=pure^[g,i,j].zip [a,c,e]:=by intros;rfl) :
  ∃f fd,aQ K p.1 p.1 p.2 f fd/\Yv K^.ref f=true/\Binds K fd [g,i,j] []/\mg p.1=ih^.ref f:=mr X G d _ λkV Qe pm an Qb ct us h=>by obtain⟨a,c,e,rfl⟩:=vE h;exact b _ _ _ _ _ _ _ _ _
theorem jP{p:Gd×Vm}(X:K.In h)(G:h.Ns U5 mg)(d:∃f fd,aQ K p.1 p.1 p.2 f fd/\nsIn K U5 p.1=ih^ih^.ref f)(i j k l:Gd)
  (b:∀(kV Qe pm:i') (an:a2 FG) (Qb ct a c e g:i'),bindArgs (fnOf p.1 p.1 (dB p.2) (bJ p.2) (aI p.2) .none kV Qe pm an Qb ct) #[[a,c,e,g],[]]=pure^[i,j,k,l].zip [a,c,e,g]:=by intros;rfl) :
  ∃f fd,aQ K p.1 p.1 p.2 f fd/\Yv K^.ref f=true/\Binds K fd [i,j,k,l] []/\mg p.1=ih^.ref f:=mr X G d _ λkV Qe pm an Qb ct us h=>by obtain⟨a,c,e,g,rfl⟩:=mK h;exact b _ _ _ _ _ _ _ _ _ _
theorem Di{p:Gd×Vm}(X:K.In h)(G:h.Ns U5 mg)(d:∃f fd,aQ K p.1 p.1 p.2 f fd/\nsIn K U5 p.1=ih^ih^.ref f)(j k l m n:Gd)
  (b:∀(kV Qe pm:i') (an:a2 FG) (Qb ct a c e g i:i'),bindArgs (fnOf p.1 p.1 (dB p.2) (bJ p.2) (aI p.2) .none kV Qe pm an Qb ct) #[[a,c,e,g,i],[]]=pure^[j,k,l,m,n].zip [a,c,e,g,i]:=by intros;rfl) :
  ∃f fd,aQ K p.1 p.1 p.2 f fd/\Yv K^.ref f=true/\Binds K fd [j,k,l,m,n] []/\mg p.1=ih^.ref f:=mr X G d _ λkV Qe pm an Qb ct us h=>by obtain⟨a,r,rfl,h2⟩:=k7 h;obtain⟨c,e,g,i,rfl⟩:=mK h2;exact b _ _ _ _ _ _ _ _ _ _ _
theorem Dj{p:Gd×Vm}(X:K.In h)(G:h.Ns U5 mg)(d:∃f fd,aQ K p.1 p.1 p.2 f fd/\nsIn K U5 p.1=ih^ih^.ref f)(j k l m n o:Gd)
  (b:∀(kV Qe pm:i') (an:a2 FG) (Qb ct a c e g i q:i'),bindArgs (fnOf p.1 p.1 (dB p.2) (bJ p.2) (aI p.2) .none kV Qe pm an Qb ct) #[[a,c,e,g,i,q],[]]=pure^[j,k,l,m,n,o].zip [a,c,e,g,i,q]:=by intros;rfl) :
  ∃f fd,aQ K p.1 p.1 p.2 f fd/\Yv K^.ref f=true/\Binds K fd [j,k,l,m,n,o] []/\mg p.1=ih^.ref f:=mr X G d _ λkV Qe pm an Qb ct us h=>by obtain⟨u,s,rfl,t⟩:=k7 h;obtain⟨a,r,rfl,h2⟩:=k7 t;obtain⟨c,e,g,i,rfl⟩:=mK h2;exact b _ _ _ _ _ _ _ _ _ _ _ _
theorem Dk(X:K.In h)(G:h.Ns U5 mg):∀{xs:am Gd},vD K xs ->∀x∈xs,mg x=none
 |y::r,z,x,m=>by
  rcases bL.mp m with rfl|q
  .exact mg_none_of X G z.1
  .exact Dk X G z.2 x q
end L2
namespace L2
open Spec PyProof.Rows W
end L2
namespace L2
open W
abbrev tr(x q:Gd)(s:Vm):Gd×Gd×Vm:=(x,q,s)
def rX(K:Ys)(C:FG):List (Gd×Gd×Vm)->Prop
 |[]=>True
 |p::r=>(∃f fd,aQ K p.1 p.2.1 p.2.2 f fd/\Meth K C p.1 f)/\rX K C r
def v8(K:Ys)(C:FG):List Gd->Prop
 |[]=>True
 |x::r=>Yk K (.ref C) x=ih none/\v8 K C r
def CO(K:Ys)(x:Gd)(C:FG)(fl:List Gd)(ms:List (Gd×Gd×Vm)):Prop:=(nsIn K U5 x=ih (ih (.ref C))/\plainGet K C ZP=true/\hasDictIn K C=true/\plainOver K C=true/\Yk K (.ref C) "__setattr__" = ih (ih (.builtin "object.__setattr__"))/\makesIn K C=true/\Yv K (.ref C)=true/\v8 K C fl)/\rX K C ms
def XO(K:Ys)(x q fl:Gd)(M:FG)(st:Vm):Prop:= ∃f fd,aQ K "__init__" q st f fd/\Meth K M "__init__" f/\nsIn K U5 x=ih (ih (.ref M))/\f7 K M (ih (.ref f))=true
theorem Nx{p:Gd×Gd×Vm}{r:am (Gd×Gd×Vm)}{kV:i'}(a:Yk K (.ref C) p.1=ih^ih^.ref f)(i:isFn K^.ref f=true)
  (l:K.lookup f=ih #[oc,od,.func^fnOf p.1 p.2.1 (dB p.2.2) (bJ p.2.2) (aI p.2.2) .none kV Qe pm an Qb ct,Qn]) (c:codeIn K Qb p.2.1=true) (k:Yv K^.ref f=true) (g:rX K C r):rX K C (p::r):=#[#[f,_,uE l c k,a,i,k],g]
theorem Ny{b:Gd}{kV:i'}(n:nsIn K U5 x=ih^ih^.ref C)(a:Yk K (.ref C) "__init__" = ih^ih^.ref f)(i:isFn K^.ref f=true)
  (l:K.lookup f=ih #[oc,od,.func^fnOf "__init__" q (dB st) (bJ st) (aI st) .none kV Qe pm an Qb ct,Qn]) (c:codeIn K Qb q=true) (k:Yv K^.ref f=true) (e:f7 K C^ih^.ref f=true):XO K x q b C st:=#[f,_,uE l c k,#[a,i,k],n,e]
theorem cm_get(d:∃f fd,aQ K x q st f fd/\Meth K C x f)(ps:am Gd)
  (b:∀(kV Qe pm:i') (an:a2 FG) (Qb ct:i') (us:am i'),us.length=ps.length->bindArgs (fnOf x q (dB st) (bJ st) (aI st) .none kV Qe pm an Qb ct) #[us,[]]=pure^ps.zip us) :
  ∃f fd,aQ K x q st f fd/\Meth K C x f/\Binds K fd ps []:=by
 obtain⟨f,fd,F,a⟩:=d;exact#[f,fd,F,a,F.binds b]
theorem Lo(d:∃f fd,aQ K x q st f fd/\Meth K C x f)(c:Gd)(b:∀(kV Qe pm:i') (an:a2 FG) (Qb ct a:i'),bindArgs (fnOf x q (dB st) (bJ st) (aI st) .none kV Qe pm an Qb ct) #[[a],[]]=pure^[c].zip [a]:=by intros;rfl):∃f fd,aQ K x q st f fd/\Meth K C x f/\Binds K fd [c] []:=cm_get d _ λkV Qe pm an Qb ct us h=>by obtain⟨a,rfl⟩:=Gr.mp h;exact b _ _ _ _ _ _ _
theorem n7(d:∃f fd,aQ K x q st f fd/\Meth K C x f)(e g:Gd)(b:∀(kV Qe pm:i') (an:a2 FG) (Qb ct a c:i'),bindArgs (fnOf x q (dB st) (bJ st) (aI st) .none kV Qe pm an Qb ct) #[[a,c],[]]=pure^[e,g].zip [a,c]:=by intros;rfl):∃f fd,aQ K x q st f fd/\Meth K C x f/\Binds K fd [e,g] []:=cm_get d _ λkV Qe pm an Qb ct us h=>by obtain⟨a,c,rfl⟩:=q5 h;exact b _ _ _ _ _ _ _ _
theorem ue(d:∃f fd,aQ K x q st f fd/\Meth K C x f)(g i j:Gd)(b:∀(kV Qe pm:i') (an:a2 FG) (Qb ct a c e:i'),bindArgs (fnOf x q (dB st) (bJ st) (aI st) .none kV Qe pm an Qb ct) #[[a,c,e],[]]=pure^[g,i,j].zip [a,c,e]:=by intros;rfl):∃f fd,aQ K x q st f fd/\Meth K C x f/\Binds K fd [g,i,j] []:=cm_get d _ λkV Qe pm an Qb ct us h=>by obtain⟨a,c,e,rfl⟩:=vE h;exact b _ _ _ _ _ _ _ _ _
theorem uf(d:∃f fd,aQ K x q st f fd/\Meth K C x f)(i j k l:Gd)(b:∀(kV Qe pm:i') (an:a2 FG) (Qb ct a c e g:i'),bindArgs (fnOf x q (dB st) (bJ st) (aI st) .none kV Qe pm an Qb ct) #[[a,c,e,g],[]]=pure^[i,j,k,l].zip [a,c,e,g]:=by intros;rfl):∃f fd,aQ K x q st f fd/\Meth K C x f/\Binds K fd [i,j,k,l] []:=cm_get d _ λkV Qe pm an Qb ct us h=>by obtain⟨a,c,e,g,rfl⟩:=mK h;exact b _ _ _ _ _ _ _ _ _ _
theorem Lp(d:∃f fd,aQ K x q st f fd/\Meth K C x f)(i j k l m:Gd)(b:∀(kV Qe pm:i') (an:a2 FG) (Qb ct a c e g n:i'),bindArgs (fnOf x q (dB st) (bJ st) (aI st) .none kV Qe pm an Qb ct) #[[a,c,e,g,n],[]]=pure^[i,j,k,l,m].zip [a,c,e,g,n]:=by intros;rfl):∃f fd,aQ K x q st f fd/\Meth K C x f/\Binds K fd [i,j,k,l,m] []:=cm_get d _ λkV Qe pm an Qb ct us h=>by obtain⟨p,s,rfl,o⟩:=k7 h;obtain⟨a,c,e,g,rfl⟩:=mK o;exact b _ _ _ _ _ _ _ _ _ _ _
theorem Ep(F:aQ K x q st f fd)(d e:Gd)(b:∀(kV Qe pm:i') (an:a2 FG) (Qb ct a c:i'),bindArgs (fnOf x q (dB st) (bJ st) (aI st) .none kV Qe pm an Qb ct) #[[a,c],[]]=pure^[d,e].zip [a,c]:=by intros;rfl):Binds K fd [d,e] []:=F.binds λkV Qe pm an Qb ct us h=>by obtain⟨a,c,rfl⟩:=q5 h;exact b _ _ _ _ _ _ _ _
theorem qk:∀{xs:am Gd},v8 K C xs ->∀{x},x∈xs->Yk K (.ref C) x=ih none
 |y::r,z,x,m=>by
  rcases bL.mp m with rfl|q
  .exact z.1
  .exact qk z.2 q
end L2
namespace L2
def d0(k:Nat):List (List Gd)->Gd->Option (Nat×Gd)
 |[],_=>none
 |[]::rest,n=>d0 (k+1) rest n
 |(x::r)::rest,n=>if n∈x::r/\x≠n then ih (k,x) else d0 (k+1) rest n
theorem Ao{k:Nat}(h : ¬ (n∈r/\r.head? ≠ ih n)):d0 k (r::rest) n=d0 (k+1) rest n:=by
 cases r with
 |nil=>rfl
 |cons x r=>exact ao λz=>h #[z.1,⇑z.2]
theorem Hb{k:Nat}(h:n∈x::r/\x≠n):d0 k ((x::r)::rest) n=ih (k,x):=by
 exact aB h
def hS(all:List (List Gd)):List (List Gd)->Option Gd
 |[]=>none
 |[]::rest=>hS all rest
 |(x::_)::rest=>if (d0 0 all x).isNone then ih x else hS all rest
def fH(rest:List (List Gd)):Option Gd:=hS rest rest
def without(n:Gd)(rest:List (List Gd)):List (List Gd):=rest.map λr=>r.filter λy=>!decide (y=n)
def total(rest:List (List Gd)):Nat:=(rest.map Y5).sum
def cB:Nat->List (List Gd)->Option (List Gd)
 |0,_=>ih []
 |k+1,rest=>if (rest.any λr=>!r.isEmpty)=true then (match fH rest with|none=>none|some n=>(cB k (without n rest)).map (n :: ·)) else ih []
theorem sG{all:am^List Gd}{n:Gd}:∀{rest:am (List Gd)},hS all rest=ih n ->∃r∈rest,r.head?=ih n
 |[],h=>by cases h
 |[]::rest,h=>let ⟨r,a,e⟩:=sG (rest:=rest) h;#[r,bh _ a,e]
 |(x::t)::rest,h=>by
  have h:(if (d0 0 all x).isNone then ih x else hS all rest)=ih n:=h;split at h
  .cases h;exact#[n::t,aY,Z]
  .obtain⟨r,a,e⟩:=sG (rest:=rest) h
   exact#[r,bh _ a,e]
theorem Am(n:Gd):∀rest:am (List Gd),total^without n rest<=total rest
 |[]=>aP _
 |r::rest=>by
  have h1:=Am n rest;have h2:=gn (λy=>!decide (y=n)) r;simp only[total,without,bY,Af]at *;omega
theorem lU{n:Gd}:∀{rest:am (List Gd)},(∃r∈rest,n∈r)->total^without n rest<total rest
 |[],⟨_,h,_⟩=>by simp at h
 |r::rest,⟨q,hq,a⟩=>by
  have h1:=Am n rest;have h2:=gn (λy=>!decide (y=n)) r;rcases bL.mp hq with rfl|hq
  .have b:(q.filter λy=>!decide (y=n)).length<q.length:=by
    exact List.length_filter_lt_length_iff_exists.mpr #[n,a,by simp]
   simp only[total,without,bY,Af]at *;omega
  .have b:=lU #[q,hq,a]
   simp only[total,without,bY,Af]at *;omega
theorem le_total{r:am Gd}:∀{rest:am (List Gd)},r∈rest->r.length<=total rest
 |[],h=>by simp at h
 |q::rest,h=>by
  have e:total (q::rest)=q.length+total rest:=by simp[total]
  rcases bL.mp h with rfl|h
  .omega
  .have:=le_total h
   omega
theorem BK(h:(rest.any λr=>!r.isEmpty)=true):0<total rest:=by
 obtain⟨r,a,e⟩:=lO.mp h;have h1:0<r.length:=by cases r with
  |nil=>simp at e
  |cons _ _=>simp
 have h2:r.length<=total rest:=le_total a;omega
def d5(H:Hp)(vs:List V)(rows:List (List Gd)):Prop:=VT (λy r=>∃a,y=V.ref a/\H a=ih (.tup (r.map V.str))) vs rows
theorem d5.same(h:d5 H vs rows)(s:ax H H'):d5 H' vs rows:=Paired.imp' (λ_ _ b=>by obtain⟨a,e,q⟩:=b;exact #[a,e,s _ _ q]) h
theorem d5.length(h:d5 H vs rows):vs.length=rows.length:=cy h
theorem d5.get{H:Hp}:∀{vs:am V}{rows:am (List Gd)}{i:Nat}{v:V},d5 H vs rows->vs[i]?=ih v ->∃a r,v=V.ref a/\rows[i]?=ih r/\H a=bn^r.map V.str
 |_,_,i,v,.nil,e=>by simp at e
 |_,_,0,v,.cons p _,e=>by
  obtain⟨a,rfl,q⟩:=p;simp at e;subst e;exact#[a,_,Z,Z,q]
 |_,_,i+1,v,.cons _ t,e=>by
  obtain⟨a,r,e1,e2,q⟩:=d5.get (i:=i) t ⇑e
  exact#[a,r,e1,⇑e2,q]
theorem d5.append{H:Hp}{vs:am V}{rows:am^List Gd}{a:FG}{r:am Gd}:d5 H vs rows->H a=bn^r.map V.str->d5 H (vs++[.ref a]) (rows++[r])
 |.nil,q=>.cons #[a,Z,q] .nil
 |.cons p t,q=>.cons p^d5.append t q
end L2
namespace eH
open L2 W
def top(i:Nat):Vm:=aa4.main.body.getD i (.Pass ⟨0,0,0,0⟩)
noncomputable abbrev p1:Vm:=inClass (top 7) 0
noncomputable abbrev p8:Vm:=inClass (top 8) 0
noncomputable abbrev n8:Vm:=top 10
noncomputable abbrev ug:Vm:=top 11
noncomputable abbrev sS:Vm:=top 13
noncomputable abbrev tM:Vm:=top 14
noncomputable abbrev n9:Vm:=top 16
noncomputable abbrev qy:Vm:=top 17
noncomputable abbrev oF:Vm:=top 18
noncomputable abbrev mu:Vm:=top 21
noncomputable abbrev nN:Vm:=top 22
noncomputable abbrev tN:Vm:=top 24
noncomputable abbrev tq:Vm:=top 25
noncomputable abbrev uh:Vm:=top 26
noncomputable abbrev nT:Vm:=top 27
noncomputable abbrev uL:Vm:=top 28
noncomputable abbrev nU:Vm:=top 30
noncomputable abbrev ui:Vm:=top 31
noncomputable abbrev nV:Vm:=top 32
noncomputable abbrev l2:Vm:=top 34
noncomputable abbrev sN:Vm:=top 35
noncomputable abbrev tO:Vm:=top 36
noncomputable abbrev kZ:Vm:=top 37
noncomputable abbrev u1:Vm:=top 38
noncomputable abbrev kG:Vm:=top 39
noncomputable abbrev vF:Vm:=top 41
noncomputable abbrev oq:Vm:=top 42
noncomputable abbrev ja:Vm:=top 43
noncomputable abbrev ix:Vm:=top 44
noncomputable abbrev ot:Vm:=top 45
noncomputable abbrev tu:Vm:=top 46
noncomputable abbrev nW:Vm:=top 47
noncomputable abbrev uj:Vm:=top 48
noncomputable abbrev uk:Vm:=top 49
noncomputable abbrev u2:Vm:=top 50
noncomputable abbrev ou:Vm:=top 51
noncomputable abbrev u3:Vm:=top 52
noncomputable abbrev um:Vm:=top 53
noncomputable abbrev oy:Vm:=top 54
noncomputable abbrev u4:Vm:=top 55
noncomputable abbrev uo:Vm:=top 56
noncomputable abbrev v9:Vm:=top 57
noncomputable abbrev oz:Vm:=top 58
noncomputable abbrev oA:Vm:=top 59
noncomputable abbrev kL:Vm:=top 60
noncomputable abbrev u5:Vm:=top 61
noncomputable abbrev v':Vm:=top 62
noncomputable abbrev q6:Vm:=top 65
noncomputable abbrev tw:Vm:=top 63
noncomputable abbrev vG:Vm:=top 64
noncomputable abbrev u6:Vm:=inClass uL 0
noncomputable abbrev u7:Vm:=inClass uL 1
noncomputable abbrev u9:Vm:=inClass uL 2
noncomputable abbrev uM:Vm:=inClass kZ 0
noncomputable abbrev sT:Vm:=inClass kZ 1
noncomputable abbrev u':Vm:=inClass kZ 2
noncomputable abbrev oB:Vm:=inClass kZ 4
noncomputable abbrev va:Vm:=inClass kZ 5
noncomputable abbrev uq:Vm:=inClass kZ 6
noncomputable abbrev oe:Vm:=inClass kZ 7
noncomputable abbrev uN:Vm:=inClass u1 0
noncomputable abbrev ur:Vm:=inClass u1 1
noncomputable abbrev uu:Vm:=inClass u1 2
structure dw(mg:Gd->Option i'):Prop where
 len:mg "len" = none
 max:mg "max" = none
 min:mg "min" = none
 abs:mg "abs" = none
 range:mg "range" = none
 any:mg "any" = none
 all:mg "all" = none
 list:mg "list" = none
 tuple:mg "tuple" = none
 QB:mg "enumerate" = none
theorem ki{y:Gd}:cN ((y::r).map V.str) 0=ih^V.str y:=(show cN ((y::r).map V.str) ((0:Nat):Int)=ih^V.str y from cx Z)
theorem aJ{q:FG}{o:HO}(a:H q=none):ax H^upd H q o:=λb u e=>by rw[ag^aA e a];exact e
theorem Ka{g:TG}{D:Ends}(Pv:Nat->St->Hp->Prop)(h0:Pv 0 σ H)(h:∀i σ H,i<=xs.length->Pv i σ H->au K H a xs)
  (j:∀i x σ H t,xs[i]?=ih x->Pv i σ H->H t=none->g (.ref t) σ (upd H t^.tup [.int i,x]) λb H2=>tb { D with nx:=Pv (i+1),ct:=Pv (i+1),bk:=D.nx } b H2) (k:∀σ H,Pv xs.length σ H->D.nx σ H) :
  ∃W:Nat->Nat->St->Hp->Prop,(∃m,W 0 m σ H) /\∀i m σ H,W i m σ H ->
   ((oW K a).stop i H/\D.nx σ H)\/((oW K a).go i H /\∃N:St->Hp->Prop,(∀c H',N c H' ->∃f,f<m/\W (i+1) f c H') /\∀x H',(oW K a).ie i H x H'->g x σ H' λb H2=>tb { D with nx:=N,ct:=N,bk:=D.nx } b H2):=by
 refine#[λi m σ H=>m=xs.length - i/\i<=xs.length/\Pv i σ H,#[xs.length,by simp,bF _,h0],?_]
 rintro i m σ H ⟨rfl,hi,p⟩;have q:=h i σ H hi p
 by_cases d:i<xs.length
 .refine .inr #[#[xs,xs[i],q,by simp[d]],Pv (i+1),λc H' l=>#[xs.length - (i+1),(),Z,d,l],λx H' y=>?_]
  obtain⟨t,v,n,rfl,o,rfl⟩:=y;exact j i v σ _ t (o xs q) p n
 .have e:i=xs.length:=()
  subst e;exact .inl #[#[xs,q,aP _],k σ H p]
inductive qz(vs:List V)(H:Hp)(Q:VK)(E:XK):Prop
 |mk{l:FG}{ws:List V}{rows:List (List Gd)}{n:Gd}(_:vs=[.ref l,.str n])(_:H l=ih (.lst ws))(_:d5 H ws rows)(_:(d0 0 rows n=none ->∀H',ax H H'->Q .aK H'))(_:(∀i x,d0 0 rows n=ih (i,x) ->∀p H',H p=none->ax H H'->H' p=ih (.tup [.int i,.str x,.str n])->Q (.ref p) H')):qz vs H Q E
theorem uO:bp ["rest","name","at","row"] ["rest","name"]^aI oF:=bD
theorem Lq(F:aQ K "wish_against" "wish_against" oF f fd)(B:dw mg):aT P w K mg base aF 1 f fd ["rest","name"] qz:=by
 refine F.bI uO λQb A outer s H vs Q E R h=>?_
 .obtain @⟨l,ws,rows,n,rfl,q,u,qn,L⟩:=h
  intro X;refine#[_,ar (ee dZ Z (KY Z B.QB^aa (pv 0) ai) (gH Z^cA (ba 2 uO.nd)^cA (ba 3 uO.nd) fM)
    (ay (bo (PW.pt^pw_and (bx jJ (pv 1) (pv 3) Z)^pw_and1^bx je (aU bu (pv 3) aw) (pv 1)^bC _)
     (ay^a3^cc^aa (pv 2)^aa (aU bu (pv 3) aw)^aa (pv 1) ai) bE)))
   (ay^a3 d3),?_]
  refine af Z #[l,Z,#[_,au.of q],Ka (xs:=ws) (λi σ Y=>∃j k:a2 V,σ=[bd l,ih^.str n,j,k]/\ax H Y/\d0 i (rows.drop i) n=d0 0 rows n) #[none,none,Z,ax.refl _,by simp] (λi σ Y _ S=>by obtain⟨_,_,_,z,_⟩:=S;exact au.of^z _ _ q) ?_ ?_]
  .rintro i x σ Y t M ⟨j,k,rfl,m,b⟩ N
   obtain⟨a,r,rfl,D,G⟩:=u.get M;have c:ax H^upd Y t^.tup [.int i,.ref a]:=m.trans^aJ N;have d:=c _ _ G;have I:rows.drop i=r::rows.drop (i+1):=by
    have hi:=(b4.mp D);obtain⟨J,rfl⟩:=hi;exact lN J
   rw[I]at b;refine#[t,_,Z,aX.of ah,Z,_,_,Z,_,_,Z,Z,?_];refine aW Z Z #[a,_,Z,.inr^aX.of d,Z,jL _,_,Z,?_];rw[ao b7,i2];refine bZ (λe=>?_)^λe=>?_
   .have o:n∈r:=by simpa using e
    cases r with
    |nil=>simp at o
    |cons y r =>
     refine af Z^a7 d ki^af Z #[Z,_,Z,?_];refine bZ (λg=>?_)^λg=>?_
     .have C:y≠n:=λz=>by subst z;simp at g
      refine aW Z Z^a7 d ki^af Z #[gS,λp v=>?_];rw[Hb #[o,C]]at b;exact L i y b.symm p _ (c.free v) (c.trans^aJ v) ah
     .have O:y=n:=by
       by_cases z:y=n
       .exact z
       .exact absurd (by simp[z]) g
      refine#[_,_,Z,c,?_];rw[<-b,Ao λz=>z.2 (by rw[O];rfl)]
   .refine#[_,_,Z,c,?_]
    rw[<-b,Ao λz=>e ⇑(z.1)]
  .rintro σ Y ⟨j,k,rfl,m,b⟩
   rw[u.length,Ag]at b;exact qn b.symm Y m
def Er:Option Gd->V
 |none=>.aK
 |some n=>.str n
inductive qm(vs:List V)(H:Hp)(Q:VK)(E:XK):Prop
 |mk{l:FG}{ws:List V}{rows:List (List Gd)}(_:vs=[.ref l])(_:H l=ih (.lst ws))(_:d5 H ws rows)(_:∀H',ax H H'->Q (Er (fH rows)) H'):qm vs H Q E
theorem Dl:bp ["rest","row"] ["rest"]^aI qy:=bD
theorem Kb{fW:FG}{g:X3}(F:aQ K "least_free" "least_free" qy f fd)(B:dw mg)(t:aQ K "wish_against" "wish_against" oF fW g)(I:Binds K g ["rest","name"] [])(J:mg "wish_against" = ih^.ref fW) :
  aT P w K mg base aF 2 f fd ["rest"] qm:=by
 have L:aT P w K mg base aF 1 fW g ["rest","name"] qz:=Lq t B;refine F.bI Dl λQb A outer s H vs Q E M h=>?_
 .obtain @⟨l,ws,rows,rfl,m,n,q⟩:=h
  have u:aZ 1 _:=M;intro X;refine#[_,ar (ee dZ Z (c7^pv 0) (ba 1 Dl.nd)
    (ay (bo (PW.pt^pw_and (kI (pv 1)^λ_=>rfl)^pw_and1^bx gI (f3 L u Z J t.kp I .nil c8^aa (pv 0)^aa (aU bu (pv 1) aw) ai) d3^bC _)
     (ay^a3^aU bu (pv 1) aw) bE)))
   (ay^a3 d3),?_]
  refine af Z #[l,Z,#[_,au.of m],gZ (xs:=ws) (λi σ Y=>∃o:a2 V,σ=[bd l,o]/\ax H Y/\hS rows^rows.drop i=fH rows) #[none,Z,ax.refl _,by simp[fH]] (λi σ Y _ S=>by obtain⟨_,_,z,_⟩:=S;exact au.of^z _ _ m) ?_ ?_]
  .rintro i x σ Y N ⟨o,rfl,c,b⟩
   obtain⟨a,r,rfl,v,C⟩:=n.get N;have k:=c _ _ C;have D:rows.drop i=r::rows.drop (i+1):=by
    obtain⟨G,rfl⟩:=b4.mp v;exact lN G
   rw[D]at b;refine af Z #[!(r.map V.str).isEmpty,.inr^.inl #[_,aX.of k,Z],?_];cases r with
   |nil=>exact af Z #[c,b]
   |cons y r =>
    have b:(if (d0 0 rows y).isNone then ih y else hS rows^rows.drop (i+1))=fH rows:=b;refine aW Z Z^a7 k ki ?_;refine qz.mk Z (c _ _ m) (n.same c) (λO H2 d=>?_)^λj z es p H2 R d h2=>?_
    .refine#[Z,_,Z,?_]
     refine af Z^a7 (d _ _ k) ki ?_;rw[O]at b;have e:fH rows=ih y:=b.symm;have:=q H2^c.trans d;rw[e]at this;exact this
    .refine#[Z,_,Z,?_]
     rw[es]at b;exact af Z #[c.trans d,b]
  .rintro σ Y ⟨o,rfl,c,b⟩
   rw[n.length,Ag]at b;have e:fH rows=none:=b.symm;have:=q Y c;rw[e]at this;exact this
theorem I9(h:Nm x):(x.cps.toList.all λc=>decide (c<16 ^ 8))=true:=by
 rw[ny];intro c a;have:=(h.az c a).2;exact cb ()
def mj(s:Vm):List Vm:=match s with|.For _ _ b _ _=>b|_=>[]
def nO(s:Vm):List Vm:=match s with|.While _ b _ _=>b|_=>[]
def bW(l:List Vm)(i:Nat):Vm:=l.getD i (.Pass ⟨0,0,0,0⟩)
def fy(s:Vm):VH:=match s with|.Assign _ v _=>v|_=>.Constant .none 0 ⟨0,0,0,0⟩
def mL(s:Vm):VH:=match s with|.Return (ih v) _=>v|_=>.Constant .none 0 ⟨0,0,0,0⟩
def gz(e:VH):VH:=match e with|.Call _ (a::_) _ _=>a|_=>.Constant .none 0 ⟨0,0,0,0⟩
def O1(e:VH):VH:=match e with|.Subscript a _ _=>a|_=>.Constant .none 0 ⟨0,0,0,0⟩
def DX(e:VH):VH:=match e with|.ListComp x _ _ _=>x|_=>.Constant .none 0 ⟨0,0,0,0⟩
def cK(e:VH):Y0:=match e with|.ListComp _ _ sc _=>sc|_=>{ kind:=.function,names:=[],isGenerator:=false,isCoroutine:=false }
theorem boot_tuple:VA "tuple" = ih^.type "tuple":=⋯
theorem boot_list:VA "list" = ih^.type "list":=⋯
structure Small(rows:List (List Gd)):Prop where
 a5:rows.length<=10
 short:∀r∈rows,r.length<=20
 nm:∀r∈rows,∀n∈r,Nm n
theorem Mx{a:am Gd}(b:ps.Nodup)(h:∀n∈ps,n∈a):ps.length<=a.length:=by
 by_cases z:ps.length<=a.length
 .exact z
 .obtain⟨y,c,d⟩:=uH (found:=a) b ()
  exact absurd (h y c) d
theorem AW(h:total rest=0):(rest.any λr=>!r.isEmpty)=false:=by
 cases e:rest.any λr=>!r.isEmpty with
 |false=>rfl
 |true=>have:=BK e;omega
theorem l3(h:fH rest=ih n):∃r∈rest,n∈r:=by
 obtain⟨r,a,e⟩:=sG h;exact#[r,a,List.mem_of_head? e]
theorem AX:∀(k:Nat) (r:am (List Gd)),total r<=k ->∀j,total r<=j->cB k r=cB j r
 |0,r,h,j,_=>by
  have z:=AW (show total r=0 by omega)
  cases j with
  |zero=>rfl
  |succ j=>unfold cB;rw[ao^by rw[z];exact b7]
 |k+1,r,h,0,a=>by
  have z:=AW (show total r=0 by omega)
  unfold cB;rw[ao^by rw[z];exact b7]
 |k+1,r,h,j+1,a=>by
  unfold cB;split
  .cases e:fH r with
   |none=>rfl
   |some n =>
    have:=lU^l3 e;show ZZ _ _=ZZ _ _;rw[AX k (without n r) () j ()]
  .rfl
theorem sU{r:am^List Gd}(h:(r.any λr=>!r.isEmpty)=false):cB (total r) r=ih []:=by
 cases total r with
 |zero=>rfl
 |succ k=>unfold cB;rw[ao^by rw[h];exact b7]
theorem sV{r:am^List Gd}(h:(r.any λr=>!r.isEmpty)=true)(e:fH r=none):cB (total r) r=none:=by
 have:=BK h;cases q:total r with
 |zero=>omega
 |succ k=>unfold cB;rw[aB h,e]
theorem sX{r:am^List Gd}(h:(r.any λr=>!r.isEmpty)=true)(e:fH r=ih n):cB (total r) r=(cB (total^without n r)^without n r).map (n :: ·):=by
 have:=lU^l3 e;cases q:total r with
 |zero=>omega
 |succ k =>
  show(if (r.any λr=>!r.isEmpty)=true then _ else _)=_;rw[aB h,e];show ZZ _ _=_;rw[AX k (without n r) () _^aP _]
theorem As{env:Zq}:∀{c:am (Gd×Yt)}{x:Gd},c.lookup x=ih .cell ->
  (c.map λ(n,k)=>if (k==Ve&&env.scope.kind == .function&&env.kindOf n==ih .cell) then (n,X6) else (n,k)).lookup x=ih .cell
 |[],_,h=>by simp at h
 |(n,b)::r,x,h=>by
  have d:=@As env r x;show VP x ((if (b==Ve&&env.scope.kind == .function&&env.kindOf n==ih .cell)=true then (n,X6) else (n,b))::_)=_;rw[dM]at h;cases a:x==n with
  |true =>
   rw[a]at h;cases h
   rw[ao (by simp),dM,a]
  |false =>
   rw[a]at h
   by_cases e:(b==Ve&&env.scope.kind == .function&&env.kindOf n==ih .cell)=true
   .rw[aB e,dM,a];exact d h
   .rw[ao e,dM,a];exact d h
theorem nest{m1:Y0}(a:sc.kind=.function)(keys:(sc.names.map (·.1)).Nodup)(c:N'.Nodup)(b:Qf.length=N'.length)(d:vx N N' Qf sc=true)
  (free:∀p∈sc.names,p.2=.free->m1.names.lookup p.1=ih .cell\/m1.names.lookup p.1=ih .free):b8 N (relabel m1 env) N' Qf sc:=
 #[a,keys,c,b,DT d,λp f e=>by
  rcases free p f e with z|z
  .exact .inl^As z
  .exact sC z]
theorem Au(K:Ys)(h:X.K=K):cU X (.type "tuple") (λxs H Q=>∃p ys,xs=[.ref p]/\((au K H p ys /\∀l,H l=none->Q (.ref l)^upd H l^.tup ys)\/(aX K H p ys/\Q (.ref p) H))):=by subst h;exact iX
theorem boot_any:VA "any" = ih^.builtin "any":=⋯
def qA(K:Ys)(C:FG):Bool:=
 Yk K (.ref C) "__getattribute__" == ih (ih (.builtin "BaseException.__getattribute__"))&&(Yk K (.ref C) "__getattr__" == ih none&&(Yk K (.ref C) "__setattr__" == ih (ih (.builtin "object.__setattr__"))&&(hasDictIn K C &&
 (((clsIn K C).any λcd=>mF cd.mro)&&(mroIn K C (.type "BaseException")==ih true&&(mroIn K C (.type "ValueError")==ih true&&(mroIn K C (.type "object")==ih true&&(Yk K (.ref C) "__class__" == ih (ih (.builtin "object.__class__")) &&
 (specialIn K (.builtin "object.__class__") "__get__" == ih (ih (.builtin "getset_descriptor.__get__"))&&takesIn K (.builtin "object.__class__")==ih true)))))))))
theorem Dm(h:qA K C=true):eV K C:=by
 unfold qA at h;simp only[gW,dJ]at h;obtain⟨a,b,c,d,e,f,g,i,j,k,l⟩:=h;exact#[a,b,c,d,e,f,g,i,j,k,l]
def Es(a:FG)(H H':Hp):Prop:= ∀b o,H b=ih o->b≠a->H' b=ih o
theorem Cv{fs:am (Gd×V)}(c:H d=none):Es a H^upd (upd H d^fu d fs) a^cL C (ih d) a:=λb o e n=>by
 rw[ag n,ag^aA e c];exact e
noncomputable abbrev Dn:List Gd:=["rows","order","rest","name"]
theorem nX:bp Dn ["rows"]^aI n9:=bD
noncomputable abbrev Et:VH:=fy (bW (nO (bW (bJ n9) 2)) 3)
abbrev m1:Y0:=cK Et
abbrev QC:Y0:=cK (gz (DX Et))
theorem E6:b8 Dn (aI n9) ["row","name"] [none,ih 3] m1:=dF
theorem QD:b8 ["row","name"] (relabel m1 env) ["other","name"] [none,ih 1] QC:=nest Z ⋯ ⋯ rfl ⋯ ⋯
theorem QE:(["other","name"]:am Gd).Nodup:=⋯
theorem BL(h:d5 H vs rows)(s:∀b xs,H b=bn xs->H' b=bn xs):d5 H' vs rows:=Paired.imp' (λ_ _ c=>by obtain⟨a,e,q⟩:=c;exact #[a,e,s _ _ q]) h
theorem Ap(S:Small rest):Small^without n rest:=by
 refine#[by unfold L2.without;rw[aE];exact S.a5,λr a=>?_,λr a y c=>?_]
 .obtain⟨q,b,rfl⟩:=a8.mp a
  exact ec (gn _ _)^S.short q b
 .obtain⟨q,b,rfl⟩:=a8.mp a
  exact S.nm q b y (eb.mp c).1
structure Eu(H:Hp)(rows:List (List Gd))(t oa:FG)(m:Nat)(σ:St)(Y:Hp)(rest:List (List Gd))(ws:List V)(cG:List Gd)(rl:FG):Prop where
 st:∃v3:Option V,σ=[ih (.ref t),ih (.ref oa),ih (.ref rl),v3]
 mm:m=total rest
 E7:Y oa=ih (.lst (cG.map V.str))
 wc:Y rl=ih (.lst ws)
 rr:d5 Y ws rest
 sm:Small rest
 ne:rl≠oa
 same:ax H Y
 lim:cG.length+total rest<=1000
 eq:cB (total rows) rows=(cB (total rest) rest).map (cG ++ ·)
theorem pI:∀{rows:am (List Gd)},(∀r∈rows,r.length<=20)->total rows<=20 * rows.length
 |[],_=>bF _
 |r::rows,h=>by
  have h1:=pI λq a=>h q^bh _ a;have h2:=h r aY;have e:total (r::rows)=r.length+total rows:=by simp[total]
  rw[e,c4];omega
theorem Kc(h:d5 H ws rows):VT (λy r=>∃a,y=V.ref a/\aX K H a r) ws (rows.map λr=>r.map V.str):=by
 induction h with
 |nil=>exact .nil
 |cons p _ b=>obtain⟨a,e,q⟩:=p;exact .cons #[a,e,aX.of q] b
theorem any_map(rows:am^List Gd):((rows.map λr=>r.map V.str).any λr=>!r.isEmpty)=rows.any λr=>!r.isEmpty:=by
 rw[wV];congr 1;funext r;cases r <;> rfl
inductive p9(vs:List V)(H:Hp)(Q:VK)(E:XK):Prop
 |mk{t:FG}{ws:List V}{rows:List (List Gd)}{o:List Gd}(_:vs=[.ref t])(_:H t=ih (.tup ws))(_:d5 H ws rows)(_:Small rows)(_:cB (total rows) rows=ih o)(_:∀p H',H p=none->ax H H'->H' p=ih (.tup (o.map V.str))->Q (.ref p) H'):p9 vs H Q E
theorem I'{fW:FG}{ya ye:X3}(F:aQ K "merged" "merged" n9 f fd)(D:dw mg)
  (ym:aQ K "wish_against" "wish_against" oF fW ye) (zm:Binds K ye ["rest","name"] []) (xn:mg "wish_against" = ih^.ref fW)
  (yg:aQ K "least_free" "least_free" qy fL ya) (yn:Binds K ya ["rest"] []) (zn:mg "least_free" = ih^.ref fL) :
  aT P w K mg base aF 3 f fd ["rows"] p9:=by
 have xo:aT P w K mg base aF 2 fL ya ["rest"] qm:=Kb yg D ym zm xn;refine F.bI nX λQb A outer s H vs Q E yo h=>?_
 .obtain @⟨t,ws,rows,o,rfl,zg,zo,yc,S,xp⟩:=h
  have zj:aZ 2 _:=yo;intro X;refine#[_,ar (a4 1 nX.nd^eN ai)
   (ar (a4 2 nX.nd^df jH Z D.list boot_list^aa (pv 0) ai)
   (ar (nQ dZ (kI (bV (IK Z) Z D.any boot_any^aa (pv 2) ai)^λ_=>rfl)
    (ar (iA (i:=3) nX.nd Z (YS Z)^f3 xo zj Z zn yg.kp yn .nil c8^aa (pv 2) ai)
    (ar (bo (bx gI (pv 3) d3^bC _) (ay Jo) bE)
    (ar (eL^gw hQ nB nC jK (pv 1)^aa (pv 3) ai)
    (ay^lZ (i:=2) Z E6 nX.nd Z Z (c7^pv 2)^λs H fp=>#[ba 0 E6.nd,ey,
     df (Au K Z) Z D.tuple boot_tuple^aa (d7 Z QD (Ca K Z^pv 0)^λs H fp=>#[ba 0 QE,i1^bx je (pv 0) (pv 1) Z,pv 0]) ai])))))
   (ay^a3^df iX Z D.tuple boot_tuple^aa (pv 1) ai))),?_]
  refine#[bF _,λc za=>af Z #[t,ws,Z,.inr (aX.of^by rw[ag^aA zg za];exact zg),λd xb=>?_]]
  have xj:(upd (upd H c^.lst []) d^.lst ws) c=ce []:=by rw[ag^aA ah xb];exact ah
  have xh:ax H^upd (upd H c^.lst []) d^.lst ws:=(aJ za).trans (aJ xb);refine#[λm σ Y=>∃rest g k d,Eu H rows t c m σ Y rest g k d,#[_,rows,ws,[],d,#[none,Z],Z,xj,ah,zo.same xh,yc,aS^aA ah xb,xh,by have:=pI yc.short;have:=yc.a5;simp only[jA];omega,by cases cB (total rows) rows <;> rfl],?_]
  rintro m σ Y ⟨rest,g,k,d,R⟩;obtain⟨yq,rfl⟩:=R.st;refine af Z #[d,g,_,Z,au.of R.wc,Kc R.rr,_,Z,?_];rw[any_map];refine bZ (λT=>?_)^λT=>?_
  .refine#[λxk H'=>∃yh,yh<m /\∃rest g k d,Eu H rows t c yh xk H' rest g k d,λ_ _ z=>z,?_]
   refine af Z^qm.mk Z R.wc R.rr λH2 G=>?_;cases e:fH rest with
   |none =>
    refine af Z #[Z,_,Z,?_];rw[R.eq,sV T e]at S;cases S
   |some n =>
    refine af Z #[Z,_,Z,?_];have xa:H2 c=ce^k.map V.str:=G _ _ R.E7;refine af Z #[.inl #[Z,_,au.of xa],_,Z,c,_,_,Z,Z,xa,by have:=R.lim;rw[aE,aV];omega,?_]
    generalize L:upd H2 c^.lst (k.map V.str++[Er^ih n])=I;have yp:ax H I:=λb o zh=>by rw[<-L,ag^aA zh za];exact G _ _^R.same b o zh
    have yk:d≠c:=R.ne;have zd:I d=ce g:=by rw[<-L,ag yk];exact G _ _ R.wc
    have ze:d5 I g rest:=BL R.rr λb xs u=>by rw[<-L,ag^aq (G _ _ u) xa];exact G _ _ u
    have xe:I c=ce^(k++[n]).map V.str:=by rw[<-L,ah,bj];rfl
    refine af Z #[d,Z,#[_,au.of zd],λJ M=>?_];have zk:J≠c:=λz=>by rw[z,xe]at M;cases M
    refine fB (xs:=g) (λi ys U q=>∃zc:a2 V,U=[zc,ih^.str n]/\q J=ce ys/\ax I q/\d5 q ys^L2.without n^rest.take i) #[none,Z,ah,aJ M,.nil] (λi ys U q ab=>by obtain⟨_,_,h1,h2,_⟩:=ab;exact #[h1,au.of^h2 _ _ zd]) ?_ ?_
    .rintro i x ys U q xi ⟨zc,rfl,B,v,C⟩
     obtain⟨a,r,rfl,xf,yb⟩:=ze.get xi;have xl:i<g.length:=(b4.mp xi).1;have tk:rest.take (i+1)=rest.take i++[r]:=by rw[dQ,xf];rfl
     refine af Z #[a,Z,#[_,aX.of^v _ _ yb],λb1 zb=>?_];have yl:a≠b1:=aA (v _ _ yb) zb;refine l7 (xs:=r.map V.str) (λj zs N W=>∃xd:a2 V,N=[xd,ih^.str n]/\zs=((r.take j).filter λy=>!decide (y=n)).map V.str/\W=upd q b1^.lst zs) #[none,Z,Z,Z] (λj zs N W ⟨_,_,_,z⟩=>by rw[z];exact#[ah,aX.of^by rw[ag yl];exact v _ _ yb]) ?_ ?_
     .rintro j x zs N W yf ⟨xd,rfl,rfl,rfl⟩
      have xc:j<(r.map V.str).length:=(b4.mp yf).1;have zf:j<r.length:=by simpa using xc
      obtain rfl:V.str r[j]=x:=by simpa [zf] using yf
      have xg:r.take (j+1)=r.take j++[r[j]]:=by rw[dQ,bG zf];rfl
      refine aW Z Z #[Z,_,Z,?_];refine bZ (λO=>?_)^λO=>?_
      .have yj:r[j]≠n:=λz=>by rw[z]at O;simp at O
       refine af Z #[ah,?_,cw_next xc^af Z #[?_,by rw[fJ]]]
       .have h1:=gn (λy=>!decide (y=n))^r.take j
        have h2:(r.take j).length<=r.length:=by rw[cH];omega
        have zp:=R.sm.short r^eu xf;rw[aE,aV];omega
       .rw[xg,gp,bj,pB ⇑yj];rfl
      .have xq:r[j]=n:=by
        by_cases z:r[j]=n
        .exact z
        .exact absurd (by simp[z]) O
       refine cw_next xc^af Z #[?_,Z];rw[xg];simp[xq]
     .rintro zs N W ⟨xd,rfl,rfl,rfl⟩
      rw[aE,cF];refine#[b1,_,Z,.inl #[au.of ah,λl yi=>?_]];have zl:J≠b1:=aA B zb;have yd:ax q^upd (upd q b1^.lst^(r.filter λy=>!decide (y=n)).map V.str) l^.tup^(r.filter λy=>!decide (y=n)).map V.str:=(aJ zb).trans (aJ yi);have xm:J≠l:=aA (by rw[ag zl];exact B) yi
      refine#[yd _ _ B,?_,cw_next xl #[_,Z,ah,λb o u=>?_,?_]]
      .have h1:=C.length
       have h2:(L2.without n^rest.take i).length<=rest.length:=by unfold L2.without;rw[aE,cH];omega
       have zp:=R.sm.a5;rw[aV];omega
      .rw[ag^aA u M];exact yd _ _^v b o u
      .have e1:L2.without n^rest.take (i+1)=L2.without n^rest.take i++[r.filter λy=>!decide (y=n)]:=by rw[tk];unfold L2.without;rw[bj];rfl
       rw[e1];refine d5.append (BL C λb xs u=>?_) ?_
       .rw[ag^aq u B];exact yd _ _ u
       .rw[ag^aS xm];exact ah
    .rintro ys U q ⟨zc,rfl,B,v,C⟩
     rw[ze.length,cF]at C;have lt:=lU^l3 e;refine#[_,by rw[R.mm];exact lt,L2.without n rest,ys,k++[n],J,#[_,Z],Z,v _ _ xe,B,C,Ap R.sm,zk,yp.trans v,?_,?_]
     .have:=R.lim;rw[cz,lL];omega
     .rw[R.eq,sX T e,Ah]
      congr 1
      funext z
      simp
  .refine af Z #[c,_,Z,.inl #[au.of R.E7,λp zi=>?_]]
   rw[R.eq,sU ⇑T]at S
   have e:k++[]=o:=cQ S;rw[e6]at e;subst e;exact xp p _ (R.same.free zi) (R.same.trans^aJ zi) ah
end eH
namespace eH
open L2
theorem boot_max:VA "max" = ih^.builtin "max":=⋯
theorem boot_abs:VA "abs" = ih^.builtin "abs":=⋯
inductive qJ(K:U2)(vs:List V)(H:Hp)(Q:VK)(E:XK):Prop
 |mk{a:FG}{ns:List Int}{k:Int}(_:vs=[.ref a,.int k])(_:au K H a (ns.map V.int))(_:0<=k)(_:k<=100)(_:ns.length<=63)(_:∀(p:FG) (x y:Int),H p=none->0<=x->0<=y->y<4294967296->Q (.ref p) (upd H p (.lst [.int x,.int y]))):qJ K vs H Q E
theorem vb:bp ["_law_script","_law_k","_law_cell"] ["_law_script","_law_k"]^aI vF:=bD
theorem Lr{ns:am Int}(h:i<ns.length):∃z,(ns.map V.int)[i]?=ih^V.int z:=#[ns[i],by rw[c5,bG h];rfl]
theorem My(F:aQ K "_law_pot" "_law_pot" vF f fd)(B:dw mg):aT P w K mg base aF 1 f fd ["_law_script","_law_k"]^qJ K:=by
 refine F.bI vb λQb A outer s H vs Q E n h=>?_
 .obtain @⟨a,ns,k,rfl,g,o,r,t,q⟩:=h
  intro X;refine#[_,ar (a4 2 vb.nd aw)
   (ar (bo (bx uU (pv 1) (bV eQ (by rfl) B.len ew^aa (pv 0) ai)^bC _)
     (ay^a4 2 vb.nd^aU d2 (pv 0)^pv 1) bE)
   (ay^a3^eN (aa (bV (Bc Z) (by rfl) B.max boot_max^aa aw^aa (bN kS (bV B6 (by rfl) B.abs boot_abs^aa (pv 2) ai)^bN uB aw aw) ai)
    (aa (bN fq (bN fq (bN kT (bV B6 (by rfl) B.abs boot_abs^aa (pv 2) ai) aw)^bN oi aw^pv 1) aw) ai)))),?_]
  refine aW Z Z #[a,_,Z,.inl g,_,_,Z,Z,_,Z,?_];have e:∀c:Int,∀p,H p=none->Q (.ref p)^upd H p^.lst [.int (if (if c<0 then -c else c) - 10 ^ (18:Int).toNat>0 then (if c<0 then -c else c) - 10 ^ (18:Int).toNat else 0),.int ((if c<0 then -c else c) % 2147483587+101 * k+3)]:=λc p b=>by
   refine q p _ _ b ?_ () ()
   generalize (if c<0 then -c else c) - 10 ^ (18:Int).toNat=d;split <;> omega
  refine bZ (λj=>?_)^λj=>?_
  .have l:k<((ns.map V.int).length:Int):=dA j
   rw[aE]at l;obtain⟨z,m⟩:=Lr (ns:=ns) (i:=k.toNat) ()
   refine aW Z Z #[a,_,_,_,Z,Z,g,(by rw[show k=((k.toNat:Nat):Int) by omega];exact cx m),?_]
   refine af Z #[z,Z,_,_,Z,Z,#[∅,∅,∅],_,_,Z,Z,_,_,Z,?_]
   refine af Z #[z,Z,_,_,Z,Z,(by show(0:Int)<2147483587;decide),_,Z,_,_,Z,Z,.inl #[∅,∅],_,_,Z,Z,_,_,Z,Z,bQ,λp b=>e z p b]
  .refine af Z #[0,Z,_,_,Z,Z,#[∅,∅,∅],_,_,Z,Z,_,_,Z,?_]
   refine af Z #[0,Z,_,_,Z,Z,(by show(0:Int)<2147483587;decide),_,Z,_,_,Z,Z,.inl #[∅,∅],_,_,Z,Z,_,_,Z,Z,bQ,λp b=>e 0 p b]
inductive g0(vs:List V)(H:Hp)(Q:VK)(E:XK):Prop
 |mk{p:FG}{m x y:Int}(_:vs=[.ref p,.int m])(_:H p=ih (.lst [.int x,.int y]))(_:0<=x)(_:0<=y)(_:y<4294967296)(_:0<m)(_:m<4611686018427387904)(_:∀(d x' y':Int),0<=d->d<m->0<=x'->0<=y'->y'<4294967296->Q (.int d) (upd H p (.lst [.int x',.int y']))):g0 vs H Q E
theorem Dp:bp ["_law_pot_here","_law_many","_law_digit_here"] ["_law_pot_here","_law_many"]^aI oq:=bD
theorem tP(F:aQ K "_law_digit" "_law_digit" oq f fd):aT P w K mg base aF 1 f fd ["_law_pot_here","_law_many"] g0:=by
 refine F.bI Dp λQb A outer s H vs Q E j h=>?_
 .obtain @⟨p,m,x,y,rfl,c,d,e,g,a,k,q⟩:=h
  intro X;refine#[_,ar (bo (bx DQ (aU d2 (pv 0) aw) aw^bC _)
    (ar (a4 2 Dp.nd^bN kT (aU d2 (pv 0) aw)^pv 1)
    (ar (g6 (bN JP (aU d2 (pv 0) aw)^pv 1)^Dx (pv 0) aw set_list)
    (ay^a3^pv 2))) bE)
   (ar (g6 (bN kT (bN fq (bN oi (aU d2 (pv 0) aw) aw) aw) aw)^Dx (pv 0) aw set_list)
   (ay^a3^bN kT (bN KA (bN kT (bN oi (aU d2 (pv 0) aw)^aU d2 (pv 0) aw) aw) aw)^pv 1)),?_]
  have b:au K H p [.int x,.int y]:=au.of c;refine af Z #[p,_,0,_,Z,Z,b,Z,_,_,Z,Z,_,Z,?_];refine bZ (λi=>?_)^λi=>?_
  .refine af Z #[p,_,0,_,Z,Z,b,Z,_,Z,_,_,Z,Z,a,?_]
   refine af Z #[p,_,0,_,Z,Z,b,Z,_,Z,_,_,Z,Z,#[a,()],_,Z,p,_,0,0,Z,Z,c,Z,?_]
   refine af Z ?_;exact q _ _ _ (Ai _ ()) (Aj _ a) (Int.ediv_nonneg d ()) e g
  .refine af Z #[p,_,1,_,Z,Z,b,Z,_,_,Z,Z,.inr #[∅,∅],_,_,Z,Z,_,_,Z,Z,(by show(0:Int)<2147483647;decide),_,Z,p,_,1,1,Z,Z,c,Z,?_]
   have h1:=Ai (y * 39373+20011) (show(2147483647:Int)≠0 by decide)
   have h2:=Aj (y * 39373+20011) (show(0:Int)<2147483647 by decide)
   refine af Z^jr ah Z^af Z^jr ah Z #[_,_,Z,Z,.inl #[Vy ∅ h1,Vy h2 ∅],_,_,Z,Z,(by show(0:Int)<2147483563;decide),_,_,Z,Z,#[∅,∅],_,Z,_,_,Z,Z,a,?_]
   exact q _ x _ (Ai _ ()) (Aj _ a) d h1 ()
def cW(p:FG)(H:Hp):Prop:= ∃x y:Int,H p=ih (.lst [.int x,.int y])/\0<=x/\0<=y/\y<4294967296
structure bw(p:FG)(H H':Hp):Prop where
 ok:cW p H'
 kp:∀b o,H b=ih o->b≠p->H' b=ih o
section
variable{q:FG}{o:HO}
theorem bw.refl(h:cW p H):bw p H H:=#[h,λ_ _ e _=>e]
theorem bw.trans(a:bw p H Y)(b:bw p Y H2):bw p H H2:=#[b.ok,λc o e n=>b.kp c o (a.kp c o e n) n]
theorem cW.ne(h:cW p H)(a:H q=none):p≠q:=let ⟨_,_,e,_⟩:=h;aA e a
theorem bw.new(a:bw p H Y)(c:Y q=none):bw p H^upd Y q o:=by
 refine#[?_,λb u e n=>?_]
 .obtain⟨x,y,e,r⟩:=id a.ok
  exact#[x,y,by rw[ag^a.ok.ne c];exact e,r]
 .rw[ag^aA (a.kp b u e n) c];exact a.kp b u e n
theorem bw.free(a:bw p H Y)(b:Y q=none):H q=none:=by
 cases e:H q with
 |none=>rfl
 |some u =>
  by_cases h:q=p
  .subst h;obtain⟨_,_,z,_⟩:=a.ok;rw[z]at b;cases b
  .rw[a.kp q u e h]at b;cases b
theorem bw.write(a:bw p H Y)(c:H q=none)(d:p≠q):bw p H^upd Y q o:=by
 refine#[?_,λb u e n=>?_]
 .obtain⟨x,y,e,r⟩:=id a.ok
  exact#[x,y,by rw[ag d];exact e,r]
 .rw[ag^aA e c];exact a.kp b u e n
theorem c6{E:XK}(h:cW p H)(a:0<m)(c:m<4611686018427387904)(k:∀d H',0<=d->d<m->bw p H H'->Q (.int d) H'):g0 [.ref p,.int m] H Q E:=by
 obtain⟨x,y,e,f,g,i⟩:=h;exact#[Z,e,f,g,i,a,c,λd j l q d1 h1 h2 r=>k d _ q d1 #[#[j,l,ah,h1,h2,r],λb o z n=>by rw[ag n];exact z]]
end
theorem BM:∀a:am Nat,((a.map sign).map (·.length)).sum=a.length
 |[]=>rfl
 |c::a=>by
  have e:(sign c).length=1:=rfl;simp only[bY,Af,BM a,c4,e];omega
abbrev kN:Gd:= "abcdefghijklmnopqrstuvwxyz"
theorem BN{d:Int}(h0:0<=d)(h1:d<26):∃c:Nat,cN kN.cps.toList d=ih c/\97<=c/\c<=122/\c=97+d.toNat:=by
 have all:∀i:Nat,i<26->kN.cps.toList[i]?=ih (97+i):=⋯
 refine#[97+d.toNat,?_,(),(),Z]
 rw[show d=((d.toNat:Nat):Int) by omega]
 exact cx^all d.toNat ()
inductive jQ(vs:List V)(H:Hp)(Q:VK)(E:XK):Prop
 |mk{p:FG}{m:Nat}(_:vs=[.ref p,.int m])(_:cW p H)(_:m<=20)(_:∀(l:FG) (ys:List Gd) (H':Hp),H l=none->ys.length=m->(∀y∈ys,Nm y)->ys.Nodup->bw p H H'->H' l=ih (.lst (ys.map V.str))->Q (.ref l) H'):jQ vs H Q E
noncomputable abbrev qB:List Gd:=["_law_pot_here","_law_many","_law_letters","_law_found","_law_k","_law_size","_law_name","_law_some"]
theorem jR:bp qB ["_law_pot_here","_law_many"]^aI ja:=bD
def uP(s:Vm):List Vm:=match s with|.If _ b _ _=>b|_=>[]
abbrev O2:Y0:=cK (gz (fy (bW (mj (bW (bJ ja) 2)) 1)))
abbrev O3:Y0:=cK (fy (bW (uP (bW (mj (bW (bJ ja) 2)) 2)) 0))
abbrev O4:Y0:=cK (O1 (fy (bW (uP (bW (mj (bW (bJ ja) 2)) 2)) 1)))
theorem E8:b8 qB (aI ja) ["_law_turn","_law_letters","_law_pot_here"] [none,ih 2,ih 0] O2:=dF
theorem E9:b8 qB (aI ja) ["_law_turn","_law_letters","_law_name"] [none,ih 2,ih 6] O3:=dF
theorem E':b8 qB (aI ja) ["_law_one","_law_found"] [none,ih 3] O4:=dF
theorem Kd{yd:X3}(F:aQ K "_law_names" "_law_names" ja f fd)(B:dw mg)(xb:aQ K "_law_digit" "_law_digit" oq fD yd)(yf:Binds K yd ["_law_pot_here","_law_many"] [])(zf:mg "_law_digit" = ih^.ref fD) :
  aT P w K mg base aF 3 f fd ["_law_pot_here","_law_many"] jQ:=by
 have xg:aT P w K mg base aF 1 fD yd ["_law_pot_here","_law_many"] g0:=tP xb;refine F.bI jR λQb A outer s H vs Q E zw h=>?_
 .obtain @⟨p,m,rfl,ym,zx,q⟩:=h
  have zd:aZ 1 _:=zw.mono ∅
  intro X;refine#[_,ar (iA (i:=2) jR.nd Z (YS Z) br)
   (ar (iA (i:=3) jR.nd Z (YS Z)^eN ai)
   (ar (ee dZ Z (iZ Z B.range^aa (pv 1) ai) (ba 4 jR.nd)
    (ar (a4 5 jR.nd^bN fq aw^f3 xg zd Z zf xb.kp yf .nil c8^aa (pv 0)^aa (aU d2 (eN^aa aw^aa aw^aa aw ai)
      (f3 xg zd Z zf xb.kp yf .nil c8^aa (pv 0)^aa aw ai)) ai)
    (ar (iA (i:=6) jR.nd Z (YS Z) (gw PySem.F.plainAttrs_str PySem.F.slot_str_join PySem.F.type_str_join KZ br
      (aa (d7 Z E8 (iZ Z B.range^aa (pv 5) ai)^λs H fp=>#[ba 0 E8.nd,ey,aU DA (pv 1) (f3 xg zd Z zf xb.kp yf .nil c8^aa (pv 2)^aa aw ai)^λ_ _=>rfl]) ai)))
    (ar (bo (bx jJ (pv 6) (pv 3) Z)
      (ar (lZ (i:=7) Z E9 jR.nd Z Z (iZ Z B.range^aa (bN fq (pv 1) aw) ai)^λs H fp=>#[ba 0 E9.nd,ey,
        bN AH (bN AH (i0 Mi (pv 2) i6^iz aw)^aU DA (pv 1)^pv 0) br])
      (ay^iA (i:=6) jR.nd Z (YS Z)^aU d2 (d7 Z E' (c7^pv 7)^λs H fp=>#[ba 0 E'.nd,i1^bx (HU K Z) (pv 0) (pv 1) Z,pv 0]) aw))
      bE)
    (ay^eL^gw hQ nB nC jK (pv 3)^aa (pv 6) ai)))))
   (ay^a3^pv 3))),?_]
  refine#[bF _,λl L=>?_];have S:p≠l:=ym.ne L;have zm:((m:Int)).toNat=m:=gD m;refine#[_,Z,(m:Int),Z,(),(),l0 (λi σ Y=>∃(ys:am Gd) (yg zg xh yh:a2 V),σ=[bd p,ih^.int m,ih^.str kN,bd l,yg,zg,xh,yh]/\ys.length=i/\(∀y∈ys,Nm y)/\ys.Nodup/\bw p H Y/\Y l=ce^ys.map V.str)
   #[[],none,none,none,none,Z,Z,(λy r=>by simp at r),ff,(bw.refl ym).new L,ah] ?_ ?_]
  .rintro i σ Y hi ⟨ys,yg,zg,xh,yh,rfl,I,T,U,C,xe⟩
   rw[zm]at hi;refine af Z #[gS,λa zh=>af Z ?_];have xq:a≠p:=aS^C.ok.ne zh;refine c6 (p:=p) (m:=3) ((bw.refl C.ok).new zh).ok ∅ ∅ λd H2 xn d1 xi=>?_
   obtain⟨M,yq,zq,yx⟩:∃M:Int,cN [V.int 1,V.int 2,V.int 8] d=ih (V.int M)/\0<M/\M<=8:=by
    have:d=0\/d=1\/d=2:=()
    rcases this with rfl|rfl|rfl
    .exact#[1,Z,∅,∅]
    .exact#[2,Z,∅,∅]
    .exact#[8,Z,∅,∅]
   refine e9 (xi.kp a _ ah xq) yq ?_;refine c6 (p:=p) (m:=M) xi.ok zq () λe yi e0 e1 yb=>#[_,_,Z,Z,?_]
   have yn:bw p Y yi:=(((bw.refl C.ok).new zh).trans xi).trans yb;have xr:yi l=ce^ys.map V.str:=yn.kp l _ xe^aS S;refine#[Z,_,Z,1+e,Z,(),(),λN ye=>?_]
   have xl:p≠N:=yb.ok.ne ye;refine pM (λi zs k n=>∃(o:am Nat) (t:a2 V),zs=(o.map sign).map V.str/\o.length=i/\(∀c∈o,97<=c/\c<=122)/\k=[t,ih^.str kN,bd p]/\bw p yi n/\n N=ce zs)
    #[[],none,Z,Z,(λc v=>by simp at v),Z,(bw.refl yb.ok).new ye,ah] (λi zs k n ab=>by obtain⟨_,_,_,_,_,_,_,z⟩:=ab;exact z) ?_ ?_
   .rintro j zs k n O ⟨o,t,rfl,W,ze,rfl,R,zi⟩
    refine aW Z Z (c6 (p:=p) (m:=26) R.ok ∅ ∅ λd G xn d1 xo=>?_)
    obtain⟨c,v,yo,zo,_⟩:=BN xn d1;have yr:G N=_:=xo.kp N _ zi^aS xl;refine#[kN,d,c,Z,Z,(by rw[aV];decide +kernel),v,yr,?_,cw_next O #[o++[c],_,?_,?_,?_,Z,?_,ah]]
    .rw[aE,aE,W,aV];omega
    .rw[bj,bj];rfl
    .rw[cz,W];rfl
    .intro x zb
     rcases bT.mp zb with h|h
     .exact ze x h
     .have:x=c:=by simpa using h
      rw[this];exact#[yo,zo]
    .exact(R.trans xo).write ((bw.refl yb.ok).free ye) xl
   .rintro zs k n ⟨o,t,rfl,W,ze,rfl,R,zi⟩
    have xt:((o.map sign).map (·.length)).sum=o.length:=by
     exact BM o
    refine#[("" : Gd),N,o.map sign,Z,Z,.inl^au.of zi,?_,?_]
    .have:(aca ("" : Gd))=0:=rfl
     rw[xt,this,W];omega
    rw[HQ];generalize yk:(#[o.toArray]:Gd)=g;have xd:Nm g:=by
     have xy:g.length=o.length:=by rw[<-yk];show o.toArray.size=_;simp
     refine#[(),(),λc v=>ze c ?_]
     rw[<-yk]at v;simpa using v
    have xp:bw p Y n:=yn.trans R;have J:n l=ce^ys.map V.str:=R.kp l _ xr^aS S;refine aW Z Z #[l,_,Z,.inl^au.of J,Z,jL _,_,Z,?_];rw[ao b7,i2];refine bZ (λyl=>?_)^λyl=>?_
    ·
     refine af Z #[_,_,Z,Z,(m:Int)+1,Z,(),(),λD zl=>?_]
     refine pM (λi zs k G=>∃t:a2 V,zs=((VQ i).map λj=>Yc g none^ih 6++sign (97+j)++("q" : Gd)).map V.str/\k=[t,ih^.str kN,ih^.str g]/\G=upd n D^.lst zs)
      #[none,Z,Z,Z] (λi zs k G ⟨_,_,_,z⟩=>by rw[z];exact ah) ?_ ?_
     .rintro j zs k G O ⟨t,rfl,rfl,rfl⟩
      obtain⟨c,v,yo,zo,yt⟩:=BN (d:=0+(j:Int)) () ()
      have zp:c=97+j:=by rw[yt];omega
      have yy:(Yc g none^ih 6).length<=6:=AO g;refine aW Z Z #[g,Z,by have:=xd.hi;omega,_,Z,_,Z,kN,_,c,Z,Z,(by rw[aV];decide +kernel),v,_,_,Z,Z,?_,_,_,Z,Z,?_,ah,?_,cw_next O #[_,?_,Z,?_]]
      .show _+1<=UM;rw[aV];omega
      .have e1:(Yc g none^ih 6++(#[#v[c]]:Gd)).length=(Yc g none^ih 6).length+1:=by
        show(_ ++ #v[c]:Array Nat).size=_;rw[sh];rfl
       have e2:(("q" : Gd)).length=1:=⋯
       show(Yc g none^ih 6++(#[#v[c]]:Gd)).length+_<=UM;rw[e1,e2,aV];omega
      .rw[aE,aE,F0,aV];omega
      .rw[aaA,bj,bj,zp];rfl
      .rw[fJ]
     .rintro zs k G ⟨t,rfl,rfl,rfl⟩
      have zt:((m:Int)+1).toNat=m+1:=()
      generalize xf:(VQ ((m:Int)+1).toNat).map (λj=>Yc g none^ih 6++sign (97+j)++("q" : Gd))=cands;have xu:cands.Nodup:=by
       rw[<-xf];refine Vz _ (λa b yu h=>yu ?_) aan;have:=JE h;omega
      have zu:∀y∈cands,Nm y:=by
       intro y r;rw[<-xf]at r;obtain⟨j,O,rfl⟩:=a8.mp r;have:=ju.mp O;exact K0 xd.az #[(),()]
      have xx:cands.length=m+1:=by rw[<-xf,aE,F0,zt]
      have xa:upd n D (.lst^cands.map V.str) l=ce^ys.map V.str:=by rw[ag^aA J zl];exact J
      refine af Z #[D,Z,#[_,au.of ah],λxc ya=>?_];refine fB (xs:=cands.map V.str) (λi zs k yc=>∃t:a2 V,zs=((cands.take i).filter (λy=>!decide (y∈ys))).map V.str/\k=[t,bd l]/\yc=upd (upd n D^.lst^cands.map V.str) xc^.lst zs)
       #[none,Z,Z,Z] (λi zs k yc ⟨_,_,_,z⟩=>by rw[z];exact#[ah,au.of^by rw[ag^aA ah ya];exact ah]) ?_ ?_
      .rintro j x zs k yc zb ⟨t,rfl,rfl,rfl⟩
       rw[c5]at zb;obtain⟨y,r,rfl⟩:=gF.mp zb;have xm:j<(cands.map V.str).length:=by rw[aE];exact(b4.mp r).1
       have tk:cands.take (j+1)=cands.take j++[y]:=by rw[dQ,r];rfl
       have za:(upd (upd n D^.lst^cands.map V.str) xc^.lst^((cands.take j).filter (λy=>!decide (y∈ys))).map V.str) l=ce^ys.map V.str:=by rw[ag^aA xa ya];exact xa
       refine aW Z Z #[l,_,Z,.inl^au.of za,Z,jL _,_,Z,?_];rw[aB Z,i2];refine bZ (λxj=>?_)^λxj=>?_
       .refine af Z #[ah,?_,cw_next xm #[_,?_,Z,?_]]
        .have h1:=gn (λy=>!decide (y∈ys))^cands.take j
         have h2:(cands.take j).length<=cands.length:=by rw[cH];omega
         rw[aE,aV];omega
        .rw[tk,gp,bj,kD,aB xj];rfl
        .rw[fJ]
       .refine cw_next xm #[_,?_,Z,Z]
        rw[tk,gp,kD,ao xj,sv,e6]
      .rintro zs k yc ⟨t,rfl,rfl,rfl⟩
       rw[aE,cF];obtain⟨y0,xv,yv⟩:=uH (found:=ys) xu ()
       have zk:y0∈cands.filter (λy=>!decide (y∈ys)):=eb.mpr #[xv,⇑yv]
       cases yp:cands.filter (λy=>!decide (y∈ys)) with
       |nil=>rw[yp]at zk;simp at zk
       |cons u zr =>
        have zv:u∈cands.filter (λy=>!decide (y∈ys)):=by rw[yp];exact aY
        obtain⟨zc,zn⟩:=eb.mp zv;have xw:u ∉ ys:=by simpa using zn
        have za:(upd (upd n D^.lst^cands.map V.str) xc^.lst^(u::zr).map V.str) l=ce^ys.map V.str:=by rw[ag^aA xa ya];exact xa
        have yj:bw p H^upd (upd n D^.lst^cands.map V.str) xc^.lst^(u::zr).map V.str:=((C.trans xp).new zl).new ya;refine jr ah (show cN ((u::zr).map V.str) ((0:Nat):Int)=ih^V.str u from cx Z) ?_;refine af Z #[.inl #[Z,_,au.of za],_,Z,l,_,_,Z,Z,za,?_,?_]
        .rw[aE,aV];omega
        .refine#[ys++[u],_,_,_,_,Z,by rw[cz,I];rfl,?_,?_,?_,?_]
         .intro y r
          rcases bT.mp r with h|h
          .exact T y h
          .have:y=u:=by simpa using h
           rw[this];exact zu u zc
         .rw[dz]
          exact#[U,by simp,λa zj b xk=>by rw[show b=u by simpa using xk];exact λh=>xw (h ▸ zj)]
         .exact yj.write L S
         .rw[ah,bj];rfl
    .have yw:g ∉ ys:=by simpa using yl
     have yj:bw p H n:=C.trans xp;refine af Z #[.inl #[Z,_,au.of J],_,Z,l,_,_,Z,Z,J,?_,?_]
     .rw[aE,aV];omega
     .refine#[ys++[g],_,_,_,_,Z,by rw[cz,I];rfl,?_,?_,?_,?_]
      .intro y r
       rcases bT.mp r with h|h
       .exact T y h
       .have:y=g:=by simpa using h
        rw[this];exact xd
      .rw[dz]
       exact#[U,by simp,λa zj b xk=>by rw[show b=g by simpa using xk];exact λh=>yw (h ▸ zj)]
      .exact yj.write L S
      .rw[ah,bj];rfl
  .rintro σ Y ⟨ys,yg,zg,xh,yh,rfl,I,T,U,C,xe⟩
   rw[zm]at I;exact af Z^q l ys Y L I T U C xe
end eH
namespace eH
open L2 W HT
theorem Hy(K:Ys)(h:X.K=K):cU X (.type "list") (λxs H Q=>∃p ys,xs=[.ref p]/\(au K H p ys\/aX K H p ys) /\∀l,H l=none->Q (.ref l)^upd H l^.lst ys):=by subst h;exact jH
theorem Hz(K:Ys)(h:X.K=K)(a:X.calm=true):cU X (.builtin "any") (λxs H Q=>∃(p:FG) (bs:am Bool),xs=[.ref p]/\au K H p^bs.map V.bl/\Q (.bl^bs.any id) H):=by subst h;exact Bv a
theorem Ja(K:Ys)(h:X.K=K):mX X^Eg K:=by subst h;exact mf
def gx(av:FG->Prop)(H:Hp)(vs:List V)(rows:List (List Gd)):Prop:=VT (λy r=>∃a,y=V.ref a/\av a/\H a=ih (.lst (r.map V.str))) vs rows
theorem l4{av:FG->Prop}{H:Hp}:∀{vs:am V}{rows:am (List Gd)}{i:Nat}{v:V},gx av H vs rows->vs[i]?=ih v ->∃a r,v=V.ref a/\rows[i]?=ih r/\av a/\H a=ce^r.map V.str
 |_,_,i,v,.nil,e=>by simp at e
 |_,_,0,v,.cons p _,e=>by
  obtain⟨a,rfl,n,q⟩:=p;simp at e;subst e;exact#[a,_,Z,Z,n,q]
 |_,_,i+1,v,.cons _ t,e=>by
  obtain⟨a,r,e1,e2,n,q⟩:=l4 (i:=i) t ⇑e
  exact#[a,r,e1,⇑e2,n,q]
theorem jI{b:FG->Prop}(h:gx av H vs rows)(f:∀a xs,av a->H a=ce xs->b a/\H' a=ce xs):gx b H' vs rows:=
 Paired.imp' (λ_ _ c=>by obtain⟨a,e,n,q⟩:=c;exact #[a,e,(f a _ n q).1,(f a _ n q).2]) h
theorem sL(h:gx av H vs rows)(n:av a)(q:H a=ce^r.map V.str):gx av H (vs++[.ref a]) (rows++[r]):=gX h #[a,Z,n,q]
theorem kE(h:gx av H vs rows):vs.length=rows.length:=cy h
theorem mH(h:Nm x):VI x=true:=by
 unfold VI;rw[<-Array.all_toList,ny];intro c a;have:=(h.az c a).2;exact cb ()
theorem ma(H:Hp):∀xs:am Gd,bM H (xs.map V.str)^xs.map VB
 |[]=>.nil
 |x::xs=>.cons (.str x)^ma H xs
theorem nY:∀{xs:am Gd},(∀x∈xs,Nm x)->X'^xs.map VB=true
 |[],_=>rfl
 |x::xs,h=>by
  show(VI x&&X'^xs.map VB)=true;rw[mH^h x aY,nY λy a=>h y^bh _ a];rfl
theorem nH:∀xs:am Gd,Vs^xs.map VB=0
 |[]=>rfl
 |x::xs=>by rw[bY];simp only[Vs,Yi,nH xs,Nat.max_self]
theorem ne_nil{xs:am Gd}(c:H a=ce^xs.map V.str)(d:H b=ce [])(e:∀x∈xs,Nm x)(q:Q (.bl (!xs.isEmpty)) H):Em (.ref a) (.ref b) H Q:=by
 refine#[.list^xs.map VB,.list [],.lst c^ma _ _,.lst d .nil,nY e,Z,by show Vs _+1<=60;rw[nH];decide,?_]
 cases xs with
 |nil=>exact q
 |cons x xs=>exact q
theorem eq_nil{xs:am Gd}(c:H a=ce^xs.map V.str)(d:H b=ce [])(e:∀x∈xs,Nm x)(q:Q (.bl xs.isEmpty) H):El (.ref a) (.ref b) H Q:=by
 refine#[.list^xs.map VB,.list [],.lst c^ma _ _,.lst d .nil,nY e,Z,by show Vs _+1<=60;rw[nH];decide,?_]
 cases xs with
 |nil=>exact q
 |cons x xs=>exact q
theorem nZ(xs:am V)(k:Nat):fX xs (ih (k:Int)) none=xs.drop k:=by
 unfold fX;rw[HT.Jv,HT.KL]
 by_cases h:k<=xs.length
 .rw[aaK h,Gs^by rw[m9];omega]
 .rw[aax (),Ag,U9 ()];simp
def busy(rest:List (List Gd))(x:Gd):Bool:=rest.any λo=>decide (x∈o.drop 1)
def cX(all:List (List Gd)):List (List Gd)->List Gd
 |[]=>[]
 |[]::rest=>cX all rest
 |(x::_)::rest=>if busy all x then cX all rest else x::cX all rest
theorem pU{n:Gd}:∀{k:Nat}{rest:am (List Gd)},d0 k rest n=none ↔ ∀r∈rest,n∈r->r.head?=ih n
 |k,[]=>by simp[d0]
 |k,[]::rest=>by
  show d0 (k+1) rest n=none ↔ _;rw[pU (k:=k+1) (rest:=rest)];simp
 |k,(x::r)::rest=>by
  show(if n∈x::r/\x≠n then ih (k,x) else d0 (k+1) rest n)=none ↔ _
  by_cases h:n∈x::r/\x≠n
  .rw[aB h]
   constructor
   .intro z;cases z
   .intro z
    have:=z _ aY h.1;exact absurd ⇑this h.2
  .rw[ao h,pU (k:=k+1) (rest:=rest)]
   constructor
   .intro z q hq a
    rcases bL.mp hq with rfl|hq
    .by_cases e:x=n
     .rw[e];rfl
     .exact absurd #[a,e] h
    .exact z q hq a
   .exact λz q hq=>z q^bh _ hq
theorem Cw{all:am^List Gd}(b:∀r∈all,r.Nodup)(x:Gd):busy all x=false ↔ d0 0 all x=none:=by
 rw[pU];unfold busy;rw[wF]
 constructor
 .intro h q c hx
  have h1:=h q c;cases q with
  |nil=>simp at hx
  |cons y t =>
   rcases bL.mp hx with rfl|hx
   .rfl
   .exact absurd ⇑hx h1
 .intro h r a
  cases r with
  |nil=>simp
  |cons y t =>
   intro hx;have hx:x∈t:=by simpa using hx
   obtain rfl:y=x:=by simpa using h _ a^bh _ hx
   exact(d6.mp^b _ a).1 hx
theorem sY{all:am^List Gd}(a:∀r∈all,r.Nodup):∀rest:am (List Gd),(cX all rest).head?=hS all rest
 |[]=>rfl
 |[]::rest=>sY a rest
 |(x::t)::rest=>by
  show(if busy all x then cX all rest else x::cX all rest).head?=if (d0 0 all x).isNone then ih x else hS all rest;cases b:busy all x with
  |false=>rw[(Cw a x).mp b];rfl
  |true =>
   have c:(d0 0 all x).isNone=false:=by
    cases z:d0 0 all x with
    |none=>rw[(Cw a x).mpr z]at b;cases b
    |some _=>rfl
   rw[c];exact sY a rest
theorem nI(all:am^List Gd)(r:am Gd):∀rest:am (List Gd),cX all (rest++[r])=cX all rest++cX all [r]
 |[]=>rfl
 |[]::rest=>nI all r rest
 |(x::t)::rest=>by
  show(if busy all x then cX all (rest++[r]) else x::cX all (rest++[r]))=(if busy all x then cX all rest else x::cX all rest)++cX all [r];rw[nI all r rest];split <;> rfl
theorem tx(all:am^List Gd):∀rest:am (List Gd),(cX all rest).length<=rest.length
 |[]=>aP _
 |[]::rest=>Ge^tx all rest
 |(x::t)::rest=>by
  have:=tx all rest;show(if busy all x then cX all rest else x::cX all rest).length<=rest.length+1;split
  .omega
  .rw[c4];omega
theorem pV{all:am^List Gd}{n:Gd}:∀{rest:am (List Gd)},n∈cX all rest ->∃r∈rest,n∈r
 |[],h=>by simp[cX]at h
 |[]::rest,h=>let ⟨r,a,e⟩:=pV (rest:=rest) h;#[r,bh _ a,e]
 |(x::t)::rest,h=>by
  have h:n∈(if busy all x then cX all rest else x::cX all rest):=h;split at h
  .obtain⟨r,a,e⟩:=pV (rest:=rest) h
   exact#[r,bh _ a,e]
  .rcases bL.mp h with rfl|h
   .exact#[_,aY,aY]
   .obtain⟨r,a,e⟩:=pV (rest:=rest) h
    exact#[r,bh _ a,e]
theorem AY(h:∀r∈rest,r.Nodup):∀r∈L2.without n rest,r.Nodup:=by
 intro r a;obtain⟨q,b,rfl⟩:=a8.mp a;exact(h q b).filter _
structure Ew(H:Hp)(rows:List (List Gd))(l fa:FG)(m:Nat)(σ:St)(Y:Hp)(rest:List (List Gd))(lv:List V)(cG:List Gd)(la:FG):Prop where
 st:∃v3:Option V,σ=[ih (.ref l),ih (.ref la),ih (.ref fa),v3]
 mm:m=total rest
 we:Y la=ih (.lst lv)
 rr:gx (λa=>a≠fa) Y lv rest
 ne:la≠fa
 QF:Y fa=ih (.lst (cG.map V.str))
 sm:Small rest
 nd:∀r∈rest,r.Nodup
 same:ax H Y
 lim:cG.length+total rest<=1000
 eq:cB (total rows) rows=(cB (total rest) rest).map (cG ++ ·)
noncomputable abbrev oY:List Gd:=["_law_rows","_law_left","_law_found","_law_free"]
theorem oL:bp oY ["_law_rows"]^aI ix:=bD
def Jb(s:Vm):VH:=match s with|.While t _ _ _=>t|_=>.Constant .none 0 ⟨0,0,0,0⟩
def DJ(e:VH):VH:=match e with|.ListComp _ (⟨_,_,i::_,_⟩::_) _ _=>i|_=>.Constant .none 0 ⟨0,0,0,0⟩
def uQ(e:VH)(i:Nat):VH:=match e with|.BoolOp _ es _=>es.getD i (.Constant .none 0 ⟨0,0,0,0⟩)|_=>.Constant .none 0 ⟨0,0,0,0⟩
def Ex(e:VH):VH:=match e with|.UnaryOp _ x _=>x|_=>.Constant .none 0 ⟨0,0,0,0⟩
noncomputable abbrev sW:Vm:=bW (bJ ix) 2
noncomputable abbrev eA:VH:=fy (bW (bJ ix) 0)
abbrev eB:VH:=gz (Jb sW)
noncomputable abbrev eC:VH:=fy (bW (nO sW) 0)
abbrev eD:VH:=gz (Ex (uQ (DJ eC) 1))
noncomputable abbrev eE:VH:=fy (bW (nO sW) 3)
theorem Fb:b8 oY (aI ix) ["_law_row"] [none]^cK eA:=dF
theorem Fc:b8 oY (aI ix) ["_law_row"] [none]^cK eB:=dF
theorem Fd:b8 oY (aI ix) ["_law_row","_law_left"] [none,ih 1]^cK eC:=dF
theorem QG:b8 ["_law_row","_law_left"] (relabel (cK eC) env) ["_law_other","_law_row"] [none,ih 0]^cK eD:=nest Z ⋯ ⋯ rfl ⋯ ⋯
theorem QH:(["_law_other","_law_row"]:am Gd).Nodup:=⋯
theorem Fe:b8 oY (aI ix) ["_law_row","_law_free"] [none,ih 3]^cK eE:=dF
theorem QI:b8 ["_law_row","_law_free"] (relabel (cK eE) env) ["_law_name","_law_free"] [none,ih 1]^cK^DX eE:=nest Z ⋯ ⋯ rfl ⋯ ⋯
theorem QJ:(["_law_name","_law_free"]:am Gd).Nodup:=⋯
inductive q7(vs:List V)(H:Hp)(Q:VK)(E:XK):Prop
 |mk{l:FG}{ws:List V}{rows:List (List Gd)}(_:vs=[.ref l])(_:H l=ih (.lst ws))(_:gx (λ_=>True) H ws rows)(_:Small rows)(_:(∀r∈rows,r.Nodup))(_:(cB (total rows) rows=none ->∀H',ax H H'->Q .aK H'))(_:(∀o,cB (total rows) rows=ih o ->∀p H',H p=none->ax H H'->H' p=ih (.lst (o.map V.str))->Q (.ref p) H')):q7 vs H Q E
theorem Nz(F:aQ K "_law_merged" "_law_merged" ix f fd)(B:dw mg):aT P w K mg base aF 1 f fd ["_law_rows"] q7:=by
 refine F.bI oL λQb A outer s H vs Q E zn h=>?_
 .obtain @⟨l,ws,rows,rfl,zv,xw,xj,xy,qn,zC⟩:=h
  have xo:=zn.units;intro X;refine#[_,ar (iA (i:=1) oL.nd Z (YS Z)^d7 Z Fb (c7^pv 0)^λs H fp=>#[ba 0 Fb.nd,ey,df (Hy K Z) Z B.list boot_list^aa (pv 0) ai])
   (ar (a4 2 oL.nd^eN ai)
   (ar (nQ dZ (kI (bV (Bv Z) Z B.any boot_any^aa (d7 Z Fc (c7^pv 1)^λs H fp=>#[ba 0 Fc.nd,ey,jO (qx xo) (pv 0) (eN ai)^bC _]) ai)^λ_=>rfl)
    (ar (iA (i:=3) oL.nd Z (YS Z)^d7 Z Fd (c7^pv 1)^λs H fp=>#[qf (i:=0) Fd.nd Z^YS Z,
      i1^PW.pt^pw_and (bx (qx xo) (pv 0) (eN ai)^bC _)^pw_and1^gv^gu^bV (Hz K Z Z) Z B.any boot_any^aa (d7 Z QG (Bp K Z^pv 1)^λs H fp=>#[ba 0 QH,ey,jO (C2 K Z) (aU (tj K Z) (pv 1) aw) (i0 (Ja K Z) (pv 0) (iz aw) i6) Z]) ai,
      aU (tj K Z) (pv 0) aw^λ_ _=>rfl])
    (ar (bo (bx (uG xo) (pv 3) (eN ai)^bC _) (ay^a3 d3) bE)
    (ar (eL^gw hQ nB nC jK (pv 2)^aa (aU d2 (pv 3) aw) ai)
    (ay^iA (i:=1) oL.nd Z (YS Z)^d7 Z Fe (c7^pv 1)^λs H fp=>#[ba 0 Fe.nd,ey,
      d7 Z QI (Bp K Z^pv 0)^λs H fp=>#[ba 0 QJ,i1^bx je (pv 0) (aU (tj K Z) (pv 1) aw)^bC _,pv 0]])))))
   (ay^a3^pv 2))),?_]
  refine af Z #[l,Z,#[_,au.of zv],λyh yp=>?_];refine fB (xs:=ws) (λi ys g Y=>∃v:a2 V,g=[v]/\Y yh=ce ys/\ax H Y/\gx (λa=>a≠yh) Y ys^rows.take i) #[none,Z,ah,aJ yp,.nil] (λi ys g Y ab=>by obtain⟨_,_,O,S,_⟩:=ab;exact #[O,au.of^S _ _ zv]) ?_ ?_
  .rintro i x ys g Y D ⟨v,rfl,h1,zf,zd⟩
   obtain⟨a,r,rfl,J,_,T⟩:=l4 xw D;have N:i<ws.length:=(b4.mp D).1;have tk:rows.take (i+1)=rows.take i++[r]:=by rw[dQ,J];rfl
   refine af Z #[a,_,Z,.inl^au.of^zf _ _ T,λc U=>?_];have yo:=aJ (o:=.lst^r.map V.str) U;have xr:c≠yh:=aS^aA h1 U;refine#[yo _ _ h1,?_,cw_next N #[_,Z,ah,λb o d=>?_,?_]]
   .have h2:=kE zd
    have ya:=xj.a5;rw[cH]at h2;rw[aV];omega
   .rw[ag^aA d yp];exact yo _ _^zf b o d
   .rw[tk]
    refine sL (jI zd λb xs C d=>#[C,by rw[ag C];exact yo _ _ d]) xr ?_
    rw[ag xr];exact ah
  .rintro yy g Y ⟨v,rfl,h1,zf,zd⟩
   rw[kE xw,cF]at zd;refine#[bF _,λk zh=>?_];have zo:=aJ (o:=.lst []) zh;have zp:H k=none:=zf.free zh;refine#[λm σ H2=>∃rest lv q L,Ew H rows l k m σ H2 rest lv q L,#[_,rows,yy,[],yh,#[none,Z],Z,zo _ _ h1,jI zd λb xs C d=>#[aA d zh,zo _ _ d],aA h1 zh,ah,xj,xy,zf.trans zo,by have:=pI xj.short;have:=xj.a5;simp only[jA];omega,by cases cB (total rows) rows <;> rfl],?_]
   rintro m σ H2 ⟨rest,lv,q,L,R⟩;obtain⟨xF,rfl⟩:=R.st;refine af Z #[L,Z,#[_,au.of R.we],λyw yr=>?_];refine fB (xs:=lv) (λi ys g W=>∃v:a2 V,g=[v]/\ys=((rest.take i).map λr=>!r.isEmpty).map V.bl/\W yw=ce ys/\ax H2 W) #[none,Z,Z,ah,aJ yr] (λi ys g W ab=>by obtain⟨_,_,_,O,S⟩:=ab;exact #[O,au.of^S _ _ R.we]) ?_ ?_
   .rintro i x ys g W D ⟨v,rfl,rfl,ya,za⟩
    obtain⟨a,r,rfl,J,_,T⟩:=l4 R.rr D;have N:i<lv.length:=(b4.mp D).1;have tk:rest.take (i+1)=rest.take i++[r]:=by rw[dQ,J];rfl
    have xe:=eu J;refine af Z #[bF _,λz xg=>?_];have p:=aJ (o:=.lst []) xg;refine ne_nil (p _ _^za _ _ T) ah (R.sm.nm r xe) ?_;refine#[p _ _ ya,?_,cw_next N^af Z #[by rw[tk,bj,bj];rfl,ah,λb o d=>by rw[ag^aA d yr];exact p _ _^za b o d]]
    have yc:=R.sm.a5;rw[aE,aE,cH,aV];omega
   .rintro bs g W ⟨v,rfl,rfl,ya,za⟩
    rw[kE R.rr,cF]at ya;refine#[yw,_,Z,au.of ya,_,Z,?_];have zy:((rest.map λr=>!r.isEmpty).any id)=rest.any λr=>!r.isEmpty:=by rw[wV];rfl
    rw[zy];have yd:=za _ _ R.we;have yk:=za _ _ R.QF;have ye:gx (λa=>a≠k) W lv rest:=jI R.rr λb xs C d=>#[C,za _ _ d];have zr:=R.same.trans za;refine bZ (λyj=>?_)^λyj=>?_
    .refine#[λxz H'=>∃zw,zw<m /\∃rest lv q L,Ew H rows l k zw xz H' rest lv q L,λ_ _ z=>z,?_]
     refine af Z #[L,Z,#[_,au.of yd],λzc zl=>?_];refine fB (xs:=lv) (λi ys g xb=>∃v:a2 V,g=[v,bd L]/\ys=(cX rest^rest.take i).map V.str/\xb zc=ce ys/\ax W xb) #[none,Z,Z,ah,aJ zl] (λi ys g xb ab=>by obtain⟨_,_,_,O,S⟩:=ab;exact #[O,au.of^S _ _ yd]) ?_ ?_
     .rintro i x ys g xb D ⟨v,rfl,rfl,yc,I⟩
      obtain⟨a,r,rfl,J,_,T⟩:=l4 ye D;have N:i<lv.length:=(b4.mp D).1;have tk:rest.take (i+1)=rest.take i++[r]:=by rw[dQ,J];rfl
      have xe:=eu J;have xq:=I _ _ T;refine af Z #[bF _,λz xg=>?_];have p:=aJ (o:=.lst []) xg;refine ne_nil (p _ _ xq) ah (R.sm.nm r xe)^af Z ?_;have xa:=p _ _ yc;cases r with
      |nil=>exact cw_next N^af Z #[by rw[tk,nI];show _=(_++[]).map _;rw[e6],xa,I.trans p]
      |cons y t =>
       refine af Z #[L,Z,#[_,au.of^p _ _^I _ _ yd],λxx xt=>?_];refine fB (xs:=lv) (λj ys g yg=>∃yb:a2 V,g=[yb,bd a]/\ys=((rest.take j).map λo=>decide (y∈o.drop 1)).map V.bl/\yg xx=ce ys/\ax (upd xb z^.lst []) yg) #[none,Z,Z,ah,aJ xt] (λj ys g yg ab=>by obtain⟨_,_,_,O,S⟩:=ab;exact #[O,au.of^S _ _^p _ _^I _ _ yd]) ?_ ?_
       .rintro j x ys g yg yt ⟨yb,rfl,rfl,zb,xd⟩
        obtain⟨b,o,rfl,yz,_,zz⟩:=l4 ye yt;have ze:j<lv.length:=(b4.mp yt).1;have xi:rest.take (j+1)=rest.take j++[o]:=by rw[dQ,yz];rfl
        have zt:=I.trans^p.trans xd;refine af Z^jr (zt _ _ T) ki ?_;refine aW Z Z #[b,_,Z,au.of^zt _ _ zz,λp2 xA=>?_];have xD:fX (o.map V.str) (ih 1) none=(o.drop 1).map V.str:=by
         rw[show(1:Int)=((1:Nat):Int) from rfl,nZ,lT]
        rw[xD];have M:=aJ (o:=.lst^(o.drop 1).map V.str) xA;refine#[p2,_,Z,.inl^au.of ah,Z,jL _,?_];rw[ao b7,i2];refine#[M _ _ zb,?_,cw_next ze^af Z #[by rw[xi,bj,bj];rfl,ah,λc u U=>by rw[ag^aA U xt];exact M _ _^xd c u U]]
        have yx:=R.sm.a5;rw[aE,aE,cH,aV];omega
       .rintro zE g yg ⟨yb,rfl,rfl,zb,xd⟩
        rw[kE ye,cF]at zb;refine#[xx,_,Z,au.of zb,_,Z,?_];have yD:((rest.map λo=>decide (y∈o.drop 1)).any id)=busy rest y:=by unfold busy;rw[wV];rfl
        rw[yD];have xm:=p.trans xd;cases d:busy rest y with
        |true =>
         refine cw_next N^af Z #[?_,xd _ _ xa,I.trans xm];rw[tk,nI];show _=(_++(if busy rest y then cX rest [] else y::cX rest [])).map _;rw[d];show _=(_++[]).map _;rw[e6]
        |false =>
         refine af Z^jr (xm _ _ xq) ki #[xd _ _ xa,?_,cw_next N^af Z #[?_,ah,λc u U=>by rw[ag^aA U zl];exact xm _ _^I c u U]]
         .have yx:=tx rest^rest.take i
          have yF:=R.sm.a5;rw[cH]at yx;rw[aE,aV];omega
         .rw[tk,nI]
          show _=(_++(if busy rest y then cX rest [] else y::cX rest [])).map _;rw[d,bj];rfl
     .rintro fr g xb ⟨v,rfl,rfl,yc,I⟩
      rw[kE ye,cF]at yc;have xu:∀x∈cX rest rest,Nm x:=λx D=>by
       obtain⟨r,zn,e⟩:=pV D;exact R.sm.nm r zn x e
      have yA:=sY R.nd rest;refine af Z #[bF _,λz xg=>?_];have p:=aJ (o:=.lst []) xg;refine eq_nil (p _ _ yc) ah xu^af Z ?_;have ym:fH rest=(cX rest rest).head?:=yA.symm;have zm:=zr.trans^I.trans p;have xa:=p _ _ yc;have yq:=p _ _^I _ _ yd;have zk:=p _ _^I _ _ yk;generalize cX rest rest=fr at ym xa xu⊢;cases fr with
      |nil =>
       refine qn ?_ _ zm;rw[R.eq,sV yj ym];rfl
      |cons n zD =>
       have e:fH rest=ih n:=ym;have lt:=lU^l3 e;generalize zF:upd xb z^.lst []=G at zm xa yq zk p⊢;have zA:gx (λa=>a≠k) G lv rest:=jI ye λb xs C d=>#[C,p _ _^I _ _ d];refine af Z #[.inl #[Z,_,au.of zk],_,Z,jr xa ki #[k,_,_,Z,Z,zk,by have:=R.lim;rw[aE,aV];omega,?_]]
       have xB:zc≠k:=aS^aA yk zl;have zb:(upd G k^.lst (q.map V.str++[.str n])) zc=ce^(n::zD).map V.str:=by rw[ag xB];exact xa
       have xl:(upd G k^.lst (q.map V.str++[.str n])) L=ce lv:=by rw[ag R.ne];exact yq
       have xh:(upd G k^.lst (q.map V.str++[.str n])) k=ce^(q++[n]).map V.str:=by rw[ah,bj];rfl
       have yu:ax H^upd G k^.lst (q.map V.str++[.str n]):=λb o d=>by rw[ag^aA d zp];exact zm b o d
       have xn:gx (λa=>a≠k) (upd G k^.lst (q.map V.str++[.str n])) lv rest:=jI zA λb xs C d=>#[C,by rw[ag C];exact d]
       generalize upd G k^.lst (q.map V.str++[.str n])=xE at zb xl xh yu xn⊢;refine af Z #[L,Z,#[_,au.of xl],λzg yn=>?_];have yB:zg≠k:=aS^aA xh yn;refine fB (xs:=lv) (λi ys g xc=>∃v:a2 V,g=[v,bd zc]/\xc zg=ce ys/\ax xE xc/\gx (λa=>a≠k/\a≠zg) xc ys^L2.without n^rest.take i) #[none,Z,ah,aJ yn,.nil] (λi ys g xc ab=>by obtain⟨_,_,O,S,_⟩:=ab;exact #[O,au.of^S _ _ xl]) ?_ ?_
       .rintro i x ys g xc D ⟨v,rfl,zj,M,xf⟩
        obtain⟨a,r,rfl,J,_,T⟩:=l4 xn D;have N:i<lv.length:=(b4.mp D).1;have tk:rest.take (i+1)=rest.take i++[r]:=by rw[dQ,J];rfl
        have xe:=eu J;have yl:=M _ _ T;have zq:=M _ _ zb;refine af Z #[a,Z,#[_,au.of yl],λb1 yf=>?_];have zB:a≠b1:=aA yl yf;have xC:zc≠b1:=aA zq yf;have zu:b1≠zg:=aS^aA zj yf;have yC:b1≠k:=aS^aA (M _ _ xh) yf;refine fB (xs:=r.map V.str) (λj zs yi xk=>∃yb:a2 V,yi=[yb,bd zc]/\zs=((r.take j).filter λy=>!decide (y=n)).map V.str/\xk=upd xc b1^.lst zs) #[none,Z,Z,Z] (λj zs yi xk ⟨_,_,_,z⟩=>by rw[z];exact#[ah,au.of^by rw[ag zB];exact yl]) ?_ ?_
        .rintro j x zs yi xk xv ⟨yb,rfl,rfl,rfl⟩
         have ze:j<(r.map V.str).length:=(b4.mp xv).1;have yv:j<r.length:=by simpa using ze
         obtain rfl:V.str r[j]=x:=by simpa [yv] using xv
         have xi:r.take (j+1)=r.take j++[r[j]]:=by rw[dQ,bG yv];rfl
         refine aW Z Z^jr (by rw[ag xC];exact zq) ki #[Z,_,Z,?_]
         refine bZ (λzi=>?_)^λzi=>?_
         .have zx:r[j]≠n:=λz=>by rw[z]at zi;simp at zi
          refine af Z #[ah,?_,cw_next ze^af Z #[?_,by rw[fJ]]]
          .have h1:=gn (λy=>!decide (y=n))^r.take j
           have h2:(r.take j).length<=r.length:=by rw[cH];omega
           have ya:=R.sm.short r xe;rw[aE,aV];omega
          .rw[xi,gp,bj,pB ⇑zx];rfl
         .have yE:r[j]=n:=by
           by_cases z:r[j]=n
           .exact z
           .exact absurd (by simp[z]) zi
          refine cw_next ze^af Z #[?_,Z];rw[xi];simp[yE]
        .rintro zs yi xk ⟨yb,rfl,rfl,rfl⟩
         rw[aE,cF];have xp:=aJ (o:=.lst^(r.filter λy=>!decide (y=n)).map V.str) yf;refine#[xp _ _ zj,?_,cw_next N #[_,Z,ah,λb o d=>?_,?_]]
         .have h1:=kE xf
          have h2:(L2.without n^rest.take i).length<=rest.length:=by unfold L2.without;rw[aE,cH];omega
          have ya:=R.sm.a5;rw[aV];omega
         .rw[ag^aA d yn];exact xp _ _^M b o d
         .have e1:L2.without n^rest.take (i+1)=L2.without n^rest.take i++[r.filter λy=>!decide (y=n)]:=by rw[tk];unfold L2.without;rw[bj];rfl
          rw[e1];refine sL (jI xf λb xs C d=>#[C,by rw[ag C.2];exact xp _ _ d]) #[yC,zu] ?_
          rw[ag zu];exact ah
       .rintro ys g xc ⟨v,rfl,zj,M,xf⟩
        rw[kE xn,cF]at xf;refine#[_,by rw[R.mm];exact lt,L2.without n rest,ys,q++[n],zg,#[_,Z],Z,zj,jI xf λb xs C d=>#[C.1,d],yB,M _ _ xh,Ap R.sm,AY R.nd,yu.trans M,?_,?_]
        .have:=R.lim;rw[cz,lL];omega
        .rw[R.eq,sX yj e,Ah]
         congr 1
         funext z
         simp
    .refine af Z^zC q ?_ k W zp zr yk
     rw[R.eq,sU ⇑yj]
     show ih (q++[])=ih q;rw[e6]
structure hA(mg:Gd->Option i'):Prop where
 m2:mg "isinstance" = none
 str:mg "str" = none
 dict:mg "dict" = none
 sorted:mg "sorted" = none
theorem mc:VA "isinstance" = ih^.builtin "isinstance":=⋯
theorem boot_str:VA "str" = ih^.type "str":=⋯
theorem boot_dict:VA "dict" = ih^.type "dict":=⋯
theorem boot_sorted:VA "sorted" = ih^.builtin "sorted":=⋯
theorem boot_all:VA "all" = ih^.builtin "all":=⋯
theorem HA(K:Ys)(h:X.K=K)(a:X.calm=true):cU X (.builtin "all") (λxs H Q=>∃(p:FG) (bs:am Bool),xs=[.ref p]/\au K H p^bs.map V.bl/\Q (.bl^bs.all id) H):=by subst h;exact pR a
theorem ite_ff{A B:Prop}{k:Bool}(a:k=false)(h:B):if k=true then A else B:=by subst a;exact h
theorem ite_tt{A B:Prop}{k:Bool}(a:k=true)(h:A):if k=true then A else B:=by subst a;exact h
inductive mv(vs:List V)(H:Hp)(Q:VK)(E:XK):Prop
 |mk{x:Gd}(_:vs=[.str x])(_:Nm x)(_:∀H',ax H H'->Q (.bl true) H'):mv vs H Q E
theorem Mz:bp ["thing"] ["thing"]^aI n8:=bD
abbrev O5:VH:=gz (mL (bW (bJ n8) 1))
theorem DY:b8 ["thing"] (aI n8) ["sign"] [none]^cK O5:=dF
theorem Ls(F:aQ K "is_name" "is_name" n8 f fd)(B:dw mg)(g:hA mg):aT P w K mg base aF 1 f fd ["thing"] mv:=by
 refine F.bI Mz λQb A outer s H vs Q E u h=>?_
 .obtain @⟨x,rfl,a,q⟩:=h
  intro X;refine#[_,ar (bo (PW.pt (pw_or (gv^gu^bV l6 Z g.m2 mc^aa (pv 0)^aa (me (v:=.ty "str") Z g.str boot_str Z) ai)
     (pw_or1^gv^Jq DP DP aw (bV GX Z B.len ew^aa (pv 0) ai) aw))) (ay^a3 g7) bE)
   (ay^a3^bV (pR Z) Z B.all boot_all^aa (d7 Z DY (Mp^pv 0)^λs H fp=>#[ba 0 DY.nd,ey,Jp Bw Bw br (pv 0) br]) ai),?_]
  have n:=a.lo;have o:=a.hi;have r:x.cps.size<=8:=a.hi;refine af Z #[#[_,.inr #["str",Z]],.str x,.ty "str",.type "str",.type "str",true,Z,Z,.inl^.str x,Z,true,Z,?_];refine af Z #[x,Z,by rw[aV];omega,1,x.length,Z,Z,_,Z,?_]
  refine ite_tt (cb ()) ?_
  refine#[x.length,8,Z,Z,_,Z,?_];have l:decide ((x.length:Int)<=8)=true:=cb ()
  rw[l];refine af Z #[x,Z,λp m=>?_];refine JM (λi ys b Y=>∃d:a2 V,b=[d]/\ys=(YD i true).map V.bl/\Y=upd H p^.lst ys) #[none,Z,Z,Z] (λi ys b Y ⟨_,_,_,z⟩=>by rw[z];exact ah) ?_ ?_
  .rintro i c ys b Y j ⟨d,rfl,rfl,rfl⟩
   have k:i<x.cps.size:=by
    obtain⟨h,_⟩:=wU.mp j;exact h
   have t:=a.az c^aaQ.mp^Va j;have e1:(!decide ((#[#v[c]]:Gd).cps.toList<(Yj "a").cps.toList))=true:=by
    have : ¬ ([c] < [97]):=by simp[VC];omega
    have e:(Yj "a").cps.toList=[97]:=⋯
    rw[e];simpa using this
   have e2:(!decide ((Yj "z").cps.toList<(#[#v[c]]:Gd).cps.toList))=true:=by
    have : ¬ ([122] < [c]):=by simp[VC];omega
    have e:(Yj "z").cps.toList=[122]:=⋯
    rw[e];simpa using this
   refine af Z #[_,_,Z,Z,_,Z,ite_tt e1 #[_,_,Z,Z,ah,by rw[aE,wH,aV];omega,cw_next k^af Z #[?_,?_]]]
   .rw[e2,Gu,bj];rfl
   .rw[fJ]
  .rintro ys b Y ⟨d,rfl,rfl,rfl⟩
   refine#[p,_,Z,au.of ah,?_];have:(YD x.cps.size true).all id=true:=by simp
   rw[this];exact q _^aJ m
theorem Jc{g:Gd->V}(e:H a=bn^ps.map V.str)(f:H d=cr kvs)(r:∀x∈ps,bq kvs^n' x=ih^g x)(h:H p=none)(t:ps.length<=100)
  (q:Q (.ref p)^upd H p^.lst^ps.map g):hX (jo K a) (iE 0) oC (uZ (gO 1)^gO 0) [none,bd d] Q p H:=by
 have i:a≠p:=aA e h;have l:d≠p:=aA f h;refine l7 (xs:=ps.map V.str) (λj zs b H2=>∃c:a2 V,b=[c,bd d]/\zs=(ps.take j).map g/\H2=upd H p^.lst zs) #[none,Z,Z,Z] (λj zs b H2 ⟨_,_,_,z⟩=>by rw[z];exact#[ah,aX.of^by rw[ag i];exact e]) ?_ ?_
 .rintro j x zs b H2 s ⟨c,rfl,rfl,rfl⟩
  obtain⟨m,n,rfl,o⟩:=uJ s;refine aW Z Z #[d,g ps[j],Z,?_,ah,?_,cw_next m^af Z #[?_,by rw[fJ]]]
  .rw[<-r _^eJ n];exact b2.k (k:=n' ps[j]) (by rw[ag l];exact f)
  .rw[aE,cH,aV];omega
  .rw[o,bj];rfl
 .rintro zs b H2 ⟨c,rfl,rfl,rfl⟩
  rw[aE,cF];exact q
theorem Jd{g:Gd->V}(e:H a=ce^ps.map V.str)(f:H d=cr kvs)(r:∀x∈ps,bq kvs^n' x=ih^g x)(h:H p=none)(t:ps.length<=100)
  (q:Q (.ref p)^upd H p^.lst^ps.map g):hX (j' K a) (iE 0) oC (uZ (gO 1)^gO 0) [none,bd d] Q p H:=by
 have i:a≠p:=aA e h;have l:d≠p:=aA f h;refine fB (xs:=ps.map V.str) (λj zs b H2=>∃c:a2 V,b=[c,bd d]/\zs=(ps.take j).map g/\H2=upd H p^.lst zs) #[none,Z,Z,Z] (λj zs b H2 ⟨_,_,_,z⟩=>by rw[z];exact#[ah,au.of^by rw[ag i];exact e]) ?_ ?_
 .rintro j x zs b H2 s ⟨c,rfl,rfl,rfl⟩
  obtain⟨m,n,rfl,o⟩:=uJ s;refine aW Z Z #[d,g ps[j],Z,?_,ah,?_,cw_next m^af Z #[?_,by rw[fJ]]]
  .rw[<-r _^eJ n];exact b2.k (k:=n' ps[j]) (by rw[ag l];exact f)
  .rw[aE,cH,aV];omega
  .rw[o,bj];rfl
 .rintro zs b H2 ⟨c,rfl,rfl,rfl⟩
  rw[aE,cF];exact q
def rowsOf(L:Gd->List Gd)(ps:List Gd):List (List Gd):=ps.map L++[ps]
def gT(H:Hp)(kvs:List (Key×V))(L:Gd->List Gd)(x:Gd):Prop:= ∃a,bq kvs (n' x)=ih (.ref a)/\H a=ih (.tup ((L x).map V.str))
theorem gT.same(h:gT H kvs L x)(s:ax H H'):gT H' kvs L x:=let ⟨a,e,q⟩:=h;#[a,e,s _ _ q]
theorem Lu(h:∀x∈ps,gT H kvs L x):∃g:Gd->V,(∀x∈ps,bq kvs^n' x=ih^g x)/\d5 H (ps.map g)^ps.map L:=by
 refine#[λx=>(bq kvs^n' x).getD .aK,λx b=>?_,?_]
 .obtain⟨a,e,_⟩:=h x b;show _=ih^(bq kvs^n' x).getD V.aK;rw[e];rfl
 .induction ps with
  |nil=>exact .nil
  |cons x ps c =>
   obtain⟨a,e,q⟩:=h x aY;exact .cons #[a,by show(bq kvs^n' x).getD V.aK=_;rw[e];rfl,q]^c λy d=>h y^bh _ d
inductive q8(vs:List V)(H:Hp)(Q:VK)(E:XK):Prop
 |mk{d pa:FG}{kvs:List (Key×V)}{L:Gd->List Gd}{k:Gd}{ps o:List Gd}(_:vs=[.ref d,.str k,.ref pa])(_:H d=ih (.dK kvs))(_:H pa=ih (.tup (ps.map V.str)))(_:(∀x∈ps,gT H kvs L x))(_:Small (rowsOf L ps))(_:cB (total (rowsOf L ps)) (rowsOf L ps)=ih o)(_:o.length<=100)(_:∀p H',ax H H'->H' p=ih (.tup ((k::o).map V.str))->Q (.ref p) H'):q8 vs H Q E
noncomputable abbrev Ff:List Gd:=["lines","kind","parents","rows","refusal"]
theorem Ey:bp Ff ["lines","kind","parents"]^aI nN:=bD
def Ez(e:VH):VH:=match e with|.BinOp a _ _ _=>a|_=>.Constant .none 0 ⟨0,0,0,0⟩
abbrev QK:VH:=Ez (gz (fy (bW (bJ nN) 0)))
theorem EA:b8 Ff (aI nN) ["parent","lines"] [none,ih 0]^cK QK:=dF
theorem NA{z:FG}{v:X3}(F:aQ K "line_from" "line_from" nN f fd)(B:dw mg)(C:bB P w K mg base aF 3 z v ["rows"] p9 "merged") :
  aT P w K mg base aF 4 f fd ["lines","kind","parents"] q8:=by
 refine F.bI Ey λQb A outer s H vs Q E a h=>?_
 .obtain @⟨d,b,kvs,L,k,ps,o,rfl,D,e,G,n,I,yb,q⟩:=h
  have J:=a.units;have x:=d9 J;intro X;refine#[_,ar (a4 3 Ey.nd^df iX Z B.tuple boot_tuple^aa (bN kW (d7 Z EA (kR^pv 2)^λs H fp=>#[ba 0 EA.nd,ey,dV x (pv 1) (pv 0)^λ_ _=>rfl])^eN^aa (pv 2) ai) ai)
   (ay^JL (ay^a3^bN C4 (cc^aa (pv 1) ai)^a' C a^aa (pv 3) ai) Z),?_]
  obtain⟨g,M,N⟩:=Lu G;have zb:ps.length<=20:=n.short ps^et _ aY;refine af Z #[b,Z,#[_,aX.of e],λc t=>Jc e D M t () ?_]
  have O:=aJ (o:=.lst^ps.map g) t;refine af Z #[eW,λR j=>?_];have S:=O.trans^aJ (o:=.lst [V.ref b]) j;refine#[c,R,_,_,Z,Z,by rw[ag^aA ah j];exact ah,ah,by rw[aE,aV];show _+1<=_;omega,λT y=>?_]
  have U:=S.trans^aJ (o:=.lst (ps.map g++[V.ref b])) y;refine#[T,_,Z,.inl #[au.of ah,λr a=>?_]];have W:=U.trans^aJ (o:=.tup (ps.map g++[V.ref b])) a;refine af Z #[eW,λY l=>?_];have i:=W.trans^aJ (o:=.tup [V.str k]) l;refine af Z^p9.mk Z (rows:=rowsOf L ps) (by rw[ag^aA ah l];exact ah) (d5.append (N.same i)^i _ _ e) n I λm yc xc u xa=>?_
  refine#[Y,m,_,_,Z,Z,u _ _ ah,xa,by rw[aE,aV];show 1+_<=_;omega,λp ya za xb=>?_]
  exact q p ya (i.trans^u.trans za) xb
def di(H:Hp)(vs:List V)(Qc:List (Gd×List Gd)):Prop:=VT (λy p=>∃a b,y=V.ref a/\H a=ih (.tup [.str p.1,.ref b])/\H b=ih (.tup (p.2.map V.str))) vs Qc
theorem di.keep(h:di H vs Qc)(s:∀b xs,H b=bn xs->H' b=bn xs):di H' vs Qc:=Paired.imp' (λ_ _ c=>by obtain⟨a,b,e,q,r⟩:=c;exact #[a,b,e,s _ _ q,s _ _ r]) h
theorem di.same(h:di H vs Qc)(s:ax H H'):di H' vs Qc:=h.keep λ_ _ e=>s _ _ e
theorem di.length(h:di H vs Qc):vs.length=Qc.length:=cy h
theorem di.append{p:Gd×List Gd}(h:di H vs Qc)(q:H a=bn [.str p.1,.ref b])(r:H b=bn^p.2.map V.str):di H (vs++[.ref a]) (Qc++[p]):=gX h #[a,b,Z,q,r]
structure jf(Qc:List (Gd×List Gd))(L:Gd->List Gd):Prop where
 nd:(Qc.map (·.1)).Nodup
 a5:Qc.length<=8
 nm:∀p∈Qc,Nm p.1
 up:∀p∈Qc,∀x∈p.2,∃q∈Qc,q.1=x
 rank:∃r:Gd->Nat,∀p∈Qc,∀x∈p.2,r x<r p.1
 line:∀p∈Qc,Small (rowsOf L p.2) /\∃o,cB (total (rowsOf L p.2)) (rowsOf L p.2)=ih o/\L p.1=p.1::o/\o.length<=100
theorem jf.perm{b:am (Gd×List Gd)}(h:jf Qc L)(p:b.Perm Qc):jf b L:=by
 have m:∀{q},q∈b ↔ q∈Qc:=λ{q}=>p.mem_iff;obtain⟨r,c⟩:=h.rank;exact#[(p.map _).nodup_iff.mpr h.nd,by rw[p.length_eq];exact h.a5,λq a=>h.nm q^m.mp a,λq a x d=>let ⟨z,f,e⟩:=h.up q (m.mp a) x d;#[z,m.mpr f,e],#[r,λq a=>c q^m.mp a],λq a=>h.line q^m.mp a]
def isDone(kvs:List (Key×V))(x:Gd):Bool:=(bq kvs (n' x)).isSome
theorem Ke{rest:am (Gd×List Gd)}(ok:jf Qc L)(sub:∀p∈rest,p∈Qc)(all:∀p∈Qc,dn p.1=true\/p∈rest)(ne:rest ≠ []):∃p∈rest,∀x∈p.2,dn x=true:=by
 obtain⟨r,f⟩:=ok.rank;have c:∀n,∀p∈rest,r p.1=n ->∃q∈rest,∀x∈q.2,dn x=true:=by
  intro n
  induction n using ZF with
  |_ n g =>
   intro p a e
   by_cases h:∀x∈p.2,dn x=true
   .exact#[p,a,h]
   .simp only[acK]at h
    obtain⟨x,b,d⟩:=h;obtain⟨q,i,rfl⟩:=ok.up p (sub p a) x b;have lt:=f p (sub p a) q.1 b;rcases all q i with z|z
    .exact absurd z d
    .exact g _ () q z Z
 cases rest with
 |nil=>exact absurd Z ne
 |cons p t=>exact c _ p aY Z
def fQ(dn:Gd->Bool)(rest:List (Gd×List Gd)):List (Gd×List Gd):=rest.filter λp=>(p.2.map dn).all id
theorem BO{rest:am (Gd×List Gd)}{p:Gd×List Gd}:p∈fQ dn rest ↔ p∈rest /\∀x∈p.2,dn x=true:=by
 unfold fQ;rw[eb,List.all_map,ny];rfl
theorem AZ{α:Type}(f:α->Bool):∀l:am α,(l.filter f).length+(l.filter λx=>!f x).length=l.length
 |[]=>rfl
 |x::l=>by
  have a:=AZ f l;cases h:f x <;> simp[kD,h] <;> omega
theorem Je{rY:Gd->Bool}{rest:am (Gd×List Gd)}(h:∀p∈fQ dn rest,rY p.1=true):(rest.filter λp=>!rY p.1).length+(fQ dn rest).length<=rest.length:=by
 have e:rest.length=(rest.filter λp=>(p.2.map dn).all id).length+(rest.filter λp=>!(p.2.map dn).all id).length:=by
  exact(AZ (λp:Gd×List Gd=>(p.2.map dn).all id) rest).symm
 have b:(rest.filter λp=>!rY p.1).length<=(rest.filter λp=>!(p.2.map dn).all id).length:=by
  rw[<-VD,<-VD];refine List.countP_mono_left λp a h1=>?_;cases z:(p.2.map dn).all id with
  |false=>rfl
  |true =>
   have:=h p^eb.mpr #[a,z];rw[this]at h1;cases h1
 unfold fQ;omega
theorem Kf(e:H a=bn^ps.map V.str)(f:H d=cr kvs)(g:H p=none)(r:ps.length<=100)
  (q:Q (.ref p)^upd H p^.lst^(ps.map^isDone kvs).map V.bl):hX (jo K a) (iE 0) oC (vz (gO 0)^gO 1) [none,bd d] Q p H:=by
 have h:a≠p:=aA e g;have i:d≠p:=aA f g;refine l7 (xs:=ps.map V.str) (λj zs b H2=>∃c:a2 V,b=[c,bd d]/\zs=((ps.take j).map (isDone kvs)).map V.bl/\H2=upd H p^.lst zs) #[none,Z,Z,Z] (λj zs b H2 ⟨_,_,_,z⟩=>by rw[z];exact#[ah,aX.of^by rw[ag h];exact e]) ?_ ?_
 .rintro j x zs b H2 n ⟨c,rfl,rfl,rfl⟩
  obtain⟨l,o,rfl,m⟩:=uJ n;refine aW Z Z #[d,_,Z,b2.k (k:=n' ps[j]) (by rw[ag i];exact f),ah,?_,cw_next l^af Z #[?_,by rw[fJ]]]
  .rw[aE,aE,cH,aV];omega
  .rw[m,bj,bj];rfl
 .rintro zs b H2 ⟨c,rfl,rfl,rfl⟩
  rw[aE,cF];exact q
def k9(Qc:List (Gd×List Gd))(kvs:List (Key×V)):Prop:=(kvs.map (·.1)).Nodup /\∀k∈kvs.map (·.1),∃p∈Qc,k=n' p.1
theorem BP(kvs:am (Key×V))(k:Key)(v:V):(k∈kvs.map (·.1)/\(putK kvs k v).map (·.1)=kvs.map (·.1))\/(k ∉ kvs.map (·.1)/\(putK kvs k v).map (·.1)=kvs.map (·.1)++[k]):=by
 have e:(kvs.any λa=>decide (a.1=k))=true ↔ k∈kvs.map (·.1):=by
  rw[lO,a8];exact#[λ⟨x,h,d⟩=>#[x,h,dA d],λ⟨x,h,d⟩=>#[x,h,cb d]]
 unfold putK
 by_cases h:k∈kvs.map (·.1)
 .refine .inl #[h,?_]
  rw[aB^e.mpr h,dY];refine lS λa _=>?_;show(if a.1=k then (a.1,v) else a).1=a.1;split <;> rfl
 .refine .inr #[h,?_]
  rw[ao λz=>h^e.mp z,bj];rfl
theorem Kg{k j:Key}:j∈(putK kvs k v).map (·.1) ↔ j=k\/j∈kvs.map (·.1):=by
 rcases BP kvs k v with⟨h,e⟩|⟨h,e⟩
 .rw[e];exact#[.inr,λz=>z.elim (λe=>e ▸ h) id]
 .rw[e,bT,bR];exact Or.comm
theorem Lv{k:Key}(h:(kvs.map (·.1)).Nodup):((putK kvs k v).map (·.1)).Nodup:=by
 rcases BP kvs k v with⟨_,e⟩|⟨c,e⟩
 .rw[e];exact h
 .rw[e,dz]
  exact#[h,by simp,λa d b f e=>c^by rw[<-(bR.mp f),<-e];exact d]
theorem k9.put{p:Gd×List Gd}(h:k9 Qc kvs)(a:p∈Qc):k9 Qc^putK kvs (n' p.1) v:=by
 refine#[Lv h.1,λk b=>?_];rcases Kg.mp b with z|z
 .exact#[p,a,z]
 .exact h.2 k z
theorem Cy:∀{kvs:am (Key×V)}{x:Gd},isDone kvs x=true->n' x∈kvs.map (·.1)
 |[],x,h=>by cases h
 |(a,b)::kvs,x,h=>by
  by_cases e:a=n' x
  .rw[e];exact aY
  .unfold isDone at h;rw[eK e]at h
   exact bh _^Cy h
theorem Im{α:Type}{a b:am α}(c:a.Nodup)(d:b.Nodup)(h:∀x,x∈a ↔ x∈b):a.Perm b:=(VE c d).mpr h
theorem MA{l:am Gd}(h:l.Nodup):(l.map (n':Gd->Key)).Nodup:=by
 induction l with
 |nil=>exact ff
 |cons x l a =>
  rw[d6]at h;rw[bY,d6];refine#[λz=>?_,a h.2];obtain⟨y,b,e⟩:=a8.mp z;exact h.1 (fZ e ▸ b)
theorem k9.perm(h:k9 Qc kvs)(ok:jf Qc L)(all:∀p∈Qc,isDone kvs p.1=true):(kvs.map (·.1)).Perm ((Qc.map (·.1)).map n'):=by
 refine Im h.1 (MA ok.nd) λx=>#[λa=>?_,λa=>?_]
 .obtain⟨p,b,rfl⟩:=h.2 x a
  exact a8.mpr #[p.1,a8.mpr #[p,b,Z],Z]
 .obtain⟨y,c,rfl⟩:=a8.mp a
  obtain⟨p,b,rfl⟩:=a8.mp c;exact Cy^all p b
structure EB(H:Hp)(Qc:List (Gd×List Gd))(L:Gd->List Gd)(t d:FG)(m:Nat)(σ:St)(Y:Hp)(kvs:List (Key×V))(rest:List (Gd×List Gd))(wv:List V)(wa:FG):Prop where
 st:∃v3 v4 v5:Option V,σ=[ih (.ref t),ih (.ref d),ih (.ref wa),v3,v4,v5]
 mm:m=rest.length
 hd:Y d=ih (.dK kvs)
 hw:Y wa=ih (.lst wv)
 fv:di Y wv rest
 sub:∀p∈rest,p∈Qc
 all:∀p∈Qc,isDone kvs p.1=true\/p∈rest
 ln:∀x,isDone kvs x=true->gT Y kvs L x
 same:ax H Y
 lim:kvs.length+rest.length<=8
 ky:k9 Qc kvs
inductive qo(vs:List V)(H:Hp)(Q:VK)(E:XK):Prop
 |mk{t:FG}{o:YC}{ws:List V}{Qc:List (Gd×List Gd)}{L:Gd->List Gd}(_:vs=[.ref t])(_:H t=ih (.bf o (.tup ws)))(_:di H ws Qc)(_:jf Qc L)(_:∀d kvs H',H d=none->ax H H'->H' d=ih (.dK kvs)->(∀p∈Qc,gT H' kvs L p.1)->(kvs.map (·.1)).Perm ((Qc.map (·.1)).map n')->Q (.ref d) H'):qo vs H Q E
noncomputable abbrev wg:List Gd:=["family","lines","waiting","ready","kind","parents"]
theorem ll:bp wg ["family"]^aI mu:=bD
noncomputable abbrev EC:Vm:=bW (bJ mu) 2
noncomputable abbrev vH:VH:=fy (bW (nO EC) 0)
abbrev O6:VH:=gz (DJ vH)
noncomputable abbrev O7:VH:=fy (bW (nO EC) 3)
theorem DZ:b8 wg (aI mu) ["pair","lines"] [none,ih 1]^cK vH:=dF
theorem NB:b8 ["pair","lines"] (relabel (cK vH) env) ["parent","lines"] [none,ih 1]^cK O6:=nest Z ⋯ ⋯ rfl ⋯ ⋯
theorem NC:(["parent","lines"]:am Gd).Nodup:=⋯
theorem D0:b8 wg (aI mu) ["pair","lines"] [none,ih 1]^cK O7:=dF
theorem Kh{fF:FG}{zp:X3}(F:aQ K "lines_of" "lines_of" mu f fd)(B:dw mg)(zw:bB P w K mg base aF 4 fF zp ["lines","kind","parents"] q8 "line_from") :
  aT P w K mg base aF 5 f fd ["family"] qo:=by
 refine F.bI ll λQb A outer s H vs Q E xm h=>?_
 .obtain @⟨t,o,ws,Qc,L,rfl,xx,yo,ok,q⟩:=h
  have yx:=xm.units;have yg:=d9 yx;intro X;refine#[_,ar (iA (i:=1) ll.nd Z (YS Z) nR)
   (ar (a4 2 ll.nd^df jH Z B.list boot_list^aa (pv 0) ai)
   (ar (nQ dZ (kI (pv 2)^λ_=>rfl)
    (ar (lZ Z DZ ll.nd (i:=3) Z Z (c7^pv 2)^λs H fp=>#[ba 0 DZ.nd,
      i1^gu^bV (HA K Z Z) Z B.all boot_all^aa (d7 Z NB (Ca K Z^aU (jN K Z) (pv 0) aw)^λs H fp=>#[ba 0 NC,ey,LZ^i9 yg (pv 0)^pv 1]) ai,
      pv 0])
    (ar (bo (gv^kI (pv 3)^λ_=>rfl) (ay^a3^pv 1) bE)
    (ar (ee dZ Z (c7^pv 3) (gH Z^cA (ba 4 ll.nd)^cA (ba 5 ll.nd) fM)
     (ay^f5 yg (pv 1) (pv 4) (a' zw xm^aa (pv 1)^aa (pv 4)^aa (pv 5) ai) Z))
    (ay^lZ Z D0 ll.nd (i:=2) Z Z (c7^pv 2)^λs H fp=>#[ba 0 D0.nd,
      i1^gr^tm yg (aU (jN K Z) (pv 0) aw)^pv 1,pv 0])))))
   (ay^a3^pv 1))),?_]
  intro d xj;have ym:=aJ (o:=.dK []) xj;refine af Z #[t,ws,Z,.inr^.inl^.inr #[o,ym _ _ xx],λG xk=>?_];have zm:=ym.trans^aJ (o:=.lst ws) xk;have xq:d≠G:=aA ah xk;refine#[λm σ Y=>∃kvs rest v G,EB H Qc L t d m σ Y kvs rest v G,#[_,[],Qc,ws,G,#[none,none,none,Z],Z,by rw[ag xq];exact ah,ah,yo.same zm,λ_ h=>h,λ_ h=>.inr h,λx h=>(by cases h),zm,by have:=ok.a5;rw[jA];omega,#[ff,λ_ h=>(by cases h)]],?_]
  rintro m σ Y ⟨kvs,rest,v,G,R⟩;obtain⟨xA,yc,zc,rfl⟩:=R.st;have zb:=R.fv.length;refine af Z #[_,.inl #[_,au.of R.hw,Z],?_];refine bZ (λxd=>?_)^λxd=>?_
  .refine#[λyq H'=>∃xn,xn<m /\∃kvs rest v G,EB H Qc L t d xn yq H' kvs rest v G,λ_ _ z=>z,?_]
   refine af Z #[G,Z,#[_,au.of R.hw],λzf zg=>?_];have zq:∀{b:FG}{u:HO},H b=ih u->b≠d:=λe=>aA e xj;have xr:d≠zf:=aA R.hd zg;refine fB (xs:=v) (λi ys J N=>∃W:a2 V,J=[W,bd d]/\N zf=ce ys/\ax Y N/\di N ys^fQ (isDone kvs)^rest.take i) #[none,Z,ah,aJ zg,.nil] (λi ys J N ab=>by obtain⟨_,_,z1,z2,_⟩:=ab;exact #[z1,au.of^z2 _ _ R.hw]) ?_ ?_
   .rintro i x ys J N g ⟨W,rfl,C,D,O⟩
    have za:i<v.length:=(b4.mp g).1;obtain⟨p,n,a,b,rfl,xb,j⟩:=mh R.fv g;have tk:rest.take (i+1)=rest.take i++[p]:=by rw[dQ,n];rfl
    have yd:=R.sub p^eu n;have yz:p.2.length<=20:=(ok.line p yd).1.short p.2^et _ aY;have xh:=D _ _ xb;have zd:=D _ _ j;refine af Z^a7 xh (show cN [V.str p.1,V.ref b] ((1:Nat):Int)=ih^.ref b from cx Z) ?_;refine#[b,Z,#[_,aX.of zd],λc yn=>Kf zd (D _ _ R.hd) yn () ?_]
    have S:=aJ (o:=.lst^(p.2.map (isDone kvs)).map V.bl) yn;refine#[c,_,Z,au.of ah,_,Z,?_];refine bZ (λyh=>?_)^λyh=>?_
    .refine af Z #[S _ _ C,?_,cw_next za #[_,Z,ah,λb o j=>by rw[ag^aA j zg];exact S _ _^D b o j,?_]]
     .have h1:=O.length
      have h2:(fQ (isDone kvs)^rest.take i).length<=(rest.take i).length:=gn _ _;have C:=R.lim;rw[cH]at h2;rw[aV];omega
     .have e1:fQ (isDone kvs)^rest.take (i+1)=fQ (isDone kvs)^rest.take i++[p]:=by
       rw[tk];unfold fQ;rw[gp,pB^by exact yh];rfl
      rw[e1];refine di.append (O.keep λb xs j=>?_) ?_ ?_ (b:=b)
      .rw[ag^aq j C];exact S _ _ j
      .rw[ag^aq xh C];exact S _ _ xh
      .rw[ag^aq zd C];exact S _ _ zd
    .refine cw_next za^af Z #[S _ _ C,D.trans S,?_]
     have e1:fQ (isDone kvs)^rest.take (i+1)=fQ (isDone kvs)^rest.take i:=by
      rw[tk];unfold fQ;rw[gp,sx^by exact yh];simp
     rw[e1];exact O.same S
   .rintro xg J N ⟨W,rfl,C,D,O⟩
    rw[zb,cF]at O;have zh:=O.length;have xc:=D _ _ R.hd;have yk:=D _ _ R.hw;have yr:di N v rest:=R.fv.same D;have zo:rest ≠ []:=λz=>by
     rw[z]at zb;have:v=[]:=lR zb;rw[this]at xd;cases xd
    obtain⟨zx,zr,xp⟩:=Ke ok R.sub R.all zo;have xe:zx∈fQ (isDone kvs) rest:=BO.mpr #[zr,xp];generalize ye:fQ (isDone kvs) rest=ya at O zh xe;have yp:(!xg.isEmpty)=true:=by
     cases xg with
     |nil =>
      have:ya=[]:=lR zh.symm;rw[this]at xe;cases xe
     |cons _ _=>rfl
    refine af Z #[_,.inl #[_,au.of C,Z],?_];rw[yp];refine#[_,Z,zf,Z,#[_,au.of C],gZ (xs:=xg) (λi σ M=>∃(l:am (Key×V)) (yc zc:a2 V),σ=[bd t,bd d,bd G,bd zf,yc,zc]/\M d=cr l/\l.length<=kvs.length+i /\
     (∀b u,b≠d->N b=ih u->M b=ih u)/\(∀x,isDone l x=true->gT M l L x)/\(∀x,isDone kvs x=true->isDone l x=true)/\(∀p∈ya.take i,isDone l p.1=true)/\k9 Qc l)
     #[kvs,yc,zc,Z,xc,aP _,λ_ _ _ e=>e,λx g=>(R.ln x g).same D,λ_ h=>h,λp n=>(by cases n),R.ky] (λi σ M _ ab=>by obtain⟨_,_,_,_,_,_,z,_⟩:=ab;exact au.of^z _ _ (aS xr) C) ?_ ?_]
    .rintro i x σ M g ⟨l,yc,zc,rfl,T,xt,U,ze,xf,yf,xi⟩
     have za:i<xg.length:=(b4.mp g).1;obtain⟨p,n,a,b,rfl,xb,j⟩:=mh O g;have tk:ya.take (i+1)=ya.take i++[p]:=by rw[dQ,n];rfl
     have yt:p∈fQ (isDone kvs) rest:=by rw[ye];exact eu n
     obtain⟨yd,zt⟩:=BO.mp yt;obtain⟨xu,yA,yu,xy,zu⟩:=ok.line p^R.sub p yd;have xv:=U _ _ (aq xb xc) xb
     have yv:=U _ _ (aq j xc) j
     refine#[a,_,Z,aX.of xv,Z,_,_,Z,_,_,Z,Z,?_];refine cZ Z Z Z^q8.mk Z T yv (λx g=>ze x^xf x^zt x g) xu yu zu λyj xa r I=>?_;refine aW Z Z #[d,_,Z,eG.k (k:=n' p.1) (r _ _ T) ?_,?_]
     .have h1:=R.lim
      have h2:ya.length<=rest.length:=by rw[<-ye];exact gn _ _
      rw[aV];omega
     .have yy:yj≠d:=aq I^r _ _ T
      refine#[_,_,_,Z,ah,?_,λb u zn e=>?_,λx g=>?_,λx g=>?_,λy xo=>?_,xi.put^R.sub p yd]
      .have:=lY l (n' p.1)^V.ref yj;omega
      .rw[ag zn];exact r _ _^U b u zn e
      .unfold gT
       rw[kK]
       by_cases e:x=p.1
       .subst e
        refine#[yj,by rw[aB Z],?_]
        rw[ag yy,xy];exact I
       .have e2 : ¬ ((n' x:Key)=n' p.1):=λz=>e^fZ z
        have zv:isDone l x=true:=by unfold isDone at g⊢;rw[kK,ao e2]at g;exact g
        obtain⟨zy,xz,zk⟩:=ze x zv;refine#[zy,by rw[ao e2];exact xz,?_]
        rw[ag^aq zk T];exact r _ _ zk
      .unfold isDone;rw[kK]
       split
       .rfl
       .exact xf x g
      .unfold isDone;rw[kK]
       split
       .rfl
       .rename_i zj
        rw[tk]at xo;rcases bT.mp xo with z|z
        .exact yf _ z
        .have:y=p:=by simpa using z
         exact absurd (by rw[this]) zj
    .rintro σ M ⟨l,yc,zc,rfl,T,xt,U,ze,xf,yf,xi⟩
     rw[zh,cF]at yf;have xw:di M v rest:=yr.keep λb xs e=>U _ _ (aq e xc) e
     have xl:=U _ _ (aq yk xc) yk
     have yw:ax H M:=λb u e=>U b u (zq e)^D _ _^R.same b u e;refine af Z #[G,Z,#[_,au.of xl],λwb yl=>?_];refine fB (xs:=v) (λi ys J xa=>∃W:a2 V,J=[W,bd d]/\xa wb=ce ys/\ax M xa/\di xa ys^(rest.take i).filter λp=>!isDone l p.1) #[none,Z,ah,aJ yl,.nil] (λi ys J xa ab=>by obtain⟨_,_,z1,z2,_⟩:=ab;exact #[z1,au.of^z2 _ _ xl]) ?_ ?_
     .rintro i x ys J xa g ⟨W,rfl,I,r,yb⟩
      have za:i<v.length:=(b4.mp g).1;obtain⟨p,n,a,b,rfl,xb,j⟩:=mh xw g;have tk:rest.take (i+1)=rest.take i++[p]:=by rw[dQ,n];rfl
      have yi:=r _ _ xb;have zl:=r _ _ j;refine af Z^a7 yi (show cN [V.str p.1,V.ref b] ((0:Nat):Int)=ih^.str p.1 from cx Z) ?_;refine af Z #[d,_,Z,b2.k (k:=n' p.1)^r _ _ T,_,Z,?_];refine bZ (λzi=>?_)^λzi=>?_
      .refine af Z #[I,?_,cw_next za #[_,Z,ah,λb o j=>by rw[ag^aA j yl];exact r b o j,?_]]
       .have h1:=yb.length
        have h2:=gn (λp:Gd×List Gd=>!isDone l p.1)^rest.take i;have C:=R.lim;rw[cH]at h2;rw[aV];omega
       .rw[tk,gp,pB^by exact zi]
        refine di.append (yb.keep λb xs j=>?_) ?_ ?_ (b:=b)
        .rw[ag^aq j I];exact j
        .rw[ag^aq yi I];exact yi
        .rw[ag^aq zl I];exact zl
      .refine cw_next za^af Z #[I,r,?_]
       rw[tk,gp,sx (by exact zi),sv,e6]
       exact yb
     .rintro ys J xa ⟨W,rfl,I,r,yb⟩
      rw[zb,cF]at yb;have less:=Je (dn:=isDone kvs) (rY:=isDone l) (rest:=rest) (by rw[ye];exact yf)
      rw[ye]at less;have zz:0<ya.length:=F2 xe;refine#[_,by rw[R.mm];omega,l,rest.filter λp=>!isDone l p.1,ys,wb,#[_,_,_,Z],Z,r _ _ T,I,yb,λp n=>R.sub p (eb.mp n).1,λp n=>?_,λx g=>(ze x g).same r,yw.trans r,?_,?_]
      .cases e:isDone l p.1 with
       |true=>exact .inl Z
       |false =>
        refine .inr ?_;rcases R.all p n with z|z
        .rw[xf _ z]at e;cases e
        .exact eb.mpr #[z,by rw[e];rfl]
      .have h1:=R.lim
       omega
      .exact xi
  .have zj:rest=[]:=by
    cases v with
    |nil=>exact lR zb.symm
    |cons _ _=>exact absurd Z xd
   have dn:∀p∈Qc,isDone kvs p.1=true:=λp n=>by
    rcases R.all p n with z|z
    .exact z
    .rw[zj]at z;cases z
   exact af Z^q d kvs Y xj R.same R.hd (λp n=>R.ln p.1^dn p n)^R.ky.perm ok dn
def en(H:Hp)(kvs:List (Key×V))(L:Gd->List Gd)(x:Gd):Prop:= ∃a,bq kvs (n' x)=ih (.ref a)/\H a=ih (.lst ((L x).map V.str))
theorem en.same(h:en H kvs L x)(s:ax H H'):en H' kvs L x:=let ⟨a,e,q⟩:=h;#[a,e,s _ _ q]
theorem Lw(h:∀x∈ps,en H kvs L x):∃g:Gd->V,(∀x∈ps,bq kvs^n' x=ih^g x)/\gx (λ_=>True) H (ps.map g)^ps.map L:=by
 refine#[λx=>(bq kvs^n' x).getD .aK,λx b=>?_,?_]
 .obtain⟨a,e,_⟩:=h x b;show _=ih^(bq kvs^n' x).getD V.aK;rw[e];rfl
 .induction ps with
  |nil=>exact .nil
  |cons x ps c =>
   obtain⟨a,e,q⟩:=h x aY;exact .cons #[a,by show(bq kvs^n' x).getD V.aK=_;rw[e];rfl,trivial,q]^c λy d=>h y^bh _ d
theorem BQ:∀{m:Nat}{rows:am (List Gd)}{o:am Gd},cB m rows=ih o->o.length<=m
 |0,rows,o,h=>by
  unfold cB at h
  first
   |(cases h;exact aP _)
   |(split at h <;> first|(cases h;exact aP _)|cases h)
 |m+1,rows,o,h=>by
  unfold cB at h;split at h
  .cases e:fH rows with
   |none=>rw[e]at h;cases h
   |some n =>
    rw[e]at h;obtain⟨o',h',rfl⟩:=gF.mp h;have:=BQ h';rw[c4];omega
  .cases h;exact bF _
inductive oM(vs:List V)(H:Hp)(Q:VK)(E:XK):Prop
 |mk{d oa:FG}{kvs:List (Key×V)}{L:Gd->List Gd}{k:Gd}{own:List Gd}(_:vs=[.ref d,.str k,.ref oa])(_:H d=ih (.dK kvs))(_:H oa=ih (.lst (own.map V.str)))(_:(∀x∈own,en H kvs L x))(_:Small (rowsOf L own))(_:(∀r∈rowsOf L own,r.Nodup))(_:(cB (total (rowsOf L own)) (rowsOf L own)=none ->∀H',ax H H'->Q .aK H'))(_:(∀o,cB (total (rowsOf L own)) (rowsOf L own)=ih o ->∀p H',H p=none->ax H H'->H' p=ih (.lst ((k::o).map V.str))->Q (.ref p) H')):oM vs H Q E
noncomputable abbrev Fg:List Gd:=["_law_lines","_law_kind","_law_own","_law_found"]
theorem ED:bp Fg ["_law_lines","_law_kind","_law_own"]^aI ot:=bD
abbrev QL:VH:=Ez (gz (fy (bW (bJ ot) 0)))
theorem EF:b8 Fg (aI ot) ["_law_one","_law_lines"] [none,ih 0]^cK QL:=dF
theorem ND{n:FG}{l:X3}(F:aQ K "_law_line" "_law_line" ot f fd)(B:dw mg)(z:aQ K "_law_merged" "_law_merged" ix n l)(U:Binds K l ["_law_rows"] [])(W:mg "_law_merged" = ih^.ref n) :
  aT P w K mg base aF 2 f fd ["_law_lines","_law_kind","_law_own"] oM:=by
 have Y:aT P w K mg base aF 1 n l ["_law_rows"] q7:=Nz z B;refine F.bI ED λQb A outer s H vs Q E C h=>?_
 .obtain @⟨d,D,kvs,L,k,own,rfl,xa,q,ya,i,S,qn,za⟩:=h
  have xb:=C.units;have T:=d9 xb;intro X;refine#[_,ar (a4 3 ED.nd^f3 Y C Z W z.kp U .nil c8^aa (bN kW (d7 Z EF (c7^pv 2)^λs H fp=>#[ba 0 EF.nd,ey,dV T (pv 1) (pv 0)^λ_ _=>rfl])^eN^aa (df jH Z B.list boot_list^aa (pv 2) ai) ai) ai)
   (ar (bo (bx gI (pv 3) d3^bC _) (ay^a3 d3) bE)
   (ay^a3^bN kW (eN^aa (pv 1) ai)^pv 3)),?_]
  obtain⟨g,yb,zb⟩:=Lw ya;have xe:own.length<=20:=i.short own^et _ aY;refine af Z #[D,Z,#[_,au.of q],λc G=>Jd q xa yb G () ?_]
  have I:=aJ (o:=.lst^own.map g) G;refine af Z #[D,_,Z,.inl^au.of^I _ _ q,λb u=>?_];have xc:=I.trans^aJ (o:=.lst^own.map V.str) u;refine#[eW,λr m=>?_];have yc:=xc.trans^aJ (o:=.lst [V.ref b]) m;have J:upd (upd H c^.lst^own.map g) b (.lst^own.map V.str) c=ce^own.map g:=by rw[ag^aA ah u];exact ah
  refine#[c,r,_,_,Z,Z,by rw[ag^aA J m];exact J,ah,by rw[aE,aV];show _+1<=_;omega,λzc v=>?_]
  have j:=yc.trans^aJ (o:=.lst (own.map g++[V.ref b])) v;have xd:upd (upd (upd (upd H c^.lst^own.map g) b^.lst^own.map V.str) r^.lst [V.ref b]) zc (.lst (own.map g++[V.ref b])) b=ce^own.map V.str:=by
   have M:upd (upd (upd H c^.lst^own.map g) b^.lst^own.map V.str) r (.lst [V.ref b]) b=ce^own.map V.str:=by rw[ag^aA ah m];exact ah
   rw[ag^aA M v];exact M
  refine q7.mk Z (rows:=rowsOf L own) ah (sL (jI zb λa xs _ e=>#[trivial,j _ _ e]) trivial xd) i S (λe N t=>?_)^λo e p N ze t O=>?_
  .exact af Z #[Z,_,Z,qn e N^j.trans t]
  .refine af Z #[Z,_,Z,?_]
   refine af Z #[eW,λyd x=>?_];have R:=t.trans^aJ (o:=.lst [V.str k]) x;have xf:=(BQ e);have yf:=pI i.short;have ye:=i.a5;refine af Z #[yd,p,_,_,Z,Z,ah,by rw[ag^aA O x];exact O,by rw[aE,aV];show 1+_<=_;omega,λzd y=>?_]
   exact za o e zd _ (j.free^R.free y) (j.trans^R.trans^aJ y) ah
theorem A0{α:Type}:∀(l:am α) (k:Nat) (h:k<l.length),(l[k]::l.eraseIdx k).Perm l
 |[],k,h=>absurd h^pq _
 |x::l,0,_=>kB _
 |x::l,k+1,h=>(YT _ _ _).trans ((A0 l k^xZ h).cons x)
theorem BR{α β:Type}(f:α->β):∀(l:am α) (k:Nat),(l.map f).eraseIdx k=(l.eraseIdx k).map f
 |[],_=>rfl
 |_::_,0=>rfl
 |x::l,k+1=>dy (f x :: ·)^BR f l k
theorem boot_min:VA "min" = ih^.builtin "min":=⋯
theorem NF{d:Int}(h0:0<=d)(h1:d<7):∃v:Int,cN [V.int 0,.int 1,.int 1,.int 2,.int 2,.int 3,.int 4] d=ih^.int v/\0<=v/\v<=4:=by
 obtain⟨n,rfl⟩:=gY h0
 match n,(show n<7 by omega) with
 |0,_=>exact#[0,cx Z,∅,∅]
 |1,_=>exact#[1,cx Z,∅,∅]
 |2,_=>exact#[1,cx Z,∅,∅]
 |3,_=>exact#[2,cx Z,∅,∅]
 |4,_=>exact#[2,cx Z,∅,∅]
 |5,_=>exact#[3,cx Z,∅,∅]
 |6,_=>exact#[4,cx Z,∅,∅]
theorem two_at{d a b:Int}(h0:0<=d)(h1:d<2)(c:0<=a/\a<m)(e:0<=b/\b<m):∃v:Int,cN [V.int a,.int b] d=ih^.int v/\0<=v/\v<m:=by
 obtain⟨n,rfl⟩:=gY h0
 match n,(show n<2 by omega) with
 |0,_=>exact#[a,cx Z,c]
 |1,_=>exact#[b,cx Z,e]
inductive qK(vs:List V)(H:Hp)(Q:VK)(E:XK):Prop
 |mk{p n:FG}{ys:List Gd}(_:vs=[.ref p,.ref n])(_:cW p H)(_:p≠n)(_:H n=ih (.lst (ys.map V.str)))(_:ys.length<=20)(_:∀(l:FG) (own rest:List Gd) (H':Hp),H l=none->(own++rest).Perm ys->own.length<=4->bw p H H'->H' l=ih (.lst (own.map V.str))->Q (.ref l) H'):qK vs H Q E
noncomputable abbrev O8:List Gd:=["_law_pot_here","_law_made","_law_left","_law_own","_law_turn","_law_at"]
theorem oG:bp O8 ["_law_pot_here","_law_made"]^aI tu:=bD
theorem MB{U:X3}(F:aQ K "_law_parents" "_law_parents" tu f fd)(B:dw mg)(D:aQ K "_law_digit" "_law_digit" oq fD U)(za:Binds K U ["_law_pot_here","_law_many"] [])(xb:mg "_law_digit" = ih^.ref fD) :
  aT P w K mg base aF 2 f fd ["_law_pot_here","_law_made"] qK:=by
 have yb:aT P w K mg base aF 1 fD U ["_law_pot_here","_law_many"] g0:=tP D;refine F.bI oG λQb A outer s H vs Q E zh h=>?_
 .obtain @⟨p,n,ys,rfl,zb,yk,xi,xk,q⟩:=h
  have W:aZ 1 _:=zh;intro X;refine#[_,ar (a4 2 oG.nd^df jH Z B.list boot_list^aa (pv 1) ai)
   (ar (a4 3 oG.nd^eN ai)
   (ar (ee dZ Z (iZ Z B.range^aa (bV (Bd Z) Z B.min boot_min (aa (bV eQ Z B.len ew^aa (pv 2) ai)
     (aa (aU d2 (eN^aa aw^aa aw^aa aw^aa aw^aa aw^aa aw^aa aw ai)^f3 yb W Z xb D.kp za .nil c8^aa (pv 0)^aa aw ai) ai))) ai) (ba 4 oG.nd)
    (ar (a4 5 oG.nd^aU d2 (eN (aa (f3 yb W Z xb D.kp za .nil c8^aa (pv 0)^aa (bV eQ Z B.len ew^aa (pv 2) ai) ai)
      (aa (bN kS (bV eQ Z B.len ew^aa (pv 2) ai) aw) ai)))^f3 yb W Z xb D.kp za .nil c8^aa (pv 0)^aa aw ai)
    (ay^eL (gw hQ nB nC jK (pv 3)
     (aa (gw hQ Gv Gw B7 (pv 2)^aa (pv 5) ai) ai)))))
   (ay^a3^pv 3))),?_]
  refine af Z #[n,_,Z,.inl^au.of xi,λg u=>?_];refine#[bF _,λj xa=>?_];have x:p≠g:=zb.ne u;have ya:g≠j:=aA ah xa;have R:H j=none:=(aJ u).free xa;have y:p≠j:=zb.ne R;have xc:bw p H^upd (upd H g^.lst^ys.map V.str) j^.lst []:=((bw.refl zb).new u).new xa;have t:(upd (upd H g^.lst^ys.map V.str) j^.lst []) g=ce^ys.map V.str:=by rw[ag ya];exact ah
  have S:(upd (upd H g^.lst^ys.map V.str) j^.lst []) j=ce []:=ah;generalize upd (upd H g^.lst^ys.map V.str) j^.lst []=H0 at xc t S⊢;refine af Z #[g,_,Z,.inl^au.of t,?_];refine#[by show 7<=UM;rw[aV];decide,λc G=>?_]
  have xf:=xc.new (o:=.lst [V.int 0,.int 1,.int 1,.int 2,.int 2,.int 3,.int 4]) G;refine af Z (c6 (p:=p) (m:=7) xf.ok ∅ ∅ λd Y yc d1 z=>?_)
  have yh:p≠c:=xc.ok.ne G;obtain⟨v,zc,yf,I⟩:=NF yc d1;refine e9 (z.kp _ _ ah^aS yh) zc ?_;have yi:=xf.trans z;have l:Y g=ce^ys.map V.str:=z.kp _ _ (by rw[ag^aA t G];exact t)^aS x
  have r:Y j=ce []:=z.kp _ _ (by rw[ag^aA S G];exact S)^aS y
  refine#[_,v,Z,?_];rw[aE];obtain⟨N,zi,zk,xl⟩:∃N:Nat,(if v<(ys.length:Int) then v else (ys.length:Int))=N/\N<=4/\N<=ys.length:=by
   split
   .exact#[v.toNat,(),(),()]
   .exact#[ys.length,Z,(),aP _]
  rw[zi];refine#[(N:Int),Z,(),(),l0 (λi σ Y=>∃(zs k:am Gd) (I xd:a2 V),σ=[bd p,bd n,bd g,bd j,I,xd]/\zs.length=i/\(zs++k).Perm ys/\bw p H Y/\Y g=ce^k.map V.str/\Y j=ce^zs.map V.str)
   #[[],ys,none,none,Z,Z,kB _,yi,l,r] ?_ ?_]
  .rintro i σ Y hi ⟨zs,k,I,xd,rfl,zf,J,L,l,r⟩
   have yg:=J.length_eq;rw[cz]at yg;refine aW Z Z #[g,_,Z,.inl^au.of l,?_];refine c6 (p:=p) L.ok (by rw[aE];omega) (by rw[aE];omega) λd H2 yc d1 M=>?_
   have T:=M.kp _ _ l^aS x;have zd:=M.kp _ _ r^aS y;rw[aE]at d1;refine af Z #[g,_,Z,.inl^au.of T,_,1,Z,Z,?_];rw[aE];refine#[bQ,λxj C=>?_];have ze:=(L.trans M).new (o:=.lst [V.int d,.int ((k.length:Int) - 1)]) C;have zg:p≠xj:=M.ok.ne C;refine af Z (c6 (p:=p) (m:=2) ze.ok ∅ ∅ λe yd e0 e1 O=>?_)
   obtain⟨v,zc,yf,yj⟩:=two_at (a:=d) (b:=(k.length:Int) - 1) (m:=(k.length:Int)) e0 e1 #[yc,d1] #[(),()]
   have xe:yd g=ce^k.map V.str:=O.kp _ _ (by rw[ag^aA T C];exact T)^aS x
   have ye:yd j=ce^zs.map V.str:=O.kp _ _ (by rw[ag^aA zd C];exact zd)^aS y
   have zj:=ze.trans O;refine e9 (O.kp _ _ ah^aS zg) zc ?_;have xg:v.toNat<k.length:=()
   refine af Z #[.inl #[Z,_,au.of ye],_,Z,.inl #[Z,_,au.of xe],_,Z,?_];refine#[g,_,v,v.toNat,.str k[v.toNat],Z,Z,xe,(),(),wJ yf (by rw[aE];exact yj),by rw[c5,bG xg];rfl,?_]
   have xh:(upd yd g^.lst^(k.map V.str).eraseIdx v.toNat) j=ce^zs.map V.str:=by rw[ag^aS ya];exact ye
   refine#[j,_,_,Z,Z,xh,by rw[aE,aV];omega,?_]
   refine#[zs++[k[v.toNat]],k.eraseIdx v.toNat,_,_,Z,by rw[cz];simp[zf],?_,(zj.write u x).write R y,?_,?_]
   .refine acG ?_ J
    rw[nj];exact Vg zs^A0 k _ xg
   .rw[ag ya,ah,BR]
   .rw[ah,bj];rfl
  .rintro σ Y ⟨zs,k,I,xd,rfl,zf,J,L,l,r⟩
   exact af Z^q j zs k Y R J () L r
end eH
namespace eH
open L2 HT
def kept(rows:List (List Gd))(o:List Gd):Bool:=rows.all λr=>decide ((o.filter λn=>decide (n∈r))=r)
theorem sZ{all:am^List Gd}{n:Gd}:∀{rest:am (List Gd)},hS all rest=ih n->d0 0 all n=none /\∃(i:Nat) (r:am Gd),rest[i]?=ih r/\r.head?=ih n /\∀(j:Nat) (q:am Gd) (y:Gd),rest[j]?=ih q->q.head?=ih y->d0 0 all y=none->i<=j
 |[],h=>by cases h
 |[]::rest,h=>by
  obtain⟨h1,i,r,e1,e2,e3⟩:=sZ (rest:=rest) h;refine#[h1,i+1,r,⇑e1,e2,λj q y a b d=>?_]
  cases j with
  |zero =>
   obtain rfl : []=q:=by simpa using a
   simp at b
  |succ j=>have:=e3 j q y ⇑a b d;omega
 |(x::t)::rest,h=>by
  have h:(if (d0 0 all x).isNone then ih x else hS all rest)=ih n:=h
  by_cases c:(d0 0 all x).isNone=true
  .rw[aB c]at h
   cases h
   exact#[⇑c,0,_,Z,Z,λ_ _ _ _ _ _=>bF _]
  .rw[ao c]at h
   obtain⟨h1,i,r,e1,e2,e3⟩:=sZ (rest:=rest) h;refine#[h1,i+1,r,⇑e1,e2,λj q y a b d=>?_]
   cases j with
   |zero =>
    obtain rfl:x::t=q:=by simpa using a
    obtain rfl:x=y:=by simpa using b
    exact absurd (by rw[d];rfl) c
   |succ j=>have:=e3 j q y ⇑a b d;omega
def Lx(rest:List (List Gd))(q:List Gd):Prop:=q.Nodup /\∀x,x∈q ↔ ∃r∈rest,x∈r
theorem tQ{q:am Gd}:kept rest q=true ↔ ∀r∈rest,(q.filter λn=>decide (n∈r))=r:=by
 unfold kept;rw[ny];simp
theorem AA:(∃r∈L2.without n rest,x∈r) ↔ x≠n /\∃r∈rest,x∈r:=by
 constructor
 .rintro⟨r,c,a⟩
  obtain⟨q,b,rfl⟩:=a8.mp c;have:=eb.mp a;exact#[⇑this.2,q,b,this.1]
 .rintro⟨h,q,b,a⟩
  exact#[_,a8.mpr #[q,b,Z],eb.mpr #[a,⇑h]]
theorem Ly:(rest.any λr=>!r.isEmpty)=true ↔ ∃r∈rest,∃x,x∈r:=by
 rw[lO]
 constructor
 .rintro⟨r,a,e⟩
  cases r with
  |nil=>simp at e
  |cons x t=>exact#[_,a,x,aY]
 .rintro⟨r,a,x,b⟩
  refine#[r,a,?_];cases r with
  |nil=>simp at b
  |cons y t=>rfl
theorem sound:∀(m:Nat) (rest:am (List Gd)),total rest=m->(∀r∈rest,r.Nodup) ->∀o,cB (total rest) rest=ih o->Lx rest o/\kept rest o=true:=by
 intro m
 induction m using ZF with
 |_ m u =>
  intro rest D j o b;cases d:rest.any λr=>!r.isEmpty with
  |false =>
   rw[sU d]at b;cases b
   have k:∀r∈rest,∀x,x ∉ r:=λr a x g=>by
    have:=Ly.mpr #[r,a,x,g];rw[d]at this;cases this
   refine#[#[ff,λx=>#[λh=>by simp at h,λ⟨r,a,g⟩=>absurd g^k r a x]],tQ.mpr λr a=>?_]
   cases r with
   |nil=>rfl
   |cons y t=>exact absurd aY^k _ a y
  |true =>
   cases e:fH rest with
   |none=>rw[sV d e]at b;cases b
   |some n =>
    rw[sX d e]at b;obtain⟨o',s,rfl⟩:=gF.mp b;have lt:=lU^l3 e;obtain⟨⟨h1,h2⟩,q⟩:=u _ () (L2.without n rest) Z (AY j) o' s
    rw[tQ]at q;have l:n ∉ o':=λz=>((AA.mp^(h2 n).mp z).1 rfl);obtain⟨i,_⟩:=sZ e;rw[pU]at i;refine#[#[d6.mpr #[l,h1],λx=>?_],tQ.mpr λr a=>?_]
    .rw[bL,h2,AA]
     constructor
     .rintro(rfl|h)
      .exact l3 e
      .exact h.2
     .intro h
      by_cases z:x=n
      .exact .inl z
      .exact .inr #[z,h]
    .have p:=q _^a8.mpr #[r,a,Z]
     have same:(o'.filter λy=>decide (y∈r))=o'.filter λy=>decide (y∈r.filter λy=>!decide (y=n)):=by
      apply List.filter_congr
      intro y c;have:y≠n:=λz=>l (z ▸ c);simp[this]
     by_cases f:n∈r
     .have v:=i r a f
      cases r with
      |nil=>simp at f
      |cons z t =>
       obtain rfl:z=n:=by simpa using v
       have A:z ∉ t:=(d6.mp^j _ a).1;have B:((z::t).filter λy=>!decide (y=z))=t:=by
        rw[sx^by simp]
        exact VF.mpr λy c=>by
         have:y≠z:=λw=>A (w ▸ c)
         simpa using this
       rw[pB (by simp),same,p,B]
     .have C:(r.filter λy=>!decide (y=n))=r:=VF.mpr λy c=>by
       have:y≠n:=λw=>f (w ▸ c)
       simpa using this
      rw[sx ⇑f,same,p,C]
end eH
namespace eH
open L2 W HT
theorem len_sub{a b:am Gd}(c:a.Nodup)(h:∀x∈a,x∈b):a.length<=b.length:=Mx c h
structure Fm(done:List Gd)(L Ps:Gd->List Gd):Prop where
 ps:∀x∈done,(Ps x).Nodup/\(Ps x).length<=4 /\∀y∈Ps x,y∈done
 ln:∀x∈done,∃o,cB (total (rowsOf L (Ps x))) (rowsOf L (Ps x))=ih o/\L x=x::o
 ld:∀x∈done,(L x).Nodup /\∀y∈L x,y∈done
theorem A1{own:am Gd}:r∈rowsOf L own ↔ (∃y∈own,r=L y)\/r=own:=by
 unfold rowsOf;rw[bT,a8,bR]
 constructor
 .rintro(⟨y,h,rfl⟩|h)
  .exact .inl #[y,h,Z]
  .exact .inr h
 .rintro(⟨y,h,rfl⟩|h)
  .exact .inl #[y,h,Z]
  .exact .inr h
theorem Fm.mw{done:am Gd}(F:Fm done L Ps){own:am Gd}(a:own.Nodup)(sub:∀y∈own,y∈done):∀r∈rowsOf L own,r.Nodup /\∀y∈r,y∈done:=λr b=>by
 rcases A1.mp b with⟨y,c,rfl⟩|rfl
 .exact F.ld y^sub y c
 .exact#[a,sub]
theorem Fm.small{done:am Gd}(F:Fm done L Ps)(c:∀x∈done,Nm x)(e:done.length<=8){own:am Gd}(b:own.Nodup)(f:own.length<=4)(sub:∀y∈own,y∈done):Small^rowsOf L own:=by
 refine#[?_,λr a=>?_,λr a y d=>?_]
 .unfold rowsOf;rw[cz,aE,lL];omega
 .obtain⟨h1,h2⟩:=F.mw b sub r a
  have:=len_sub h1 h2;omega
 .exact c y^(F.mw b sub r a).2 y d
theorem Fm.order{done:am Gd}(F:Fm done L Ps){own o:am Gd}(c:own.Nodup)(sub:∀y∈own,y∈done)(d:cB (total^rowsOf L own)^rowsOf L own=ih o):o.Nodup/\(∀y∈o,y∈done) /\∀r∈rowsOf L own,∀y∈r,y∈o:=by
 obtain⟨⟨h1,h2⟩,_⟩:=sound _ _ Z (λr a=>(F.mw c sub r a).1) o d;refine#[h1,λy b=>?_,λr a y b=>(h2 y).mpr #[r,a,b]];obtain⟨r,a,h⟩:=(h2 y).mp b;exact(F.mw c sub r a).2 y h
theorem Io{a:Gd->List Gd}{own:am Gd}(h:∀y∈own,a y=L y):rowsOf a own=rowsOf L own:=by
 unfold rowsOf;rw[lS h]
theorem Fm.add{done:am Gd}(F:Fm done L Ps){k:Gd}{own o:am Gd}(i:k ∉ done)(j:own.Nodup)(n:own.length<=4)(sub:∀y∈own,y∈done)(l:cB (total^rowsOf L own)^rowsOf L own=ih o) :
  Fm (done++[k]) (λx=>if x=k then k::o else L x) (λx=>if x=k then own else Ps x):=by
 have p:∀{y},y∈done->y≠k:=λh z=>i (z ▸ h);have ext:∀{ps:am Gd},(∀y∈ps,y∈done)->rowsOf (λx=>if x=k then k::o else L x) ps=rowsOf L ps:=λh=>Io λy d=>ao^p^h y d;obtain⟨q,m,_⟩:=F.order j sub l;refine#[λx f=>?_,λx f=>?_,λx f=>?_]
 .by_cases e:x=k
  .rw[aB e];exact#[j,n,λy d=>gj _^sub y d]
  .rw[ao e]
   obtain⟨a,b,c⟩:=F.ps x (by rcases bT.mp f with z|z;exact z;exact absurd ⇑z e)
   exact#[a,b,λy d=>gj _^c y d]
 .by_cases e:x=k
  .refine#[o,?_,by rw[aB e,e]]
   rw[aB e,ext sub];exact l
  .have g:x∈done:=by rcases bT.mp f with z|z;exact z;exact absurd ⇑z e
   obtain⟨o',h1,h2⟩:=F.ln x g;refine#[o',?_,by rw[ao e];exact h2]
   rw[ao e,ext (F.ps x g).2.2];exact h1
 .by_cases e:x=k
  .rw[aB e]
   refine#[d6.mpr #[λz=>i^m k z,q],λy d=>?_];rcases bL.mp d with z|z
   .rw[z];exact et _ aY
   .exact gj _^m y z
  .rw[ao e]
   have g:x∈done:=by rcases bT.mp f with z|z;exact z;exact absurd ⇑z e
   obtain⟨a,b⟩:=F.ld x g;exact#[a,λy d=>gj _^b y d]
def gL(Ps:Gd->List Gd)(ks:List Gd):List (Gd×List Gd):=ks.map λx=>(x,Ps x)
theorem A2(Ps:Gd->List Gd)(ks:am Gd):(gL Ps ks).map (·.1)=ks:=by
 unfold gL;rw[dY];exact List.map_id' _
theorem Fm.NG(F:Fm ks L Ps)(i:ks.Nodup)(g:∀x∈ks,Nm x)(h:ks.length<=8):jf (gL Ps ks) L:=by
 have d:∀{p:Gd×List Gd},p∈gL Ps ks->p.1∈ks/\p.2=Ps p.1:=λ{p} a=>by
  obtain⟨x,b,rfl⟩:=a8.mp a;exact#[b,Z]
 refine#[by rw[A2];exact i,by unfold gL;rw[aE];exact h,λp a=>g _ (d a).1,λp a x b=>?_,#[λx=>(L x).length,λp a x b=>?_],λp a=>?_]
 .obtain⟨h1,h2⟩:=d a
  rw[h2]at b;exact#[(x,Ps x),a8.mpr #[x,(F.ps _ h1).2.2 x b,Z],Z]
 .obtain⟨h1,h2⟩:=d a
  rw[h2]at b;obtain⟨o,e,f⟩:=F.ln _ h1;obtain⟨n1,_,c⟩:=F.ps _ h1;obtain⟨_,_,j⟩:=F.order n1 c e;have:=len_sub (F.ld x^c x b).1 λy k=>j (L x) (A1.mpr^.inl #[x,b,Z]) y k;show(L x).length<(L p.1).length;rw[f,c4];omega
 .obtain⟨h1,h2⟩:=d a
  rw[h2];obtain⟨o,e,f⟩:=F.ln _ h1;obtain⟨n1,l,c⟩:=F.ps _ h1;obtain⟨m,n,_⟩:=F.order n1 c e;exact#[F.small g h n1 l c,o,e,f,by have:=len_sub m n;omega]
theorem Ki(xs:am Gd):fX (xs.map V.str) none^ih (-1)=xs.dropLast.map V.str:=by
 unfold fX;have e1:HT.bz (xs.map V.str).length 0 none=0:=rfl;have e2:HT.bz (xs.map V.str).length (xs.map V.str).length^ih (-1)=xs.length - 1:=by
  rw[aE];unfold HT.bz;simp;omega
 rw[e1,e2,wZ,F7,<-aaW,List.dropLast_eq_take]
theorem fh{xs:am Gd}(h:cW p H)(e:H a=ce^xs.map V.str):a≠p:=by
 rintro rfl;obtain⟨x,y,e2,_⟩:=h;rw[e]at e2;have e3:xs.map V.str=[.int x,.int y]:=HO.lst.inj^cQ e2;cases xs with
 |nil=>cases e3
 |cons z t=>cases e3
theorem en.c3(h:en H kvs L x)(ok:cW p H)(s:bw p H H'):en H' kvs L x:=let ⟨a,e,q⟩:=h;#[a,e,s.kp _ _ q^fh ok q]
theorem en.write{b:am (Key×V)}{u:HO}(h:en H kvs L x)(c:H d=cr b)(e:H'=upd H d u):en H' kvs L x:=let ⟨a,e1,q⟩:=h;#[a,e1,by rw[e,ag^aq q c];exact q]
theorem i7(ok:cW p H)(s:bw p H H')(e:H d=cr kvs):H' d=cr kvs:=by
 obtain⟨x,y,ep,_⟩:=ok;exact s.kp _ _ e^aq e ep
theorem kM(h:cW p H)(s:ax H H'):bw p H H':=by
 obtain⟨x,y,e,r⟩:=h;exact#[#[x,y,s _ _ e,r],λb o e _=>s b o e]
theorem Dq{k:Gd}{l:am Gd}(c:H d=cr kvs)(f:H a=ce^l.map V.str)(h:x≠k->en H kvs L x) :
  en (upd H d^.dK^putK kvs (n' k)^.ref a) (putK kvs (n' k)^.ref a) (λx=>if x=k then l else L x) x:=by
 unfold en;rw[kK]
 by_cases e:x=k
 .subst e
  refine#[a,by rw[aB Z],?_]
  rw[ag^aq f c];show H a=ce^(if x=x then l else L x).map V.str;rw[aB Z];exact f
 .obtain⟨b,e1,e2⟩:=h e
  refine#[b,by rw[ao^λz=>e^fZ z];exact e1,?_]
  rw[ag^aq e2 c];show H b=ce^(if x=k then l else L x).map V.str;rw[ao e];exact e2
theorem Cz{done:am Gd}{k:Gd}(h:kvs.map (·.1)=done.map n')(c:k ∉ done):(putK kvs (n' k) v).map (·.1)=(done++[k]).map n':=by
 have d:bq kvs^n' k=none:=by
  have:(bq kvs^n' k).isSome=false:=by
   rw[<-i3,wF];intro a b f;have e:a.1=n' k:=dA f;have:a.1∈kvs.map (·.1):=a8.mpr #[a,b,Z];rw[h,e]at this;obtain⟨y,g,i⟩:=a8.mp this;exact c (fZ i ▸ g)
  cases e:bq kvs^n' k with
  |none=>rfl
  |some _=>rw[e]at this;cases this
 rw[i4 _ d,bj,bj,h];rfl
noncomputable abbrev EG:List Gd:=["_law_pot_here","_law_kinds","_law_lines","_law_parents_here","_law_kind","_law_own","_law_turn","_law_family_here"]
theorem jX:bp EG ["_law_pot_here","_law_kinds"]^aI nW:=bD
abbrev O9:VH:=gz (gz (fy (bW (bJ nW) 2)))
theorem di.keyed(h:di H vs Qc):∃kvs,iC H 1 vs kvs/\kvs.map (·.1)=(Qc.map (·.1)).map λx=>[x]:=by
 induction h with
 |nil=>exact#[[],.nil,Z]
 |@cons _ p _ _ h _ c =>
  obtain⟨a,b,e,q,r⟩:=h;obtain⟨kvs,h1,h2⟩:=c;exact#[([p.1],[.ref b])::kvs,.cons #[a,e,q,Z] h1,by rw[bY,h2];rfl]
structure O'(p:FG)(H:Hp)(ks:List Gd)(r t d1:FG)(o:YC)(ws:List V)(Qd:List (Key×V))(L Ps:Gd->List Gd)(Qc:List (Gd×List Gd))(H':Hp):Prop where
 hr:H' r=ih (.tup [.ref t,.ref d1])
 ht:H' t=ih (.bf o (.tup ws))
 od:o.dict=none
 fv:di H' ws Qc
 pm:Qc.Perm (gL Ps ks)
 fm:Fm ks L Ps
 h1:H' d1=ih (.dK Qd)
 k1:Qd.map (·.1)=ks.map n'
 l1:∀x∈ks,en H' Qd L x
 pa:bw p H H'
 n1:H d1=none
inductive q9(vs:List V)(H:Hp)(Q:VK)(E:XK):Prop
 |mk{p n:FG}{ks:List Gd}(_:vs=[.ref p,.ref n])(_:cW p H)(_:H n=ih (.lst (ks.map V.str)))(_:ks.Nodup)(_:(∀x∈ks,Nm x))(_:ks.length<=8)(_:∀r t d1 o ws Qd L Ps Qc H',O' p H ks r t d1 o ws Qd L Ps Qc H'->Q (.ref r) H'):q9 vs H Q E
theorem D1:b8 EG (aI nW) ["_law_kind","_law_parents_here"] [none,ih 3]^cK O9:=dF
theorem NH{ym:FG}{xt:X3}(F:aQ K "_law_family" "_law_family" nW f fd)(B:dw mg)(xC:hA mg)
  (yC:aT P w K mg base aF 2 ym xt ["_law_pot_here","_law_made"] qK) (zC:Yv K^.ref ym=true) (xD:Binds K xt ["_law_pot_here","_law_made"] []) (yD:mg "_law_parents" = ih^.ref ym)
  (yt:aT P w K mg base aF 2 fL dL ["_law_lines","_law_kind","_law_own"] oM) (zt:Yv K^.ref fL=true) (xu:Binds K dL ["_law_lines","_law_kind","_law_own"] []) (yu:mg "_law_line" = ih^.ref fL) :
  aT P w K mg base aF 3 f fd ["_law_pot_here","_law_kinds"] q9:=by
 refine F.bI jX λQb A outer s H vs Q E C h=>?_
 .obtain @⟨p,n,ks,rfl,xe,ye,zh,yx,xL,q⟩:=h
  have zD:=C.units;have xi:=Vu (Nat.add_le_add_left (show 1<=64 by decide) _) zD
  intro X;refine#[_,ar (g6 (cc^aa nR^aa nR ai)^gH Z^cA (ba 2 jX.nd)^cA (qf (i:=3) jX.nd Z^YS Z) fM)
   (ar (ee dZ Z (c7^pv 1) (ba 4 jX.nd)
    (ar (a4 5 jX.nd^f3 yC C Z yD zC xD .nil c8^aa (pv 0)^aa (df (AQ Z) Z B.list boot_list^aa (pv 2) ai) ai)
    (ar (ee dZ Z (iZ Z B.range^aa aw ai) (ba 6 jX.nd)
     (ay (bo (bx gI (f3 yt C Z yu zt xu .nil c8^aa (pv 2)^aa (pv 4)^aa (pv 5) ai) d3^bC _)
      (ay^a4 5 jX.nd^i0 mf (pv 5) i6^iz^uT uC aw) bE)))
    (ar (f5 xi (pv 2) (pv 4) (f3 yt C Z yu zt xu .nil c8^aa (pv 2)^aa (pv 4)^aa (pv 5) ai) Z)
    (ay^f5 xi (pv 3) (pv 4) (pv 5) Z)))))
   (ar (a4 7 jX.nd^df GJ Z B.tuple boot_tuple^aa (bV sJ Z xC.sorted boot_sorted^aa (d7 Z D1 (c7^pv 1)^λs H fp=>#[ba 0 D1.nd,ey,
     cc^aa (pv 0)^aa (df (Au K Z) Z B.tuple boot_tuple^aa (dV xi (pv 1)^pv 0) ai) ai]) ai) ai)
   (ay^a3^cc^aa (pv 7)^aa (pv 2) ai))),?_]
  intro d1 xb g yi;have xE:ax H^upd (upd H d1^.dK []) g^.dK []:=(aJ xb).trans (aJ yi);have zi:d1≠g:=aA ah yi;have yp:H g=none:=(aJ xb).free yi;refine#[by show 2<=UM;rw[aV];decide,λtp xj=>?_]
  have zu:(upd (upd H d1^.dK []) g^.dK []) d1=cr []:=by rw[ag zi];exact ah
  have xv:=xE.trans^aJ (o:=.tup [V.ref d1,.ref g]) xj;have zp:upd (upd (upd H d1^.dK []) g^.dK []) tp (.tup [V.ref d1,.ref g]) d1=cr []:=by rw[ag^aA zu xj];exact zu
  have xq:upd (upd (upd H d1^.dK []) g^.dK []) tp (.tup [V.ref d1,.ref g]) g=cr []:=by rw[ag^aA ah xj];exact ah
  refine#[tp,_,Z,aX.of ah,Z,_,_,Z,_,_,Z,Z,?_];generalize upd (upd (upd H d1^.dK []) g^.dK []) tp^.tup [V.ref d1,.ref g]=H0 at xv zp xq⊢;have yv:bw p H H0:=kM xe xv;have zx:p≠d1:=xe.ne xb;have xy:p≠g:=xe.ne yp;have yj:n≠p:=fh xe ye;refine#[_,Z,n,Z,#[_,au.of^yv.kp _ _ ye yj],gZ (xs:=ks.map V.str) (λi σ Y=>∃(Qd M:am (Key×V)) (L Ps:Gd->List Gd) (zm xn S:a2 V),σ=[bd p,bd n,bd d1,bd g,zm,xn,S,none]/\bw p H Y /\
   Y d1=cr Qd/\Y g=cr M/\Qd.map (·.1)=(ks.take i).map n'/\M.map (·.1)=(ks.take i).map n'/\(∀x∈ks.take i,en Y Qd L x)/\(∀x∈ks.take i,en Y M Ps x)/\Fm (ks.take i) L Ps)
   #[[],[],λ_=>[],λ_=>[],none,none,none,Z,yv,zp,xq,Z,Z,λx d=>(by cases d),λx d=>(by cases d),#[λx d=>(by cases d),λx d=>(by cases d),λx d=>(by cases d)]] (λi σ Y _ ab=>by obtain⟨_,_,_,_,_,_,_,_,z,_⟩:=ab;exact au.of^z.kp _ _ ye yj) ?_ ?_]
  .rintro i x σ Y d ⟨Qd,M,L,Ps,zm,xn,S,rfl,xa,xd,zj,e1,e2,ze,xf,O⟩
   obtain⟨yb,rfl⟩:=iy d;have N:ks.take (i+1)=ks.take i++[ks[i]]:=by rw[dQ,bG yb];rfl
   have xh:ks[i]∉ ks.take i:=by
    have:(ks.take (i+1)).Nodup:=zh.sublist^iS _ _;rw[N]at this;exact λz=>(dz.mp this).2.2 _ z _ aY Z
   have yy:(ks.take i).Nodup:=zh.sublist^iS _ _;have yq:∀x∈ks.take i,Nm x:=λx d=>yx x^nD d;have zv:(ks.take i).length<=8:=by rw[cH];omega
   have zI:Qd.length=(ks.take i).length:=by have:=dy Y5 e1;simpa using this
   have xJ:M.length=(ks.take i).length:=by have:=dy Y5 e2;simpa using this
   refine aW Z Z #[d1,Qd,Z,xd,λl yn=>?_];have yE:Qd.map (λzn=>kV zn.1)=(ks.take i).map V.str:=by
    have:Qd.map (λzn=>kV zn.1)=(Qd.map (·.1)).map kV:=by rw[dY];rfl
    rw[this,e1,dY];rfl
   rw[yE];have ya:=xa.new (o:=.lst^(ks.take i).map V.str) yn;have yf:=aJ (o:=.lst^(ks.take i).map V.str) yn;refine qK.mk Z ya.ok (xa.ok.ne yn) ah () λI own rest xo zq W G yc yo=>?_
   have xw:=ya.trans yc;have v:own.Nodup:=(dz.mp^W.nodup_iff.mpr yy).1;have m:∀y∈own,y∈ks.take i:=λy zo=>W.mem_iff.mp^gj _ zo;have xk:=i7 ya.ok yc^yf _ _ xd;have zy:=i7 ya.ok yc^yf _ _ zj;have yk:∀x∈ks.take i,en xo Qd L x:=λx d=>((ze x d).same yf).c3 ya.ok yc;have xz:∀x∈ks.take i,en xo M Ps x:=λx d=>((xf x d).same yf).c3 ya.ok yc;refine#[5,Z,∅,∅,l0 (λj σ zf=>∃(I:FG) (own:am Gd) (S:a2 V),σ=[bd p,bd n,bd d1,bd g,ih^.str ks[i],bd I,S,none]/\ax xo zf/\zf I=ce^own.map V.str/\own.Nodup/\(∀y∈own,y∈ks.take i)/\own.length<=4/\(cB (total^rowsOf L own)^rowsOf L own≠none\/own.length+j<=4))
    #[I,own,_,Z,ax.refl _,yo,v,m,G,.inr G] ?_ ?_]
   .clear W G v m yo zq
    rintro j σ zf yL ⟨I,own,S,rfl,R,T,v,m,G,zk⟩;have xl:=O.small yq zv v G m;have yl:=λr C=>(O.mw v m r C).1;refine cZ Z Z Z^oM.mk Z (R _ _ xk) T (λx d=>(yk x^m x d).same R) xl yl (λe za J=>?_)^λo e zc za yz J yw=>?_
    .refine#[Z,_,Z,?_]
     refine af Z ?_;have zz:own ≠ []:=λz=>by rw[z]at e;cases e
     have xI:0<own.length:=jG.mpr zz;refine#[1,Z,_,Z,I,_,Z,au.of^J _ _ T,λc xg=>?_];refine#[c,own.dropLast,_,Z,(R.trans J).trans (aJ xg),?_,v.sublist^List.dropLast_sublist _,λy zo=>m y^List.dropLast_subset _ zo,by rw[FV];omega,.inr ?_]
     .have:=Ki own
      rw[ah];exact dy ih^dy HO.lst this
     .rcases zk with z|z
      .exact absurd e z
      .rw[FV];omega
    .refine#[Z,_,Z,?_]
     exact#[I,own,_,Z,R.trans J,J _ _ T,v,m,G,.inl^by rw[e];exact Option.some_ne_none _]
   .clear W G v m yo zq
    rintro σ zf ⟨I,own,S,rfl,R,T,v,m,G,zk⟩;have xl:=O.small yq zv v G m;have yl:=λr C=>(O.mw v m r C).1;have xA:cB (total^rowsOf L own)^rowsOf L own≠none:=by
     rcases zk with z|z
     .exact z
     .exact absurd z (by show ¬ (own.length+Y' 5<=4);have:Y' 5=5:=rfl;omega)
    refine cZ Z Z Z^oM.mk Z (R _ _ xk) T (λx d=>(yk x^m x d).same R) xl yl (λe=>absurd e xA)^λo e zc za yz J yw=>?_;have zb:=R.trans J;have yd:=zb _ _ xk;have yA:=zb _ _ zy;refine aW Z Z #[d1,_,Z,eG.k (k:=n' ks[i]) yd (by rw[aV];omega),?_]
    have zl:upd za d1 (.dK^putK Qd (n' ks[i])^.ref zc) g=cr M:=by rw[ag^aS zi];exact yA
    refine cZ Z Z Z #[g,_,Z,eG.k (k:=n' ks[i]) zl (by rw[aV];omega),?_]
    have zE:bw p H za:=xw.trans^kM xw.ok zb;have zA:∀x∈ks.take (i+1),en (upd za d1^.dK^putK Qd (n' ks[i])^.ref zc) (putK Qd (n' ks[i])^.ref zc) (λx=>if x=ks[i] then ks[i]::o else L x) x:=λx d=>Dq yd yw λne=>(yk x (by
     rw[N]at d;rcases bT.mp d with z|z
     .exact z
     .exact absurd ⇑z ne)).same zb
    have xB:upd za d1 (.dK^putK Qd (n' ks[i])^.ref zc) I=ce^own.map V.str:=by rw[ag^aq (J _ _ T) yd];exact J _ _ T
    refine#[_,_,_,_,_,_,_,Z,(zE.write xb zx).write yp xy,by rw[ag zi];exact ah,ah,by rw[N];exact Cz e1 xh,by rw[N];exact Cz e2 xh,λx d=>(zA x d).write zl Z,λx d=>?_,by rw[N];exact O.add xh v G m e]
    refine Dq zl xB λne=>?_;exact((xz x (by
     rw[N]at d;rcases bT.mp d with z|z
     .exact z
     .exact absurd ⇑z ne)).same zb).write yd Z
  .rintro σ Y ⟨Qd,M,L,Ps,zm,xn,S,rfl,xa,xd,zj,e1,e2,ze,xf,O⟩
   rw[aE,cF]at e1 ze xf O;have xr:=xa.kp _ _ ye yj;refine af Z #[n,Z,#[_,au.of xr],λc xg=>?_];refine fB (xs:=ks.map V.str) (λi ys yg H2=>∃xp:a2 V,yg=[xp,bd g]/\H2 c=ce ys/\ax Y H2/\di H2 ys^gL Ps^ks.take i) #[none,Z,ah,aJ xg,.nil] (λi ys yg H2 ab=>by obtain⟨_,_,z1,z2,_⟩:=ab;exact #[z1,au.of^z2 _ _ xr]) ?_ ?_
   .rintro i x ys yg H2 d ⟨xp,rfl,h2,xc,U⟩
    have yr:i<(ks.map V.str).length:=(b4.mp d).1;have yb:i<ks.length:=by simpa using yr
    obtain rfl:V.str ks[i]=x:=by simpa [yb] using d
    have N:ks.take (i+1)=ks.take i++[ks[i]]:=by rw[dQ,bG yb];rfl
    obtain⟨a,xF,yF⟩:=(xf ks[i]^eJ yb).same xc;refine cZ Z Z Z #[g,.ref a,Z,by rw[<-xF];exact b2.k (k:=n' ks[i])^xc _ _ zj,?_]
    refine#[a,_,Z,.inl #[au.of yF,λb zF=>?_]];have xG:=aJ (o:=.tup^(Ps ks[i]).map V.str) zF;refine#[by show 2<=UM;rw[aV];decide,λt zg=>?_]
    have St:=xG.trans^aJ (o:=.tup [V.str ks[i],.ref b]) zg;have zr:upd (upd H2 b^.tup^(Ps ks[i]).map V.str) t (.tup [V.str ks[i],.ref b]) b=bn^(Ps ks[i]).map V.str:=by rw[ag^aA ah zg];exact ah
    have xm:=St _ _ h2;refine#[xm,?_,cw_next yr #[_,Z,ah,λx u d=>by rw[ag^aA d xg];exact St _ _^xc x u d,?_]]
    .have:=U.length
     unfold gL at this;rw[aE,cH]at this;rw[aV];omega
    .have yG:gL Ps^ks.take (i+1)=gL Ps^ks.take i++[(ks[i],Ps ks[i])]:=by rw[N];unfold gL;rw[bj];rfl
     rw[yG];refine di.append (U.keep λx xs d=>?_) ?_ ?_ (b:=b)
     .rw[ag^aq d h2];exact St _ _ d
     .rw[ag^aq ah xm];exact ah
     .rw[ag^aq zr xm];exact zr
   .rintro ys yg H2 ⟨xp,rfl,h2,xc,U⟩
    rw[aE,cF]at U;obtain⟨kvs,pv,yB⟩:=U.keyed;have yJ:=U.length;have zJ:(gL Ps ks).length=ks.length:=by unfold gL;exact aE ..
    refine#[c,ys,kvs,1,Z,.inl^au.of h2,pv,aP _,by rw[yB,A2];exact zh.map _ λa b n e=>n (pA e).1,(),λD zd yI zG W xK yK zK=>?_]
    have xH:=aJ (o:=.lst zd) zG;refine#[D,zd,Z,au.of ah,λt o zg yH=>?_];have St:=xH.trans^aJ (o:=.bf o^.tup zd) zg;obtain⟨xx,zB,zH⟩:=sM W U;refine aW Z Z #[bQ,λr C=>?_];have zw:=St.trans^aJ (o:=.tup [V.ref t,.ref d1]) C;have yh:=xc.trans zw;refine q r t d1 o zd Qd L Ps xx _ #[ah,by rw[ag^aA ah C];exact ah,yH,di.same zH zw,zB,O,yh _ _ xd,e1,λx d=>(ze x d).same yh,xa.trans^kM xa.ok yh,xb]
theorem boot_int:VA "int" = ih^.type "int":=⋯
theorem boot_bool:VA "bool" = ih^.type "bool":=⋯
structure vI(mg:Gd->Option i'):Prop where
 int:mg "int" = none
 bool:mg "bool" = none
theorem b6{x:V}:cN (x::xs) 0=ih x:=(show cN (x::xs) ((0:Nat):Int)=ih x from cx Z)
theorem cP{x:V}:cN (x::y::xs) 1=ih y:=(show cN (x::y::xs) ((1:Nat):Int)=ih y from cx Z)
theorem oN{x z:V}:cN (x::y::z::xs) 2=ih z:=(show cN (x::y::z::xs) ((2:Nat):Int)=ih z from cx Z)
end eH
namespace L2
open W
theorem Rep.tupI{ds:am UN}(r:Rep H v^.tuple ds):∃a vs,v=.ref a/\H a=bn vs/\bM H vs ds:=by
 cases r with
 |tup e rs=>exact#[_,_,Z,e,rs]
theorem Rep.hB(r:Rep H v^.str x):v=.str x:=by cases r;rfl
theorem Rep.iJ{x:Int}(r:Rep H v^.int x):v=.int x:=by cases r;rfl
theorem bM.ft{d:UN}{ds:am UN}(r:bM H vs (d::ds)):∃v ws,vs=v::ws/\Rep H v d/\bM H ws ds:=by
 cases r with
 |cons a b=>exact#[_,_,Z,a,b]
theorem bM.mM(r:bM H vs []):vs=[]:=by cases r;rfl
theorem bM.length{H:Hp}:∀{vs:am V}{ds:am UN},bM H vs ds->vs.length=ds.length
 |_,_,.nil=>rfl
 |_,_,.cons _ rs=>by rw[c4,c4,bM.length rs]
theorem bM.get{H:Hp}{v:V}:∀{vs:am V}{ds:am UN}{i:Nat} (_:bM H vs ds) (_:vs[i]?=ih v),∃d,ds[i]?=ih d/\Rep H v d
 |_,_,_,.nil,e=>by cases e
 |_,_,0,.cons r _,e=>by cases e;exact af Z r
 |_,_,i+1,.cons _ rs,e=>by have:=bM.get (i:=i) rs ⇑e;simpa using this
end L2
namespace eH
open L2 W HT
def bb:UN->Gd|.tuple (.str s::_)=>s|_ => ""
def lp:UN->Int|.tuple [_,.int n]=>n|_=>0
def dq:UN->Gd|.tuple [_,.str x]=>x|_ => ""
def b9:UN->List UN
 |.tuple [_,.tuple ds]=>ds
 |.tuple [_,.str x,.int n]=>[.tuple [.str "ask",.str x],.tuple [.str "add",.int n]]
 |.tuple [_,.int n]=>[.tuple [.str "add",.int n]]
 |_=>[]
inductive eo:UN->Prop where
 |add (n:Int) (h:n.natAbs<=10 ^ 18):eo (.tuple [.str "add",.int n])
 |times (n:Int) (lo : -9<=n) (hi:n<=9):eo (.tuple [.str "times",.int n])
 |mx:eo (.tuple [.str "onward"])
 |ask (x:Gd) (h:Nm x):eo (.tuple [.str "ask",.str x])
inductive Ent:UN->Prop where
 |plain (n:Int) (h:n.natAbs<=10 ^ 18):Ent (.tuple [.str "plain",.int n])
 |ahead (x:Gd) (n:Int) (h:Nm x) (hn:n.natAbs<=10 ^ 18):Ent (.tuple [.str "ahead",.str x,.int n])
 |behind (ds:List UN) (h4:ds.length<=4) (hs:∀d∈ds,eo d):Ent (.tuple [.str "behind",.tuple ds])
 |j2 (ds:List UN) (h4:ds.length<=4) (hs:∀d∈ds,eo d):Ent (.tuple [.str "shut",.tuple ds])
theorem two1{s:Gd}{d:UN}(r:Rep H v^.tuple [.str s,d]):∃a u,v=.ref a/\H a=bn [.str s,u]/\Rep H u d:=by
 obtain⟨a,vs,rfl,b,rs⟩:=r.tupI;obtain⟨g,h,rfl,c,rs⟩:=rs.ft;obtain⟨e,i,rfl,f,rs⟩:=rs.ft;obtain rfl:=rs.mM;obtain rfl:=c.hB;exact#[a,e,Z,b,f]
theorem eo.keep{d:UN}(s:eo d)(r:Rep H v d)(k:∀b xs,H b=bn xs->H' b=bn xs):Rep H' v d:=by
 cases s with
 |add n =>
  obtain⟨a,u,rfl,c,e⟩:=two1 r;obtain rfl:=e.iJ;exact .tup (k _ _ c)^.cons (.str _)^.cons (.int _) .nil
 |times n =>
  obtain⟨a,u,rfl,c,e⟩:=two1 r;obtain rfl:=e.iJ;exact .tup (k _ _ c)^.cons (.str _)^.cons (.int _) .nil
 |ask x =>
  obtain⟨a,u,rfl,c,e⟩:=two1 r;obtain rfl:=e.hB;exact .tup (k _ _ c)^.cons (.str _)^.cons (.str _) .nil
 |mx =>
  obtain⟨a,vs,rfl,c,rs⟩:=r.tupI;obtain⟨g,h,rfl,f,rs⟩:=rs.ft;obtain rfl:=rs.mM;obtain rfl:=f.hB;exact .tup (k _ _ c)^.cons (.str _) .nil
theorem iw(k:∀b xs,H b=bn xs->H' b=bn xs){ds:am UN}(r:bM H vs ds)(h:∀d∈ds,eo d):bM H' vs ds:=by
 induction vs generalizing ds with
 |nil=>cases r;exact .nil
 |cons x xs a=>cases r with|cons r rs=>exact .cons ((h _ aY).keep r k)^a rs λd c=>h d^bh _ c
theorem Ent.keep{d:UN}(s:Ent d)(r:Rep H v d)(k:∀b xs,H b=bn xs->H' b=bn xs):Rep H' v d:=by
 cases s with
 |plain n =>
  obtain⟨a,u,rfl,c,e⟩:=two1 r;obtain rfl:=e.iJ;exact .tup (k _ _ c)^.cons (.str _)^.cons (.int _) .nil
 |ahead x n =>
  obtain⟨a,vs,rfl,c,rs⟩:=r.tupI;obtain⟨l,m,rfl,h,rs⟩:=rs.ft;obtain⟨o,p,rfl,e,rs⟩:=rs.ft;obtain⟨q,t,rfl,i,rs⟩:=rs.ft;obtain rfl:=rs.mM;obtain rfl:=h.hB;obtain rfl:=e.hB;obtain rfl:=i.iJ;exact .tup (k _ _ c)^.cons (.str _)^.cons (.str _)^.cons (.int _) .nil
 |behind ds j f =>
  obtain⟨a,u,rfl,c,e⟩:=two1 r;obtain⟨b,vs,rfl,g,rs⟩:=e.tupI;exact .tup (k _ _ c)^.cons (.str _)^.cons (.tup (k _ _ g)^iw k rs f) .nil
 |j2 ds j f =>
  obtain⟨a,u,rfl,c,e⟩:=two1 r;obtain⟨b,vs,rfl,g,rs⟩:=e.tupI;exact .tup (k _ _ c)^.cons (.str _)^.cons (.tup (k _ _ g)^iw k rs f) .nil
theorem Lz(a:cW p H)(c:bw p H H'):∀b xs,H b=bn xs->H' b=bn xs:=λb xs e=>by
 obtain⟨x,y,e0,_⟩:=a;exact c.kp b _ e^aq e e0
theorem GU{ds:am UN}{d:UN}(h:bM H vs ds)(r:Rep H v d):bM H (vs++[v]) (ds++[d]):=by
 induction vs generalizing ds with
 |nil=>cases h;exact .cons r .nil
 |cons x xs b=>cases h with|cons a c=>exact .cons a^b c
inductive hZ(vs:List V)(H:Hp)(Q:VK)(E:XK):Prop
 |mk{p:FG}(_:vs=[.ref p])(_:cW p H)(_:∀(n:Int) (H':Hp),n.natAbs<=10 ^ 18->bw p H H'->Q (.int n) H'):hZ vs H Q E
noncomputable abbrev Pa:List Gd:=["_law_pot_here","_law_near","_law_far"]
theorem vc:bp Pa ["_law_pot_here"]^aI uk:=bD
theorem MC(F:aQ K "_law_number" "_law_number" uk f fd)
  (g:bB P w K mg base aF 1 fD dD ["_law_pot_here","_law_many"] g0 "_law_digit"):aT P w K mg base aF 2 f fd ["_law_pot_here"] hZ:=by
 refine F.bI vc λQb A outer s H vs Q E t h=>?_
 .obtain @⟨p,rfl,u,q⟩:=h
  have e:aZ 1 _:=t;intro X;refine#[_,ar (a4 1 vc.nd^bN kS (a' g e^aa (pv 0)^aa aw ai) aw)
   (ar (a4 2 vc.nd^bN fq (bN kS (a' g e^aa (pv 0)^aa (bN kS (bN oi aw^bN uB aw aw) aw) ai)^bN uB aw aw) aw)
   (ay^a3^aU d2 (eN^aa (pv 1)^aa (pv 1)^aa aw^aa (pv 2) ai)^a' g e^aa (pv 0)^aa aw ai)),?_]
  refine af Z (c6 (p:=p) (m:=41) u ∅ ∅ λd1 Y B C i=>#[_,_,Z,Z,?_])
  refine af Z #[_,_,Z,Z,#[∅,∅,∅],_,_,Z,Z,.inl #[∅,∅],_,_,Z,Z,?_]
  refine c6 (p:=p) (m:=2 * 10 ^ (18:Int).toNat - 1) i.ok ∅ ∅ λv H2 b0 b1 p2=>#[_,_,Z,Z,#[∅,∅,∅],_,_,Z,Z,_,_,Z,Z,?_]
  refine cZ Z Z Z #[by show 4<=UM;rw[aV];decide,λc k=>?_]
  have p3:=(i.trans p2).new (o:=.lst [.int (d1 - 20),.int (d1 - 20),.int 0,.int (v - 10 ^ (18:Int).toNat+1)]) k;refine af Z (c6 (p:=p) (m:=4) p3.ok ∅ ∅ λD l x G p4=>?_)
  have r:c≠p:=aS^(i.trans p2).ok.ne k;have d:=p4.kp _ _ ah r;obtain⟨j,rfl⟩:=gY x;have a:(10:Int) ^ (18:Int).toNat=1000000000000000000:=rfl;have b:∀n:Int,n.natAbs<=10 ^ 18->Q (.int n) l:=λn y=>q n l y^p3.trans p4;have z:j=0\/j=1\/j=2\/j=3:=()
  rcases z with rfl|rfl|rfl|rfl
  .exact e9 d (cx Z) (b _^by first|omega|(rw[a]at b1⊢;omega))
  .exact e9 d (cx Z) (b _^by first|omega|(rw[a]at b1⊢;omega))
  .exact e9 d (cx Z) (b _^by first|omega|(rw[a]at b1⊢;omega))
  .exact e9 d (cx Z) (b _^by first|omega|(rw[a]at b1⊢;omega))
inductive qL(vs:List V)(H:Hp)(Q:VK)(E:XK):Prop
 |mk{p l:FG}{ys:List Gd}{k:Nat}(_:vs=[.ref p,.ref l,.int k])(_:cW p H)(_:H l=ih (.lst (ys.map V.str)))(_:ys ≠ [])(_:ys.length<=20)(_:(∀y∈ys,Nm y))(_:∀(v:V) (d:UN) (H':Hp),bw p H H'->Rep H' v d->eo d->(bb d = "ask" -> dq d∈ys)->Q v H'):qL vs H Q E
noncomputable abbrev Pb:List Gd:=["_law_pot_here","_law_names_here","_law_at","_law_way","_law_later"]
theorem qM:bp Pb ["_law_pot_here","_law_names_here","_law_at"]^aI u2:=bD
theorem MD(F:aQ K "_law_step" "_law_step" u2 f fd)(B:dw mg)
  (x:bB P w K mg base aF 1 fD dD ["_law_pot_here","_law_many"] g0 "_law_digit")
  (yd:bB P w K mg base aF 2 fN dN ["_law_pot_here"] hZ "_law_number"):aT P w K mg base aF 3 f fd ["_law_pot_here","_law_names_here","_law_at"] qL:=by
 refine F.bI qM λQb A outer s H vs Q E xa h=>?_
 .obtain @⟨p,l,ys,k,rfl,ya,C,ne,S,M,q⟩:=h
  have zd:=xa.units;have T:aZ 2 _:=xa;have r:aZ 1 _:=T.mono ∅
  intro X;refine#[_,ar (a4 3 qM.nd^a' x r^aa (pv 0)^aa aw ai)
   (ar (bo (bx dg (pv 3) aw^bC _) (ay^a3^cc^aa br^aa (a' yd T^aa (pv 0) ai) ai) bE)
   (ar (bo (bx dg (pv 3) aw^bC _) (ay^a3^cc^aa br^aa (bN kS (a' x r^aa (pv 0)^aa aw ai) aw) ai) bE)
   (ar (bo (bx uU (pv 3) aw^bC _) (ay^a3^cc^aa br ai) bE)
   (ar (a4 4 qM.nd^i0 mf (pv 1) (iz^bN fq (pv 2) aw) i6)
   (ar (bo (PW.pt^pw_or (bx (uG zd) (pv 4) (eN ai)^bC _)^pw_or1^bx dg (a' x r^aa (pv 0)^aa aw ai) aw^bC _) (ay^a4 4 qM.nd^pv 1) bE)
   (ay^a3^cc^aa br^aa (aU d2 (pv 4)^a' x r^aa (pv 0)^aa (bV eQ Z B.len ew^aa (pv 4) ai) ai) ai)))))),?_]
  refine af Z (c6 (p:=p) (m:=6) ya ∅ ∅ λze Y xf yf d=>?_)
  refine af Z #[Z,_,Z,?_];refine bZ (λh0=>?_)^λh0=>?_
  .refine af Z^hZ.mk Z d.ok λn H2 xe p2=>#[bQ,λt a=>?_]
   exact q _ _ _ ((d.trans p2).new a) (.tup ah^.cons (.str _)^.cons (.int _) .nil) (.add n xe) (λz=>absurd z^by show ¬ ((("add" : Gd)) = "ask");decide +kernel)
  refine af Z #[Z,_,Z,?_];refine bZ (λh1=>?_)^λh1=>?_
  .refine af Z (c6 (p:=p) (m:=19) d.ok ∅ ∅ λn H2 b0 b1 p2=>#[_,_,Z,Z,bQ,λt a=>?_])
   exact q _ _ _ ((d.trans p2).new a) (.tup ah^.cons (.str _)^.cons (.int _) .nil) (.times (n - 9) () ()) (λz=>absurd z^by show ¬ ((("times" : Gd)) = "ask");decide +kernel)
  refine af Z #[_,_,Z,Z,_,Z,?_];refine bZ (λh2=>?_)^λh2=>?_
  .refine#[eW,λt a=>?_]
   exact q _ _ _ (d.new a) (.tup ah^.cons (.str _) .nil) .mx (λz=>absurd z^by show ¬ ((("onward" : Gd)) = "ask");decide +kernel)
  have D:l≠p:=fh ya C;refine aW Z Z #[_,_,Z,Z,_,Z,l,_,Z,au.of^d.kp _ _ C D,λc ye=>?_];have xc:fX (ys.map V.str) (ih ((k:Int)+1)) none=(ys.drop (k+1)).map V.str:=by
   rw[lT];exact nZ (ys.map V.str) (k+1)
  rw[xc];have p2:=d.new (o:=.lst^(ys.drop (k+1)).map V.str) ye;have u:upd Y c (.lst^(ys.drop (k+1)).map V.str) c=ce^(ys.drop (k+1)).map V.str:=ah;generalize upd Y c^.lst^(ys.drop (k+1)).map V.str=H2 at p2 u⊢;have G:∀y∈ys.drop (k+1),Nm y:=λy N=>M y^pC N;have dl:(ys.drop (k+1)).length<=ys.length:=by rw[m9];omega
  have O:∀y∈ys.drop (k+1),y∈ys:=λy N=>pC N;generalize ys.drop (k+1)=zs at u G dl O;refine af Z #[bF _,λe0 U=>?_];have p3:=p2.new (o:=.lst []) U;have v:upd H2 e0 (.lst []) c=ce^zs.map V.str:=by rw[ag^aA u U];exact u
  have W:upd H2 e0 (.lst []) e0=ce []:=ah;generalize upd H2 e0^.lst []=zf at p3 v W⊢;refine eq_nil v W G^af Z ?_;have I:=p3.kp _ _ C D;refine bZ (λza=>?_)^λza=>?_
  .refine af Z ?_
   refine cZ Z Z Z #[l,_,Z,.inl^au.of I,?_];rw[aE];have R:0<ys.length:=jG.mpr ne;have yc:ys.length<=20:=S;refine c6 (p:=p) (m:=(ys.length:Int)) p3.ok () () λxb yb g zb p5=>?_
   obtain⟨j,rfl⟩:=gY g;have b:j<ys.length:=()
   have i:=p5.kp _ _ I^fh p3.ok I;refine e9 i (cx^by rw[c5,bG b];rfl) #[bQ,λt a=>?_]
   exact q _ _ _ ((p3.trans p5).new a) (.tup ah^.cons (.str _)^.cons (.str _) .nil) (.ask _^M _^eJ b)^λ_=>eJ b
  have zc:zs ≠ []:=λz=>za (by simp[z])
  refine af Z (c6 (p:=p) (m:=4) p3.ok ∅ ∅ λxg yg b0 b1 p4=>#[Z,_,Z,?_])
  have e:=p3.trans p4;have J:=e.kp _ _ C D;have L:=p4.kp _ _ v^fh p3.ok v;refine bZ (λxd=>?_)^λxd=>?_
  .refine af Z ?_
   refine cZ Z Z Z #[l,_,Z,.inl^au.of J,?_];rw[aE];have R:0<ys.length:=jG.mpr ne;have yc:ys.length<=20:=S;refine c6 (p:=p) (m:=(ys.length:Int)) e.ok () () λxb yb g zb p5=>?_
   obtain⟨j,rfl⟩:=gY g;have b:j<ys.length:=()
   have i:=p5.kp _ _ J^fh e.ok J;refine e9 i (cx^by rw[c5,bG b];rfl) #[bQ,λt a=>?_]
   exact q _ _ _ ((e.trans p5).new a) (.tup ah^.cons (.str _)^.cons (.str _) .nil) (.ask _^M _^eJ b)^λ_=>eJ b
  .refine cZ Z Z Z #[c,_,Z,.inl^au.of L,?_]
   rw[aE];have R:0<zs.length:=jG.mpr zc;refine c6 (p:=p) (m:=(zs.length:Int)) e.ok () () λxb yb g zb p5=>?_
   obtain⟨j,rfl⟩:=gY g;have b:j<zs.length:=()
   have i:=p5.kp _ _ L^fh e.ok L;refine e9 i (cx^by rw[c5,bG b];rfl) #[bQ,λt a=>?_]
   exact q _ _ _ ((e.trans p5).new a) (.tup ah^.cons (.str _)^.cons (.str _) .nil) (.ask _^G _^eJ b)^λ_=>O _^eJ b
inductive qN(vs:List V)(H:Hp)(Q:VK)(E:XK):Prop
 |mk{p l:FG}{ys:List Gd}{k:Nat}(_:vs=[.ref p,.ref l,.int k])(_:cW p H)(_:H l=ih (.lst (ys.map V.str)))(_:ys ≠ [])(_:ys.length<=20)(_:(∀y∈ys,Nm y))(_:∀(v:V) (d:UN) (H':Hp),bw p H H'->Rep H' v d->Ent d->(∀s∈b9 d,bb s = "ask" -> dq s∈ys)->Q v H'):qN vs H Q E
noncomputable abbrev EH:List Gd:=["_law_pot_here","_law_names_here","_law_at","_law_way","_law_steps_here"]
theorem vd:bp EH ["_law_pot_here","_law_names_here","_law_at"]^aI ou:=bD
abbrev Pc:VH:=gz (fy (bW (bJ ou) 3))
theorem D2:b8 EH (aI ou) ["_law_turn","_law_pot_here","_law_names_here","_law_at"] [none,ih 0,ih 1,ih 2]^cK Pc:=dF
theorem ME(F:aQ K "_law_entry" "_law_entry" ou f fd)(B:dw mg)
  (W:bB P w K mg base aF 1 fD dD ["_law_pot_here","_law_many"] g0 "_law_digit")
  (yg:bB P w K mg base aF 2 fN dN ["_law_pot_here"] hZ "_law_number")
  (xj:bB P w K mg base aF 3 fS dS ["_law_pot_here","_law_names_here","_law_at"] qL "_law_step"):aT P w K mg base aF 4 f fd ["_law_pot_here","_law_names_here","_law_at"] qN:=by
 refine F.bI vd λQb A outer s H vs Q E yj h=>?_
 .obtain @⟨p,l,ys,k,rfl,zg,xa,ne,zi,xh,q⟩:=h
  have xe:aZ 3 _:=yj;have T:aZ 2 _:=xe.mono ∅
  have U:aZ 1 _:=T.mono ∅
  intro X;refine#[_,ar (a4 3 vd.nd^a' W U^aa (pv 0)^aa aw ai)
   (ar (bo (bx dg (pv 3) aw^bC _) (ay^a3^cc^aa br^aa (a' yg T^aa (pv 0) ai) ai) bE)
   (ar (bo (bx dg (pv 3) aw^bC _) (ay^a3^cc^aa br^aa (aU d2 (pv 1)^bN kT (bN fq (bN fq (pv 2) aw)^a' W U^aa (pv 0)^aa (bV eQ Z B.len ew^aa (pv 1) ai) ai)^bV eQ Z B.len ew^aa (pv 1) ai)^aa (a' yg T^aa (pv 0) ai) ai) bE)
   (ar (a4 4 vd.nd^df iX Z B.tuple boot_tuple^aa (d7 Z D2 (iZ Z B.range^aa (a' W U^aa (pv 0)^aa aw ai) ai)^λs H fp=>#[ba 0 D2.nd,ey,a' xj xe^aa (pv 1)^aa (pv 2)^aa (pv 3) ai]) ai)
   (ay^a3^cc^aa (aU d2 (eN^aa br^aa br^aa br ai)^bN kS (pv 3) aw)^aa (pv 4) ai)))),?_]
  have J:l≠p:=fh zg xa;have yl:0<ys.length:=jG.mpr ne;refine af Z (c6 (p:=p) (m:=5) zg ∅ ∅ λD Y zl xm r=>?_)
  refine af Z #[Z,_,Z,?_];refine bZ (λh0=>?_)^λh0=>?_
  .refine af Z^hZ.mk Z r.ok λn H2 ya p2=>#[bQ,λt a=>?_]
   exact q _ _ _ ((r.trans p2).new a) (.tup ah^.cons (.str _)^.cons (.int _) .nil) (.plain n ya) (λs za=>by rw[bR.mp za];exact λz=>absurd z^by show ¬ ((("add" : Gd)) = "ask");decide +kernel)
  have ye:=r.kp _ _ xa J;refine af Z #[Z,_,Z,?_];refine bZ (λh1=>?_)^λh1=>?_
  .refine aW Z Z #[_,_,Z,Z,_,Z,_,Z,l,_,Z,.inl^au.of ye,?_]
   rw[aE];refine c6 (p:=p) (m:=(ys.length:Int)) r.ok () () λxb H2 b0 b1 p2=>?_
   have L:=p2.kp _ _ ye J;refine#[_,_,Z,Z,_,Z,l,_,Z,.inl^au.of L,_,_,Z,Z,by rw[aE];omega,?_]
   rw[aE];obtain⟨j,yh⟩:=gY^Ai ((k:Int)+1+xb) (show(ys.length:Int)≠0 by omega)
   have G:j<ys.length:=by
    have:=Aj ((k:Int)+1+xb) (show(0:Int)<(ys.length:Int) by omega)
    rw[yh]at this;omega
   refine#[l,_,(j:Int),.str ys[j],Z,(dy V.int yh:V.int (((k:Int)+1+xb) % (ys.length:Int))=V.int (j:Int)),au.of L,cx (by rw[c5,bG G];rfl),_,Z,hZ.mk Z p2.ok λn ym ya p3=>#[gS,λt a=>?_]]
   exact q _ _ _ (((r.trans p2).trans p3).new a) (.tup ah^.cons (.str _)^.cons (.str _)^.cons (.int _) .nil) (.ahead _ n (xh _^eJ G) ya) (λs za=>by
    rcases bL.mp za with z|z
    .rw[z];exact λ_=>eJ G
    .rw[bR.mp z];exact λz=>absurd z^by show ¬ ((("add" : Gd)) = "ask");decide +kernel)
  have zj:D=2\/D=3\/D=4:=by
   have e0:D≠0:=λz=>h0 (by rw[z];rfl)
   have e1:D≠1:=λz=>h1 (by rw[z];rfl)
   omega
  refine af Z (c6 (p:=p) (m:=5) r.ok ∅ ∅ λdn H2 b0 b1 p2=>#[dn,Z,(),(),λc yb=>?_])
  have R:=r.trans p2;have ze:p≠c:=R.ok.ne yb;have L:=R.kp _ _ xa J;refine pM (λi zs S g=>∃(ds:am UN) (zb:a2 V),S=[zb,bd p,bd l,ih^.int (k:Int)]/\bM g zs ds/\ds.length=i/\(∀d∈ds,eo d)/\(∀d∈ds,bb d = "ask" -> dq d∈ys)/\bw p H2 g/\g c=ce zs)
   #[[],none,Z,.nil,Z,(λd xc=>by cases xc),(λd xc=>by cases xc),(bw.refl R.ok).new yb,ah] (λi zs S g ab=>by obtain⟨_,_,_,_,_,_,_,_,z⟩:=ab;exact z) ?_ ?_
  .rintro j zs S g G ⟨ds,zb,rfl,rs,dl,u,C,y,yc⟩
   refine cZ Z Z Z^qL.mk Z y.ok (y.kp _ _ L J) ne zi xh λv d I zc xk zh yk=>?_;have xf:=zc.kp _ _ yc^aS ze;have up:∀b xs,I b=bn xs->upd I c (.lst (zs++[v])) b=bn xs:=λb xs e=>by rw[ag^aq e xf];exact e
   refine#[xf,by rw[rs.length,dl,aV];omega,cw_next G #[ds++[d],_,Z,GU (iw (λb xs e=>up b xs^Lz y.ok zc b xs e) rs u)^zh.keep xk up,by rw[cz,dl];rfl,λx xd=>?_,λx xd=>?_,(y.trans zc).write yb ze,ah]]
   .rcases bT.mp xd with z|z
    .exact u x z
    .rw[bR.mp z];exact zh
   .rcases bT.mp xd with z|z
    .exact C x z
    .rw[bR.mp z];exact yk
  rintro zs S g ⟨ds,zb,rfl,rs,dl,u,C,y,yc⟩;refine#[c,_,Z,.inl #[au.of yc,λb xi=>?_]];have zk:=R.trans y;have p5:=zk.new (o:=.tup zs) xi;have xl:=aJ (o:=.tup zs) xi;have yf:upd g b (.tup zs) b=bn zs:=ah;have zf:=bM.same rs xl;generalize upd g b^.tup zs=I at p5 yf zf⊢;refine#[gS,λyd xg=>?_];have p6:=p5.new (o:=.lst [V.str "behind",V.str "behind",V.str "shut"]) xg;have yi:=aJ (o:=.lst [V.str "behind",V.str "behind",V.str "shut"]) xg;have M:upd I yd (.lst [V.str "behind",V.str "behind",V.str "shut"]) yd=ce [V.str "behind",V.str "behind",V.str "shut"]:=ah;have N:=yi _ _ yf;have O:=bM.same zf yi;generalize upd I yd^.lst [V.str "behind",V.str "behind",V.str "shut"]=zm at p6 M N O⊢;have zd:ds.length<=4:=()
  refine af Z #[_,_,Z,Z,?_];rcases zj with rfl|rfl|rfl
  .refine e9 M (cx Z)^af Z #[bQ,λt a=>?_]
   exact q _ _ _ (p6.new a) (.tup ah^.cons (.str _)^.cons (.tup ((aJ a) _ _ N)^bM.same O^aJ a) .nil) (.behind ds zd u) C
  .refine e9 M (cx Z)^af Z #[bQ,λt a=>?_]
   exact q _ _ _ (p6.new a) (.tup ah^.cons (.str _)^.cons (.tup ((aJ a) _ _ N)^bM.same O^aJ a) .nil) (.behind ds zd u) C
  .refine e9 M (cx Z)^af Z #[bQ,λt a=>?_]
   exact q _ _ _ (p6.new a) (.tup ah^.cons (.str _)^.cons (.tup ((aJ a) _ _ N)^bM.same O^aJ a) .nil) (.j2 ds zd u) C
theorem tR:∀xs ys:am Gd,YF (xs.map VB)^ys.map VB=decide (xs=ys)
 |[],[]=>rfl
 |[],y::ys=>rfl
 |x::xs,[]=>rfl
 |x::xs,y::ys=>by
  show((x==y)&&YF (xs.map VB)^ys.map VB)=_;rw[tR xs ys]
  by_cases e:x=y
  .by_cases f:xs=ys <;> simp[e,f]
  .simp[e]
abbrev Bk:=List (Gd×Gd×UN)
def cS(p:Gd×Gd×UN):List Gd:=[p.1,p.2.1]
def cY(H:Hp)(vs:List V)(bk:Bk):Prop:=VT (λv p=>∃a u,v=V.ref a/\H a=ih (.tup [.str p.1,.str p.2.1,u])/\Rep H u p.2.2) vs bk
structure fz(bk:Bk):Prop where
 nm:∀p∈bk,Nm p.1/\Nm p.2.1
 ent:∀p∈bk,Ent p.2.2
 nd:(bk.map cS).Nodup
 a5:bk.length<=48
theorem cY.keep(k:∀b xs,H b=bn xs->H' b=bn xs){bk:Bk}(h:cY H vs bk)(c:∀p∈bk,Ent p.2.2):cY H' vs bk:=L2.Paired.Ej h λv p d x=>by obtain⟨a,u,e,h,r⟩:=x;exact#[a,u,e,k _ _ h,(c p d).keep r k]
theorem cY.same(S:ax H H'){bk:Bk}(h:cY H vs bk):cY H' vs bk:=Paired.imp' (λv p x=>by obtain⟨a,u,e,h,r⟩:=x;exact#[a,u,e,S _ _ h,r.same S]) h
theorem cY.length{bk:Bk}(h:cY H vs bk):vs.length=bk.length:=cy h
theorem cY.append{u:V}{p:Gd×Gd×UN}(b:H a=bn [.str p.1,.str p.2.1,u])(r:Rep H u p.2.2){bk:Bk}(h:cY H vs bk):cY H (vs++[.ref a]) (bk++[p]):=gX h #[a,u,Z,b,r]
theorem cY.keyed{bk:Bk}(h:cY H vs bk):∃kvs,iC H 2 vs kvs/\kvs.map (·.1)=bk.map cS:=by
 induction h with
 |nil=>exact#[[],.nil,Z]
 |cons x _ b =>
  obtain⟨a,u,e,h,r⟩:=x;obtain⟨kvs,h1,h2⟩:=b;exact#[(cS _,[u])::kvs,.cons #[a,e,h,Z] h1,by rw[bY,bY,h2]]
theorem LA{d:UN}(s:eo d):d.canLay0=true/\d.depth<=1:=by
 cases s with
 |add n=>exact#[by show(VI "add" && (true&&true))=true;decide +kernel,by simp[Yi,Vs]]
 |times n=>exact#[by show(VI "times" && (true&&true))=true;decide +kernel,by simp[Yi,Vs]]
 |mx=>exact#[⋯,⋯]
 |ask x h =>
  refine#[?_,by simp[Yi,Vs]]
  show(VI "ask" && (VI x&&true))=true;rw[mH h];decide +kernel
theorem CA:∀{ds:am UN},(∀d∈ds,eo d)->X' ds=true/\Vs ds<=1
 |[],_=>#[Z,∅]
 |d::ds,h=>by
  obtain⟨a,c⟩:=LA^h d aY;obtain⟨b1,e⟩:=CA λx b=>h x^bh _ b;refine#[?_,?_]
  .show(d.canLay0&&X' ds)=true
   rw[a,b1];rfl
  .simp only[Vs];omega
inductive qO(vs:List V)(H:Hp)(Q:VK)(E:XK):Prop
 |mk{x:Gd}(_:vs=[.str x])(_:Nm x)(_:∀H',ax H H'->Q .aK H'):qO vs H Q E
theorem cY.perm{a:am V}{bk:Bk}(p:a.Perm vs)(h:cY H vs bk):∃b,b.Perm bk/\cY H a b:=sM p h
def h6(p:Gd×Gd×UN):List Key:=[n' p.1,n' p.2.1]
def cg(H:Hp)(kvs:List (List Key×V))(a6:Bk):Prop:=VT (λkv p=>kv.1=h6 p/\Rep H kv.2 p.2.2) kvs a6
theorem cg.keep(k:∀b xs,H b=bn xs->H' b=bn xs){kvs:am (List Key×V)}{a6:Bk}(h:cg H kvs a6)(a:∀p∈a6,Ent p.2.2):cg H' kvs a6:=L2.Paired.Ej h λv p c x=>#[x.1,(a p c).keep x.2 k]
theorem cg.same(S:ax H H'){kvs:am (List Key×V)}{a6:Bk}(h:cg H kvs a6):cg H' kvs a6:=by
 induction h with
 |nil=>exact .nil
 |cons x _ a=>exact .cons #[x.1,x.2.same S] a
theorem cg.length{kvs:am (List Key×V)}{a6:Bk}(h:cg H kvs a6):kvs.length=a6.length:=cy h
theorem CB{p:Gd×Gd×UN}{k:Gd}:h6 p=[n' k,n' n] ↔ cS p=[k,n]:=by
 unfold h6 cS
 constructor
 .intro h
  injection h with h1 h2;injection h2 with a _;rw[fZ h1,fZ a]
 .intro h
  injection h with h1 h2;injection h2 with a _;rw[h1,a]
theorem cg.val{H:Hp}{k n:Gd}:∀{kvs:am (List Key×V)}{a6:Bk},cg H kvs a6->(bq kvs [n' k,n' n]=none /\ [k,n]∉ a6.map cS) \/∃v d,bq kvs [n' k,n' n]=ih v/\(k,n,d)∈a6/\Rep H v d
 |_,_,.nil=>.inl #[Z,by simp]
 |_,_,.cons (a:=kv) (b:=p) ⟨e,r⟩ t=>by
  by_cases f:kv.1=[n' k,n' n]
  .have g:=CB.mp^e.symm.trans f
   have e1:p.1=k:=by injection g
   have e2:p.2.1=n:=by injection g with _ z;injection z
   exact .inr #[kv.2,p.2.2,fg f,by rw[<-e1,<-e2];exact aY,r]
  .have g:cS p ≠ [k,n]:=λz=>f^e.trans^CB.mpr z
   rcases cg.val (k:=k) (n:=n) t with⟨a,b⟩|⟨v,d,a,b,c⟩
   .refine .inl #[(eK f).trans a,λz=>?_]
    rw[bY]at z;rcases bL.mp z with z|z
    .exact g z.symm
    .exact b z
   .exact .inr #[v,d,(eK f).trans a,bh _ b,c]
theorem cg.snoc{k:Gd}{d:UN}(r:Rep H v d){kvs:am (List Key×V)}{a6:Bk}(h:cg H kvs a6):cg H (kvs++[([n' k,n' n],v)]) (a6++[(k,n,d)]):=gX h #[Z,r]
theorem Dr{a b:Bk}(p:a.Perm b)(ok:fz b):fz a:=
 #[λq c=>ok.nm q^p.mem_iff.mp c,λq c=>ok.ent q^p.mem_iff.mp c,(p.map cS).nodup_iff.mpr ok.nd,by rw[p.length_eq];exact ok.a5]
theorem DK:∀{bk:Bk}{p q:Gd×Gd×UN},(bk.map cS).Nodup->p∈bk->q∈bk->p≠q->cS p≠cS q
 |[],_,_,_,h,_,_=>by cases h
 |x::bk,p,q,a,c,b,ne=>by
  rw[bY,d6]at a;rcases bL.mp c with e1|Fh
  .rcases bL.mp b with e2|wj
   .exact absurd (e1.trans e2.symm) ne
   .intro z
    exact a.1 (e1 ▸ z ▸ a8.mpr #[q,wj,Z])
  .rcases bL.mp b with e2|wj
   .intro z
    exact a.1 (e2 ▸ z ▸ a8.mpr #[p,Fh,Z])
   .exact DK a.2 Fh wj ne
theorem qa(K:Ys)(h:X.K=K){k:Nat}{t:j9}{n:Nat}(b:X.calm=true)(c:oU X es t)
  (d:(assignEach es X.env).length=n:=by rfl) (a:(assignEach es X.env).findIdx? (·.1)=none:=by rfl):PG X (.Tuple es k pos)^Eb K n t:=by subst h;exact gH b c d a
def d4(bk:Bk)(k n:Gd):Option UN:=(bk.find? λp=>decide (cS p=[k,n])).map (·.2.2)
def c9(bk:Bk)(n:Gd):List Gd->Option (Gd×UN)
 |[]=>none
 |x::r=>match d4 bk x n with
  |some d=>ih (x,d)
  |none=>c9 bk n r
theorem pJ{k:Gd}{bk:Bk}:d4 bk k n=none ↔ [k,n]∉ bk.map cS:=by
 unfold d4;rw[VG,List.find?_eq_none]
 constructor
 .intro h z
  obtain⟨p,a,e⟩:=a8.mp z;exact h p a^cb e
 .intro h p a z
  exact h^a8.mpr #[p,a,dA z]
theorem kF{k:Gd}{d:UN}{bk:Bk}(h:d4 bk k n=ih d):(k,n,d)∈bk:=by
 unfold d4 at h;obtain⟨p,e,rfl⟩:=gF.mp h;have f:=List.mem_of_find?_eq_some e;have g:cS p=[k,n]:=dA^List.find?_some (p:=λq=>decide (cS q=[k,n])) e;obtain⟨a,b,c⟩:=p;injection g with e1 e2;injection e2 with e2 _;subst e1 e2;exact f
theorem A3{k:Gd}{d:UN}{bk:Bk}(b:(bk.map cS).Nodup)(h:(k,n,d)∈bk):d4 bk k n=ih d:=by
 cases e:d4 bk k n with
 |none=>exact absurd (a8.mpr #[_,h,Z])^pJ.mp e
 |some a =>
  have h':=kF e
  by_cases z:d=a
  .rw[z]
  .exact absurd (show cS (k,n,d)=cS (k,n,a) from rfl)^DK b h h' (λw=>z^by injection w with _ w;injection w)
theorem HB{k:Gd}{a b:Bk}(p:a.Perm b)(c:(b.map cS).Nodup):d4 a k n=d4 b k n:=by
 cases e:d4 a k n with
 |none =>
  exact(pJ.mpr λz=>pJ.mp e^(p.map cS).mem_iff.mpr z).symm
 |some d=>exact(A3 c^p.mem_iff.mp^kF e).symm
theorem CC{n:Gd}{a b:Bk}(p:a.Perm b)(c:(b.map cS).Nodup):∀l:am Gd,c9 a n l=c9 b n l
 |[]=>rfl
 |x::r=>by unfold c9;rw[HB p c,CC p c r]
theorem MF{bk:Bk}(h:d4 bk x n=none):c9 bk n (x::r)=c9 bk n r:=by
 show(match d4 bk x n with|some d=>ih (x,d)|none=>c9 bk n r)=_;rw[h]
theorem Ds{bk:Bk}{d:UN}(h:d4 bk x n=ih d):c9 bk n (x::r)=ih (x,d):=by
 show(match d4 bk x n with|some d=>ih (x,d)|none=>c9 bk n r)=_;rw[h]
theorem nJ{bk:Bk}{n:Gd}{x:Gd}:∀(l:am Gd),(∀y∈l,d4 bk y n=none) ->∀r,c9 bk n (l++r)=c9 bk n r
 |[],_,_=>rfl
 |y::l,h,r=>by
  show c9 bk n (y::(l++r))=_;rw[MF^h y aY];exact nJ (x:=x) l (λz hz=>h z^bh _ hz) r
theorem jS{bk:Bk}{n x:Gd}{d:UN}:∀{l:am Gd},c9 bk n l=ih (x,d)->x∈l/\d4 bk x n=ih d
 |[],h=>by cases h
 |y::l,h=>by
  unfold c9 at h;cases e:d4 bk y n with
  |some d'=>rw[e]at h;cases h;exact#[aY,e]
  |none =>
   rw[e]at h;obtain⟨a,b⟩:=jS (l:=l) h;exact#[bh _ a,b]
theorem cg.look{k:Gd}{kvs:am (List Key×V)}{a6:Bk}(h:cg H kvs a6)(e:(a6.map cS).Nodup):(d4 a6 k n=none/\bq kvs [n' k,n' n]=none) \/∃v d,d4 a6 k n=ih d/\bq kvs [n' k,n' n]=ih v/\Rep H v d:=by
 rcases h.val (k:=k) (n:=n) with⟨a,b⟩|⟨v,d,a,b,c⟩
 .exact .inl #[pJ.mpr b,a]
 .exact .inr #[v,d,A3 e b,a,c]
def eO(H:Hp)(v:V):Option (Gd×UN)->Prop
 |none=>v=.aK
 |some (x,d)=>∃t u,v=.ref t/\H t=ih (.tup [.str x,u])/\Rep H u d
theorem eO.keep(k:∀b xs,H b=bn xs->H' b=bn xs){r:a2 (Gd×UN)}(h:eO H v r)(a:∀x d,r=ih (x,d)->Ent d):eO H' v r:=by
 cases r with
 |none=>exact h
 |some p =>
  obtain⟨t,u,rfl,c,r⟩:=h;exact#[t,u,Z,k _ _ c,(a _ _ Z).keep r k]
def LC(e:VH):Y0:=match e with|.DictComp _ _ _ sc _=>sc|.SetComp _ _ sc _=>sc|_=>{ kind:=.function,names:=[],isGenerator:=false,isCoroutine:=false }
def ei(line:List Gd)(b:Gd):List Gd:=if b = "" then line else line.drop (line.idxOf b+1)
def fF(dl de dh:FG)(m:Int):List (Gd×V):=[("lines",.ref dl),("entries",.ref de),("hits",.ref dh),("met",.int m)]
theorem i8{f g:Gd}{x:V}{r:am (Gd×V)}(h:g≠f):b' f v ((g,x)::r)=(g,x)::b' f v r:=ao h
theorem LD{f:Gd}{x:V}{r:am (Gd×V)}:b' f v ((f,x)::r)=(f,v)::r:=aB Z
theorem qb{f:Gd}:b' f v []=[(f,v)]:=rfl
theorem LF(dl de dh:FG):b' "met" (.int 0)^b' "hits" (.ref dh)^b' "entries" (.ref de)^b' "lines" (.ref dl) []=fF dl de dh 0:=by
 rw[qb,i8 (f:= "entries") ⋯,qb,i8 (f:= "hits") ⋯,i8 (f:= "hits") ⋯,qb,i8 (f:= "met") ⋯,i8 (f:= "met") ⋯,i8 (f:= "met") ⋯,qb]
 rfl
theorem MG(dl de dh:FG)(m a:Int):b' "met" (.int a)^fF dl de dh m=fF dl de dh a:=by
 unfold fF;rw[i8 (f:= "met") ⋯,i8 (f:= "met") ⋯,i8 (f:= "met") ⋯,LD]
theorem iG{α:Type}{y:Gd}{v:α}{r:am (Gd×α)}(h:x≠y):VP x ((y,v)::r)=VP x r:=by
 rw[dM];have:(x==y)=false:=by simpa using h
 rw[this]
theorem qP{α:Type}{v:α}{r:am (Gd×α)}:VP x ((x,v)::r)=ih v:=by
 rw[dM,pf]
section
variable{dl de dh:FG}
theorem CD:(fF dl de dh m).lookup ("lines" : Gd)=ih^V.ref dl:=qP
theorem A4:(fF dl de dh m).lookup ("entries" : Gd)=ih^V.ref de:=by unfold fF;rw[iG ⋯];exact qP
theorem qp:(fF dl de dh m).lookup ("hits" : Gd)=ih^V.ref dh:=by unfold fF;rw[iG ⋯,iG ⋯];exact qP
theorem MH:(fF dl de dh m).lookup ("met" : Gd)=ih^V.int m:=by unfold fF;rw[iG ⋯,iG ⋯,iG ⋯];exact qP
theorem vf(h1:x ≠ "lines")(h2:x ≠ "entries")(a:x ≠ "hits")(b:x ≠ "met"):(fF dl de dh m).lookup x=none:=by unfold fF;rw[iG h1,iG h2,iG a,iG b];rfl
end
structure j3(K:Ys)(mg:Gd->Option i')(C:FG):Prop where
 cl:gA K C
 nl:ef K C "lines"
 ne:ef K C "entries"
 nh:ef K C "hits"
 nm:ef K C "met"
 oZ:mg "Finds" = ih (.ref C)
structure FI(C x dx dl de dh:FG)(kl:List (Key×V))(ke kh:List (List Key×V))(m:Int)(bk:Bk)(H:Hp):Prop where
 hx:H x=ih (.ins C dx (fF dl de dh m))
 hl:H dl=ih (.dK kl)
 he:H de=ih (.dT ke)
 hh:H dh=ih (.dT kh)
 du:cg H ke bk
 ok:fz bk
 nn:de≠dh
inductive q'(vs:List V)(H:Hp)(Q:VK)(E:XK):Prop
 |mk{t:FG}{ws:List V}{bk:Bk}(_:vs=[.ref t])(_:H t=ih (.tup ws))(_:cY H ws bk)(_:fz bk)(_:∀d kvs H',H d=none->ax H H'->H' d=ih (.dT kvs)->cg H' kvs bk->Q (.ref d) H'):q' vs H Q E
theorem Pd:bp ["book"] ["book"]^aI nT:=bD
noncomputable abbrev QM:VH:=mL (bW (bJ nT) 0)
theorem ra:b8 ["book"] (aI nT) ["kind","name","entry"] [none,none,none]^LC QM:=dF
theorem NI(F:aQ K "entries_by_place" "entries_by_place" nT f fd):aT P w K mg base aF 1 f fd ["book"] q':=by
 refine F.bI Pd λQb A outer s H vs Q E xb h=>?_
 .obtain @⟨t,ws,bk,rfl,J,L,ok,q⟩:=h
  have yb:=xb.units;have U:=d9 yb;intro X;refine#[_,ay^a3^I2 Z ra (kR^pv 0)^λs H fp=>#[qa (n:=3) K Z Z^cA (ba 0 ra.nd)^cA (ba 1 ra.nd)^cA (ba 2 ra.nd) fM,ey,Nu U (cc^aa (pv 0)^aa (pv 1) ai)^pv 2],?_];have T:=L.length;have a5:=ok.a5;refine af Z #[t,Z,#[_,aX.of J],λc y=>?_];refine I3 (xs:=ws) (λi g Y=>∃(B C D:a2 V) (kvs:am (List Key×V)),g=[B,C,D]/\ax H Y/\Y c=cs kvs/\cg Y kvs^bk.take i) #[none,none,none,[],Z,aJ y,ah,.nil] (λi g Y ab=>by obtain⟨_,_,_,_,_,z,_⟩:=ab;exact aX.of^z _ _ J) ?_ ?_
  .rintro i x g Y M ⟨B,C,D,kvs,rfl,j,h1,l⟩
   have W:i<ws.length:=(b4.mp M).1;obtain⟨p,N,a,u,rfl,O,zb⟩:=L2.Paired.get (cY.same j L) M;have pm:=eu N;have tk:bk.take (i+1)=bk.take i++[p]:=by rw[dQ,N];rfl
   refine#[a,_,Z,aX.of O,Z,_,_,Z,_,_,Z,_,_,Z,Z,?_];refine aW Z Z #[bQ,λkt xa=>?_];have d:=aJ (o:=.tup [V.str p.1,V.str p.2.1]) xa;have G:upd Y kt (.tup [V.str p.1,V.str p.2.1]) kt=bn^(h6 p).map kV:=ah;have ya:=d _ _ O;have I:=zb.same d;have m:=cg.same d l;have r:=d _ _ h1;generalize upd Y kt^.tup [V.str p.1,V.str p.2.1]=R at d G ya I m r⊢;have xc:=m.length;have za:bq kvs^h6 p=none:=by
    rcases m.val (k:=p.1) (n:=p.2.1) with⟨z,_⟩|⟨v,zc,_,z2,_⟩
    .exact z
    .exfalso
     have S:((bk.take (i+1)).map cS).Nodup:=ok.nd.sublist^ab0 _^iS _ _;rw[tk,bj]at S;exact(dz.mp S).2.2 _ (a8.mpr #[_,z2,Z]) (cS p) (by simp) Z
   refine af Z #[kvs,h6 p,kt,Z,G,r,?_,J5 W #[_,_,_,_,Z,λb v e=>?_,ah,?_]]
   .rw[cH]at xc
    rw[aV];omega
   .rw[ag^aA e y];exact d _ _^j _ _ e
   .rw[tk,i4 _ za]
    have up:∀b xs,R b=bn xs->upd R c (.dT (kvs++[(h6 p,u)])) b=bn xs:=λb xs e=>by rw[ag^aq e r];exact e
    exact cg.snoc (k:=p.1) (n:=p.2.1) ((ok.ent p pm).keep I up)^m.keep up λq yc=>ok.ent q^nD yc
  .rintro g Y ⟨B,C,D,kvs,rfl,j,h1,l⟩
   rw[T,cF]at l;exact q c kvs Y y j h1 l
theorem Jf{b:Gd}{line:am Gd}:lG (.str b)^(("" : Gd)::line).map V.str=decide (b = "" \/ b∈line):=by
 rw[i2]
 by_cases e:b = "" \/ b∈line
 .rw[cb e]
  exact cb (by rcases e with z|z;rw[z];exact aY;exact bh _ z)
 .rw[er e]
  exact er (λz=>e^by rcases bL.mp z with y|y;exact .inl y;exact .inr y)
inductive rb(vs:List V)(H:Hp)(Q:VK)(E:XK):Prop
 |mk{t:FG}{line:List Gd}{b:Gd}(_:vs=[.ref t,.str b])(_:H t=ih (.tup (line.map V.str)))(_:line.length<=200)(_:(b = "" \/ b∈line))(_:∀H',ax H H'->Q (.bl true) H'):rb vs H Q E
theorem Pe:bp ["line","thing"] ["line","thing"]^aI tq:=bD
theorem NJ(F:aQ K "is_behind" "is_behind" tq f fd)(a:hA mg):aT P w K mg base aF 1 f fd ["line","thing"] rb:=by
 refine F.bI Pe λQb A outer s H vs Q E l h=>?_
 .obtain @⟨t,line,b,rfl,g,m,i,q⟩:=h
  intro X;refine#[_,ay^a3^uA (bV l6 Z a.m2 mc^aa (pv 1)^aa (me (v:=.ty "str") Z a.str boot_str Z) ai)^qu^jO jJ (pv 1) (bN C4 (cc^aa br ai)^pv 0) Z,?_];refine af Z #[#[_,.inr #["str",Z]],.str b,.ty "str",.type "str",.type "str",true,Z,Z,.inl^.str b,Z,true,Z,?_];refine af Z #[eW,λc j=>?_];have d:=aJ (o:=.tup [V.str ""]) j;refine af Z #[c,t,_,_,Z,Z,ah,d _ _ g,by rw[aE,aV];show 1+_<=_;omega,λp H' k h'=>?_]
  have e:H' p=bn^(("" : Gd)::line).map V.str:=h';refine#[p,_,Z,.inr^aX.of e,Z,jL _,?_];rw[ao b7,Jf,cb i];exact q H'^d.trans k
inductive rf(vs:List V)(H:Hp)(Q:VK)(E:XK):Prop
 |mk{t:FG}{line:List Gd}{b:Gd}(_:vs=[.ref t,.str b])(_:H t=ih (.tup (line.map V.str)))(_:line.length<=200)(_:(b = "" \/ b∈line))(_:∀H',ax H H'->Q .aK H'):rf vs H Q E
theorem Pf:bp ["line","thing"] ["line","thing"]^aI uh:=bD
theorem NK(F:aQ K "check_behind" "check_behind" uh f fd)(a:bB P w K mg base aF 1 fI dI ["line","thing"] rb "is_behind"):aT P w K mg base aF 2 f fd ["line","thing"] rf:=by
 refine F.bI Pf λQb A outer s H vs Q E c h=>?_
 .obtain @⟨t,line,b,rfl,d,e,g,q⟩:=h
  intro X;refine#[_,ay^bo (gv^gu^a' a c^aa (pv 0)^aa (pv 1) ai) s8 bE,?_];exact aW Z Z^rb.mk Z d e g λY i=>#[true,Z,q Y i]
inductive qQ(C:FG)(vs:List V)(H:Hp)(Q:VK)(E:XK):Prop
 |mk{x dl de dx:FG}(_:vs=[.ref x,.ref dl,.ref de])(_:H x=ih (.ins C dx []))(_:∀dh,H dh=none->Q .aK (upd (upd H dh (.dT [])) x (.ins C dx (fF dl de dh 0)))):qQ C vs H Q E
theorem NL:bp ["self","lines","entries"] ["self","lines","entries"]^aI u6:=bD
theorem MI(F:aQ K "__init__" "Finds.__init__" u6 f fd)(T:j3 K mg C):aT P w K mg base aF 1 f fd ["self","lines","entries"]^qQ C:=by
 refine F.bI NL λQb A outer s H vs Q E i h=>?_
 .obtain @⟨x,dl,de,dx,rfl,g,q⟩:=h
  intro X;refine#[_,ar (f6 (pv 0) (pv 1) Z)^ar (f6 (pv 0) (pv 2) Z)^ar (f6 (pv 0) nS Z)^ay^f6 (pv 0) aw Z,?_];refine aW Z Z #[x,C,dx,[],Z,g,T.cl,T.nl,(by show 0<1000;decide),?_]
  refine aW Z Z #[x,C,dx,_,Z,ah,T.cl,T.ne,(by show 1<1000;decide),?_]
  rw[fJ];intro dh a;have c:x≠dh:=aA ah a;refine af Z #[x,C,dx,_,Z,by rw[ag c];exact ah,T.cl,T.nh,(by show 2<1000;decide),?_]
  refine af Z #[x,C,dx,_,Z,ah,T.cl,T.nm,(by show 3<1000;decide),?_]
  rw[fJ,LF];have d:H dh=none:=by
   cases e:H dh with
   |none=>rfl
   |some u=>rw[ag^aS c,e]at a;cases a
  have e:∀o o':HO,upd (upd (upd H x o) dh^.dT []) x o'=upd (upd H dh^.dT []) x o':=λo o'=>by
   funext b
   by_cases h1:b=x
   .subst h1;rw[ah,ah]
   .rw[ag h1,ag h1]
    by_cases h2:b=dh
    .subst h2;rw[ah,ah]
    .rw[ag h2,ag h2,ag h1]
  rw[e];exact q dh d
theorem LG{c:Bool}{a:Int}{tb:TE}(h7:Nat->Prop)(h1:c=true ->∃s:Nat,a=s/\h7 s)(h2:c=false->(∀s:Nat,h7 s->Q (.int s) H)->tb σ H Q)(b:∀s:Nat,h7 s->Q (.int s) H):if c=true then tC (.int a) σ H Q else tb σ H Q:=by
 cases c with
 |false=>exact h2 Z b
 |true =>
  obtain⟨s,e,d⟩:=h1 Z;show Q (.int a) H;rw[e];exact b s d
theorem tS{α:Type} [BEq α] [LawfulBEq α]{b:α}{line:am α}(h:b∈line):line[line.idxOf b]?=ih b /\∀m,m<line.idxOf b->line[m]? ≠ ih b:=by
 have a:=List.idxOf_lt_length_iff.mpr h;refine#[by rw[bG a,List.getElem_idxOf],λm c z=>?_]
 obtain⟨d,e⟩:=b4.mp z;have:=List.not_of_lt_findIdx (p:=λx=>x==b) (xs:=line) (i:=m) c;simp[e]at this
theorem kO{bk:Bk}{l:am Gd}(ok:fz bk):∀x d,c9 bk n l=ih (x,d)->Nm x/\Ent d:=λx d h=>by
 have a:=kF (jS h).2;exact#[(ok.nm _ a).1,ok.ent _ a]
inductive qC(C:FG)(vs:List V)(H:Hp)(Q:VK)(E:XK):Prop
 |mk{x dx dl de dh a:FG}{kl:List (Key×V)}{ke kh:List (List Key×V)}{m:Int}{bk:Bk}{kind name gC:Gd}{line:List Gd}(_:vs=[.ref x,.str kind,.str name,.str gC])(_:FI C x dx dl de dh kl ke kh m bk H)(_:bq kl (n' kind)=ih (.ref a))(_:H a=ih (.tup (line.map V.str)))(_:line.length<=200)(_:(gC = "" \/ gC∈line))(_:∀v m' H',(∀b u,b≠x->H b=ih u->H' b=ih u)->H' x=ih (.ins C dx (fF dl de dh m'))->eO H' v (c9 bk name (ei line gC))->Q v H'):qC C vs H Q E
noncomputable abbrev QN:List Gd:=["self","kind","name","behind","line","start","other"]
theorem rg:bp QN ["self","kind","name","behind"]^aI u9:=bD
theorem LH(F:aQ K "walk" "Finds.walk" u9 f fd)(T:j3 K mg C):aT P w K mg base aF 1 f fd ["self","kind","name","behind"]^qC C:=by
 refine F.bI rg λQb A outer s H vs Q E xh h=>?_
 .obtain @⟨x,dx,dl,de,dh,a,yh,ye,kh,m,bk,ya,name,g,line,rfl,fi,zh,N,zk,xi,q⟩:=h
  have yi:=xh.units;have M:=d9 yi;intro X;refine#[_,ar (a4 4 rg.nd^dV M (cq (pv 0) Z)^pv 1)
   (ar (a4 5 rg.nd^Jn (bx dg (pv 3) br^bC _) aw^bN fq (gw PySem.F.plainAttrs_tuple Vp PySem.F.type_tuple_index I0 (pv 4)^aa (pv 3) ai) aw)
   (ar (ee dZ Z (kR^i0 C3 (pv 4) (iz^pv 5) i6) (ba 6 rg.nd)
    (ar (nL (pv 0) aw qv)
    (ay^bo (gr^i9 M (cc^aa (pv 6)^aa (pv 2) ai)^cq (pv 0) Z) (ay^a3^cc^aa (pv 6)^aa (dV M (cq (pv 0) Z)^cc^aa (pv 6)^aa (pv 2) ai) ai) bE)))
   (ay^a3 d3))),?_]
  refine af Z #[x,C,dx,_,.ref dl,Z,fi.hx,T.cl,T.nl,CD,_,Z,dl,.ref a,Z,.inl #[yh,n' ya,.inl fi.hl,Z,zh.symm],?_];refine af Z #[Z,_,Z,?_];refine LG (λO=>ei line g=line.drop O) (λe=>#[0,Z,?_]) (λe k=>?_) ?_
  .have e:=dA e
   injection e with e;unfold ei;rw[aB e];rfl
  .have za:g ≠ "" :=λz=>by rw[z]at e;exact absurd e (by rw[cb Z];intro y;cases y)
   have zi:g∈line:=xi.resolve_left za;obtain⟨xj,yj⟩:=tS zi;exact af Z #[.inr^.inr^.inr^.inr #[Z,_,Rd.of N],_,Z,a,line,g,line.idxOf g,Z,Z,aX.of N,xj,yj,_,_,Z,Z,k (line.idxOf g+1)^by unfold ei;rw[ao za]]
  intro O yf;refine cZ Z Z Z #[a,_,Z,N,λsp H0 B l=>?_];rw[nZ,<-lT,<-yf]at l;obtain⟨rest,xf⟩:∃rest,ei line g=rest:=#[_,Z];rw[xf]at l q;have xb:=B _ _ fi.hx;refine#[sp,Z,#[_,aX.of l],Kz (xs:=rest.map V.str) (λi σ Y=>∃(c:Int) (R:a2 V),σ=[bd x,ih^.str ya,ih^.str name,ih^.str g,bd a,ih^.int O,R]/\(∀b u,b≠x->H0 b=ih u->Y b=ih u)/\Y x=ih^.ins C dx^fF dl de dh c /\∀y∈rest.take i,d4 bk y name=none)
   #[m,none,Z,λb u _ e=>e,xb,λy j=>(by cases j)] (λi σ Y _ ab=>by obtain⟨_,_,_,z,_⟩:=ab;exact aX.of^z _ _ (aq l xb^by intro y;cases y) l) ?_ ?_]
  .rintro i y σ Y j ⟨c,R,rfl,kp,I,no⟩
   obtain⟨yb,rfl⟩:=iy j;have zf:rest.take (i+1)=rest.take i++[rest[i]]:=by rw[dQ,bG yb];rfl
   refine af Z #[x,C,dx,_,.int c,Z,I,T.cl,T.nm,MH,_,_,Z,Z,dx,_,I,by show 4<1000;decide,?_]
   rw[MG];have zb:∀b u,b≠x->H0 b=ih u->upd Y x (.ins C dx^fF dl de dh (c+1)) b=ih u:=λb u n e=>by rw[ag n];exact kp b u n e
   have xc:upd Y x (.ins C dx^fF dl de dh (c+1)) x=ih^.ins C dx^fF dl de dh (c+1):=ah;generalize upd Y x^.ins C dx^fF dl de dh (c+1)=H2 at zb xc⊢;refine aW Z Z #[bQ,λkt xg=>?_];have S:=aJ (o:=.tup [V.str rest[i],V.str name]) xg;have yc:upd H2 kt (.tup [V.str rest[i],V.str name]) kt=bn^([n' rest[i],n' name]:am Key).map kV:=ah;have p:=S _ _ xc;have r:∀b u,b≠x->H0 b=ih u->upd H2 kt (.tup [V.str rest[i],V.str name]) b=ih u:=λb u n e=>S _ _^zb b u n e;generalize upd H2 kt^.tup [V.str rest[i],V.str name]=D at S yc p r⊢;have yg:de≠x:=aq fi.he fi.hx
   have zc:D de=cs ye:=r _ _ yg^B _ _ fi.he;have zj:cg D ye bk:=fi.du.keep (λb xs e=>r _ _ (aq e fi.hx)^B _ _ e) fi.ok.ent
   refine af Z #[x,C,dx,_,.ref de,Z,p,T.cl,T.ne,A4,de,_,Z,b2.t (k:=[n' rest[i],n' name]) zc yc,_,Z,?_];rcases zj.look (k:=rest[i]) (n:=name) fi.ok.nd with⟨U,J⟩|⟨v,d,U,J,xk⟩
   .rw[J]
    refine#[c+1,_,Z,r,p,λy j=>?_];rw[zf]at j;rcases bT.mp j with z|z
    .exact no y z
    .rw[bR.mp z];exact U
   .rw[J]
    refine aW Z Z #[x,C,dx,_,.ref de,Z,p,T.cl,T.ne,A4,_,Z,_,Z,bQ,λL zg=>?_];have G:=aJ (o:=.tup [V.str rest[i],V.str name]) zg;have xd:upd D L (.tup [V.str rest[i],V.str name]) L=bn^([n' rest[i],n' name]:am Key).map kV:=ah;have yd:=G _ _ zc;have zd:=G _ _ p;have ze:=xk.same G;have xe:∀b u,b≠x->H0 b=ih u->upd D L (.tup [V.str rest[i],V.str name]) b=ih u:=λb u n e=>G _ _^r b u n e;generalize upd D L^.tup [V.str rest[i],V.str name]=xl at G xd yd zd ze xe⊢;refine#[de,v,Z,by rw[<-J];exact b2.t (k:=[n' rest[i],n' name]) yd xd,bQ,λt yk=>?_]
    have W:=aJ (o:=.tup [V.str rest[i],v]) yk;have xa:c9 bk name rest=ih (rest[i],d):=by
     conv=>lhs;rw[<-w4 i rest,lN yb]
     rw[nJ (x:=rest[i]) _ no];exact Ds U
    refine q (.ref t) (c+1) _ (λb u n e=>W _ _^xe b u n^B _ _ e) (W _ _ zd) ?_;rw[xa];exact#[t,v,Z,ah,ze.same W]
  .rintro σ Y ⟨c,R,rfl,kp,I,no⟩
   rw[aE,cF]at no;refine q .aK c Y (λb u n e=>kp b u n^B _ _ e) I ?_;have xa:c9 bk name rest=none:=by
    have:=nJ (x:=name) rest no [];rw[e6]at this;exact this
   rw[xa];rfl
def jb(H:Hp)(kh:List (List Key×V))(bk:Bk)(L:Gd->List Gd):Prop:= ∀k n b v,bq kh [n' k,n' n,n' b]=ih v->eO H v (c9 bk n (ei (L k) b))
theorem jb.keep{bk:Bk}(h:jb H kh bk L)(ok:fz bk)(k:∀b xs,H b=bn xs->H' b=bn xs):jb H' kh bk L:=λa n b v e=>(h a n b v e).keep k λx d z=>(kO ok x d z).2
inductive my(C:FG)(vs:List V)(H:Hp)(Q:VK)(E:XK):Prop
 |mk{x dx dl de dh:FG}{kl:List (Key×V)}{ke kh:List (List Key×V)}{m:Int}{bk:Bk}{kind name gC:Gd}{L:Gd->List Gd}(_:vs=[.ref x,.str kind,.str name,.str gC])(_:FI C x dx dl de dh kl ke kh m bk H)(_:gT H kl L kind)(_:(L kind).length<=200)(_:(gC = "" \/ gC∈L kind))(_:jb H kh bk L)(_:kh.length<=1000000)(_:∀v eI m' H',(∀b u,b≠x->b≠dh->H b=ih u->H' b=ih u)->FI C x dx dl de dh kl ke eI m' bk H'->jb H' eI bk L->eI.length<=kh.length+1->eO H' v (c9 bk name (ei (L kind) gC))->Q v H'):my C vs H Q E
noncomputable abbrev QO:List Gd:=["self","kind","name","behind","place"]
theorem EI:bp QO ["self","kind","name","behind"]^aI u7:=bD
theorem LJ{fW:FG}(F:aQ K "look" "Finds.look" u7 f fd)(T:j3 K mg C)(xe:aT P w K mg base aF 1 fW dW ["self","kind","name","behind"]^qC C)(ye:Meth K C "walk" fW)(ze:Binds K dW ["self","kind","name","behind"] []):aT P w K mg base aF 2 f fd ["self","kind","name","behind"]^my C:=by
 refine F.bI EI λQb A outer s H vs Q E xb h=>?_
 .obtain @⟨x,dx,dl,de,dh,yb,M,kh,m,bk,c,name,g,L,rfl,fi,⟨a,xf,yf⟩,zf,xg,yg,zh,q⟩:=h
  have zg:=xb.units;have D:=d9 zg;intro X;refine#[_,ar (a4 4 EI.nd^cc^aa (pv 1)^aa (pv 2)^aa (pv 3) ai)
   (ar (bo (gr^tm D (pv 4)^cq (pv 0) Z) (ay^f5 D (cq (pv 0) Z) (pv 4) (hT (pv 0) T.cl ye xe xb ze .nil c8^aa (pv 1)^aa (pv 2)^aa (pv 3) ai) Z) bE)
   (ay^a3^dV D (cq (pv 0) Z)^pv 4)),?_]
  refine cZ Z Z Z #[gS,λpt yc=>?_];have j:=aJ (o:=.tup [V.str c,V.str name,V.str g]) yc;have y:upd H pt (.tup [V.str c,V.str name,V.str g]) pt=bn^([n' c,n' name,n' g]:am Key).map kV:=ah;generalize upd H pt^.tup [V.str c,V.str name,V.str g]=Y at j y⊢;have i:FI C x dx dl de dh yb M kh m bk Y:=#[j _ _ fi.hx,j _ _ fi.hl,j _ _ fi.he,j _ _ fi.hh,fi.du.same j,fi.ok,fi.nn];have G:jb Y kh bk L:=yg.keep fi.ok λb xs e=>j _ _ e;have S:x≠dh:=aq fi.hx fi.hh
  have zc:dl≠dh:=aq fi.hl fi.hh
  refine aW Z Z #[x,C,dx,_,.ref dh,Z,i.hx,T.cl,T.nh,qp,dh,_,Z,b2.t (k:=[n' c,n' name,n' g]) i.hh y,_,Z,?_];cases zb:bq kh [n' c,n' name,n' g] with
  |some v =>
   refine af Z #[x,C,dx,_,.ref dh,Z,i.hx,T.cl,T.nh,qp,_,Z,dh,v,Z,by rw[<-zb];exact b2.t (k:=[n' c,n' name,n' g]) i.hh y,?_]
   exact q v kh m Y (λb u _ _ e=>j _ _ e) i G (gm _)^G c name g v zb
  |none =>
   refine af Z #[x,dx,_,Z,i.hx,vf ⋯ ⋯ ⋯ ⋯,_,Z,_,Z,_,Z,qC.mk Z i xf (j _ _ yf) zf xg λv xc H2 p U xd=>?_]
   have I:∀b xs,Y b=bn xs->H2 b=bn xs:=λb xs e=>p _ _ (aq e i.hx) e
   have W:=p _ _ (aS S) i.hh;have xa:=I _ _ y;have xh:cg H2 M bk:=i.du.keep I fi.ok.ent;refine af Z #[x,C,dx,_,.ref dh,Z,U,T.cl,T.nh,qp,_,Z,dh,_,Z,eG.t (k:=[n' c,n' name,n' g]) W xa (by rw[aV];omega),?_]
   have J:upd H2 dh (.dT^putK kh [n' c,n' name,n' g] v) dh=cs^putK kh [n' c,n' name,n' g] v:=ah;have l:∀b u,b≠dh->H2 b=ih u->upd H2 dh (.dT^putK kh [n' c,n' name,n' g] v) b=ih u:=λb u n e=>by rw[ag n];exact e
   generalize upd H2 dh^.dT^putK kh [n' c,n' name,n' g] v=r at J l⊢;have B:∀b xs,H2 b=bn xs->r b=bn xs:=λb xs e=>l _ _ (aq e W) e
   have ya:=l _ _ S U;have yd:FI C x dx dl de dh yb M (putK kh [n' c,n' name,n' g] v) xc bk r:=#[ya,l _ _ zc^p _ _ (aq i.hl i.hx) i.hl,l _ _ fi.nn^p _ _ (aq i.he i.hx) i.he,J,xh.keep B fi.ok.ent,fi.ok,fi.nn]
   have za:eO r v^c9 bk name^ei (L c) g:=xd.keep B λx d z=>(kO fi.ok x d z).2;have zd:jb r (putK kh [n' c,n' name,n' g] v) bk L:=λk n b u e=>by
    rw[kK]at e
    by_cases z:([n' k,n' n,n' b]:am Key)=[n' c,n' name,n' g]
    .rw[aB z]at e
     cases e
     injection z with N z;injection z with O z;injection z with R z;injection N with N;injection O with O;injection R with R;rw[N,O,R];exact za
    .rw[ao z]at e
     exact((G k n b u e).keep I λx d z=>(kO fi.ok x d z).2).keep B λx d z=>(kO fi.ok x d z).2
   refine af Z #[x,C,dx,_,.ref dh,Z,ya,T.cl,T.nh,qp,_,Z,dh,v,Z,?_,?_]
   .have:=b2.t (k:=[n' c,n' name,n' g]) J^B _ _ xa
    rw[kK,aB Z]at this;exact this
   .exact q v _ xc r (λb u n1 yh e=>l _ _ yh^p _ _ n1^j _ _ e) yd zd (lY _ _ _) za
structure FB(H:Hp)(t tb:FG)(o:YC)(ws wb:List V)(Qc:List (Gd×List Gd))(L:Gd->List Gd)(bk:Bk):Prop where
 ht:H t=ih (.bf o (.tup ws))
 od:o.dict=none
 fv:di H ws Qc
 fo:jf Qc L
 hb:H tb=ih (.tup wb)
 bv:cY H wb bk
 ok:fz bk
theorem FB.same{t tb:FG}{bk:Bk}(h:FB H t tb o ws wb Qc L bk)(S:ax H H'):FB H' t tb o ws wb Qc L bk:=
 #[S _ _ h.ht,h.od,h.fv.same S,h.fo,S _ _ h.hb,cY.same S h.bv,h.ok]
theorem FB.a5{t tb:FG}{bk:Bk}(h:FB H t tb o ws wb Qc L bk){k:Gd}(a:k∈Qc.map (·.1)):(L k).length<=200:=by
 obtain⟨p,b,rfl⟩:=a8.mp a;obtain⟨_,q,_,e,c⟩:=h.fo.line p b;rw[e,c4];omega
inductive rh(C:FG)(vs:List V)(H:Hp)(Q:VK)(E:XK):Prop
 |mk{t tb:FG}{o:YC}{ws wb:List V}{Qc:List (Gd×List Gd)}{L:Gd->List Gd}{bk:Bk}(_:vs=[.ref t,.ref tb])(_:FB H t tb o ws wb Qc L bk)(_:∀x dx dl de dh kl ke H',ax H H'->FI C x dx dl de dh kl ke [] 0 bk H'->(∀p∈Qc,gT H' kl L p.1)->H x=none->H dh=none->Q (.ref x) H'):rh C vs H Q E
theorem Pg:bp ["family","book"] ["family","book"]^aI tN:=bD
theorem NM(F:aQ K "finds_in" "finds_in" tN f fd)(T:j3 K mg C)
  (R:bB P w K mg base aF 5 fL dL ["family"] qo "lines_of")
  (S:bB P w K mg base aF 1 fE dE ["book"] q' "entries_by_place")
  (M:Mk K C fI) (U:aT P w K mg base aF 1 fI dI ["self","lines","entries"]^qQ C) (V:Binds K dI ["self","lines","entries"] []):aT P w K mg base aF 6 f fd ["family","book"]^rh C:=by
 refine F.bI Pg λQb A outer s H vs Q E W h=>?_
 .obtain @⟨t,tb,o,ws,wb,Qc,L,bk,rfl,c,q⟩:=h
  have i:aZ 5 _:=W;have B:aZ 2 _:=i.mono ∅
  have D:aZ 1 _:=i.mono ∅
  intro X;refine#[_,ay^a3^t2 M U B Z T.oZ V .nil c8^aa (a' R i^aa (pv 0) ai)^aa (a' S D^aa (pv 1) ai) ai,?_];refine af Z^qo.mk Z c.ht c.fv c.fo λdl xa Y xc v h1 G _=>?_;have j:=c.same v;refine af Z^q'.mk Z j.hb j.bv j.ok λde ya H2 yc m h2 za=>?_;intro x dx n I ne;have xb:=aJ (o:=.own x) I;have J:upd H2 dx (.own x) x=none:=by rw[ag^aS ne];exact n
  have g:=xb.trans^aJ (o:=.ins C dx []) J;have k:upd (upd H2 dx^.own x) x (.ins C dx []) x=ih^.ins C dx []:=ah;generalize upd (upd H2 dx^.own x) x^.ins C dx []=y at g k⊢;refine qQ.mk Z k λdh d=>#[Z,?_];have z:=aJ (o:=.dT []) d;have N:x≠dh:=aA k d;have r:upd y dh (.dT []) dh=cs []:=ah;generalize upd y dh^.dT []=yb at z r⊢;have l:=v.trans m;have O:=g.trans z;have a:∀b u,H2 b=ih u->upd yb x (.ins C dx^fF dl de dh 0) b=ih u:=λb u e=>by rw[ag^aA e n];exact O _ _ e
  refine q x dx dl de dh xa ya _ (λb u e=>a _ _^l _ _ e) #[ah,a _ _^m _ _ h1,a _ _ h2,by rw[ag^aS N];exact r,za.same a,c.ok,?_] (λp zb=>(G p zb).same λb u e=>a _ _^m _ _ e) (l.free n)^(l.trans g).free d
  exact aA (g _ _ h2) d
abbrev Own:=List (Gd×Int)
abbrev Ask:=Gd×Gd
inductive Rs where
 |told (z:Int):Rs
 |miss (n:Gd):Rs
def jU(d:UN):Bool:=decide (bb d = "ahead" \/ bb d = "shut")
structure aO where
 line:List Gd
 bk:Bk
 own:Own
namespace aO
variable(W:aO)
def look(a:Ask):Option (Gd×UN):=c9 W.bk a.1 (ei W.line a.2)
def eX(a:Ask):Bool:=match W.look a with|none=>true|some p=>!jU p.2
def c2(a:Ask):Option Int:=if a.2 = "" /\ W.eX a=true then W.own.lookup a.1 else none
def need(n w:Gd)(d:UN):Option Ask:=if bb d = "ask" then ih (dq d,"") else if bb d = "onward" then (if (W.look (n,w)).isSome then ih (n,w) else none) else none
end aO
def stepT(t:Int)(d:UN):Int:=if bb d = "add" then t+lp d else if bb d = "times" then t * lp d else t
def aO.dX(W:aO)(f:Ask->Option Rs)(n w:Gd):List UN->Int->Option Rs
 |[],t=>ih (.told t)
 |d::ds,t=>match W.need n w d with
  |none=>W.dX f n w ds (stepT t d)
  |some b=>match f b with
   |none=>none
   |some (.miss m)=>ih (.miss m)
   |some (.told z)=>W.dX f n w ds (t+z)
def aO.ck(W:aO)(f:Ask->Option Rs)(a:Ask):Option Rs:=match W.c2 a with
 |some z=>ih (.told z)
 |none=>match W.look a with
  |none=>ih (.miss a.1)
  |some (w,d)=>W.dX f a.1 w (b9 d) 0
def aO.out(W:aO):Nat->Ask->Option Rs
 |0,_=>none
 |k+1,a=>W.ck (W.out k) a
def aO.Out(W:aO)(a:Ask)(r:Rs):Prop:= ∃k,W.out k a=ih r
section
variable{W:aO}{f g:Ask->Option Rs}{w:Gd}
theorem n0(h:∀a r,f a=ih r->g a=ih r):∀{ds:am UN}{t:Int}{r:Rs},W.dX f n w ds t=ih r->W.dX g n w ds t=ih r
 |[],t,r,e=>e
 |d::ds,t,r,e=>by
  unfold aO.dX at e⊢;cases i:W.need n w d with
  |none=>rw[i]at e;exact n0 h e
  |some b =>
   rw[i]at e
   dsimp only at e⊢
   cases c:f b with
   |none=>rw[c]at e;cases e
   |some x =>
    have j:=h b x c;rw[j];rw[c]at e;cases x with
    |miss m=>exact e
    |told z=>exact n0 h e
theorem Ip(h:∀a r,f a=ih r->g a=ih r){a:Ask}{r:Rs}(e:W.ck f a=ih r):W.ck g a=ih r:=by
 unfold aO.ck at e⊢;cases b:W.c2 a with
 |some z=>rw[b]at e;exact e
 |none =>
  rw[b]at e;cases c:W.look a with
  |none=>rw[c]at e;exact e
  |some p=>rw[c]at e;exact n0 h e
theorem CF:∀{k:Nat}{a:Ask}{r:Rs},W.out k a=ih r->W.out (k+1) a=ih r
 |0,_,_,h=>by cases h
 |k+1,_,_,h=>Ip (λ_ _=>CF) h
theorem mz{k m:Nat}{a:Ask}{r:Rs}(b:k<=m)(h:W.out k a=ih r):W.out m a=ih r:=by
 induction b with
 |refl=>exact h
 |step _ c=>exact CF c
theorem Out.uniq{a:Ask}{r b:Rs}(h:W.Out a r)(h':W.Out a b):r=b:=by
 obtain⟨k,c⟩:=h;obtain⟨m,d⟩:=h';rcases Nat.le_total k m with z|z
 .have:=mz z c;rw[d]at this;exact(cQ this).symm
 .have:=mz z d;rw[c]at this;exact cQ this
theorem Out.own{a:Ask}(h:W.c2 a=ih z):W.Out a^.told z:=#[1,by show W.ck _ a=_;unfold aO.ck;rw[h]]
theorem Out.none{a:Ask}(h:W.c2 a=none)(b:W.look a=none):W.Out a^.miss a.1:=#[1,by show W.ck _ a=_;unfold aO.ck;rw[h,b]]
structure bt where
 a:Ask
 w:Gd
 left:List UN
 t:Int
structure bS(W:aO)(f:bt):Prop where
 up:∀k r,W.dX (W.out k) f.a.1 f.w f.left f.t=ih r->W.Out f.a r
 dn:∀k r,W.out (k+1) f.a=ih r->W.dX (W.out k) f.a.1 f.w f.left f.t=ih r
 lk:W.c2 f.a=none /\∃d pre,W.look f.a=ih (f.w,d)/\b9 d=pre++f.left /\∀s∈pre,∀b,W.need f.a.1 f.w s=ih b ->∃r,W.Out b r
theorem bS.new{a:Ask}{w:Gd}{d:UN}(h:W.c2 a=none)(b:W.look a=ih (w,d)):bS W #[a,w,b9 d,0]:=by
 have e:∀k,W.out (k+1) a=W.dX (W.out k) a.1 w (b9 d) 0:=λk=>by show W.ck _ a=_;unfold aO.ck;rw[h,b]
 exact#[λk r z=>#[k+1,(e k).trans z],λk r z=>(e k).symm.trans z,h,d,[],b,Z,λ_ c=>(by cases c)]
theorem bS.behind{f:bt}{d:UN}{ds:am UN}(h:bS W f)(e:f.left=d::ds)(i:∀b,W.need f.a.1 f.w d=ih b ->∃r,W.Out b r):W.c2 f.a=none /\∃c pre,W.look f.a=ih (f.w,c)/\b9 c=pre++ds /\∀s∈pre,∀b,W.need f.a.1 f.w s=ih b ->∃r,W.Out b r:=by
 obtain⟨h1,c,pre,h2,j,k⟩:=h.lk;exact#[h1,c,pre++[d],h2,by rw[j,e,nj];rfl,λs l b g=>by
  rcases bT.mp l with z|z
  .exact k s z b g
  .rw[bR.mp z]at g;exact i b g]
theorem bS.step{f:bt}{d:UN}{ds:am UN}(h:bS W f)(e:f.left=d::ds)(c:W.need f.a.1 f.w d=none):bS W #[f.a,f.w,ds,stepT f.t d]:=by
 have e1:∀k,W.dX (W.out k) f.a.1 f.w f.left f.t=W.dX (W.out k) f.a.1 f.w ds^stepT f.t d:=λk=>by rw[e];show(match W.need f.a.1 f.w d with|none=>_|some b=>_)=_;rw[c]
 exact#[λk r z=>h.up k r^(e1 k).trans z,λk r z=>(e1 k).symm.trans (h.dn k r z),h.behind e λb g=>(by rw[c]at g;cases g)]
theorem g4{a:Ask->Option Rs}{d:UN}{ds:am UN}{t:Int}{b:Ask}(c:W.need n w d=ih b):W.dX a n w (d::ds) t=match a b with|none=>none|some (.miss m)=>ih^.miss m|some (.told z)=>W.dX a n w ds (t+z):=by
 show(match W.need n w d with|none=>_|some b=>_)=_;rw[c]
theorem bS.take{f:bt}{d:UN}{ds:am UN}{b:Ask}(h:bS W f)(e:f.left=d::ds)(i:W.need f.a.1 f.w d=ih b)(l:W.Out b^.told z):bS W #[f.a,f.w,ds,f.t+z]:=by
 obtain⟨m,j⟩:=l;refine#[λk r y=>h.up (max k m) r ?_,λk r y=>?_,h.behind e λn c=>(by rw[i]at c;cases c;exact#[_,m,j])]
 .rw[e,g4 i,mz (aay k m) j]
  exact n0 (λ_ _ q=>mz (aaL k m) q) y
 .have g:=h.dn k r y
  rw[e,g4 i]at g;cases c:W.out k b with
  |none=>rw[c]at g;cases g
  |some x =>
   have:=Out.uniq (W:=W) #[k,c] #[m,j];subst this;rw[c]at g;exact g
theorem bS.miss{f:bt}{d:UN}{ds:am UN}{b:Ask}{m:Gd}(h:bS W f)(e:f.left=d::ds)(c:W.need f.a.1 f.w d=ih b)(g:W.Out b^.miss m):W.Out f.a^.miss m:=by
 obtain⟨k,i⟩:=g;exact h.up k _ (by rw[e,g4 c,i])
theorem bS.done{f:bt}(h:bS W f)(e:f.left=[]):W.Out f.a^.told f.t:=h.up 0 _ (by rw[e];rfl)
theorem bS.D3{f:bt}{d:UN}{ds:am UN}{b:Ask}(h:bS W f)(e:f.left=d::ds)(c:W.need f.a.1 f.w d=ih b){k:Nat}{r:Rs}(g:W.out (k+1) f.a=ih r):∃i,W.out k b=ih i:=by
 have y:=h.dn k r g;rw[e,g4 c]at y;cases j:W.out k b with
 |none=>rw[j]at y;cases y
 |some x=>exact#[x,Z]
def gM(W:aO)(f:bt):Option Ask:=match f.left with | []=>none|d::_=>W.need f.a.1 f.w d
def Chain(W:aO):List bt->Ask->Prop
 |[],_=>True
 |[f],b=>gM W f=ih b
 |f::g::r,b=>gM W f=ih g.a/\Chain W (g::r) b
theorem kH{W:aO}{f:bt}{b:Ask}(h:gM W f=ih b):∃d ds,f.left=d::ds/\W.need f.a.1 f.w d=ih b:=by
 unfold gM at h;cases e:f.left with
 |nil=>rw[e]at h;cases h
 |cons d ds=>rw[e]at h;exact#[d,ds,Z,h]
theorem A5{m:Gd}:∀{fs:am bt}{b a:Ask},(∀f∈fs,bS W f)->Chain W fs b->(fs.head?.map (·.a)).getD b=a->W.Out b^.miss m->W.Out a^.miss m
 |[],b,a,_,_,e,h=>by cases e;exact h
 |[f],b,a,ok,c,e,h=>by
  cases e
  obtain⟨d,ds,e1,e2⟩:=kH c;exact(ok f aY).miss e1 e2 h
 |f::g::r,b,a,ok,c,e,h=>by
  cases e
  obtain⟨d,ds,e1,e2⟩:=kH c.1;exact(ok f aY).miss e1 e2^A5 (λx i=>ok x^bh _ i) c.2 rfl h
theorem s6:∀{fs:am bt}{b:Ask},(∀f∈fs,bS W f)->Chain W fs b ->∀{f:bt}{k:Nat}{r:Rs},fs.head?=ih f->W.out k f.a=ih r ->∃i j,i<k/\W.out i b=ih j
 |[],_,_,_,_,_,_,h,_=>by cases h
 |[f],b,ok,c,_,k,r,h,e=>by
  cases h
  obtain⟨d,ds,e1,e2⟩:=kH c;cases k with
  |zero=>cases e
  |succ k=>obtain⟨j,m⟩:=(ok f aY).D3 e1 e2 e;exact#[k,j,kx _,m]
 |f::g::l,b,ok,c,_,k,r,h,e=>by
  cases h
  obtain⟨d,ds,e1,e2⟩:=kH c.1;cases k with
  |zero=>cases e
  |succ k =>
   obtain⟨j,m⟩:=(ok f aY).D3 e1 e2 e;obtain⟨i,n,p,o⟩:=s6 (λx q=>ok x^bh _ q) c.2 rfl m;exact#[i,n,lQ p,o]
theorem Kj{fs:am bt}{f:bt}{b:Ask}(ok:∀f∈fs,bS W f)(c:Chain W fs b)(h:fs.head?=ih f)(e:f.a=b):∀k,W.out k b=none:=by
 intro k
 induction k using ZF with
 |_ k g =>
  cases i:W.out k b with
  |none=>rfl
  |some r =>
   obtain⟨j,m,l,d⟩:=s6 ok c h (e ▸ i);rw[g j l]at d;cases d
theorem A6:∀{fs gs:am bt}{b:Ask},Chain W (fs++gs) b->Chain W gs b
 |[],_,_,c=>c
 |[f],[],_,_=>trivial
 |[f],g::gs,b,c=>c.2
 |f::g::r,gs,b,c=>A6 (fs:=g::r) c.2
theorem nK:∀{fs:am bt}{b a:Ask},(∀f∈fs,bS W f)->Chain W fs b->(fs.head?.map (·.a)).getD b=a->(∀k,W.out k b=none) ->∀k,W.out k a=none
 |[],b,a,_,_,e,d,k=>by cases e;exact d k
 |f::l,b,a,ok,c,e,d,k=>by
  cases e
  cases g:W.out k f.a with
  |none=>exact g
  |some r =>
   obtain⟨i,j,_,h⟩:=s6 ok c Z g;rw[d i]at h;cases h
end
def cf(as:List Ask):List Gd:=(as.filter λa=>decide (a.2=("" : Gd))).map (·.1)
def eM(W:aO)(a:Ask)(ns:List Gd):Prop:= ∃(fs:List bt) (b:Ask) (i:Nat),(∀f∈fs,bS W f)/\Chain W fs b/\(fs.head?.map (·.a)).getD b=a/\(fs.map (·.a)).Nodup/\(fs.map (·.a))[i]?=ih b/\ns=cf ((fs.map (·.a)).drop i)
theorem Kk{W:aO}{fs:am bt}{a b:Ask}(ok:∀f∈fs,bS W f)(c:Chain W fs b)(e:(fs.head?.map (·.a)).getD b=a)(d:(fs.map (·.a)).Nodup)(hi:(fs.map (·.a))[i]?=ih b):eM W a^cf^(fs.map (·.a)).drop i:=#[fs,b,i,ok,c,e,d,hi,Z]
theorem uv{W:aO}{fs:am bt}{b:Ask}(ok:∀f∈fs,bS W f)(c:Chain W fs b)(hi:(fs.map (·.a))[i]?=ih b):(fs.drop i).head?.map (·.a)=ih b/\(∀f∈fs.drop i,bS W f)/\Chain W (fs.drop i) b /\∀k,W.out k b=none:=by
 have e:Chain W (fs.drop i) b:=A6 (fs:=fs.take i) (by rw[w4];exact c)
 have d:∀f∈fs.drop i,bS W f:=λf h=>ok f^pC h;have h2:(fs.drop i).head?.map (·.a)=ih b:=by rw[List.head?_drop,<-c5];exact hi
 obtain⟨g,j,l⟩:=gF.mp h2;exact#[h2,d,e,Kj d e j l]
theorem eM.core{W:aO}{a:Ask}(h:eM W a ns):(∀k,W.out k a=none) /\∃(fs:am bt) (b:Ask),fs.head?.map (·.a)=ih b/\(∀f∈fs,bS W f)/\Chain W fs b/\(fs.map (·.a)).Nodup/\ns=cf^fs.map (·.a):=by
 obtain⟨fs,b,i,ok,c,e,g,hi,rfl⟩:=h;obtain⟨h2,d,j,l⟩:=uv ok c hi;exact#[nK ok c e l,fs.drop i,b,h2,d,j,by rw[lT];exact g.sublist^VJ _ _,by rw[lT]]
abbrev Th:=Gd×Gd×Own
def iK(H:Hp)(vs:List V)(own:Own):Prop:=VT (λv q=>∃c,v=V.ref c/\H c=ih (.tup [.str q.1,.int q.2])) vs own
def hC(H:Hp)(vs:List V)(Qa:List Th):Prop:=VT (λv p=>∃a b us,v=V.ref a/\H a=ih (.tup [.str p.1,.str p.2.1,.ref b])/\H b=ih (.tup us)/\iK H us p.2.2) vs Qa
theorem iK.keep{own:Own}(h:iK H vs own)(k:∀b xs,H b=bn xs->H' b=bn xs):iK H' vs own:=Paired.imp' (λ_ _ a=>by obtain⟨c,e,q⟩:=a;exact #[c,e,k _ _ q]) h
theorem hC.keep{Qa:am Th}(h:hC H vs Qa)(k:∀b xs,H b=bn xs->H' b=bn xs):hC H' vs Qa:=Paired.imp' (λ_ _ c=>by obtain⟨a,b,us,e,q,r,o⟩:=c;exact #[a,b,us,e,k _ _ q,k _ _ r,o.keep k]) h
theorem hC.same{Qa:am Th}(h:hC H vs Qa)(S:ax H H'):hC H' vs Qa:=h.keep λ_ _ e=>S _ _ e
structure ik(H:Hp)(w t tb tt:FG)(wt:List V)(Qa:List Th):Prop where
 hw:H w=ih (.tup [.ref t,.ref tb,.ref tt])
 ht:H tt=ih (.tup wt)
 tv:hC H wt Qa
 a5:Qa.length<=5
 nm:∀p∈Qa,Nm p.1
 nd:(Qa.map (·.1)).Nodup
theorem ik.same{w t tb:FG}{Qa:am Th}(h:ik H w t tb tt wt Qa)(S:ax H H'):ik H' w t tb tt wt Qa:=#[S _ _ h.hw,S _ _ h.ht,h.tv.same S,h.a5,h.nm,h.nd]
inductive ri(vs:List V)(H:Hp)(Q:VK)(E:XK):Prop
 |mk{x t tb tt:FG}{wt:List V}{Qa:List Th}{th:Gd}(_:vs=[.ref x,.str th])(_:ik H x t tb tt wt Qa)(_:Nm th)(_:∀H',ax H H'->Q (.bl (decide (th∈Qa.map (·.1)))) H'):ri vs H Q E
theorem Ph:bp ["world","thing"] ["world","thing"]^aI nU:=bD
def D4(e:VH):VH:=match e with|.Compare _ _ (r::_) _=>r|_=>.Constant .none 0 ⟨0,0,0,0⟩
noncomputable abbrev QP:VH:=D4 (uQ (mL (bW (bJ nU) 0)) 1)
theorem EJ:b8 ["world","thing"] (aI nU) ["triple"] [none]^cK QP:=dF
theorem NN(F:aQ K "is_thing" "is_thing" nU f fd)(v:bB P w K mg base aF 1 fN dN ["thing"] mv "is_name"):aT P w K mg base aF 2 f fd ["world","thing"] ri:=by
 refine F.bI Ph λQb A outer s H vs Q E z h=>?_
 .obtain @⟨x,t,tb,tt,wt,Qa,th,rfl,h,n,q⟩:=h
  intro X;refine#[_,ay^a3^uA (a' v z^aa (pv 1) ai)^qu^jO jJ (pv 1) (d7 Z EJ (kR^aU bu (pv 0) aw)^λs H fp=>#[ba 0 EJ.nd,ey,aU (jN K Z) (pv 0) aw^λ_ _=>rfl]) Z,?_];refine af Z^mv.mk Z n λY k=>#[true,Z,ite_tt Z ?_];have h1:=h.same k;have a5:=h.a5;have r:=cy h.tv;refine aW Z Z^a7 h1.hw oN #[tt,Z,#[_,aX.of h1.ht],λc l=>?_];refine l7 (xs:=wt) (λi ys d H2=>∃j:a2 V,d=[j]/\ax Y H2/\H2 c=ce ys/\ys=((Qa.take i).map (·.1)).map V.str) #[none,Z,aJ l,ah,Z] (λi ys d H2 I=>by obtain⟨_,_,B,C,_⟩:=I;exact #[C,aX.of^B _ _ h1.ht]) ?_ ?_
  .rintro i y ys d H2 m ⟨j,rfl,g,h2,rfl⟩
   have u:i<wt.length:=(b4.mp m).1;obtain⟨p,D,a,b,us,rfl,G,_⟩:=L2.Paired.get (h1.tv.same g) m;refine af Z^a7 G b6 #[h2,by rw[aE,aE,cH,aV];omega,cw_next u #[_,Z,λb o e=>by rw[ag^aA e l];exact g _ _ e,ah,?_]]
   rw[dQ,D,bj,bj];rfl
  .rintro ys d H2 ⟨j,rfl,g,h2,rfl⟩
   rw[r,cF]at h2;refine#[c,_,Z,.inl^au.of h2,Z,jL _,?_];rw[ao b7,i2];exact q _^k.trans g
inductive rj(vs:List V)(H:Hp)(Q:VK)(E:XK):Prop
 |mk{x t tb tt:FG}{wt:List V}{Qa:List Th}{th:Gd}(_:vs=[.ref x,.str th])(_:ik H x t tb tt wt Qa)(_:th∈Qa.map (·.1))(_:∀H',ax H H'->Q .aK H'):rj vs H Q E
theorem Pj:bp ["world","thing"] ["world","thing"]^aI ui:=bD
theorem NO(F:aQ K "check_thing" "check_thing" ui f fd)(b:bB P w K mg base aF 2 fI dI ["world","thing"] ri "is_thing"):aT P w K mg base aF 3 f fd ["world","thing"] rj:=by
 refine F.bI Pj λQb A outer s H vs Q E c h=>?_
 .obtain @⟨x,t,tb,tt,wt,Qa,th,rfl,h,a,q⟩:=h
  intro X;refine#[_,ay^bo (gv^gu^a' b c^aa (pv 0)^aa (pv 1) ai) s8 bE,?_];obtain⟨p,d,e⟩:=a8.mp a;refine aW Z Z^ri.mk Z h (e ▸ h.nm p d) λY g=>#[true,?_,q Y g];rw[cb a]
def rZ(H:Hp)(vs:List V)(Qa:List Th):Prop:=VT (λv p=>∃r b us,v=V.ref r/\H r=ih (.tup [.str p.2.1,.ref b])/\H b=ih (.tup us)/\iK H us p.2.2) vs Qa
theorem rZ.keep{Qa:am Th}(h:rZ H vs Qa)(k:∀b xs,H b=bn xs->H' b=bn xs):rZ H' vs Qa:=Paired.imp' (λ_ _ c=>by obtain⟨a,b,us,e,q,r,o⟩:=c;exact #[a,b,us,e,k _ _ q,k _ _ r,o.keep k]) h
inductive rk(vs:List V)(H:Hp)(Q:VK)(E:XK):Prop
 |mk{x t tb tt:FG}{wt:List V}{Qa:List Th}{th:Th}(_:vs=[.ref x,.str th.1])(_:ik H x t tb tt wt Qa)(_:th∈Qa)(_:∀r b us H',ax H H'->H' r=ih (.tup [.str th.2.1,.ref b])->H' b=ih (.tup us)->iK H' us th.2.2->Q (.ref r) H'):rk vs H Q E
theorem Pk:bp ["world","thing"] ["world","thing"]^aI nV:=bD
def Pl(e:VH):VH:=match e with|.Subscript o _ _=>o|_=>.Constant .none 0 ⟨0,0,0,0⟩
abbrev QQ:VH:=Pl (mL (bW (bJ nV) 1))
theorem EK:b8 ["world","thing"] (aI nV) ["triple","thing"] [none,ih 1]^cK QQ:=dF
theorem NP{Qa:am Th}(a:(Qa.map (·.1)).Nodup){p q:Th}(b:p∈Qa)(c:q∈Qa)(e:p.1=q.1):p=q:=by
 induction Qa with
 |nil=>cases b
 |cons x Qa d =>
  rw[bY,d6]at a;rcases bL.mp b with h1|Fi
  .rcases bL.mp c with h2|wk
   .rw[h1,h2]
   .exact absurd (a8.mpr #[q,wk,by rw[<-e,h1]]) a.1
  .rcases bL.mp c with h2|wk
   .exact absurd (a8.mpr #[p,Fi,by rw[e,h2]]) a.1
   .exact d a.2 Fi wk
theorem NQ(F:aQ K "kind_and_own" "kind_and_own" nV f fd)(W:bB P w K mg base aF 3 fC dC ["world","thing"] rj "check_thing"):aT P w K mg base aF 4 f fd ["world","thing"] rk:=by
 refine F.bI Pk λQb A outer s H vs Q E xa h=>?_
 .obtain @⟨x,t,tb,tt,wt,Qa,th,rfl,h,l,q⟩:=h
  intro X;refine#[_,ar (eL^a' W xa^aa (pv 0)^aa (pv 1) ai)
   (ay^a3^aU d2 (d7 Z EK (kR^aU bu (pv 0) aw)^λs H fp=>#[ba 0 EK.nd,i1^bx dg (aU (jN K Z) (pv 0) aw) (pv 1)^bC _,i0 C3 (pv 0) (iz aw) i6]) aw),?_]
  refine aW Z Z^rj.mk Z h (a8.mpr #[th,l,Z]) λY J=>?_;have h1:=h.same J;have a5:=h.a5;have R:=cy h.tv;refine af Z^a7 h1.hw oN #[tt,Z,#[_,aX.of h1.ht],λc L=>?_];refine l7 (xs:=wt) (λi ys k H2=>∃m:a2 V,k=[m,ih^.str th.1]/\ax Y H2/\H2 c=ce ys/\rZ H2 ys^(Qa.take i).filter λp=>decide (p.1=th.1)) #[none,Z,aJ L,ah,.nil] (λi ys k H2 ab=>by obtain⟨_,_,z1,z2,_⟩:=ab;exact #[z2,aX.of^z1 _ _ h1.ht]) ?_ ?_
  .rintro i y ys k H2 M ⟨m,rfl,g,h2,d⟩
   have D:i<wt.length:=(b4.mp M).1;obtain⟨p,n,a,b,us,rfl,N,u,ow⟩:=L2.Paired.get (h1.tv.same g) M;have tk:Qa.take (i+1)=Qa.take i++[p]:=by rw[dQ,n];rfl
   have yl:=cy d;have O:((Qa.take i).filter λp=>decide (p.1=th.1)).length<=(Qa.take i).length:=gn _ _;rw[cH]at O;refine af Z^a7 N b6^af Z #[Z,_,Z,?_];refine bZ (λe=>?_)^λe=>?_
   .have e:p.1=th.1:=by
     have:=dA e;injection this
    refine af Z #[1,Z,a,_,Z,N,λr B j C=>?_];have C:B r=bn [.str p.2.1,.ref b]:=C;have G:=j _ _ h2;have up:∀{zs:am V} b xs,B b=bn xs->upd B c (.lst zs) b=bn xs:=λb xs e=>by rw[ag^aq e G];exact e
    refine#[G,by rw[aV];omega,cw_next D #[_,Z,λb o e=>by rw[ag^aA e L];exact j _ _^g _ _ e,ah,?_]]
    rw[tk,gp,pB^by simp[e]]
    exact gX ((d.keep λb xs e=>j _ _ e).keep up) #[r,b,us,Z,up _ _ C,up _ _^j _ _ u,(ow.keep λb xs e=>j _ _ e).keep up]
   .have e : ¬ p.1=th.1:=λz=>e (cb^by rw[z])
    refine cw_next D^af Z #[g,h2,?_];rw[tk,gp,sx^by simp[e]]
    simpa using d
  .rintro ys k H2 ⟨m,rfl,g,h2,d⟩
   rw[R,cF]at d;have I:th∈Qa.filter λp=>decide (p.1=th.1):=eb.mpr #[l,cb Z];generalize ya:(Qa.filter λp=>decide (p.1=th.1))=O at d I;cases d with
   |nil=>cases I
   |@cons v p vs fs za _ =>
    have n:p∈Qa.filter λp=>decide (p.1=th.1):=by rw[ya];exact aY
    obtain⟨S,T⟩:=eb.mp n;obtain rfl:=NP h.nd S l^dA T;obtain⟨r,b,us,rfl,U,u,ow⟩:=za;exact jr h2 b6^q r b us H2 (J.trans g) U u ow
def fW(fi ow kp kn:FG)(kd:Gd)(bg:Int):List (Gd×V):=[("finds",.ref fi),("kind",.str kd),("own",.ref ow),("kept",.ref kp),("known",.ref kn),("begun",.int bg)]
section
variable{fi kp kn:FG}
theorem LK:b' "begun" (.int 0)^b' "known" (.ref kn)^b' "kept" (.ref kp)^b' "own" (.ref ow)^b' "kind" (.str kd)^b' "finds" (.ref fi) []=fW fi ow kp kn kd 0:=rfl
theorem tT:(fW fi ow kp kn kd bg).lookup ("finds" : Gd)=ih^V.ref fi:=rfl
theorem uw:(fW fi ow kp kn kd bg).lookup ("kind" : Gd)=ih^V.str kd:=rfl
theorem DL:(fW fi ow kp kn kd bg).lookup ("own" : Gd)=ih^V.ref ow:=rfl
theorem i5:(fW fi ow kp kn kd bg).lookup ("known" : Gd)=ih^V.ref kn:=rfl
theorem LL:(fW fi ow kp kn kd bg).lookup ("forebears" : Gd)=none:=rfl
theorem LM:(fW fi ow kp kn kd bg).lookup ("tell" : Gd)=none:=rfl
end
structure h8(K:Ys)(mg:Gd->Option i')(C:FG):Prop where
 cl:gA K C
 nf:ef K C "finds"
 nk:ef K C "kind"
 no:ef K C "own"
 np:ef K C "kept"
 nn:ef K C "known"
 nb:ef K C "begun"
 oZ:mg "Whole" = ih (.ref C)
inductive qR(C:FG)(vs:List V)(H:Hp)(Q:VK)(E:XK):Prop
 |mk{x fi ow kp dx:FG}{kd:Gd}(_:vs=[.ref x,.ref fi,.str kd,.ref ow,.ref kp])(_:H x=ih (.ins C dx []))(_:H kp=ih (.dT []))(_:∀kn,H kn=none->Q .aK (upd (upd H kn (.dT [])) x (.ins C dx (fW fi ow kp kn kd 0)))):qR C vs H Q E
noncomputable abbrev oO:List Gd:=["self","finds","kind","own","kept"]
theorem NR:bp oO oO^aI uM:=bD
theorem MJ(F:aQ K "__init__" "Whole.__init__" uM f fd)(k:hA mg)(T:h8 K mg C):aT P w K mg base aF 1 f fd oO^qR C:=by
 refine F.bI NR λQb A outer s H vs Q E l h=>?_
 .obtain @⟨x,fi,ow,kp,dx,kd,rfl,c,d,q⟩:=h
  have i:kp≠x:=aq d c
  intro X;refine#[_,ar (f6 (pv 0) (pv 1) Z)^ar (f6 (pv 0) (pv 2) Z)^ar (f6 (pv 0) (pv 3) Z)^ar (f6 (pv 0) (pv 4) Z)^ar (f6 (pv 0) (df Ij Z k.dict boot_dict^aa (pv 4) ai) Z)^ay^f6 (pv 0) aw Z,?_];refine aW Z Z #[x,C,dx,[],Z,c,T.cl,T.nf,(by show 0<1000;decide),?_]
  refine aW Z Z #[x,C,dx,_,Z,ah,T.cl,T.nk,(by show 1<1000;decide),?_]
  rw[fJ];refine aW Z Z #[x,C,dx,_,Z,ah,T.cl,T.no,(by show 2<1000;decide),?_]
  rw[fJ];refine aW Z Z #[x,C,dx,_,Z,ah,T.cl,T.np,(by show 3<1000;decide),?_]
  rw[fJ];refine af Z #[kp,Z,by rw[ag i];exact d,λkn a=>?_]
  have g:x≠kn:=aA ah a;refine af Z #[x,C,dx,_,Z,by rw[ag g];exact ah,T.cl,T.nn,(by show 4<1000;decide),?_]
  refine af Z #[x,C,dx,_,Z,ah,T.cl,T.nb,(by show 5<1000;decide),?_]
  rw[fJ,LK];have j:H kn=none:=by
   cases e:H kn with
   |none=>rfl
   |some u=>rw[ag^aS g,e]at a;cases a
  have e:∀o o':HO,upd (upd (upd H x o) kn^.dT []) x o'=upd (upd H kn^.dT []) x o':=λo o'=>by
   funext b
   by_cases h1:b=x
   .subst h1;rw[ah,ah]
   .rw[ag h1,ag h1]
    by_cases h2:b=kn
    .subst h2;rw[ah,ah]
    .rw[ag h2,ag h2,ag h1]
  rw[e];exact q kn j
structure WI(C D x dx fi fx dl de dh ow kp kn:FG)(kd:Gd)(bg:Int)(kl ko:List (Key×V))(ke kh kk:List (List Key×V))(m:Int)(bk:Bk)(H:Hp):Prop where
 n3:x≠fi
 hx:H x=ih (.ins C dx (fW fi ow kp kn kd bg))
 fi:FI D fi fx dl de dh kl ke kh m bk H
 ho:H ow=ih (.dK ko)
 hk:H kn=ih (.dT kk)
 n1:kn≠de
 n2:kn≠dh
inductive qD(C D:FG)(vs:List V)(H:Hp)(Q:VK)(E:XK):Prop
 |mk{x dx fi fx dl de dh ow kp kn a:FG}{kd:Gd}{bg:Int}{kl ko:List (Key×V)}{ke kh kk:List (List Key×V)}{m:Int}{bk:Bk}(_:vs=[.ref x])(_:WI C D x dx fi fx dl de dh ow kp kn kd bg kl ko ke kh kk m bk H)(_:bq kl (n' kd)=ih (.ref a))(_:Q (.ref a) H):qD C D vs H Q E
theorem MK:bp ["self"] ["self"]^aI sT:=bD
theorem LN(F:aQ K "forebears" "Whole.forebears" sT f fd)(T:h8 K mg C)(b:j3 K mg D):aT P w K mg base aF 1 f fd ["self"]^qD C D:=by
 refine F.bI MK λQb A outer s H vs Q E c h=>?_
 .obtain @⟨x,dx,fi,d,dl,de,dh,ow,kp,kn,a,kd,bg,g,j,k,kh,kk,m,bk,rfl,h,e,q⟩:=h
  have i:=c.units;intro X;refine#[_,ay^a3^dV (d9 i) (cq (cq (pv 0) Z) Z)^cq (pv 0) Z,?_];refine af Z #[x,C,dx,_,.ref fi,Z,h.hx,T.cl,T.nf,tT,fi,D,d,_,.ref dl,Z,h.fi.hx,b.cl,b.nl,CD,_,Z,x,C,dx,_,.str kd,Z,h.hx,T.cl,T.nk,uw,dl,.ref a,Z,.inl #[g,n' kd,.inl h.fi.hl,Z,e.symm],q]
end eH
namespace L2
open W
theorem ML:vr X .Mult (rI oJ λi j=>.int (i * j)):=λJ s σ H x y u v Q I a b h=>KC J s σ H x y u v Q I a b h
end L2
namespace eH
open L2 W HT
theorem ux{u:V}{d:UN}(e:Ent d)(r:Rep H u d):∃a xs,u=.ref a/\H a=bn (.str^bb d::xs):=by
 cases e with
 |plain n=>obtain⟨a,u,rfl,b,_⟩:=two1 r;exact#[a,_,Z,b]
 |behind ds=>obtain⟨a,u,rfl,b,_⟩:=two1 r;exact#[a,_,Z,b]
 |j2 ds=>obtain⟨a,u,rfl,b,_⟩:=two1 r;exact#[a,_,Z,b]
 |ahead x n =>
  obtain⟨a,vs,rfl,b,rs⟩:=r.tupI;obtain⟨f,g,rfl,c,rs⟩:=rs.ft;obtain rfl:=c.hB;exact#[a,_,Z,b]
theorem tU{d:UN}(e:Ent d):(∀s∈b9 d,eo s)/\(b9 d).length<=4:=by
 cases e with
 |plain n h=>exact#[λs a=>by rw[bR.mp a];exact .add n h,by show 1<=4;decide]
 |ahead x n h c =>
  refine#[λs a=>?_,by show 2<=4;decide]
  rcases bL.mp a with z|z
  .rw[z];exact .ask x h
  .rw[bR.mp z];exact .add n c
 |behind ds b a=>exact#[a,b]
 |j2 ds b a=>exact#[a,b]
theorem qq{u:V}{d:UN}(e:eo d)(r:Rep H u d):∃a xs,u=.ref a/\H a=bn (.str^bb d::xs)/\(bb d = "add" \/ bb d = "times" -> xs=[.int^lp d])/\(bb d = "ask" -> xs=[.str^dq d])/\(bb d = "times" -> -9<=lp d/\lp d<=9):=by
 cases e with
 |add n =>
  obtain⟨a,u,rfl,b,c⟩:=two1 r;obtain rfl:=c.iJ;exact#[a,_,Z,b,λ_=>rfl,λz=>absurd z (by show ¬ ((("add" : Gd)) = "ask");decide +kernel),λz=>absurd z^by show ¬ ((("add" : Gd)) = "times");decide +kernel]
 |times n lo hi =>
  obtain⟨a,u,rfl,b,c⟩:=two1 r;obtain rfl:=c.iJ;exact#[a,_,Z,b,λ_=>rfl,λz=>absurd z (by show ¬ ((("times" : Gd)) = "ask");decide +kernel),λ_=>#[lo,hi]]
 |ask x =>
  obtain⟨a,u,rfl,b,c⟩:=two1 r;obtain rfl:=c.hB;exact#[a,_,Z,b,λz=>absurd z (by show ¬ ((("ask" : Gd)) = "add" \/ (("ask" : Gd)) = "times");decide +kernel),λ_=>rfl,λz=>absurd z^by show ¬ ((("ask" : Gd)) = "times");decide +kernel]
 |mx =>
  obtain⟨a,vs,rfl,b,rs⟩:=r.tupI;obtain⟨g,h,rfl,f,rs⟩:=rs.ft;obtain rfl:=rs.mM;obtain rfl:=f.hB;exact#[a,_,Z,b,λz=>absurd z (by show ¬ ((("onward" : Gd)) = "add" \/ (("onward" : Gd)) = "times");decide +kernel),λz=>absurd z (by show ¬ ((("onward" : Gd)) = "ask");decide +kernel),λz=>absurd z^by show ¬ ((("onward" : Gd)) = "times");decide +kernel]
inductive ro(vs:List V)(H:Hp)(Q:VK)(E:XK):Prop
 |mk{u:V}{d:UN}(_:vs=[u])(_:Ent d)(_:Rep H u d)(_:∀H',ax H H'->Q (.bl (jU d)) H'):ro vs H Q E
theorem Pn:bp ["entry"] ["entry"]^aI sS:=bD
theorem NT(F:aQ K "goes_first" "goes_first" sS f fd):aT P w K mg base aF 1 f fd ["entry"] ro:=by
 refine F.bI Pn λQb A outer s H vs Q E j h=>?_
 .obtain @⟨u,d,rfl,b,r,q⟩:=h
  intro X;refine#[_,ay^a3^jO jJ (aU bu (pv 0) aw) (cc^aa br^aa br ai) Z,?_];obtain⟨a,xs,rfl,g⟩:=ux b r;refine af Z^a7 g b6 #[bQ,λc i=>?_];refine#[c,_,Z,.inr^aX.of ah,Z,Z,?_];have e:lG (.str^bb d)^(["ahead","shut"]:am Gd).map V.str=jU d:=by rw[i2];unfold jU;exact decide_eq_decide.mpr (by simp)
  have:=q _^aJ (o:=.tup [V.str "ahead",V.str "shut"]) i;rw[<-e]at this;exact this
inductive rp(vs:List V)(H:Hp)(Q:VK)(E:XK):Prop
 |mk{u:V}{d:UN}(_:vs=[u])(_:Ent d)(_:Rep H u d)(_:bb d ≠ "plain")(_:∀r us H',ax H H'->H' r=ih (.tup us)->bM H' us (b9 d)->Q (.ref r) H'):rp vs H Q E
theorem Po:bp ["entry"] ["entry"]^aI tM:=bD
theorem NV(F:aQ K "steps_of" "steps_of" tM f fd):aT P w K mg base aF 1 f fd ["entry"] rp:=by
 refine F.bI Po λQb A outer s H vs Q E G h=>?_
 .obtain @⟨u,d,rfl,l,r,m,q⟩:=h
  intro X;refine#[_,ar (bo (bx dg (aU bu (pv 0) aw) br^bC _) (ay^a3^cc^aa (cc^aa br^aa (aU bu (pv 0) aw) ai)^aa (cc^aa br^aa (aU bu (pv 0) aw) ai) ai) bE)
   (ay^a3^aU bu (pv 0) aw),?_]
  cases l with
  |plain n=>exact absurd Z m
  |ahead x n h I =>
   obtain⟨a,vs,rfl,c,rs⟩:=r.tupI;obtain⟨J,L,rfl,p,rs⟩:=rs.ft;obtain⟨M,N,rfl,e,rs⟩:=rs.ft;obtain⟨O,R,rfl,t,rs⟩:=rs.ft;obtain rfl:=rs.mM;obtain rfl:=p.hB;obtain rfl:=e.hB;obtain rfl:=t.iJ;refine af Z^a7 c b6 #[Z,_,Z,?_];refine af Z^a7 c cP #[bQ,λv h1=>?_];have j:=aJ (o:=.tup [V.str "ask",.str x]) h1;refine af Z^a7 (j _ _ c) oN #[bQ,λy h2=>#[bQ,λz B=>?_]];have k:=aJ (o:=.tup [V.str "add",.int n]) h2;have g:=aJ (o:=.tup [V.ref v,.ref y]) B;exact q z _ _ (j.trans^k.trans g) ah^.cons (.tup (g _ _^k _ _ ah)^.cons (.str _)^.cons (.str _) .nil)^.cons (.tup (g _ _ ah)^.cons (.str _)^.cons (.int _) .nil) .nil
  |behind ds C D =>
   obtain⟨a,u,rfl,c,e⟩:=two1 r;obtain⟨b,vs,rfl,i,rs⟩:=e.tupI;exact af Z^a7 c b6 #[Z,_,Z,_,Z,a7 c cP^q b vs H (ax.refl _) i rs]
  |j2 ds C D =>
   obtain⟨a,u,rfl,c,e⟩:=two1 r;obtain⟨b,vs,rfl,i,rs⟩:=e.tupI;exact af Z^a7 c b6 #[Z,_,Z,_,Z,a7 c cP^q b vs H (ax.refl _) i rs]
def fR(ta lf rs:FG)(wh:Gd)(t:Int):List (Gd×V):=[("asking",.ref ta),("where",.str wh),("left",.ref lf),("total",.int t),("rested",.ref rs)]
section
variable{ta lf rs:FG}{t t':Int}
theorem uR:b' "total" (.int t')^fR ta lf rs wh t=fR ta lf rs wh t':=rfl
theorem qE:(fR ta lf rs wh t).lookup ("asking" : Gd)=ih^V.ref ta:=rfl
theorem CG:(fR ta lf rs wh t).lookup ("where" : Gd)=ih^V.str wh:=rfl
theorem qr:(fR ta lf rs wh t).lookup ("left" : Gd)=ih^V.ref lf:=rfl
theorem qc:(fR ta lf rs wh t).lookup ("total" : Gd)=ih^V.int t:=rfl
theorem BS:(fR ta lf rs wh t).lookup ("rested" : Gd)=ih^V.ref rs:=rfl
end
structure iL(K:Ys)(mg:Gd->Option i')(C:FG):Prop where
 cl:gA K C
 na:ef K C "asking"
 nw:ef K C "where"
 nl:ef K C "left"
 nt:ef K C "total"
 nr:ef K C "rested"
 oZ:mg "Reckoning" = ih (.ref C)
inductive rq(C:FG)(vs:List V)(H:Hp)(Q:VK)(E:XK):Prop
 |mk{x ta ts dx:FG}{wh n b:Gd}{us:List V}(_:vs=[.ref x,.ref ta,.str wh,.ref ts])(_:H x=ih (.ins C dx []))(_:H ta=ih (.tup [.str n,.str b]))(_:H ts=ih (.tup us))
  (_:∀lf rs H',H lf=none->H rs=none->lf≠rs->(∀y u,y≠x->H y=ih u->H' y=ih u)->H' x=ih (.ins C dx (fR ta lf rs wh 0))->H' lf=ih (.lst us)->H' rs=ih (.lst [.str n])->Q .aK H'):rq C vs H Q E
noncomputable abbrev o1:List Gd:=["self","asking","where","steps"]
theorem Pp:bp o1 o1^aI uN:=bD
theorem NW(F:aQ K "__init__" "Reckoning.__init__" uN f fd)(B:dw mg)(T:iL K mg C):aT P w K mg base aF 1 f fd o1^rq C:=by
 refine F.bI Pp λQb A outer s H vs Q E L h=>?_
 .obtain @⟨x,ta,D,dx,wh,n,b,us,rfl,j,r,t,q⟩:=h
  intro X;refine#[_,ar (f6 (pv 0) (pv 1) Z)^ar (f6 (pv 0) (pv 2) Z)^ar (f6 (pv 0) (df jH Z B.list boot_list^aa (pv 3) ai) Z)^ar (f6 (pv 0) aw Z)^ay^f6 (pv 0) (eN^aa (aU bu (pv 1) aw) ai) Z,?_];have I:D≠x:=aq t j
  have J:ta≠x:=aq r j
  refine aW Z Z #[x,C,dx,[],Z,j,T.cl,T.na,(by show 0<1000;decide),?_]
  refine aW Z Z #[x,C,dx,_,Z,ah,T.cl,T.nw,(by show 1<1000;decide),?_]
  rw[fJ];refine af Z #[D,us,Z,.inr (aX.of^by rw[ag I];exact t),λlf g=>?_]
  have c:x≠lf:=aA ah g;have m:H lf=none:=by rw[ag^aS c]at g;exact g
  refine af Z #[x,C,dx,_,Z,by rw[ag c];exact ah,T.cl,T.nl,(by show 2<1000;decide),?_]
  refine af Z #[x,C,dx,_,Z,ah,T.cl,T.nt,(by show 3<1000;decide),?_]
  rw[fJ];have k:∀u,upd (upd (upd H x^.ins C dx^b' "where" (.str wh)^b' "asking" (.ref ta) []) lf^.lst us) x u x=ih u:=λu=>ah;have l:∀u,upd (upd (upd H x^.ins C dx^b' "where" (.str wh)^b' "asking" (.ref ta) []) lf^.lst us) x u lf=ce us:=λu=>by rw[ag^aS c];exact ah
  have d:∀u y o,y≠x->H y=ih o->upd (upd (upd H x^.ins C dx^b' "where" (.str wh)^b' "asking" (.ref ta) []) lf^.lst us) x u y=ih o:=λu y o n e=>by rw[ag n,ag^aA e m,ag n];exact e
  generalize (upd (upd (upd H x^.ins C dx^b' "where" (.str wh)^b' "asking" (.ref ta) []) lf^.lst us) x)=G at k l d⊢;refine af Z^a7 (d _ _ _ J r) b6 #[eW,λrs a=>?_];have i:x≠rs:=aA (k _) a;have v:lf≠rs:=aA (l _) a;have p:H rs=none:=by
   cases e:H rs with
   |none=>rfl
   |some o=>rw[d _ _ _ (aS i) e]at a;cases a
  refine af Z #[x,C,dx,_,Z,by rw[ag i];exact k _,T.cl,T.nr,(by show 4<1000;decide),?_]
  refine q lf rs _ m p v (λy u n e=>?_) (by rw[ah];rfl) (by rw[ag^aS c,ag v];exact l _) (by rw[ag^aS i];exact ah)
  rw[ag n,ag^aA e p];exact d _ _ _ n e
inductive ru(C:FG)(vs:List V)(H:Hp)(Q:VK)(E:XK):Prop
 |mk{x ta lf rs dx:FG}{wh:Gd}{t:Int}{u:V}{d:UN}(_:vs=[.ref x,u])(_:H x=ih (.ins C dx (fR ta lf rs wh t)))(_:eo d)(_:Rep H u d)(_:∀H',(∀y o,y≠x->H y=ih o->H' y=ih o)->H' x=ih (.ins C dx (fR ta lf rs wh (stepT t d)))->Q .aK H'):ru C vs H Q E
theorem Pq:bp ["self","step"] ["self","step"]^aI ur:=bD
theorem NX(F:aQ K "step_by" "Reckoning.step_by" ur f fd)(T:iL K mg C):aT P w K mg base aF 1 f fd ["self","step"]^ru C:=by
 refine F.bI Pq λQb A outer s H vs Q E k h=>?_
 .obtain @⟨x,ta,lf,rs,dx,wh,t,u,d,rfl,b,st,r,q⟩:=h
  intro X;refine#[_,ar (bo (bx dg (aU bu (pv 1) aw) br^bC _) (ay^nL (pv 0) (aU bu (pv 1) aw) qv) bE)
   (ay^bo (bx dg (aU bu (pv 1) aw) br^bC _) (ay^nL (pv 0) (aU bu (pv 1) aw) ML) bE),?_]
  obtain⟨a,xs,rfl,c,h1,h2,j⟩:=qq st r;have i:a≠x:=aq c b
  refine af Z^a7 c b6 #[Z,_,Z,?_];refine bZ (λe=>?_)^λe=>?_
  .have e:bb d = "add" :=by
    have:=dA e;injection this
   obtain rfl:=h1^.inl e;have g:stepT t d=t+lp d:=by unfold stepT;rw[aB e]
   rw[g]at q;refine af Z #[x,C,dx,_,.int t,Z,b,T.cl,T.nt,qc,_,Z,a7 c cP #[_,_,Z,Z,dx,_,b,by show 5<1000;decide,?_]]
   rw[uR];refine af Z^a7 (by rw[ag i];exact c) b6 #[Z,_,Z,?_]
   exact bZ (λz=>absurd z^by rw[e];decide +kernel)^λ_=>q _ (λy o n z=>by rw[ag n];exact z) ah
  .have e : ¬ bb d = "add" :=λz=>e (by rw[z];exact cb Z)
   refine af Z^a7 c b6 #[Z,_,Z,?_];refine bZ (λe2=>?_)^λe2=>?_
   .have e2:bb d = "times" :=by
     have:=dA e2;injection this
    obtain rfl:=h1^.inr e2;have g:stepT t d=t * lp d:=by unfold stepT;rw[ao e,aB e2]
    rw[g]at q;have l:=j e2;refine af Z #[x,C,dx,_,.int t,Z,b,T.cl,T.nt,qc,_,Z,a7 c cP #[_,_,Z,Z,.inr #[(),()],dx,_,b,by show 5<1000;decide,?_]]
    rw[uR];exact q _ (λy o n z=>by rw[ag n];exact z) ah
   .have e2 : ¬ bb d = "times" :=λz=>e2 (by rw[z];exact cb Z)
    have g:stepT t d=t:=by unfold stepT;rw[ao e,ao e2]
    rw[g]at q;exact q _ (λy o n z=>z) b
inductive rx(C:FG)(vs:List V)(H:Hp)(Q:VK)(E:XK):Prop
 |mk{x ta lf rs dx tt ns:FG}{wh:Gd}{t z:Int}{y:V}{rv nv:List V}(_:vs=[.ref x,.ref tt])(_:H x=ih (.ins C dx (fR ta lf rs wh t)))(_:H rs=ih (.lst rv))(_:H tt=ih (.tup [y,.int z,.ref ns]))(_:H ns=ih (.tup nv))(_:rv.length+nv.length<=1000)
  (_:∀H',(∀y o,y≠x->y≠rs->H y=ih o->H' y=ih o)->H' x=ih (.ins C dx (fR ta lf rs wh (t+z)))->H' rs=ih (.lst (rv++nv))->Q .aK H'):rx C vs H Q E
theorem Pr:bp ["self","told"] ["self","told"]^aI uu:=bD
theorem NY(F:aQ K "take_in" "Reckoning.take_in" uu f fd)(T:iL K mg C):aT P w K mg base aF 1 f fd ["self","told"]^rx C:=by
 refine F.bI Pr λQb A outer s H vs Q E p h=>?_
 .obtain @⟨x,ta,lf,rs,dx,tt,ns,wh,t,z,y,i,j,rfl,a,d,b,g,r,q⟩:=h
  intro X;refine#[_,ar (nL (pv 0) (aU bu (pv 1) aw) qv)
   (ay^eL^gw hQ PySem.F.slot_list_extend PySem.F.type_list_extend Il (cq (pv 0) Z)^aa (aU bu (pv 1) aw) ai),?_]
  have n1:rs≠x:=aq d a
  have k:tt≠x:=aq b a
  have l:ns≠x:=aq g a
  refine af Z #[x,C,dx,_,.int t,Z,a,T.cl,T.nt,qc,_,Z,a7 b cP #[_,_,Z,Z,dx,_,a,by show 5<1000;decide,?_]]
  rw[uR];have c:upd H x (.ins C dx^fR ta lf rs wh (t+z)) rs=ce i:=by rw[ag n1];exact d
  refine af Z #[x,C,dx,_,.ref rs,Z,ah,T.cl,T.nr,BS,.inl #[Z,_,au.of c],_,Z,a7 (by rw[ag k];exact b) oN #[rs,ns,i,j,Z,Z,c,by rw[ag l];exact g,by rw[aV];omega,?_]]
  exact q _ (λy o m n e=>by rw[ag n,ag m];exact e) (by rw[ag^aS n1];exact ah) ah
def cm(own:Own):List (Key×V):=f9 (own.map λq=>(q.1,V.int q.2))
theorem og(n:Gd):∀own:Own,bq (cm own)^n' n=(own.lookup n).map V.int:=by
 intro own
 induction own with
 |nil=>rfl
 |cons p own a =>
  show bq ((n' p.1,V.int p.2)::cm own)^n' n=(((p.1,p.2)::own).lookup n).map V.int
  by_cases e:p.1=n
  .rw[fg (by rw[e]),dM,show(n==p.1)=true by simp[e]];rfl
  .rw[eK^λz=>e^fZ z,a,dM,show(n==p.1)=false by simp[aS e]]
def b3(a:Ask):List Key:=[n' a.1,n' a.2]
theorem CH{a b:Ask}(h:b3 a=b3 b):a=b:=by
 unfold b3 at h;injection h with h1 h2;injection h2 with c _;exact wI (fZ h1)^fZ c
def kj(H:Hp)(NU:List Gd)(kk:List (List Key×V))(ka:List (Ask×Int)):Prop:=VT (λkv p=>kv.1=b3 p.1 /\∃(t:FG) (y:V) (ns:FG) (nv:List Gd),kv.2=V.ref t/\H t=ih (.tup [y,.int p.2,.ref ns])/\H ns=ih (.tup (nv.map V.str))/\nv.Nodup /\∀y∈nv,y∈NU) kk ka
theorem kj.keep{ka:am (Ask×Int)}(h:kj H NU kk ka)(k:∀b xs,H b=bn xs->H' b=bn xs):kj H' NU kk ka:=Paired.imp' (λ_ _ d=>by obtain⟨e,t,y,ns,a,e1,e2,e3,c⟩:=d;exact #[e,t,y,ns,a,e1,k _ _ e2,k _ _ e3,c]) h
theorem kj.val{ka:am (Ask×Int)}(h:kj H NU kk ka)(a:Ask):(bq kk^b3 a=none /\∀z,(a,z)∉ ka) \/∃(v:V) (z:Int) (t:FG) (y:V) (ns:FG) (b:am Gd),bq kk^b3 a=ih v/\(a,z)∈ka/\v=V.ref t/\H t=bn [y,.int z,.ref ns]/\H ns=bn^b.map V.str/\b.Nodup /\∀y∈b,y∈NU:=by
 induction h with
 |nil=>exact .inl #[Z,λz h=>by cases h]
 |@cons g p kk ka e _ j =>
  obtain⟨i,t,y,ns,b,e1,e2,e3,k,e5⟩:=e
  by_cases c:p.1=a
  .exact .inr #[g.2,p.2,t,y,ns,b,fg (by rw[i,c]),by rw[<-c];exact aY,e1,e2,e3,k,e5]
  .have ne : ¬ g.1=b3 a:=λz=>c^CH^i.symm.trans z
   rcases j with⟨d,f⟩|⟨v,z,t,y,ns,b,d,f,l⟩
   .refine .inl #[by rw[eK ne];exact d,λz m=>?_]
    rcases bL.mp m with y|y
    .exact c (by rw[<-y])
    .exact f z y
   .exact .inr #[v,z,t,y,ns,b,by rw[eK ne];exact d,bh _ f,l]
def UA(W:aO)(NU:List Gd)(a:Ask):Prop:=a.1∈NU/\(a.2 = "" \/ a.2∈W.line)
structure hF(W:aO)(NU:List Gd):Prop where
 bk:fz W.bk
 ask:∀p∈W.bk,∀s∈b9 p.2.2,bb s = "ask" -> dq s∈NU
 nm:∀n∈NU,Nm n
 a5:NU.length<=20
 ln:W.line.length<=9
 lm:∀k∈W.line,Nm k
structure Wh where
 (x dx fi fx dl de dh ow kp kn:FG)
 (kd:Gd)
 (kl:List (Key×V))
 (ke:List (List Key×V))
 (W:aO)
 (L:Gd->List Gd)
 (NU:List Gd)
structure cj(C D:FG)(S:Wh)(bg m:Int)(kh kk kq:List (List Key×V))(ka:List (Ask×Int))(H:Hp):Prop where
 n3:S.x≠S.fi
 hx:H S.x=ih (.ins C S.dx (fW S.fi S.ow S.kp S.kn S.kd bg))
 fi:FI D S.fi S.fx S.dl S.de S.dh S.kl S.ke kh m S.W.bk H
 ho:H S.ow=ih (.dK (cm S.W.own))
 hk:H S.kn=ih (.dT kk)
 hq:H S.kp=ih (.dT kq)
 n1:S.kn≠S.de/\S.kn≠S.dh/\S.kp≠S.de/\S.kp≠S.dh/\S.kn≠S.kp
 ln:gT H S.kl S.L S.kd
 el:S.L S.kd=S.W.line
 m3:jb H kh S.W.bk S.L
 kv:kj H S.NU kk ka
 ok:∀p∈ka,S.W.Out p.1 (.told p.2)
 nd:(ka.map (·.1)).Nodup
 cO:∀p∈ka,UA S.W S.NU p.1
 ql:kq.length<=kk.length
def Kp(S:Wh)(H H':Hp):Prop:= ∀b o,b≠S.fi->b≠S.dh->H b=ih o->H' b=ih o
theorem cj.same{S:Wh}{ka:am (Ask×Int)}(h:cj C D S bg m kh kk kq ka H)(s:ax H H'):cj C D S bg m kh kk kq ka H':=
 #[h.n3,s _ _ h.hx,#[s _ _ h.fi.hx,s _ _ h.fi.hl,s _ _ h.fi.he,s _ _ h.fi.hh,h.fi.du.same s,h.fi.ok,h.fi.nn],s _ _ h.ho,s _ _ h.hk,s _ _ h.hq,h.n1,h.ln.same s,h.el,h.m3.keep h.fi.ok λb xs e=>s _ _ e,h.kv.keep λb xs e=>s _ _ e,h.ok,h.nd,h.cO,h.ql]
theorem cj.write{S:Wh}{ka:am (Ask×Int)}(h:cj C D S bg m kh kk kq ka H)(k:∀b o,(∀xs,o≠HO.lst xs)->(∀dx fs,(b=S.x\/b=S.fi) \/∀c,o≠HO.ins c dx fs)->H b=ih o->H' b=ih o):cj C D S bg m kh kk kq ka H':=by
 have kt:∀b xs,H b=bn xs->H' b=bn xs:=λb xs e=>k b _ (by intro _ z;cases z) (λ_ _=>.inr^by intro _ z;cases z) e
 have a:∀b xs,H b=cs xs->H' b=cs xs:=λb xs e=>k b _ (by intro _ z;cases z) (λ_ _=>.inr^by intro _ z;cases z) e
 have d:∀b xs,H b=cr xs->H' b=cr xs:=λb xs e=>k b _ (by intro _ z;cases z) (λ_ _=>.inr^by intro _ z;cases z) e
 obtain⟨f,e1,e2⟩:=h.ln;exact#[h.n3,k _ _ (by intro _ z;cases z) (λ_ _=>.inl^.inl Z) h.hx,#[k _ _ (by intro _ z;cases z) (λ_ _=>.inl^.inr Z) h.fi.hx,d _ _ h.fi.hl,a _ _ h.fi.he,a _ _ h.fi.hh,h.fi.du.keep kt h.fi.ok.ent,h.fi.ok,h.fi.nn],d _ _ h.ho,a _ _ h.hk,a _ _ h.hq,h.n1,#[f,e1,kt _ _ e2],h.el,h.m3.keep h.fi.ok kt,h.kv.keep kt,h.ok,h.nd,h.cO,h.ql]
theorem cj.looked{S:Wh}{c:Int}{a:am (List Key×V)}{ka:am (Ask×Int)}(h:cj C D S bg m kh kk kq ka H)(k:Kp S H H')(fi:FI D S.fi S.fx S.dl S.de S.dh S.kl S.ke a c S.W.bk H')(d:jb H' a S.W.bk S.L):cj C D S bg c a kk kq ka H':=by
 have kt:∀b xs,H b=bn xs->H' b=bn xs:=λb xs e=>k _ _ (aq e h.fi.hx) (aq e h.fi.hh) e
 obtain⟨f,e1,e2⟩:=h.ln;exact#[h.n3,k _ _ h.n3 (aq h.hx h.fi.hh) h.hx,fi,k _ _ (aq h.ho h.fi.hx) (aq h.ho h.fi.hh) h.ho,k _ _ (aq h.hk h.fi.hx) h.n1.2.1 h.hk,k _ _ (aq h.hq h.fi.hx) h.n1.2.2.2.1 h.hq,h.n1,#[f,e1,kt _ _ e2],h.el,d,h.kv.keep kt,h.ok,h.nd,h.cO,h.ql]
theorem Jg{W:aO}{a:Ask}(h:W.Out a^.told z)(ne:a.2 ≠ ""):(W.look a).isSome=true:=by
 obtain⟨k,b⟩:=h;cases k with
 |zero=>cases b
 |succ k =>
  have b:W.ck (W.out k) a=ih^.told z:=b;unfold aO.ck at b;rw[show W.c2 a=none by unfold aO.c2;exact ao λy=>ne y.1]at b
  cases e:W.look a with
  |none=>rw[e]at b;cases b
  |some p=>rfl
theorem ml{W:aO}{a:Ask}{d:UN}(h:W.look a=ih (wh,d)):wh∈W.line:=by
 have:=(jS h).1;unfold ei at this;split at this
 .exact this
 .exact pC this
inductive ry(C D R:FG)(vs:List V)(H:Hp)(Q:VK)(E:XK):Prop
 |mk{S:Wh}{bg m:Int}{kh kk kq:List (List Key×V)}{ka:List (Ask×Int)}{r QR ta lf rs:FG}{wh:Gd}{t:Int}{a:Ask}{u:V}{d:UN}(_:vs=[.ref S.x,.ref r,u])(_:hF S.W S.NU)(_:cj C D S bg m kh kk kq ka H)(_:kh.length<=1000000)(_:H r=ih (.ins R QR (fR ta lf rs wh t)))(_:H ta=ih (.tup [.str a.1,.str a.2]))(_:wh∈S.W.line)(_:eo d)(_:Rep H u d)
  (_:S.W.need a.1 wh d=none ->∀eI m' H',Kp S H H'->cj C D S bg m' eI kk kq ka H'->eI.length<=kh.length+1->Q .aK H')
  (_:∀b,S.W.need a.1 wh d=ih b ->∀tn eI m' H',Kp S H H'->cj C D S bg m' eI kk kq ka H'->eI.length<=kh.length+1->H' tn=ih (.tup [.str b.1,.str b.2])->Q (.ref tn) H'):ry C D R vs H Q E
noncomputable abbrev QS:List Gd:=["self","reckoning","step","name","where"]
theorem EL:bp QS ["self","reckoning","step"]^aI uq:=bD
theorem NZ(F:aQ K "come_to" "Whole.come_to" uq f fd)(T:h8 K mg C)(zg:j3 K mg D)(I:iL K mg R)(xh:aT P w K mg base aF 2 fL dL ["self","kind","name","behind"]^my D)(yh:Meth K D "look" fL)(zh:Binds K dL ["self","kind","name","behind"] []):aT P w K mg base aF 3 f fd ["self","reckoning","step"]^ry C D R:=by
 refine F.bI EL λQb A outer s H vs Q E zb h=>?_
 .obtain @⟨S,bg,m,kh,kk,kq,ka,r,Y,ta,lf,rs,wh,t,a,u,d,rfl,xc,h,xe,xa,ye,ya,st,xi,yc,zc⟩:=h
  have ze:aZ 2 _:=zb;have xf:=d9 zb.units;intro X;refine#[_,ar (bo (bx dg (aU bu (pv 2) aw) br^bC _) (ay^a3^cc^aa (aU bu (pv 2) aw)^aa br ai) bE)
   (ar (bo (bx je (aU bu (pv 2) aw) br^bC _) (ay^a3 d3) bE)
   (ar (L3 (i:=3) (j:=4) Z EL.nd Z Z ∅ rfl Z (aa (aU bu (cq (pv 1) Z) aw)^aa (cq (pv 1) Z) ai) Z)
   (ar (bo (PW.pt^pw_or (gr^i9 xf (cc^aa (pv 3)^aa (pv 4) ai)^cq (pv 0) Z)^pw_or1^gr^tZ^hT (cq (pv 0) Z) zg.cl yh xh ze zh .nil c8^aa (cq (pv 0) Z)^aa (pv 3)^aa (pv 4) ai) (ay^a3^cc^aa (pv 3)^aa (pv 4) ai) bE)
   (ay^a3 d3)))),?_]
  obtain⟨yj,xs,rfl,O,h1,h2,zj⟩:=qq st xi;refine af Z^a7 O b6 #[Z,_,Z,?_];refine bZ (λe=>?_)^λe=>?_
  .have e:bb d = "ask" :=by
    have:=dA e;injection this
   obtain rfl:=h2 e;refine af Z^a7 O cP #[bQ,λc yi=>?_];have xd:=aJ (o:=.tup [V.str^dq d,V.str ""]) yi;exact zc (dq d,"") (by unfold aO.need;rw[aB e]) c kh m _ (λb o _ _ z=>xd _ _ z) (h.same xd) (gm _) ah
  have e : ¬ bb d = "ask" :=λz=>e (by rw[z];exact cb Z)
  refine af Z^a7 O b6 #[Z,_,Z,?_];refine bZ (λe2=>?_)^λe2=>?_
  .have e2 : ¬ bb d = "onward" :=λz=>by rw[z]at e2;revert e2;decide +kernel
   exact yc (by unfold aO.need;rw[ao e,ao e2]) kh m H (λb o _ _ z=>z) h^gm _
  have e2:bb d = "onward" :=by
   by_cases z:bb d = "onward"
   .exact z
   .exact absurd ⇑(λy=>z y) e2
  have yd:S.W.need a.1 wh d=if (S.W.look (a.1,wh)).isSome=true then ih (a.1,wh) else none:=by unfold aO.need;rw[ao e,aB e2]
  refine af Z #[r,R,Y,_,.ref ta,Z,xa,I.cl,I.na,qE,a7 ye b6^af Z #[r,R,Y,_,.str wh,Z,xa,I.cl,I.nw,CG,_,_,Z,?_]];refine aW Z Z #[bQ,λkt yf=>?_];have J:=aJ (o:=.tup [V.str a.1,V.str wh]) yf;have za:upd H kt (.tup [V.str a.1,V.str wh]) kt=bn^(b3 (a.1,wh)).map kV:=ah;have g:=h.same J;generalize upd H kt^.tup [V.str a.1,V.str wh]=xk at J za g⊢;refine af Z #[S.x,C,S.dx,_,.ref S.kn,Z,g.hx,T.cl,T.nn,i5,S.kn,_,Z,b2.t (k:=b3 (a.1,wh)) g.hk za,_,Z,?_];have zf:wh ≠ "" :=λz=>by have:=(xc.lm wh ya).lo;rw[z]at this;revert this;decide +kernel
  have xb:∀{l:Hp}{q:am (List Key×V)}{G:Int},(S.W.look (a.1,wh)).isSome=true->Kp S H l->cj C D S bg G q kk kq ka l->q.length<=kh.length+1 ->∀tn,l tn=none->Q (.ref tn)^upd l tn^.tup [V.str a.1,V.str wh]:=λ{l q G} zi kp L M tn B=>by
   have zd:=aJ (o:=.tup [V.str a.1,V.str wh]) B;exact zc (a.1,wh) (by rw[yd,aB zi]) tn q G _ (λb o n1 U z=>zd _ _^kp b o n1 U z) (L.same zd) M ah
  rcases h.kv.val (a.1,wh) with⟨e1,e3⟩|⟨v,z,xj,y,ns,yk,e1,e3,_⟩
  .rw[e1]
   refine af Z #[S.x,C,S.dx,_,.ref S.fi,Z,g.hx,T.cl,T.nf,tT,S.fi,S.fx,_,Z,g.fi.hx,vf ⋯ ⋯ ⋯ ⋯,_,Z,S.x,C,S.dx,_,.str S.kd,Z,g.hx,T.cl,T.nk,uw,_,Z,_,Z,my.mk Z g.fi g.ln (by rw[h.el];have:=xc.ln;omega) (.inr^by rw[h.el];exact ya) g.m3 xe λv q G l yb xg yg M n=>?_]
   have L:=g.looked yb xg yg;have kp:Kp S H l:=λb o n1 U z=>yb b o n1 U^J _ _ z;rw[h.el]at n;have n:eO l v^S.W.look (a.1,wh):=n;cases N:S.W.look (a.1,wh) with
   |none =>
    rw[N]at n;have n:v=V.aK:=n;subst n;refine af Z ?_;exact yc (by rw[yd,N];rfl) q G l kp L M
   |some p =>
    rw[N]at n;obtain⟨xj,zk,rfl,_,_⟩:=n;refine af Z ?_;exact aW Z Z #[bQ,λtn B=>xb (by rw[N];rfl) kp L M tn B]
  .rw[e1]
   exact aW Z Z #[bQ,λtn B=>xb (Jg (h.ok _ e3) zf) (λb o _ _ z=>J _ _ z) g (gm _) tn B]
theorem Pt{G:Prop}{h7 C:Hp->Prop}(h1:(∀a,h7 a->C a)->G)(h2:∀a,h7 a->C a):G:=h1 h2
theorem Fj:seqIndex? 0 (v::vs).length=ih 0:=by simp[seqIndex?]
structure FA where
 (x dx ta lf rs:FG)
structure c'(R:FG)(S:Wh)(H:Hp)(A:FA)(f:bt)(lv:List V)(rn:List Gd):Prop where
 hx:H A.x=ih (.ins R A.dx (fR A.ta A.lf A.rs f.w f.t))
 fe:H A.ta=ih (.tup [.str f.a.1,.str f.a.2])
 hl:H A.lf=ih (.lst lv)
 rl:bM H lv f.left
 st:∀s∈f.left,eo s
 an:∀s∈f.left,bb s = "ask" -> dq s∈S.NU
 hr:H A.rs=ih (.lst (rn.map V.str))
 rm:∀y∈rn,y∈S.NU
 a5:rn.length+f.left.length * 20<=99
 il:A.lf≠A.rs
 nx:A.x≠S.x
 nf:A.x≠S.fi
def Kr(S:Wh)(A:FA)(H H':Hp):Prop:= ∀b o,b≠S.fi->b≠S.dh->b≠A.x->b≠A.lf->b≠A.rs->H b=ih o->H' b=ih o
theorem c'.keep{S:Wh}{A:FA}{f:bt}(h:c' R S H A f lv rn)(k:∀b o,b=A.x\/b=A.lf\/b=A.rs\/(∃xs,o=HO.tup xs)->H b=ih o->H' b=ih o):c' R S H' A f lv rn:=
 #[k _ _ (.inl Z) h.hx,k _ _ (.inr^.inr^.inr #[_,Z]) h.fe,k _ _ (.inr^.inl Z) h.hl,iw (λb xs e=>k _ _ (.inr^.inr^.inr #[_,Z]) e) h.rl h.st,h.st,h.an,k _ _ (.inr^.inr^.inl Z) h.hr,h.rm,h.a5,h.il,h.nx,h.nf]
theorem c'.kp{S:Wh}{ka:am (Ask×Int)}{A:FA}{f:bt}(h:c' R S H A f lv rn)(w:cj C D S bg m kh kk kq ka H)(k:Kp S H H'):c' R S H' A f lv rn:=by
 have a:∀b xs,H b=ce xs->H' b=ce xs:=λb xs e=>k _ _ (aq e w.fi.hx) (aq e w.fi.hh) e
 have kt:∀b xs,H b=bn xs->H' b=bn xs:=λb xs e=>k _ _ (aq e w.fi.hx) (aq e w.fi.hh) e
 exact#[k _ _ h.nf (aq h.hx w.fi.hh) h.hx,kt _ _ h.fe,a _ _ h.hl,iw kt h.rl h.st,h.st,h.an,a _ _ h.hr,h.rm,h.a5,h.il,h.nx,h.nf]
theorem cj.wr{S:Wh}{ka:am (Ask×Int)}{A:FA}{f:bt}(h:cj C D S bg m kh kk kq ka H)(r:c' R S H A f lv rn)(k:∀b o,b≠A.x->b≠A.lf->b≠A.rs->H b=ih o->H' b=ih o):cj C D S bg m kh kk kq ka H':=
 h.write λb o a c e=>k b o (λz=>by
  rw[z]at e c;rw[r.hx]at e;cases e;rcases c A.dx _ with y|y
  .rcases y with y|y
   .exact r.nx y
   .exact r.nf y
  .exact y _ Z) (λz=>by rw[z,r.hl]at e;cases e;exact a _ Z) (λz=>by rw[z,r.hr]at e;cases e;exact a _ Z) e
inductive rz(C D R:FG)(vs:List V)(H:Hp)(Q:VK)(E:XK):Prop
 |mk{S:Wh}{bg m:Int}{kh kk kq:List (List Key×V)}{ka:List (Ask×Int)}{A:FA}{fr:bt}{lv:List V}{rn:List Gd}(_:vs=[.ref S.x,.ref A.x])(_:hF S.W S.NU)(_:cj C D S bg m kh kk kq ka H)(_:kh.length<=900000)(_:c' R S H A fr lv rn)(_:bS S.W fr)(_:fr.w∈S.W.line)
  (_:∀t' wm wq eI m' H',Kr S A H H'->cj C D S bg m' eI kk kq ka H'->eI.length<=kh.length+5->c' R S H' A ⟨fr.a,fr.w,[],t'⟩ wm wq->bS S.W ⟨fr.a,fr.w,[],t'⟩->Q .aK H')
  (_:∀t' d ds wm wq eI m' b tn H',Kr S A H H'->cj C D S bg m' eI kk kq ka H'->eI.length<=kh.length+5->c' R S H' A ⟨fr.a,fr.w,d::ds,t'⟩ wm wq->bS S.W ⟨fr.a,fr.w,d::ds,t'⟩->S.W.need fr.a.1 fr.w d=ih b->(∀z,(b,z)∉ ka)->H' tn=ih (.tup [.str b.1,.str b.2])->Q (.ref tn) H'):rz C D R vs H Q E
noncomputable abbrev QT:List Gd:=["self","reckoning","step","needed"]
theorem vJ:bp QT ["self","reckoning"]^aI va:=bD
theorem N0(F:aQ K "go_on" "Whole.go_on" va f fd)(T:h8 K mg C)(n:iL K mg R)(yn:aT P w K mg base aF 3 fC dC ["self","reckoning","step"]^ry C D R)(zn:Meth K C "come_to" fC)(xo:Binds K dC ["self","reckoning","step"] [])
  (yo:aT P w K mg base aF 1 fS dS ["self","step"]^ru R) (zo:Meth K R "step_by" fS) (xp:Binds K dS ["self","step"] []) (yp:aT P w K mg base aF 1 fT dT ["self","told"]^rx R) (zp:Meth K R "take_in" fT) (xq:Binds K dT ["self","told"] []):aT P w K mg base aF 4 f fd ["self","reckoning"]^rz C D R:=by
 refine F.bI vJ λQb A outer s H vs Q E yj h=>?_
 .obtain @⟨S,bg,m,kh,kk,kq,ka,A,fr,lv,rn,rfl,zj,h,zw,xf,yq,xl,zq,xr⟩:=h
  have zg:aZ 3 _:=yj;have xh:aZ 1 _:=zg.mono ∅
  have yh:=d9 yj.units;intro X;refine#[_,ar (nQ dZ (kI (cq (pv 1) Z)^λ_=>rfl)
    (ar (a4 2 vJ.nd^aU d2 (cq (pv 1) Z) aw)
    (ar (a4 3 vJ.nd^hT (pv 0) T.cl zn yn zg xo .nil c8^aa (pv 1)^aa (pv 2) ai)
    (ar (bo (bx gI (pv 3) d3^bC _) (ay^eL^hT (pv 1) n.cl zo yo xh xp .nil c8^aa (pv 2) ai)
     (ay^bo (gr^i9 yh (pv 3)^cq (pv 0) Z) (ay^eL^hT (pv 1) n.cl zp yp xh xq .nil c8^aa (dV yh (cq (pv 0) Z)^pv 3) ai)^ay^a3^pv 3))
    (ay^eL^gw hQ Gv Gw B7 (cq (pv 1) Z)^aa aw ai)))))
   (ay^a3 d3),?_]
  refine#[λxk σ Y=>∃(left:am UN) (t':Int) (O:am V) (U:am Gd) (G:am (List Key×V)) (yb:Int) (L M:a2 V),σ=[bd S.x,bd A.x,L,M]/\xk=left.length/\left.length<=4/\bS S.W #[fr.a,fr.w,left,t']/\c' R S Y A #[fr.a,fr.w,left,t'] O U/\cj C D S bg yb G kk kq ka Y/\G.length+left.length<=kh.length+4/\Kr S A H Y,
   #[_,fr.left,fr.t,lv,rn,kh,m,none,none,Z,Z,?_,yq,xf,h,?_,λb o _ _ _ _ _ z=>z],?_]
  .have:=xf.a5;omega
  .have:=xf.a5;omega
  rintro xk σ Y ⟨left,N,yl,I,ye,yr,L,M,rfl,rfl,zr,yc,g,zb,yf,ze⟩;refine af Z #[A.x,R,A.dx,_,.ref A.lf,Z,g.hx,n.cl,n.nl,qr,_,.inl #[_,au.of g.hl,Z],?_];cases left with
  |nil =>
   have xt:=g.rl;have e:=bM.length xt;have e0:yl=[]:=lR e;subst e0;refine bZ (λz=>by cases z)^λ_=>?_
   exact zq N [] I ye yr Y ze zb (by have:ye.length+0<=kh.length+4:=yf;omega) g yc
  |cons d ds =>
   obtain⟨v,vs,rfl,yt,xx⟩:=g.rl.ft;refine bZ (λ_=>?_)^λz=>absurd Z z;have yf:ye.length+(ds.length+1)<=kh.length+4:=yf;refine#[λzh H'=>∃(t':Int) (O:am V) (U:am Gd) (G:am (List Key×V)) (yb:Int) (L M:a2 V),zh=[bd S.x,bd A.x,L,M]/\bS S.W #[fr.a,fr.w,ds,t']/\c' R S H' A #[fr.a,fr.w,ds,t'] O U/\cj C D S bg yb G kk kq ka H'/\G.length+ds.length<=kh.length+4/\Kr S A H H',λzh H' ⟨t',O,U,G,yb,L,M,e,zt,xu,yu,zu,xv⟩=>#[ds.length,kx _,ds,t',O,U,G,yb,L,M,e,Z,by simp only[c4]at zr;omega,zt,xu,yu,zu,xv],?_]
   refine af Z #[A.x,R,A.dx,_,.ref A.lf,Z,g.hx,n.cl,n.nl,qr,jr g.hl b6 ?_];refine af Z #[S.x,S.dx,_,Z,zb.hx,Z,_,Z,_,Z,ry.mk Z zj zb () g.hx g.fe xl (g.st d aY) yt (λyd zc zd H2 xa p yv=>?_) λb yd tn zc zd H2 xa p yv xi=>?_]
   .have c:c' R S H2 A #[fr.a,fr.w,d::ds,N] (v::vs) I:=g.kp zb xa
    have xd:Kr S A H H2:=λb o n1 j i u B e=>xa b o n1 j^ze b o n1 j i u B e;obtain⟨zv,zl,zf,yi,xe⟩:=c.rl.ft;cases zf
    refine af Z #[Z,_,Z,_,Z,A.x,A.dx,_,Z,c.hx,Z,_,Z,ru.mk Z c.hx (g.st d aY) yi λJ q xc=>?_];have ya:A.lf≠A.x:=aq c.hl c.hx
    have xm:A.rs≠A.x:=aq c.hr c.hx
    have r:=q _ _ ya c.hl;have xg:=p.wr c λb o n1 j i e=>q b o n1 e;have za:∀b xs,H2 b=bn xs->J b=bn xs:=λb xs e=>q _ _ (aq e c.hx) e
    refine af Z #[A.x,R,A.dx,_,.ref A.lf,Z,xc,n.cl,n.nl,qr,.inl #[Z,_,au.of r],A.lf,_,0,0,v,Z,Z,r,∅,∅,Fj,Z,?_]
    have xb:∀b xs,J b=bn xs->upd J A.lf (.lst vs) b=bn xs:=λb xs e=>by rw[ag^aq e r];exact e
    have a5:=c.a5;refine#[stepT N d,vs,I,zc,zd,_,_,Z,yc.step Z yd,#[by rw[ag^aS ya];exact xc,xb _ _^za _ _ c.fe,ah,iw (λb xs e=>xb _ _^za _ _ e) xe λs l=>g.st s^bh _ l,λs l=>g.st s^bh _ l,λs l=>g.an s^bh _ l,by rw[ag^aS c.il];exact q _ _ xm c.hr,c.rm,by simp only[c4]at a5;show I.length+ds.length * 20<=99;omega,c.il,c.nx,c.nf],?_,(),λb o n1 j i u B e=>by rw[ag u];exact q _ _ i^xd b o n1 j i u B e]
    exact xg.write λb o yg _ e=>by rw[ag (λz=>by rw[z,r]at e;cases e;exact yg _ Z)];exact e
   .have c:c' R S H2 A #[fr.a,fr.w,d::ds,N] (v::vs) I:=g.kp zb xa
    have xd:Kr S A H H2:=λb o n1 j i u B e=>xa b o n1 j^ze b o n1 j i u B e;obtain⟨zv,zl,zf,yi,xe⟩:=c.rl.ft;cases zf
    have zi:H2 tn=bn^(b3 b).map kV:=xi;refine af Z #[Z,_,Z,_,Z,_,Z,S.x,C,S.dx,_,.ref S.kn,Z,p.hx,T.cl,T.nn,i5,S.kn,_,Z,b2.t (k:=b3 b) p.hk zi,_,Z,?_];rcases p.kv.val b with⟨e1,e3⟩|⟨zx,z,xw,y,ns,yk,e1,e3,rfl,ym,zm,xn,xj⟩
    .rw[e1]
     exact af Z^xr N d ds (v::vs) I zc zd b tn H2 xd p () c yc yd e3 xi
    .rw[e1]
     have yx:yk.length<=20:=ec (len_sub xn xj) zj.a5;have a5:=c.a5;simp only[c4]at a5;refine af Z #[A.x,A.dx,_,Z,c.hx,Z,_,Z,S.x,C,S.dx,_,.ref S.kn,Z,p.hx,T.cl,T.nn,i5,_,Z,S.kn,.ref xw,Z,by rw[<-e1];exact b2.t (k:=b3 b) p.hk zi,rx.mk Z c.hx c.hr ym zm (by rw[aE,aE];omega) λJ q xc zk=>?_]
     have ya:A.lf≠A.x:=aq c.hl c.hx
     have r:=q _ _ ya c.il c.hl;have xg:=p.wr c λb o n1 j i e=>q b o n1 i e;have za:∀b xs,H2 b=bn xs->J b=bn xs:=λb xs e=>q _ _ (aq e c.hx) (aq e c.hr) e
     refine af Z #[A.x,R,A.dx,_,.ref A.lf,Z,xc,n.cl,n.nl,qr,.inl #[Z,_,au.of r],A.lf,_,0,0,v,Z,Z,r,∅,∅,Fj,Z,?_]
     have xb:∀b xs,J b=bn xs->upd J A.lf (.lst vs) b=bn xs:=λb xs e=>by rw[ag^aq e r];exact e
     refine#[N+z,vs,I++yk,zc,zd,_,_,Z,yc.take Z yd^p.ok _ e3,#[by rw[ag^aS ya];exact xc,xb _ _^za _ _ c.fe,ah,iw (λb xs e=>xb _ _^za _ _ e) xe λs l=>g.st s^bh _ l,λs l=>g.st s^bh _ l,λs l=>g.an s^bh _ l,by rw[ag^aS c.il,bj];exact zk,λy yw=>?_,by rw[cz];show _+ds.length * 20<=99;omega,c.il,c.nx,c.nf],?_,(),λb o n1 j i u B e=>by rw[ag u];exact q _ _ i B^xd b o n1 j i u B e]
     .rcases bT.mp yw with y'|y'
      .exact c.rm y y'
      .exact xj y y'
     .exact xg.write λb o yg _ e=>by rw[ag (λz=>by rw[z,r]at e;cases e;exact yg _ Z)];exact e
theorem BU:VA "set" = ih^.type "set":=⋯
theorem cj.D5{S:Wh}{f:am (List Key×V)}{ka:am (Ask×Int)}{a:Ask}(h:cj C D S bg m kh kk kq ka H)(j:∀z,(a,z)∉ ka)(l:S.W.Out a^.told z)(n:UA S.W S.NU a)
  (k:∀b o,b≠S.kn->b≠S.kp->H b=ih o->H' b=ih o) (q:H' S.kn=cs (kk++[(b3 a,.ref tt)])) (r:H' S.kp=cs f) (s:f.length<=kk.length+1) (t:∃(y:V) (ns:FG) (c:am Gd),H' tt=bn [y,.int z,.ref ns]/\H' ns=bn^c.map V.str/\c.Nodup /\∀y∈c,y∈S.NU) :
  cj C D S bg m kh (kk++[(b3 a,.ref tt)]) f (ka++[(a,z)]) H':=by
 have kt:∀b xs,H b=bn xs->H' b=bn xs:=λb xs e=>k _ _ (aq e h.hk) (aq e h.hq) e
 have i:∀b xs,H b=cr xs->H' b=cr xs:=λb xs e=>k _ _ (aq e h.hk) (aq e h.hq) e
 obtain⟨w,e1,e2⟩:=h.ln;obtain⟨y,ns,c,h1,h2,x,A⟩:=t;refine#[h.n3,k _ _ (aq h.hx h.hk) (aq h.hx h.hq) h.hx,#[k _ _ (aq h.fi.hx h.hk) (aq h.fi.hx h.hq) h.fi.hx,i _ _ h.fi.hl,k _ _ (aS h.n1.1) (aS h.n1.2.2.1) h.fi.he,k _ _ (aS h.n1.2.1) (aS h.n1.2.2.2.1) h.fi.hh,h.fi.du.keep kt h.fi.ok.ent,h.fi.ok,h.fi.nn],i _ _ h.ho,q,r,h.n1,#[w,e1,kt _ _ e2],h.el,h.m3.keep h.fi.ok kt,gX (h.kv.keep kt) #[Z,tt,y,ns,c,Z,h1,h2,x,A],λp d=>?_,?_,λp d=>?_,by rw[cz];exact s]
 .rcases bT.mp d with e|e
  .exact h.ok p e
  .rw[bR.mp e];exact l
 .rw[bj]
  refine dz.mpr #[h.nd,by simp,λu B v g e=>?_]
  have g:v=a:=bR.mp g;obtain⟨p,d,rfl⟩:=a8.mp B;exact j p.2 (by rw[<-g,<-e];exact d)
 .rcases bT.mp d with e|e
  .exact h.cO p e
  .rw[bR.mp e];exact n
theorem kj.no{ka:am (Ask×Int)}(h:kj H NU kk ka){a:Ask}(b:∀z,(a,z)∉ ka):bq kk^b3 a=none:=by
 rcases h.val a with⟨e,_⟩|⟨v,z,_,_,_,_,_,e,_⟩
 .exact e
 .exact absurd e^b z
inductive rA(C D R:FG)(vs:List V)(H:Hp)(Q:VK)(E:XK):Prop
 |mk{S:Wh}{bg m:Int}{kh kk kq:List (List Key×V)}{ka:List (Ask×Int)}{A:FA}{fr:bt}{lv:List V}{rn:List Gd}(_:vs=[.ref S.x,.ref A.x])(_:hF S.W S.NU)(_:cj C D S bg m kh kk kq ka H)(_:kk.length<=10000)(_:c' R S H A fr lv rn)(_:S.W.Out fr.a (.told fr.t))(_:∀z,(fr.a,z)∉ ka)(_:UA S.W S.NU fr.a)
  (_:∀m4 QU H',(∀b o,b≠S.kn->b≠S.kp->H b=ih o->H' b=ih o)->cj C D S bg m kh m4 QU (ka++[(fr.a,fr.t)]) H'->Q .aK H'):rA C D R vs H Q E
theorem EM:bp ["self","reckoning","told"] ["self","reckoning"]^aI oe:=bD
theorem N1(F:aQ K "settle" "Whole.settle" oe f fd)(B:dw mg)(yd:hA mg)(yc:mg "set" = none)(T:h8 K mg C)(i:iL K mg R):aT P w K mg base aF 1 f fd ["self","reckoning"]^rA C D R:=by
 refine F.bI EM λQb A outer s H vs Q E zd h=>?_
 .obtain @⟨S,bg,m,kh,kk,kq,ka,c,fr,lv,rn,rfl,xe,h,yf,j,ye,z,ze,q⟩:=h
  have ya:=d9 zd.units;intro X;refine#[_,ar (a4 2 EM.nd^cc^aa (cq (pv 1) Z)^aa (cq (pv 1) Z)^aa (df iX Z B.tuple boot_tuple^aa (bV (GK Z) Z yd.sorted boot_sorted^aa (df (Co Z) Z yc BU^aa (cq (pv 1) Z) ai) ai) ai) ai)
   (ar (f5 ya (cq (pv 0) Z) (cq (pv 1) Z) (pv 2) Z)
   (ay^f5 ya (cq (pv 0) Z) (cq (pv 1) Z) (pv 2) Z)),?_]
  have a5:=j.a5;refine af Z #[c.x,R,c.dx,_,.str fr.w,Z,j.hx,i.cl,i.nw,CG,_,Z,c.x,R,c.dx,_,.int fr.t,Z,j.hx,i.cl,i.nt,qc,_,Z,c.x,R,c.dx,_,.ref c.rs,Z,j.hx,i.cl,i.nr,BS,c.rs,rn,Z,.inl^au.of j.hr,(),λl ds zc za O=>?_]
  have dl:ds.length<=20:=ec (len_sub za λy L=>j.rm y^(O y).mp L) xe.a5;refine#[l,ds,Z,ah,(),λv g xc pm zf=>#[v,_,Z,.inl #[au.of ah,λns xb=>#[gS,λtt I=>?_]]]]
  generalize jm (d8 aF P w K mg base ["self","reckoning","told"] "Whole.settle" (aI oe) f Qb A outer s H E).lE.prog (d8 aF P w K mg base ["self","reckoning","told"] "Whole.settle" (aI oe) f Qb A outer s H E).lE.w l ds=G at xc xb I⊢;have p:=(aJ (o:=G) zc).trans ((aJ (o:=.lst^g.map V.str) xc).trans ((aJ (o:=.tup^g.map V.str) xb).trans (aJ (o:=.tup [V.str fr.w,.int fr.t,.ref ns]) I)));have U:upd (upd (upd (upd H l G) v^.lst^g.map V.str) ns^.tup^g.map V.str) tt (.tup [V.str fr.w,.int fr.t,.ref ns]) tt=bn [V.str fr.w,.int fr.t,.ref ns]:=ah;have W:upd (upd (upd (upd H l G) v^.lst^g.map V.str) ns^.tup^g.map V.str) tt (.tup [V.str fr.w,.int fr.t,.ref ns]) ns=bn^g.map V.str:=by rw[ag^aA ah I];exact ah
  generalize upd (upd (upd (upd H l G) v^.lst^g.map V.str) ns^.tup^g.map V.str) tt^.tup [V.str fr.w,.int fr.t,.ref ns]=Y at p U W⊢;have d:=h.same p;have J:=p _ _ j.hx;have yb:Y c.ta=bn^(b3 fr.a).map kV:=p _ _ j.fe;have xg:=h.ql;refine aW Z Z #[S.x,C,S.dx,_,.ref S.kn,Z,d.hx,T.cl,T.nn,i5,_,Z,c.x,R,c.dx,_,.ref c.ta,Z,J,i.cl,i.na,qE,S.kn,_,Z,eG.t (k:=b3 fr.a) d.hk yb (by rw[aV];omega),?_]
  rw[i4 _^d.kv.no z];have up:∀{u:HO} b o,b≠S.kn->Y b=ih o->upd Y S.kn u b=ih o:=λb o n e=>by rw[ag n];exact e
  have xf:∀{u:HO} b xs,Y b=bn xs->upd Y S.kn u b=bn xs:=λb xs e=>up _ _ (aq e d.hk) e
  have xd:∀{u:HO},upd Y S.kn u S.kp=cs kq:=λ{u}=>up _ _ (aS h.n1.2.2.2.2) d.hq;refine aW Z Z #[S.x,C,S.dx,_,.ref S.kp,Z,up _ _ (aq d.hx d.hk) d.hx,T.cl,T.np,Z,_,Z,c.x,R,c.dx,_,.ref c.ta,Z,up _ _ (aq J d.hk) J,i.cl,i.na,qE,S.kp,_,Z,eG.t (k:=b3 fr.a) xd (xf _ _ yb) (by rw[aV];omega),?_]
  have M:∀{u N:HO} b o,b≠S.kn->b≠S.kp->Y b=ih o->upd (upd Y S.kn u) S.kp N b=ih o:=λb o n1 r e=>by rw[ag r,ag n1];exact e
  have zb:∀{u N:HO} b xs,Y b=bn xs->upd (upd Y S.kn u) S.kp N b=bn xs:=λb xs e=>M _ _ (aq e d.hk) (aq e d.hq) e
  refine q _ _ _ (λb o n1 r e=>M _ _ n1 r^p _ _ e)^d.D5 z ye ze (λb o n1 r e=>M _ _ n1 r e) (by rw[ag h.n1.2.2.2.2];exact ah) ah (by have:=lY kq (b3 fr.a)^V.ref tt;omega) #[_,ns,g,zb _ _ U,zb _ _ W,pm.nodup_iff.mpr za,λy L=>j.rm y^(O y).mp (pm.mem_iff.mp L)]
def Tells(t:TT)(σ:St)(H:Hp)(b:Bool):Prop:= ∀R:Bool->Hp->Prop,(∀Y,ax H Y->R b Y)->t σ H R
theorem Tells.and{t u:TT}{a b:Bool}(h:Tells t σ H a)(k:a=true ->∀Y,ax H Y->Tells u σ Y b):Tells (vj t u) σ H (a&&b):=λR q=>h _ λY c=>by
 cases a with
 |false=>exact q _ c
 |true=>exact k Z Y c R λH2 d=>q _^c.trans d
theorem Kl{t:TT}{a te:TS}{D:Ends}{c:_}{bk:_}{ct:_}{b:Bool}(h:Tells t (σ.set i^ih v) H b)(k:∀Y,ax H Y->if b=true then a D (σ.set i^ih v) Y else te D (σ.set i^ih v) Y):iE i v σ H^Ends.nx^Ends.mk (vm t a te D) c bk ct:=h _ k
structure vg(K:Ys)(mg:Gd->Option i')(B C fI:FG)(o2:X3):Prop where
 mC:mg "Missing" = ih (.ref C)
 q:f7 K C (ih (.ref fI))=true
 fn:isFn K (.ref fI)=true
 kp:Yv K (.ref C)=true
 F:aQ K "__init__" "Missing.__init__" p1 fI o2
 b:om K B
 mB:mg "LineError" = ih (.ref B)
 bi:Binds K o2 ["self","name"] []
 x:eV K C
 nk:Yk K (.ref C) "name" = ih none
def qS(C:FG)(n:Gd)(H:Hp)(a:FG):Prop:= ∃d,H a=ih (hj (ih .none) C (ih d) a)/\H d=ih (fu d [("name",.str n)])
inductive lq(K:Ys)(fl:Gd)(vs:List V)(H:Hp)(Q:VK)(E:XK):Prop
 |mk{a C:FG}{k:V}{i:Option i'}(_:vs=[.ref a,k])(_:H a=ih (cL C none a))(_:eV K C)(_:f7 K C i=true)(_:uY H k)(_:Yk K (.ref C) fl=ih none)(_:∀d H',H d=none->d≠a->H' a=ih (cL C (ih d) a)->H' d=ih (fu d [(fl,k)])->Es a H H'->Q .aK H'):lq K fl vs H Q E
structure vK(K:Ys)(mg:Gd->Option i')(B C fI:FG)(o2:X3):Prop where
 mC:mg "Endless" = ih (.ref C)
 q:f7 K C (ih (.ref fI))=true
 fn:isFn K (.ref fI)=true
 kp:Yv K (.ref C)=true
 F:aQ K "__init__" "Endless.__init__" p8 fI o2
 b:om K B
 mB:mg "LineError" = ih (.ref B)
 bi:Binds K o2 ["self","names"] []
 x:eV K C
 nk:Yk K (.ref C) "names" = ih none
def rB(C:FG)(ns:List Gd)(H:Hp)(a:FG):Prop:= ∃d t,H a=ih (hj (ih .none) C (ih d) a)/\H d=ih (fu d [("names",.ref t)])/\H t=ih (.tup (ns.map V.str))
theorem Km{xs:am Gd}(e:H p=bn^xs.map V.str)(f:∀x∈xs,Nm x)(a5:xs.length<=300):uY H^.ref p:=by
 have d:∀l:am Gd,(∀x∈l,Nm x)->Z1^l.map VB=true/\aaa^l.map VB=false/\ZM 13^l.map VB=true/\aal^l.map VB<=9 * l.length/\Vs^l.map VB=0:=by
  intro l
  induction l with
  |nil=>intro _;exact#[Z,Z,Z,aP _,Z]
  |cons x l g =>
   intro h;obtain⟨h1,h2,a,i,b⟩:=g λy j=>h y^bh _ j;have c:=h x aY;have k:x.cps.size<=8:=c.hi;refine#[?_,?_,?_,?_,?_]
   .simp only[bY,Z1,PyData.showable,h1,aa1]
   .simp only[bY,aaa,PyData.hasDict,h2,FT]
   .simp only[bY,ZM,PyData.leavesShort,a,I9 c,aa1]
   .simp only[bY,aal,aaU,c4];omega
   .simp only[bY,Vs,Yi,b];rfl
 obtain⟨h1,h2,a,i,b⟩:=d xs f;refine .inr^.inr #[p,.tuple^xs.map VB,Z,.tup e^ma _ xs,h1,h2,?_,?_]
 .simp only[Yi];rw[b];decide
 .have:=PyData.shown_le_bulk 13 ∅ (.tuple^xs.map VB) a
  simp only[aaU]at this;omega
theorem CI(K:Ys)(h:X.K=K){f:Gd}(a:PE X e ta)(b:attributeBase e f X.env^eval e X.env=eval e X.env):PE X (.Attribute e f pos)^vq K ta f:=by subst h;exact cq a b
structure oP(R:FG)(S:Wh)(H:Hp)(bc:List (FA×bt)):Prop where
 fr:∀p∈bc,∃lv rn,c' R S H p.1 p.2 lv rn
 nd:(bc.flatMap λp=>[p.1.x,p.1.lf,p.1.rs]).Nodup
def refs(bc:List (FA×bt)):List V:=bc.map λp=>V.ref p.1.x
def fY(a:Ask):UN:=.tuple [.str a.1,.str a.2]
theorem qs{a b:Ask}:X8 (fY a)^fY b=decide (a=b):=by
 have:=tR [a.1,a.2] [b.1,b.2];have e:X8 (fY a)^fY b=YF ([a.1,a.2].map VB)^[b.1,b.2].map VB:=by first|rfl|simp[fY,X8]
 rw[e,this];exact decide_eq_decide.mpr #[λh=>by injection h with h1 h2;injection h2 with c _;exact wI h1 c,λh=>by rw[h]]
theorem UA.str{W:aO}(b:hF W NU){a:Ask}(u:UA W NU a):VI a.1=true/\VI a.2=true:=by
 refine#[mH^b.nm _ u.1,?_];rcases u.2 with z|z
 .rw[z];decide +kernel
 .exact mH^b.lm _ z
theorem Pu:bp ["self","name"] ["self","name"]^aI p1:=bD
theorem N2(F:aQ K "__init__" "Missing.__init__" p1 f fd)(b:om K B)(n:mg "LineError" = ih^.ref B):aT P w K mg base aF 1 f fd ["self","name"]^lq K "name":=by
 refine F.bI Pu λQb A outer s H vs Q E g h=>?_
 .obtain @⟨a,C,k,i,rfl,j,c,o,p,r,q⟩:=h
  have t:=g.units;have u:=g.gd;intro X;refine#[_,ar (eL^Az b Z n^aa (pv 0)^aa (CZ^qh br^qh (DD t u^pv 1) DE) ai)^ay^C1 (pv 0)^pv 1,?_];refine af Z #[af Z ⋯,_,Z,p,λv m=>#[af Z m,λy x=>?_]]
  refine#[a,C,none,_,i,Z,j,c,o,?_];refine aW Z Z #[a,C,Z,j,c,r,λd l e=>?_];exact q d _ l e ah (by rw[ag e];exact ah)^Cv l
theorem Pw:bp ["self","names"] ["self","names"]^aI p8:=bD
theorem N3(F:aQ K "__init__" "Endless.__init__" p8 f fd)(b:om K B)(n:mg "LineError" = ih^.ref B):aT P w K mg base aF 1 f fd ["self","names"]^lq K "names":=by
 refine F.bI Pw λQb A outer s H vs Q E g h=>?_
 .obtain @⟨a,C,k,i,rfl,j,c,o,p,r,q⟩:=h
  have t:=g.units;have u:=g.gd;intro X;refine#[_,ar (eL^Az b Z n^aa (pv 0)^aa (CZ^qh br^qh (DD t u^pv 1) DE) ai)^ay^C1 (pv 0)^pv 1,?_];refine af Z #[af Z ⋯,_,Z,p,λv m=>#[af Z m,λy x=>?_]]
  refine#[a,C,none,_,i,Z,j,c,o,?_];refine aW Z Z #[a,C,Z,j,c,r,λd l e=>?_];exact q d _ l e ah (by rw[ag e];exact ah)^Cv l
theorem BV{S:Wh}{bc:am (FA×bt)}{st c:FG}(j:iL K mg R)(m:H st=ce^refs bc)(fs:oP R S H bc)(w:bc.length<=1000)(k:H c=none)(q:∀Y,ax H Y->Y c=ce (bc.map λp=>V.ref p.1.ta)->Q (.ref c) Y) :
  hX (j' K st) (iE 0) oC (vq K (gO 0) "asking") [none] Q c H:=by
 refine fB (xs:=refs bc) (λi ys a H2=>∃g:a2 V,a=[g]/\ax H H2/\H2 c=ce ys/\ys=(bc.take i).map λp=>V.ref p.1.ta) #[none,Z,aJ k,ah,Z] (λi ys a H2 z=>by obtain⟨_,_,r,s,_⟩:=z;exact #[s,au.of^r _ _ m]) ?_ ?_
 .rintro i y ys a H2 h ⟨g,rfl,l,h2,rfl⟩
  have d:i<(refs bc).length:=(b4.mp h).1;have f:i<bc.length:=by unfold refs at d;rwa [aE]at d
  obtain rfl:V.ref bc[i].1.x=y:=by unfold refs at h;simpa [f] using h
  have n:bc.take (i+1)=bc.take i++[bc[i]]:=by rw[dQ,bG f];rfl
  obtain⟨lv,rn,t⟩:=fs.fr bc[i]^eJ f;refine af Z #[bc[i].1.x,R,_,_,.ref bc[i].1.ta,Z,l _ _ t.hx,j.cl,j.na,qE,h2,by rw[aE,cH,aV];omega,cw_next d #[_,Z,λb o e=>by rw[ag^aA e k];exact l _ _ e,ah,?_]]
  rw[n,bj];rfl
 rintro ys a Y ⟨g,rfl,u,h1,rfl⟩;have v:(refs bc).length=bc.length:=by unfold refs;rw[aE]
 rw[v,cF]at h1;exact q Y u h1
theorem CJ{S:Wh}(d:hF S.W S.NU):∀{bc:am (FA×bt)},(∀p∈bc,∃lv rn,c' R S H p.1 p.2 lv rn)->(∀p∈bc,UA S.W S.NU p.2.a)->bM H (bc.map λp=>V.ref p.1.ta) (bc.map λp=>fY p.2.a)/\X' (bc.map λp=>fY p.2.a)=true:=by
 intro bc
 induction bc with
 |nil=>exact λ_ _=>#[.nil,Z]
 |cons p l e =>
  intro fr c;obtain⟨f,g⟩:=e (λq b=>fr q^bh _ b) λq b=>c q^bh _ b;obtain⟨lv,rn,h⟩:=fr p aY;obtain⟨s1,s2⟩:=(c p aY).str d;refine#[.cons (.tup h.fe^.cons (.str _)^.cons (.str _) .nil) f,?_];show((VI p.2.a.1&&(VI p.2.a.2&&true))&&X' _)=true;rw[s1,s2,g];rfl
theorem Dt{W:aO}(b:hF W NU){a:Ask}(u:UA W NU a):(fY a).canLay0=true/\(fY a).depth<=60:=by
 obtain⟨s1,s2⟩:=u.str b;exact#[by show(VI a.1&&(VI a.2&&true))=true;rw[s1,s2];rfl,by simp[fY,Yi,Vs]]
inductive rC(R:FG)(vs:List V)(H:Hp)(Q:VK)(E:XK):Prop
 |mk{S:Wh}{st ta:FG}{bc:List (FA×bt)}{b:Ask}{i:Nat}(_:vs=[.ref st,.ref ta])(_:hF S.W S.NU)(_:H st=ih (.lst (refs bc)))(_:bc.length<=1000)(_:oP R S H bc)(_:∀p∈bc,UA S.W S.NU p.2.a)(_:H ta=ih (.tup [.str b.1,.str b.2]))(_:UA S.W S.NU b)(_:(bc.map (·.2.a))[i]?=ih b)(_:∀m,m<i->(bc.map (·.2.a))[m]? ≠ ih b)
  (_:∀t H',ax H H'->H t=none->H' t=ih (.tup ((cf ((bc.map (·.2.a)).drop i)).map V.str))->Q (.ref t) H'):rC R vs H Q E
noncomputable abbrev wu:List Gd:=["standing","again","askings"]
theorem EN:bp wu ["standing","again"]^aI kG:=bD
noncomputable abbrev Px:VH:=fy (bW (bJ kG) 0)
abbrev Py:VH:=gz (mL (bW (bJ kG) 1))
theorem D6:b8 wu (aI kG) ["reckoning"] [none]^cK Px:=dF
theorem vh:b8 wu (aI kG) ["name","behind"] [none,none]^cK Py:=dF
theorem N4(F:aQ K "round_from" "round_from" kG f fd)(B:dw mg)(ye:iL K mg R):aT P w K mg base aF 1 f fd ["standing","again"]^rC R:=by
 refine F.bI EN λQb A outer s H vs Q E ze h=>?_
 .obtain @⟨S,st,ta,d,b,i,rfl,xa,T,xc,fs,xf,yc,yf,hi,zc,q⟩:=h
  have zf:=ze.units;intro X;refine#[_,ar (lZ Z D6 EN.nd (i:=2) Z Z (c7^pv 0)^λs H fp=>#[ba 0 D6.nd,ey,CI K Z (pv 0) Z])
   (ay^a3^df iX Z B.tuple boot_tuple^aa (d7 Z vh (c7^i0 mf (pv 2) (iz^gw hQ VM VN (I4 zf) (pv 2)^aa (pv 1) ai) i6)^λs H fp=>#[qa (n:=2) K Z Z^cA (ba 0 vh.nd)^cA (ba 1 vh.nd) fM,i1^bx dg (pv 1) br^bC _,pv 0]) ai),?_]
  refine af Z #[st,Z,#[_,au.of T],λc xg=>BV ye T fs xc xg λY I h1=>?_];have xd:=I _ _ yc;obtain⟨yg,zg⟩:=CJ xa (λp J=>let ⟨lv,rn,x⟩:=fs.fr p J;#[lv,rn,x.keep λb o _ e=>I _ _ e]) xf;obtain⟨b1,xh⟩:=Dt xa yf;have ya:∀m:Nat,(d.map λp=>fY p.2.a)[m]?=((d.map (·.2.a))[m]?).map fY:=λm=>by rw[c5,c5,Ah];rfl
  refine#[_,Z,_,Z,.inl #[Z,_,au.of h1],_,Z,c,_,_,_,fY b,_,i,Z,Z,h1,yg,.tup xd^.cons (.str _)^.cons (.str _) .nil,zg,b1,xh,by rw[ya,hi];rfl,by rw[qs];exact cb Z,λm L yh e=>?_,_,Z,c,_,Z,au.of h1,λu yd=>?_]
  .rw[ya]at e
   obtain⟨a,zh,rfl⟩:=gF.mp e;rw[qs];exact er λz=>zc m yh (by rw[zh,z])
  rw[nZ,<-lT];have M:=I.trans^aJ (o:=.lst^(d.drop i).map λp=>V.ref p.1.ta) yd;have h2:upd Y u (.lst^(d.drop i).map λp=>V.ref p.1.ta) u=ce ((d.drop i).map λp=>V.ref p.1.ta):=ah;generalize upd Y u (.lst^(d.drop i).map λp=>V.ref p.1.ta)=H2 at M h2⊢;refine#[u,Z,#[_,au.of h2],λza U=>?_];have zd:(d.map (·.2.a)).drop i=(d.drop i).map (·.2.a):=by rw[lT]
  rw[zd]at q;have L:∀p∈d.drop i,p∈d:=λp J=>pC J;have dl:(d.drop i).length<=1000:=by rw[m9];omega
  generalize d.drop i=gs at h2 q L dl;have xi:∀l:am (FA×bt),(cf^l.map (·.2.a)).length<=l.length:=λl=>by unfold cf;rw[aE];exact ec (gn _ _) (by rw[aE];exact aP _)
  refine fB (xs:=gs.map λp=>V.ref p.1.ta) (λj ys v g=>∃N O:a2 V,v=[N,O]/\ax H2 g/\g za=ce ys/\ys=(cf^(gs.take j).map (·.2.a)).map V.str) #[none,none,Z,aJ U,ah,Z] (λj ys v g ab=>by obtain⟨_,_,_,z1,z2,_⟩:=ab;exact #[z2,au.of^z1 _ _ h2]) ?_ ?_
  .rintro j y ys v g xb ⟨N,O,rfl,k,r,rfl⟩
   have D:=(b4.mp xb).1;have G:j<gs.length:=by rwa [aE]at D
   obtain rfl:V.ref gs[j].1.ta=y:=by simpa [G] using xb
   have xe:gs.take (j+1)=gs.take j++[gs[j]]:=by rw[dQ,bG G];rfl
   obtain⟨lv,rn,yi⟩:=fs.fr gs[j]^L _^eJ G;have zb:=k _ _^M _ _ yi.fe;have C:cf^(gs.take (j+1)).map (·.2.a)=cf^(gs.take j).map (·.2.a)++(if decide (gs[j].2.a.2=("" : Gd))=true then [gs[j].2.a.1] else []):=by
    rw[xe];unfold cf;rw[bj,gp,bj];congr 1;show((List.filter _ [gs[j].2.a]).map _)=_;rw[kD,sv];split <;> rfl
   refine#[gs[j].1.ta,_,Z,aX.of zb,Z,_,_,Z,_,_,Z,Z,_,Z,Z,_,Z,?_]
   by_cases e:gs[j].2.a.2=("" : Gd)
   .rw[cb e,aB Z]at C
    refine ite_tt (by rw[e];rfl) ?_
    have:=xi^gs.take j;rw[cH]at this;exact af Z #[r,by rw[aE,aV];omega,cw_next D #[_,_,Z,λb o e=>by rw[ag^aA e U];exact k _ _ e,ah,by rw[C,bj];rfl]]
   .rw[er e,ao b7,e6]at C
    refine ite_ff (er λz=>e^by injection z) ?_
    exact cw_next D #[_,_,Z,k,r,by rw[C]]
  rintro ys v g ⟨N,O,rfl,k,r,rfl⟩;rw[aE,cF]at r;refine#[za,_,Z,.inl #[au.of r,λt yb=>?_]];have W:=M.trans k;exact q t _ (W.trans^aJ yb) (W.free yb) ah
inductive oQ(C D R M N:FG)(vs:List V)(H:Hp)(Q:VK)(E:XK):Prop
 |mk{S:Wh}{bg m:Int}{kh kk kq:List (List Key×V)}{ka:List (Ask×Int)}{st ta:FG}{bc:List (FA×bt)}{b:Ask}(_:vs=[.ref S.x,.ref st,.ref ta])(_:hF S.W S.NU)(_:cj C D S bg m kh kk kq ka H)(_:kh.length<=900000)(_:kk.length<=10000)(_:H st=ih (.lst (refs bc)))(_:bc.length<=300)(_:oP R S H bc)(_:∀p∈bc,UA S.W S.NU p.2.a)(_:H ta=ih (.tup [.str b.1,.str b.2]))(_:UA S.W S.NU b)
  (_:∀i,(∀z,(b,z)∉ ka)->(bc.map (·.2.a))[i]?=ih b->(∀m,m<i->(bc.map (·.2.a))[m]? ≠ ih b) ->∀a H',ax H H'->H a=none->rB N (cf ((bc.map (·.2.a)).drop i)) H' a->E (.ref N) (ih a) H')
  (_:∀z,(b,z)∈ka->Q .aK H)
  (_:(∀z,(b,z)∉ ka)->S.W.Out b (.miss b.1) ->∀a H',Kp S H H'->H a=none->qS M b.1 H' a->E (.ref M) (ih a) H')
  (_:∀z m4 eI m' H',(∀z,(b,z)∉ ka)->(∀p∈bc,p.2.a≠b)->S.W.Out b (.told z)->(∀y o,y≠S.fi->y≠S.dh->y≠S.kn->H y=ih o->H' y=ih o)->cj C D S bg m' eI m4 kq (ka++[(b,z)]) H'->eI.length<=kh.length+1->Q .aK H')
  (_:∀fa fr lv rn eI m' H',(∀z,(b,z)∉ ka)->(∀p∈bc,p.2.a≠b)->fr.a=b->bS S.W fr->fr.w∈S.W.line->(∀y o,y≠S.fi->y≠S.dh->y≠S.x->y≠st->H y=ih o->H' y=ih o)->cj C D S (bg+1) m' eI kk kq ka H'->eI.length<=kh.length+1->H' st=ih (.lst (refs (bc++[(fa,fr)])))->c' R S H' fa fr lv rn->H fa.x=none->H fa.lf=none->H fa.rs=none->fa.x≠fa.lf->fa.x≠fa.rs->Q .aK H'):oQ C D R M N vs H Q E
noncomputable abbrev Fl:List Gd:=["self","standing","asking","name","behind","hit"]
theorem rD:bp Fl ["self","standing","asking"]^aI oB:=bD
def D7(s:Vm):VH:=match s with|.If t _ _ _=>t|_=>.Constant .none 0 ⟨0,0,0,0⟩
abbrev QV:VH:=D4 (D7 (bW (bJ oB) 1))
theorem EO:b8 Fl (aI oB) ["reckoning"] [none]^cK QV:=dF
theorem N5{N yA fR zL:FG}{zA xM:X3}(F:aQ K "enter" "Whole.enter" oB f fd)(T:h8 K mg C)(yM:j3 K mg D)(xB:iL K mg R)(O:vg K mg B M fI dI)(U:vK K mg B N yA zA)(zM:bB P w K mg base aF 1 zL xM ["standing","again"] (rC R) "round_from")(xN:aT P w K mg base aF 2 fL dL ["self","kind","name","behind"]^my D)(yN:Meth K D "look" fL)(zN:Binds K dL ["self","kind","name","behind"] [])(xO:bB P w K mg base aF 1 fG dG ["entry"] ro "goes_first")(yO:bB P w K mg base aF 1 fS dS ["entry"] rp "steps_of")
  (zO:Mk K R fR) (xP:aT P w K mg base aF 1 fR dR o1^rq R) (yP:Binds K dR o1 []):aT P w K mg base (cT P w) 3 f fd ["self","standing","asking"]^oQ C D R M N:=by
 have zP:aT P w K mg base aF 1 fI dI ["self","name"]^lq K "name":=N2 O.F O.b O.mB;have xQ:aT P w K mg base aF 1 yA zA ["self","names"]^lq K "names":=N3 U.F U.b U.mB;refine F.vA rD λQb A outer s H vs Q E yB h=>?_
 .obtain @⟨S,bg,m,kh,kk,kq,ka,st,ta,xf,b,rfl,za,h,yW,zW,yl,xX,fs,xu,zl,xe,yQ,zQ,xR,yR,zR⟩:=h
  have zg:aZ 2 _:=yB;have xp:aZ 1 _:=zg.mono ∅
  have zB:=yB.units;have xh:=d9 zB;intro X;refine#[_,ar (bo (gr^i9 xh (pv 2)^cq (pv 0) Z) (ay Ky) bE)
   (ar (bo (bx (DC zB) (pv 2) (d7 Z EO (c7^pv 1)^λs H fp=>#[ba 0 EO.nd,ey,CI K Z (pv 0) Z]) Z) (ay^Bu^C0 U.q U.fn U.kp xQ zg U.bi c8 Z U.mC^aa (a' zM xp^aa (pv 1)^aa (pv 2) ai) ai) bE)
   (ar (g6 (pv 2)^gH Z^cA (ba 3 rD.nd)^cA (ba 4 rD.nd) fM)
   (ar (a4 5 rD.nd^hT (cq (pv 0) Z) yM.cl yN xN zg zN .nil c8^aa (cq (pv 0) Z)^aa (pv 3)^aa (pv 4) ai)
   (ay (bo (PW.pt^pw_and (bx dg (pv 4) br^bC _)^pw_and (gr^i9 xh (pv 3)^cq (pv 0) Z)^pw_and1^PW.pt^pw_or (bx gI (pv 5) d3^bC _)^pw_or1^gv^gu^a' xO xp^aa (aU bu (pv 5) aw) ai)
    (ay^f5 xh (cq (pv 0) Z) (pv 2) (cc^aa br^aa (dV xh (cq (pv 0) Z)^pv 3)^aa (cc^aa (pv 3) ai) ai) Z)
    (ay (bo (bx gI (pv 5) d3^bC _) (ay^Bu^C0 O.q O.fn O.kp zP zg O.bi c8 Z O.mC^aa (pv 3) ai)
     (ay (bo (bx dg (aU bu (aU bu (pv 5) aw) aw) br^bC _)
      (ay^f5 xh (cq (pv 0) Z) (pv 2) (cc^aa (aU bu (pv 5) aw)^aa (aU bu (aU bu (pv 5) aw) aw)^aa (cc^aa (pv 3) ai) ai) Z)
      (ar (nL (pv 0) aw qv)^ay^eL^gw hQ nB nC jK (pv 1)^aa (t2 zO xP zg Z xB.oZ yP .nil c8^aa (pv 2)^aa (aU bu (pv 5) aw)^aa (a' yO xp^aa (aU bu (pv 5) aw) ai) ai) ai)))))))))),?_]
  have xF:H ta=bn^(b3 b).map kV:=zl;refine aW Z Z #[S.x,C,S.dx,_,.ref S.kn,Z,h.hx,T.cl,T.nn,i5,S.kn,_,Z,b2.t (k:=b3 b) h.hk xF,_,Z,?_];rcases h.kv.val b with⟨e1,yf⟩|⟨v,z,yY,y,ns,zY,e1,e3,_⟩
  .rw[e1]
   refine aW Z Z #[st,Z,#[_,au.of yl],λc xS=>BV xB yl fs () xS λY xa h1=>?_]
   obtain⟨xC,yS⟩:=CJ za (λp xb=>let ⟨lv,rn,x⟩:=fs.fr p xb;#[lv,rn,x.keep λb o _ e=>xa _ _ e]) xu;obtain⟨b1,zS⟩:=Dt za xe;refine#[fY b,_,.tup (xa _ _ zl)^.cons (.str _)^.cons (.str _) .nil,.inl^.lst h1 xC,b1,yS,zS,_,Z,?_];rw[ao b7];have zD:((xf.map λp=>fY p.2.a).any λy=>X8 y^fY b)=decide (b∈xf.map (·.2.a)):=by
    rw[lI,lO,decide_eq_true_iff,a8]
    constructor
    .rintro⟨y,zi,e⟩
     obtain⟨p,xb,rfl⟩:=a8.mp zi;rw[qs]at e;exact#[p,xb,dA e]
    .rintro⟨p,xb,e⟩
     exact#[_,a8.mpr #[p,xb,Z],by rw[qs];exact cb e]
   rw[zD];refine bZ (λyh=>?_)^λyh=>?_
   .have yh:=dA yh
    obtain⟨yu,zu⟩:=tS yh;generalize (xf.map (·.2.a)).idxOf b=i at yu zu;refine aW Z Z^rC.mk (i:=i) Z za (xa _ _ yl) () #[λp xb=>let ⟨lv,rn,x⟩:=fs.fr p xb;#[lv,rn,x.keep λb o _ e=>xa _ _ e],fs.nd] xu (xa _ _ zl) xe yu zu λt H2 xv yX zc=>#[by show 1<=100;decide,λa xd=>lq.mk Z ah U.x U.q (Km (aJ xd _ _ zc) ?_ ?_) U.nk λd yb xT yp I zh zp=>#[Z,a,N,ih d,_,Z,I,λyT yv=>by cases yv;exact#[_,zh],U.x,U.q,(xa.trans xv).free xd,?_]]
    .intro x yd
     unfold cf at yd;obtain⟨y,zi,rfl⟩:=a8.mp yd;obtain⟨p,xb,rfl⟩:=a8.mp^pC (eb.mp zi).1;exact za.nm _ (xu p xb).1
    .unfold cf;rw[aE];have h1:=gn (λa:Ask=>decide (a.2=("" : Gd)))^(xf.map (·.2.a)).drop i;rw[m9,aE]at h1;omega
    .have yC:ax H2^upd yb a^hj (ih .none) N (ih d) a:=λb o e=>by
      have ye:b≠a:=aA e xd;rw[ag ye];exact zp b o (by rw[ag ye];exact e) ye
     exact yQ i yf yu zu a _ ((xa.trans xv).trans yC) ((xa.trans xv).free xd) #[d,t,ah,by rw[ag yp];exact zh,yC _ _ zc]
   have xy:∀p∈xf,p.2.a≠b:=λp xb e=>yh^cb^a8.mpr #[p,xb,e];have zk:=xa _ _ zl;have I:=h.same xa;have xo:=xa _ _ yl;clear h1 xC;refine af Z #[ta,_,Z,aX.of zk,Z,_,_,Z,_,_,Z,Z,?_];refine af Z #[S.x,C,S.dx,_,.ref S.fi,Z,I.hx,T.cl,T.nf,tT,S.fi,S.fx,_,Z,I.fi.hx,vf ⋯ ⋯ ⋯ ⋯,_,Z,S.x,C,S.dx,_,.str S.kd,Z,I.hx,T.cl,T.nk,uw,_,Z,_,Z,my.mk Z I.fi I.ln (by rw[h.el];have:=za.ln;omega) (by rw[h.el];exact xe.2) I.m3 () λv xq zv H2 xm yF zF zC J=>?_]
   have zf:=I.looked xm yF zF;have kp:Kp S H H2:=λb o n1 zd z=>xm b o n1 zd^xa _ _ z;rw[h.el]at J;have J:eO H2 v^S.W.look b:=J;have xE:=xm _ _ (aq zk I.fi.hx) (aq zk I.fi.hh) zk
   have yE:=xm _ _ (aq xo I.fi.hx) (aq xo I.fi.hh) xo
   have yq:∀y,H2 y=none->H y=none:=λy e=>by
    cases e0:H y with
    |none=>rfl
    |some u =>
     by_cases z1:y=S.fi
     .rw[z1,zf.fi.hx]at e;cases e
     .by_cases z2:y=S.dh
      .rw[z2,zf.fi.hh]at e;cases e
      .rw[kp y u z1 z2 e0]at e;cases e
   have yy:∀wh d,S.W.look b=ih (wh,d)->Ent d:=λwh d e=>(kO za.bk wh d e).2;have zy:∀z j tt ns,ax H2 j->S.W.Out b^.told z->(∃y,j tt=bn [y,.int z,.ref ns])->j ns=bn [.str b.1]->Q .aK^upd j S.kn^.dT^putK kk (b3 b)^.ref tt:=λz j tt ns r xn ⟨y,xG⟩ yG=>by
    have g:=zf.same r;rw[i4 _^g.kv.no yf];have up:∀{u:HO} x o,x≠S.kn->j x=ih o->upd j S.kn u x=ih o:=λx o n e=>by rw[ag n];exact e
    have xj:∀{u:HO} x xs,j x=bn xs->upd j S.kn u x=bn xs:=λx xs e=>up _ _ (aq e g.hk) e
    refine yR z _ xq zv _ yf xy xn (λx o n1 zd xw e=>up _ _ xw^r _ _^kp x o n1 zd e) (g.D5 yf xn xe (λx o n1 zd e=>up _ _ n1 e) ah (up _ _ (aS h.n1.2.2.2.2) g.hq) (Ge h.ql) #[y,ns,[b.1],xj _ _ xG,xj _ _ yG,by simp,λy zi=>by rw[bR.mp zi];exact xe.1]) zC
   refine Kl (b:=decide (V.str b.2=V.str "")&&((bq (cm S.W.own)^n' b.1).isSome&&S.W.eX b)) (.and (λR k=>af Z #[Z,_,Z,k _ λ_ _ e=>e]) λ_ j r=>.and (λR k=>aW Z Z #[S.x,C,S.dx,_,.ref S.ow,Z,r _ _ zf.hx,T.cl,T.no,DL,S.ow,_,Z,b2.k (k:=n' b.1)^r _ _ zf.ho,_,Z,k _ λ_ _ e=>e]) λ_ yb G R k=>?_) λj r=>?_
   .have G:=r.trans G
    cases L:S.W.look b with
    |none =>
     rw[L]at J;rw[show S.W.eX b=true by unfold aO.eX;rw[L]]at k
     have J:v=V.aK:=J;subst J;exact af Z #[Z,_,Z,k _ λ_ _ e=>e]
    |some p =>
     obtain⟨y,d⟩:=p;rw[L]at J;rw[show S.W.eX b = !jU d by unfold aO.eX;rw[L]]at k
     obtain⟨t,u,rfl,zc,yw⟩:=J;refine af Z #[Z,_,Z,_,Z,a7 (G _ _ zc) cP^ro.mk Z (yy _ _ L) (yw.same G) λyj xc=>af Z^k _ xc]
   have g:=zf.same r;have yo:=r _ _ xE
   by_cases zw:b.2 = "" /\ (S.W.own.lookup b.1).isSome=true/\S.W.eX b=true
   .obtain⟨xz,zG,yz⟩:=zw
    obtain⟨z,yn⟩:=sd.mp zG;have xD:bq (cm S.W.own)^n' b.1=ih^.int z:=by rw[og,yn];rfl
    have zj:S.W.c2 b=ih z:=by unfold aO.c2;rw[aB #[xz,yz],yn]
    rw[aB^by rw[xD,yz,xz];rfl]
    refine af Z #[S.x,C,S.dx,_,.ref S.ow,Z,g.hx,T.cl,T.no,DL,_,Z,S.ow,.int z,Z,by rw[<-xD];exact b2.k (k:=n' b.1) g.ho,_,Z,eW,λl zq=>#[gS,λzb xi=>?_]]
    have G:=(aJ (o:=.tup [V.str b.1]) zq).trans (aJ (o:=.tup [V.str "",.int z,.ref l]) xi);have xg:upd (upd j l^.tup [V.str b.1]) zb (.tup [V.str "",.int z,.ref l]) zb=bn [V.str "",.int z,.ref l]:=ah;have yg:upd (upd j l^.tup [V.str b.1]) zb (.tup [V.str "",.int z,.ref l]) l=bn [V.str b.1]:=by rw[ag^aA ah xi];exact ah
    generalize upd (upd j l^.tup [V.str b.1]) zb^.tup [V.str "",.int z,.ref l]=yb at G xg yg⊢;refine af Z #[S.x,C,S.dx,_,.ref S.kn,Z,G _ _ g.hx,T.cl,T.nn,i5,_,Z,S.kn,_,Z,eG.t (k:=b3 b) (G _ _ g.hk) (G _ _ yo) (by rw[aV];omega),?_]
    exact zy z yb zb l (r.trans G) (Out.own zj) #[_,xg] yg
   have zj:S.W.c2 b=none:=by
    unfold aO.c2
    by_cases zn:b.2 = "" /\ S.W.eX b=true
    .rw[aB zn]
     cases e:S.W.own.lookup b.1 with
     |none=>rfl
     |some z=>exact absurd #[zn.1,by rw[e];rfl,zn.2] zw
    .rw[ao zn]
   rw[ao^λz=>zw (by
    rw[gW,gW,og,si]at z;refine#[?_,z.2.1,z.2.2];have e:=dA z.1;injection e)]
   cases L:S.W.look b with
   |none =>
    rw[L]at J;have J:v=V.aK:=J;subst J;refine af Z #[Z,_,Z,_,Z,by show 1<=100;decide,λa xd=>lq.mk Z ah O.x O.q (.inl^af Z^by have:=(za.nm _ xe.1).hi;omega) O.nk λd yb xT yp I zh zp=>#[Z,a,M,ih d,_,Z,I,λyT yv=>by cases yv;exact#[_,zh],O.x,O.q,yq _^r.free xd,?_]]
    refine xR yf (Out.none zj L) a _ (λy u n1 zd e=>?_) (yq _^r.free xd) #[d,ah,by rw[ag yp];exact zh]
    have e3:=r _ _^kp y u n1 zd e;have ye:y≠a:=aA e3 xd;rw[ag ye];exact zp y u (by rw[ag ye];exact e3) ye
   |some p =>
    obtain⟨y,d⟩:=p;rw[L]at J;obtain⟨t,u,rfl,zc,yw⟩:=J;have xk:=yy _ _ L;have yi:=r _ _ zc;have xr:=yw.same r;obtain⟨x0,xs,rfl,xH⟩:=ux xk xr;refine af Z #[Z,_,Z,_,Z,a7 yi cP^a7 xH b6 #[Z,_,Z,?_]];refine bZ (λe=>?_)^λe=>?_
    .have e:bb d = "plain" :=by
      have:=dA e;injection this
     cases xk with
     |ahead x n=>exact absurd e (by show ¬ ((("ahead" : Gd)) = "plain");decide +kernel)
     |behind ds=>exact absurd e (by show ¬ ((("behind" : Gd)) = "plain");decide +kernel)
     |j2 ds=>exact absurd e (by show ¬ ((("shut" : Gd)) = "plain");decide +kernel)
     |plain n y0 =>
      obtain⟨zX,z0,yH,zE,zH⟩:=two1 xr;cases yH
      obtain rfl:=zH.iJ;have xn:S.W.Out b^.told n:=by
       have:=(bS.new (W:=S.W) zj L).up 0 (.told n) (by show ih^Rs.told^stepT 0^.tuple [.str "add",.int n]=_;rw[show stepT 0^.tuple [.str "add",.int n]=n from(by show 0+n=n;omega)])
       exact this
      refine af Z^a7 yi b6^af Z^a7 yi cP^a7 zE cP^af Z #[eW,λl zq=>#[gS,λzb xi=>?_]];have G:=(aJ (o:=.tup [V.str b.1]) zq).trans (aJ (o:=.tup [V.str y,.int n,.ref l]) xi);have xg:upd (upd j l^.tup [V.str b.1]) zb (.tup [V.str y,.int n,.ref l]) zb=bn [V.str y,.int n,.ref l]:=ah;have yg:upd (upd j l^.tup [V.str b.1]) zb (.tup [V.str y,.int n,.ref l]) l=bn [V.str b.1]:=by rw[ag^aA ah xi];exact ah
      generalize upd (upd j l^.tup [V.str b.1]) zb^.tup [V.str y,.int n,.ref l]=yb at G xg yg⊢;refine af Z #[S.x,C,S.dx,_,.ref S.kn,Z,G _ _ g.hx,T.cl,T.nn,i5,_,Z,S.kn,_,Z,eG.t (k:=b3 b) (G _ _ g.hk) (G _ _ yo) (by rw[aV];omega),?_]
      exact zy n yb zb l (r.trans G) xn #[_,xg] yg
    .have e:bb d ≠ "plain" :=λz=>e (by rw[z];exact cb Z)
     have xx:=r _ _ yE;refine af Z #[S.x,C,S.dx,_,.int bg,Z,g.hx,T.cl,T.nb,Z,_,_,Z,Z,S.dx,_,g.hx,by show 6<1000;decide,?_]
     rw[show b' "begun" (.int (bg+1))^fW S.fi S.ow S.kp S.kn S.kd bg=fW S.fi S.ow S.kp S.kn S.kd (bg+1) from rfl];have ya:∀x o,x≠S.x->j x=ih o->upd j S.x (.ins C S.dx^fW S.fi S.ow S.kp S.kn S.kd (bg+1)) x=ih o:=λx o n e=>by rw[ag n];exact e
     have ym:upd j S.x (.ins C S.dx^fW S.fi S.ow S.kp S.kn S.kd (bg+1)) S.x=ih^.ins C S.dx^fW S.fi S.ow S.kp S.kn S.kd (bg+1):=ah;generalize upd j S.x^.ins C S.dx^fW S.fi S.ow S.kp S.kn S.kd (bg+1)=yb at ya ym⊢;have zT:∀{x:FG}{xs:am V},j x=bn xs->x≠S.x:=λe=>aq e g.hx
     have yc:∀x xs,j x=bn xs->yb x=bn xs:=λx xs e=>ya _ _ (zT e) e;have yD:cj C D S (bg+1) zv xq kk kq ka yb:=by
      obtain⟨xU,yU,zU⟩:=g.ln;exact#[h.n3,ym,#[ya _ _ (aS h.n3) g.fi.hx,ya _ _ (aq g.fi.hl g.hx) g.fi.hl,ya _ _ (aq g.fi.he g.hx) g.fi.he,ya _ _ (aq g.fi.hh g.hx) g.fi.hh,g.fi.du.keep yc za.bk.ent,za.bk,g.fi.nn],ya _ _ (aq g.ho g.hx) g.ho,ya _ _ (aq g.hk g.hx) g.hk,ya _ _ (aq g.hq g.hx) g.hq,h.n1,#[xU,yU,yc _ _ zU],h.el,g.m3.keep za.bk yc,g.kv.keep yc,h.ok,h.nd,h.cO,h.ql]
     have zo:=ya _ _ (aq xx g.hx) xx
     refine af Z #[.inl #[Z,_,au.of zo],_,Z,_,Z,a7 (yc _ _ yi) b6^af Z^a7 (yc _ _ yi) cP^rp.mk Z xk (xk.keep xr yc) e λx1 us yj xc xI yI=>?_];intro x dx yd zI ne;have xJ:upd yj dx (.own x) x=none:=by rw[ag^aS ne];exact yd
     have ze:=(aJ (o:=.own x) zI).trans (aJ (o:=.ins R dx []) xJ);have zm:upd (upd yj dx^.own x) x (.ins R dx []) x=ih^.ins R dx []:=ah;generalize upd (upd yj dx^.own x) x^.ins R dx []=y1 at ze zm⊢;have yx:=xc _ _^yc _ _ yo;refine rq.mk Z zm (ze _ _ yx) (ze _ _ xI) λlf rs yk yr zr yJ xV zz zJ xK=>#[Z,?_];have xt:ax yj yk:=λc o e=>xV _ _ (aA e yd)^ze _ _ e;have yt:=xc.trans xt;have xl:=yt _ _ zo;refine#[st,refs xf,_,Z,Z,xl,by unfold refs;rw[aE,aV];omega,?_]
     have zt:∀c,yb c=none->H c=none:=λc e=>yq _^r.free (by
      cases e0:j c with
      |none=>rfl
      |some u =>
       by_cases z:c=S.x
       .rw[z,ym]at e;cases e
       .rw[ya _ _ z e0]at e;cases e)
     have up:∀{u:HO} c o,c≠st->yk c=ih o->upd yk st u c=ih o:=λc o n e=>by rw[ag n];exact e
     have xj:∀{u:HO} c xs,yk c=bn xs->upd yk st u c=bn xs:=λc xs e=>up _ _ (aq e xl) e
     have zx:=ze _ _^xc _ _ zo;have yK:lf≠st:=aS^aA zx yr;have zK:rs≠st:=aS^aA zx zr;have xL:x≠lf:=aA zm yr;have yL:x≠rs:=aA zm zr;obtain⟨xA,xY⟩:=tU xk;refine zR #[x,dx,ta,lf,rs] #[b,y,b9 d,0] us [b.1] xq zv _ yf xy Z (bS.new zj L) (ml L) (λc o n1 zd xw yV e=>up _ _ yV^yt _ _^ya _ _ xw^r _ _^kp c o n1 zd e) ((yD.same yt).write λc o zV _ e=>up _ _ (λz=>by rw[z,xl]at e;cases e;exact zV _ Z) e) zC (by rw[ah];unfold refs;rw[bj];rfl) #[up _ _ (aq zz xl) zz,xj _ _^xt _ _ yx,up _ _ yK zJ,iw (λc xs e=>xj _ _^xt _ _ e) yI xA,xA,λs xW zc=>za.ask _ (kF (jS L).2) s xW zc,up _ _ zK xK,λz yn=>by rw[bR.mp yn];exact xe.1,by show 1+(b9 d).length * 20<=99;omega,yJ,aS^aA (xc _ _ ym) yd,aS^aA (xc _ _ yD.fi.hx) yd] (zt _^xc.free yd) (zt _^xc.free^ze.free yr) (zt _^xc.free^ze.free zr) xL yL
  .rw[e1]
   exact zQ z e3
theorem k'{α:Type} [DecidableEq α]:∀{a b:am α},a.Nodup->(∀x∈a,x∈b)->a.length<=b.length
 |[],_,_,_=>bF _
 |x::a,b,f,h=>by
  obtain⟨n1,g⟩:=d6.mp f;have c:=h x aY;have:=k' (b:=b.erase x) g λy d=>(F3 (λe=>n1^by rw[<-e];exact d)).mpr (h y^bh _ d)
  rw[F1 c]at this;have:=F2 c;rw[c4];omega
def fA(W:aO)(NU:List Gd):List Ask:=NU.flatMap λn=>(("" : Gd)::W.line).map λk=>(n,k)
theorem CK{W:aO}{a:Ask}(h:UA W NU a):a∈fA W NU:=by
 unfold fA;refine pD.mpr #[a.1,h.1,a8.mpr #[a.2,?_,Z]];rcases h.2 with z|z
 .rw[z];exact aY
 .exact bh _ z
theorem Kn{W:aO}(a:hF W NU):(fA W NU).length<=200:=by
 have:∀l:am Gd,(l.flatMap λn=>(("" : Gd)::W.line).map λk=>((n,k):Ask)).length=l.length * (W.line.length+1):=by
  intro l
  induction l with
  |nil=>simp
  |cons x l b=>rw[Gx,cz,b,aE,c4,c4,sy (l.length) 1];omega
 unfold fA;rw[this];have h1:=a.a5;have h2:=a.ln
 calc NU.length * (W.line.length+1)<=20 * 10:=Ak h1 ()
  _=200:=rfl
def gU(U k s:Nat):Nat:=(U - k) * (U+2)+(U - s)
theorem Ko{k s:Nat}(h:s+1<=U):gU U k (s+1)<gU U k s:=by unfold gU;omega
theorem tD{k s s':Nat}(h:k+1<=U):gU U (k+1) s'<gU U k s:=by
 unfold gU;have e:U - k=(U - (k+1))+1:=()
 rw[e,sy,abG];generalize (U - (k+1)) * (U+2)=x;omega
theorem c'.fr{S:Wh}{ka:am (Ask×Int)}{A:FA}{f:bt}{d:am V}{st:FG}(h:c' R S H A f lv rn)(w:cj C D S bg m kh kk kq ka H)(a:H st=ce d)(n:A.lf≠st/\A.rs≠st)(k:∀b o,b≠S.fi->b≠S.dh->b≠S.kn->b≠S.kp->b≠S.x->b≠st->H b=ih o->H' b=ih o):c' R S H' A f lv rn:=by
 have c:∀b xs,b≠st->H b=ce xs->H' b=ce xs:=λb xs n e=>k _ _ (aq e w.fi.hx) (aq e w.fi.hh) (aq e w.hk) (aq e w.hq) (aq e w.hx) n e
 have kt:∀b xs,H b=bn xs->H' b=bn xs:=λb xs e=>k _ _ (aq e w.fi.hx) (aq e w.fi.hh) (aq e w.hk) (aq e w.hq) (aq e w.hx) (aq e a) e
 exact#[k _ _ h.nf (aq h.hx w.fi.hh) (aq h.hx w.hk) (aq h.hx w.hq) h.nx (aq h.hx a) h.hx,kt _ _ h.fe,c _ _ n.1 h.hl,iw kt h.rl h.st,h.st,h.an,c _ _ n.2 h.hr,h.rm,h.a5,h.il,h.nx,h.nf]
theorem c'.go{S:Wh}{ka:am (Ask×Int)}{A a:FA}{f:bt}(h:c' R S H A f lv rn)(w:cj C D S bg m kh kk kq ka H)(d:∃c dx fs,H a.x=ih^.ins c dx fs)(g:∃xs,H a.lf=ce xs)(i:∃xs,H a.rs=ce xs)(n:A.x≠a.x/\A.lf≠a.lf/\A.lf≠a.rs/\A.rs≠a.lf/\A.rs≠a.rs)(k:Kr S a H H'):c' R S H' A f lv rn:=by
 obtain⟨c,dx,fs,d⟩:=d;obtain⟨o,g⟩:=g;obtain⟨p,i⟩:=i;have kt:∀b xs,H b=bn xs->H' b=bn xs:=λb xs e=>k _ _ (aq e w.fi.hx) (aq e w.fi.hh) (aq e d) (aq e g) (aq e i) e
 have j:∀b xs,b≠a.lf->b≠a.rs->H b=ce xs->H' b=ce xs:=λb xs n1 l e=>k _ _ (aq e w.fi.hx) (aq e w.fi.hh) (aq e d) n1 l e
 exact#[k _ _ h.nf (aq h.hx w.fi.hh) n.1 (aq h.hx g) (aq h.hx i) h.hx,kt _ _ h.fe,j _ _ n.2.1 n.2.2.1 h.hl,iw kt h.rl h.st,h.st,h.an,j _ _ n.2.2.2.1 n.2.2.2.2 h.hr,h.rm,h.a5,h.il,h.nx,h.nf]
abbrev adr(l:List (FA×bt)):List FG:=l.flatMap λp=>[p.1.x,p.1.lf,p.1.rs]
theorem Jh{l:am (FA×bt)}{p q:FA×bt}(b:(adr (l++[q])).Nodup)(d:p∈l):p.1.x≠q.1.x/\p.1.lf≠q.1.lf/\p.1.lf≠q.1.rs/\p.1.rs≠q.1.lf/\p.1.rs≠q.1.rs:=by
 unfold adr at b;rw[pE]at b;have a:=(dz.mp b).2.2;have m:∀y,y=p.1.x\/y=p.1.lf\/y=p.1.rs->y∈l.flatMap λp=>[p.1.x,p.1.lf,p.1.rs]:=λy c=>pD.mpr #[p,d,⇑c]
 have n:∀y,y=q.1.x\/y=q.1.lf\/y=q.1.rs->y ∈ [q].flatMap λp=>[p.1.x,p.1.lf,p.1.rs]:=λy c=>pD.mpr #[q,aY,⇑c]
 exact#[a _ (m _^.inl Z) _^n _^.inl Z,a _ (m _^.inr^.inl Z) _^n _^.inr^.inl Z,a _ (m _^.inr^.inl Z) _^n _^.inr^.inr Z,a _ (m _^.inr^.inr Z) _^n _^.inr^.inl Z,a _ (m _^.inr^.inr Z) _^n _^.inr^.inr Z]
theorem chain_snoc{W:aO}{b:Ask}{g:bt}:∀{l:am bt},Chain W l g.a->gM W g=ih b->Chain W (l++[g]) b
 |[],_,h=>h
 |[f],c,h=>#[c,h]
 |f::d::l,c,h=>#[c.1,chain_snoc (l:=d::l) c.2 h]
theorem chain_last{W:aO}{b:Ask}{g:bt}:∀{l:am bt},Chain W (l++[g]) b->Chain W l g.a
 |[],_=>trivial
 |[f],c=>c.1
 |f::d::l,c=>#[c.1,chain_last (l:=d::l) c.2]
def KT(S:Wh)(H H':Hp):Prop:= ∀b o,b≠S.fi->b≠S.dh->b≠S.kn->b≠S.kp->b≠S.x->H b=ih o->H' b=ih o
inductive rE(C D R M N:FG)(vs:List V)(H:Hp)(Q:VK)(E:XK):Prop
 |mk{S:Wh}{bg m:Int}{kh kq:List (List Key×V)}{ta:FG}{a:Ask}(_:vs=[.ref S.x,.ref ta])(_:hF S.W S.NU)(_:cj C D S bg m kh [] kq [] H)(_:kh.length<=1000)(_:H ta=ih (.tup [.str a.1,.str a.2]))(_:UA S.W S.NU a)
  (_:∀ns,eM S.W a ns ->∀e H',KT S H H'->H e=none->rB N ns H' e->E (.ref N) (ih e) H')
  (_:∀n,S.W.Out a (.miss n) ->∀e H',KT S H H'->H e=none->qS M n H' e->E (.ref M) (ih e) H')
  (_:∀z,S.W.Out a (.told z) ->∀t y u QW m4 H',KT S H H'->H' S.x=ih (.ins C S.dx (fW S.fi S.ow S.kp S.kn S.kd QW))->H' S.kn=ih (.dT m4)->bq m4 (b3 a)=ih (.ref t)->H' t=ih (.tup [y,.int z,u])->Q (.ref t) H'):rE C D R M N vs H Q E
structure TI(C D R:FG)(S:Wh)(H0:Hp)(a:Ask)(ta st:FG)(U:Nat)(mm:Nat)(H:Hp)(bc:List (FA×bt))(bg m:Int)(kh kk kq:List (List Key×V))(ka:List (Ask×Int)):Prop where
 w:cj C D S bg m kh kk kq ka H
 em:mm=gU U ka.length bc.length
 lh:kh.length+8 * mm<=400000
 Fn:H st=ih (.lst (refs bc))
 fs:oP R S H bc
 ua:∀p∈bc,UA S.W S.NU p.2.a
 ok:∀p∈bc,bS S.W p.2
 wl:∀p∈bc,p.2.w∈S.W.line
 nk:∀p∈bc,∀z,(p.2.a,z)∉ ka
 nd:(bc.map (·.2.a)).Nodup
 ap:∀p∈bc,(p.1.lf≠st/\p.1.rs≠st)/\H0 p.1.x=none/\H0 p.1.lf=none/\H0 p.1.rs=none
 ch:(bc=[] /\∃z,(a,z)∈ka) \/∃l top,bc=l++[top]/\Chain S.W (l.map (·.2)) top.2.a/\(bc.head?.map (·.2.a))=ih a
 fe:H ta=ih (.tup [.str a.1,.str a.2])
 kt:KT S H0 H
theorem TI.a5{S:Wh}{a:Ask}{ta st:FG}{d:Nat}{bc:am (FA×bt)}{ka:am (Ask×Int)}(j:hF S.W S.NU)(h:TI C D R S H0 a ta st U d H bc bg m kh kk kq ka):ka.length+bc.length<=(fA S.W S.NU).length/\kk.length=ka.length:=by
 refine#[?_,cy h.w.kv];have f:(ka.map (·.1)++bc.map (·.2.a)).Nodup:=dz.mpr #[h.w.nd,h.nd,λx c y g e=>by
  obtain⟨p,b,rfl⟩:=a8.mp c;obtain⟨q,i,rfl⟩:=a8.mp g;exact h.nk q i p.2^by rw[<-e];exact b]
 have:=k' f λx c=>CK (W:=S.W) (NU:=S.NU) (by
  rcases bT.mp c with z|z
  .obtain⟨p,b,rfl⟩:=a8.mp z;exact h.w.cO p b
  .obtain⟨p,b,rfl⟩:=a8.mp z;exact h.ua p b)
 rw[cz,aE,aE]at this;exact this
noncomputable abbrev QX:List Gd:=["self","first","standing","needed"]
theorem vL:bp QX ["self","first"]^aI u':=bD
theorem N6{N:FG}(F:aQ K "tell" "Whole.tell" u' f fd)(T:h8 K mg C)(yC:aT P w K mg base (cT P w) 3 fE dE ["self","standing","asking"]^oQ C D R M N)(zC:Meth K C "enter" fE)(xD:Binds K dE ["self","standing","asking"] [])
  (zP:aT P w K mg base aF 4 fG dG ["self","reckoning"]^rz C D R) (xQ:Meth K C "go_on" fG) (yQ:Binds K dG ["self","reckoning"] []) (zQ:aT P w K mg base aF 1 fS dS ["self","reckoning"]^rA C D R) (xR:Meth K C "settle" fS) (yR:Binds K dS ["self","reckoning"] []):aT P w K mg base (cT P w) 5 f fd ["self","first"]^rE C D R M N:=by
 refine F.vA vL λQb A outer s H vs Q E yD h=>?_
 .obtain @⟨S,bg,m,kh,kq,ta,a,rfl,yi,h,zX,xH,zD,zR,qn,q⟩:=h
  have zq:aZ 4 _:=yD;have yy:aZ 3 _:=zq.mono ∅
  have yH:aZ 1 _:=zq.mono ∅
  have zH:=d9 yD.units;intro X;refine#[_,ar (a4 2 vL.nd^eN ai)
   (ar (eL^hT (pv 0) T.cl zC yC yy xD .nil qI^aa (pv 2)^aa (pv 1) ai)
   (ar (nQ acF (kI (pv 2)^λ_=>rfl)
    (ar (a4 3 vL.nd^hT (pv 0) T.cl xQ zP zq yQ .nil c8^aa (aU d2 (pv 2)^uT uC aw) ai)
    (ay (bo (bx gI (pv 3) d3^bC _) (ay^eL^hT (pv 0) T.cl xR zQ yH yR .nil c8^aa (Ma hQ Gv Gw Mb^pv 2) ai)
     (ay^eL^hT (pv 0) T.cl zC yC yy xD .nil qI^aa (pv 2)^aa (pv 3) ai)))))
   (ay^a3^dV zH (cq (pv 0) Z)^pv 1))),?_]
  refine#[bF _,λst xm=>?_];have yd:=aJ (o:=.lst []) xm;have xa:=h.same yd;have xe:upd H st (.lst []) st=ce []:=ah;have ya:=yd _ _ xH;generalize upd H st^.lst []=Y at yd xa xe ya⊢;have xY:=Kn yi;have xx:∀k s,8 * gU (fA S.W S.NU).length k s<=8 * (200 * 202+200):=λk s=>by
   unfold gU;have:((fA S.W S.NU).length - k) * ((fA S.W S.NU).length+2)<=200 * 202:=Ak () ()
   omega
  refine Pt (h7:=λxE=>∃xf bc bg m kh kk kq ka,TI C D R S H a ta st (fA S.W S.NU).length xf xE bc bg m kh kk kq ka) (λyx=>af Z #[S.x,S.dx,_,Z,xa.hx,Z,_,Z,_,Z,oQ.mk (bc:=[]) (b:=a) Z yi xa () (bF _) xe (bF _) #[λp c=>(by cases c),ff] (λp c=>(by cases c)) ya zD (λi _ e=>(by simp at e)) (λz xb=>(by cases xb)) (λ_ xl e H' k U xv=>qn _ xl e H' (λb o n1 j _ _ _ z=>k _ _ n1 j^yd _ _ z) (yd.free U) xv) (λz xk xg yh H' _ _ xl k yv lk=>yx H' ?_)^λO fr lv rn xg yh H' _ _ yE xS yS k yv lk xI yb n1 j B L I=>yx H' ?_]) ?_
  .refine#[_,[],bg,yh,xg,xk,kq,[]++[(a,z)],#[yv,Z,by have:=xx ([]++[(a,z)]).length ([]:am (FA×bt)).length;omega,k _ _ (aq xe xa.fi.hx) (aq xe xa.fi.hh) (aq xe xa.hk) xe,#[λp c=>(by cases c),ff],λp c=>(by cases c),λp c=>(by cases c),λp c=>(by cases c),λp c=>(by cases c),ff,λp c=>(by cases c),.inl #[Z,z,aY],k _ _ (aq ya xa.fi.hx) (aq ya xa.fi.hh) (aq ya xa.hk) ya,λb o n1 j B _ _ e=>k _ _ n1 j B^yd _ _ e]]
  .have only:∀p ∈ []++[(O,fr)],p=(O,fr):=λp c=>bR.mp c
   have xr:O.lf≠st/\O.rs≠st:=#[aS^aA xe j,aS^aA xe B];refine#[_,[]++[(O,fr)],bg+1,yh,xg,[],kq,[],#[yv,Z,by have:=xx ([]:am (Ask×Int)).length ([]++[(O,fr)]).length;omega,xI,#[λp c=>?_,?_],λp c=>?_,λp c=>?_,λp c=>?_,λp c z xb=>(by cases xb),by simp,λp c=>?_,.inr #[[],(O,fr),Z,trivial,by rw[<-yE];rfl],k _ _ (aq ya xa.fi.hx) (aq ya xa.fi.hh) (aq ya xa.hx) (aq ya xe) ya,λb o n1 j B L I e=>k _ _ n1 j I (aA e xm)^yd _ _ e]]
   .rw[only p c];exact#[lv,rn,yb]
   .show [O.x,O.lf,O.rs].Nodup
    simp only[d6,bL,jC,jD,not_or,VO,ff,and_true];exact#[#[L,I],yb.il]
   .rw[only p c];show UA S.W S.NU fr.a;rw[yE];exact zD
   .rw[only p c];exact xS
   .rw[only p c];exact yS
   .rw[only p c];exact#[xr,yd.free n1,yd.free j,yd.free B]
  rintro H2 ⟨yI,yG,zI,zS,xJ,yJ,zJ,xK,zy⟩;refine#[λxf σ zi=>∃(zp:a2 V) (bc:am (FA×bt)) (bg m:Int) (kh kk kq:am (List Key×V)) (ka:am (Ask×Int)),σ=[bd S.x,bd ta,bd st,zp]/\TI C D R S H a ta st (fA S.W S.NU).length xf zi bc bg m kh kk kq ka,#[yI,none,yG,zI,zS,xJ,yJ,zJ,xK,Z,zy],?_];clear zy;rintro xf σ zi ⟨zp,bc,bg,m,kh,kk,kq,ka,rfl,ti⟩;obtain⟨zE,tk⟩:=ti.a5 yi;refine af Z #[_,.inl #[_,au.of ti.Fn,Z],?_];rcases ti.ch with⟨rfl,z,xb⟩|⟨l,top,rfl,ym,xj⟩
  .refine bZ (λy=>by cases y)^λ_=>?_
   have yK:zi ta=bn^(b3 a).map kV:=ti.fe;rcases ti.w.kv.val a with⟨_,e2⟩|⟨v,zv,t,y,ns,yY,e1,e2,rfl,xT,_⟩
   .exact absurd xb^e2 z
   .refine af Z #[S.x,C,S.dx,_,.ref S.kn,Z,ti.w.hx,T.cl,T.nn,i5,_,Z,S.kn,.ref t,Z,by rw[<-e1];exact b2.t (k:=b3 a) ti.w.hk yK,?_]
    exact q zv (ti.w.ok _ e2) t _ _ bg kk zi ti.kt ti.w.hx ti.w.hk e1 xT
  .refine bZ (λ_=>?_)^λy=>absurd (by unfold refs;rw[bj];simp) y
   have ye:top∈l++[top]:=et _ aY;have zb:∀p∈l,p∈l++[top]:=λp c=>gj _ c;obtain⟨lv,rn,yb⟩:=ti.fs.fr top ye;have zY:ka.length+(l.length+1)<=(fA S.W S.NU).length:=by rw[cz]at zE;exact zE
   have yl:=ti.em;rw[cz,lL]at yl;have x0:=ti.lh;refine#[λzK H'=>∃xz,xz<xf /\∃(zp:a2 V) (bc:am (FA×bt)) (bg m:Int) (kh kk kq:am (List Key×V)) (ka:am (Ask×Int)),zK=[bd S.x,bd ta,bd st,zp]/\TI C D R S H a ta st (fA S.W S.NU).length xz H' bc bg m kh kk kq ka,λ_ _ z=>z,?_];have zx:∀g:bt,refs (l++[(top.1,g)])=refs l++[V.ref top.1.x]:=λg=>by unfold refs;rw[bj];rfl
   have yj:zi st=ce (refs l++[V.ref top.1.x]):=by rw[<-zx top.2];exact ti.Fn
   obtain⟨⟨yz,zz⟩,xL,yL,zL⟩:=ti.ap top ye;have xM:st≠top.1.x:=aq yj yb.hx
   have xA:∀{G:Hp},Kr S top.1 zi G->G st=ce (refs l++[V.ref top.1.x])/\G ta=bn [.str a.1,.str a.2]/\KT S H G /\∀p∈l,∃lv rn,c' R S G p.1 p.2 lv rn:=λ{G} yf=>by
    refine#[yf _ _ (aq yj ti.w.fi.hx) (aq yj ti.w.fi.hh) xM (aS yz) (aS zz) yj,yf _ _ (aq ti.fe ti.w.fi.hx) (aq ti.fe ti.w.fi.hh) (aq ti.fe yb.hx) (aq ti.fe yb.hl) (aq ti.fe yb.hr) ti.fe,λb o n1 j B L I e=>yf _ _ n1 j (aA e xL) (aA e yL) (aA e zL)^ti.kt b o n1 j B L I e,λp c=>?_]
    obtain⟨zm,xn,fp⟩:=ti.fs.fr p^zb p c;exact#[zm,xn,fp.go ti.w #[_,_,_,yb.hx] #[_,yb.hl] #[_,yb.hr] (Jh ti.fs.nd c) yf]
   refine af Z #[S.x,S.dx,_,Z,ti.w.hx,Z,_,Z,1,Z,e9 yj (Jx _ _)^rz.mk (A:=top.1) (fr:=top.2) Z yi ti.w () yb (ti.ok top ye) (ti.wl top ye) (λt' zm xn xg yh G yf J yT yn yr=>?_)^λt' d ds zm xn xg yh b tn G yf J yT yn yr xc zr yM=>?_]
   .obtain⟨zf,za,yg,xt⟩:=xA yf
    refine af Z #[Z,_,Z,_,Z,S.x,S.dx,_,Z,J.hx,Z,_,Z,.inl #[Z,_,au.of zf],st,_,V.ref top.1.x,Z,Z,zf,by simp,?_]
    have zT:(refs l++[V.ref top.1.x]).dropLast=refs l:=by simp
    rw[zT];have up:∀{u:HO} b o,b≠st->G b=ih o->upd G st u b=ih o:=λb o n e=>by rw[ag n];exact e
    have xU:∀{u:HO} b xs,G b=bn xs->upd G st u b=bn xs:=λb xs e=>up _ _ (aq e zf) e
    have yc:cj C D S bg yh xg kk kq ka^upd G st^.lst^refs l:=J.write λb o yU _ e=>up _ _ (λz=>by rw[z,zf]at e;cases e;exact yU _ Z) e
    have yt:∀{A:FA}{g:bt}{lv:am V}{rn:am Gd},A.lf≠st->A.rs≠st->c' R S G A g lv rn->c' R S (upd G st^.lst^refs l) A g lv rn:=λn1 j q=>q.fr J zf #[n1,j] λb o _ _ _ _ _ n e=>up _ _ n e;have zj:upd G st (.lst^refs l) st=ce^refs l:=ah;have zl:upd G st (.lst^refs l) ta=bn [.str a.1,.str a.2]:=xU _ _ za;have yA:KT S H^upd G st^.lst^refs l:=λb o n1 j B L I e=>up _ _ (aA e xm)^yg b o n1 j B L I e;have zA:∀p∈l,∃lv rn,c' R S (upd G st^.lst^refs l) p.1 p.2 lv rn:=λp c=>by
     obtain⟨lv,rn,q⟩:=xt p c;exact#[lv,rn,yt (ti.ap p^zb p c).1.1 (ti.ap p^zb p c).1.2 q]
    have yk:=yt yz zz yn;generalize upd G st^.lst^refs l=xF at yc yt zj zl yA zA yk⊢;refine rA.mk (A:=top.1) (fr:=#[top.2.a,top.2.w,[],t']) Z yi yc () yk (yr.done Z) (ti.nk top ye) (ti.ua top ye) λxk zM xE xq zU=>?_
    have xN:∀p∈l,p.2.a≠top.2.a:=λp c e=>by
     have:=ti.nd;rw[bj]at this;exact(dz.mp this).2.2 _ (a8.mpr #[p,c,Z]) _ (a8.mpr #[top,aY,Z]) e
    refine#[gU (fA S.W S.NU).length (ka.length+1) l.length,by rw[yl];exact tD (),_,l,bg,yh,xg,xk,zM,ka++[(top.2.a,t')],Z,#[zU,by rw[cz];rfl,?_,xq _ _ (aq zj yc.hk) (aq zj yc.hq) zj,#[λp c=>?_,?_],λp c=>ti.ua p^zb p c,λp c=>ti.ok p^zb p c,λp c=>ti.wl p^zb p c,λp c z xb=>?_,?_,λp c=>ti.ap p^zb p c,?_,xq _ _ (aq zl yc.hk) (aq zl yc.hq) zl,λb o n1 j B L I e=>xq _ _ B L^yA b o n1 j B L I e]]
    .have:gU (fA S.W S.NU).length (ka.length+1) l.length<xf:=by rw[yl];exact tD ()
     omega
    .obtain⟨lv,rn,q⟩:=zA p c
     exact#[lv,rn,q.fr yc zj (ti.ap p^zb p c).1 λb o _ _ B L _ _ e=>xq _ _ B L e]
    .have:=ti.fs.nd
     rw[pE]at this;exact(dz.mp this).1
    .rcases bT.mp xb with y|y
     .exact ti.nk p (zb p c) z y
     .have y:=bR.mp y
      exact xN p c (by injection y)
    .have:=ti.nd
     rw[bj]at this;exact(dz.mp this).1
    .cases xB:l.getLast? with
     |none =>
      have:l=[]:=List.getLast?_eq_none_iff.mp xB;subst this;refine .inl #[Z,t',et _ ?_];have xj:ih top.2.a=ih a:=xj;rw[cQ xj];exact aY
     |some g =>
      obtain⟨yF,rfl⟩:=List.getLast?_eq_some_iff.mp xB;refine .inr #[yF,g,Z,?_,?_]
      .rw[bj]at ym;exact chain_last ym
      .rw[<-xj];cases yF with
       |nil=>rfl
       |cons _ _=>rfl
   .obtain⟨zf,za,yg,xt⟩:=xA yf
    have yN:gM S.W #[top.2.a,top.2.w,d::ds,t']=ih b:=xc;have xw:UA S.W S.NU b:=by
     unfold aO.need at xc
     by_cases yw:bb d = "ask"
     .rw[aB yw]at xc;cases xc;exact#[yn.an d aY yw,.inl Z]
     .rw[ao yw]at xc
      by_cases zF:bb d = "onward"
      .rw[aB zF]at xc
       split at xc
       .cases xc;exact#[(ti.ua top ye).1,.inr^ti.wl top ye]
       .cases xc
      .rw[ao zF]at xc;cases xc
    obtain⟨r,zg⟩:∃r,l++[(top.1,(⟨top.2.a,top.2.w,d::ds,t'⟩:bt))]=r:=#[_,Z];have yq:∀p∈r,p∈l\/p=(top.1,#[top.2.a,top.2.w,d::ds,t']):=λp c=>by
     rw[<-zg]at c;rcases bT.mp c with z|z
     .exact .inl z
     .exact .inr^bR.mp z
    have zt:r.map (·.2.a)=(l++[top]).map (·.2.a):=by rw[<-zg,bj,bj];rfl
    have xy:r.length=l.length+1:=by rw[<-zg,cz];rfl
    have zn:∀p∈r,∃q∈l++[top],q.1=p.1/\q.2.a=p.2.a/\q.2.w=p.2.w:=λp c=>by
     rcases yq p c with z|z
     .exact#[p,zb p z,Z,Z,Z]
     .rw[z];exact#[top,ye,Z,Z,Z]
    have xo:∀g∈r.map (·.2),bS S.W g:=λg xV=>by
     obtain⟨p,c,rfl⟩:=a8.mp xV;rcases yq p c with z|z
     .exact ti.ok p^zb p z
     .rw[z];exact yr
    have xu:Chain S.W (r.map (·.2)) b:=by rw[<-zg,bj];exact chain_snoc (g:=#[top.2.a,top.2.w,d::ds,t']) ym yN
    have yB:((r.map (·.2)).head?.map (·.a)).getD b=a:=by
     have e1:(r.map (·.2)).head?.map (·.a)=(r.map (·.2.a)).head?:=by rw[sA,sA,Ah];rfl
     rw[e1,zt,sA,xj];rfl
    have Qp:oP R S G r:=by
     refine#[λp c=>?_,?_]
     .rcases yq p c with z|z
      .exact xt p z
      .rw[z];exact#[zm,xn,yn]
     .have:=ti.fs.nd
      rw[<-zg,pE];rw[pE]at this;exact this
    have yo:∀p∈r,(p.1.lf≠st/\p.1.rs≠st)/\H p.1.x=none/\H p.1.lf=none/\H p.1.rs=none:=λp c=>by
     obtain⟨q,ze,e,_⟩:=zn p c;rw[<-e];exact ti.ap q ze
    have zo:∀p∈r,UA S.W S.NU p.2.a:=λp c=>by
     obtain⟨q,ze,_,e,_⟩:=zn p c;rw[<-e];exact ti.ua q ze
    have zB:∀p∈r,p.2.w∈S.W.line:=λp c=>by
     obtain⟨q,ze,_,_,e⟩:=zn p c;rw[<-e];exact ti.wl q ze
    have yu:∀p∈r,∀z,(p.2.a,z)∉ ka:=λp c=>by
     obtain⟨q,ze,_,e,_⟩:=zn p c;rw[<-e];exact ti.nk q ze
    have xp:(r.map (·.2.a)).Nodup:=by rw[zt];exact ti.nd
    have xd:G st=ce^refs r:=by rw[<-zg,zx];exact zf
    have xC:r.head?.map (·.2.a)=ih a:=by rw[<-sA,zt,sA];exact xj
    have zG:∃l top,r=l++[top]/\Chain S.W (l.map (·.2)) top.2.a/\(r.head?.map (·.2.a))=ih a:=#[l,_,zg.symm,ym,xC];have zk:∀e,G e=none->H e=none:=λe U=>by
     cases e0:H e with
     |none=>rfl
     |some u =>
      exfalso
      by_cases z1:e=S.fi
      .rw[z1,J.fi.hx]at U;cases U
      .by_cases z2:e=S.dh
       .rw[z2,J.fi.hh]at U;cases U
       .by_cases z3:e=S.kn
        .rw[z3,J.hk]at U;cases U
        .by_cases z4:e=S.kp
         .rw[z4,J.hq]at U;cases U
         .by_cases z5:e=S.x
          .rw[z5,J.hx]at U;cases U
          .rw[yg e u z1 z2 z3 z4 z5 e0]at U;cases U
    have big:(∀p∈r,p.2.a≠b)->ka.length+(l.length+1)+1<=(fA S.W S.NU).length:=λxh=>by
     have yV:(b::(ka.map (·.1)++r.map (·.2.a))).Nodup:=by
      refine d6.mpr #[λzV=>?_,dz.mpr #[ti.w.nd,xp,λx zd y zc e=>?_]]
      .rcases bT.mp zV with z|z
       .obtain⟨p,c,e⟩:=a8.mp z;exact zr p.2 (by rw[<-e];exact c)
       .obtain⟨p,c,e⟩:=a8.mp z;exact xh p c e
      .obtain⟨p,c,rfl⟩:=a8.mp zd
       obtain⟨q,ze,rfl⟩:=a8.mp zc;exact yu q ze p.2 (by rw[<-e];exact c)
     have:=k' yV λx zd=>CK (W:=S.W) (NU:=S.NU) (by
      rcases bL.mp zd with z|z
      .rw[z];exact xw
      .rcases bT.mp z with z|z
       .obtain⟨p,c,rfl⟩:=a8.mp z;exact ti.w.cO p c
       .obtain⟨p,c,rfl⟩:=a8.mp z;exact zo p c)
     rw[c4,cz,aE,aE,xy]at this;omega
    refine#[_,Z,Z,_,Z,_,Z,S.x,S.dx,_,Z,J.hx,Z,_,Z,_,Z,oQ.mk (bc:=r) (b:=b) Z yi J () () xd () Qp zo yM xw (λi _ hi _ e H' xW U yW=>zR _ (by
     have:=Kk xo xu yB (by rw[dY];exact xp) (by rw[dY];exact hi)
     rw[dY]at this;exact this) e H' (λb o n1 j B L I z=>xW _ _^yg b o n1 j B L I z) (zk e U) yW) (λz xb=>absurd xb^zr z) (λ_ xl e H' k U xv=>qn _ (A5 xo xu yB xl) e H' (λb o n1 j B L I z=>k _ _ n1 j^yg b o n1 j B L I z) (zk e U) xv) (λz xk zu zw xF _ xh xl k yc zW=>?_)^λO fr zN xO zu zw xF _ xh yp yO zO k yc zW xP yk n1 j B L I=>?_]
    .have big:=big xh
     have lt:gU (fA S.W S.NU).length (ka.length+1) r.length<xf:=by rw[yl];exact tD ()
     refine#[_,lt,_,r,bg,zw,zu,xk,kq,ka++[(b,z)],Z,#[yc,by rw[cz];rfl,(),k _ _ (aq xd J.fi.hx) (aq xd J.fi.hh) (aq xd J.hk) xd,#[λp c=>?_,Qp.nd],zo,λp c=>xo _^a8.mpr #[p,c,Z],zB,λp c zv xb=>?_,xp,yo,.inr zG,k _ _ (aq za J.fi.hx) (aq za J.fi.hh) (aq za J.hk) za,λb o n1 j B L I e=>k _ _ n1 j B^yg b o n1 j B L I e]]
     .obtain⟨lv,rn,q⟩:=Qp.fr p c
      exact#[lv,rn,q.fr J xd (yo p c).1 λb o n1 j B _ _ _ e=>k _ _ n1 j B e]
     .rcases bT.mp xb with y|y
      .exact yu p c zv y
      .have y:=bR.mp y
       exact xh p c (by injection y)
    .have big:=big xh
     have lt:gU (fA S.W S.NU).length ka.length (r.length+1)<xf:=by rw[yl,xy];exact Ko ()
     have xr:O.lf≠st/\O.rs≠st:=#[aS^aA xd j,aS^aA xd B];have xi:∀p∈r++[(O,fr)],p∈r\/p=(O,fr):=λp c=>by
      rcases bT.mp c with z|z
      .exact .inl z
      .exact .inr^bR.mp z
     refine#[_,lt,_,r++[(O,fr)],bg+1,zw,zu,kk,kq,ka,Z,#[yc,by rw[cz];rfl,(),xP,#[λp c=>?_,?_],λp c=>?_,λp c=>?_,λp c=>?_,λp c=>?_,?_,λp c=>?_,.inr #[r,(O,fr),Z,by show Chain S.W _ fr.a;rw[yp];exact xu,?_],k _ _ (aq za J.fi.hx) (aq za J.fi.hh) (aq za J.hx) (aq za xd) za,λb o n1 j B L I e=>k _ _ n1 j I (aA e xm)^yg b o n1 j B L I e]]
     .rcases xi p c with z|z
      .obtain⟨lv,rn,q⟩:=Qp.fr p z
       exact#[lv,rn,q.fr J xd (yo p z).1 λb o n1 j _ _ I xX e=>k _ _ n1 j I xX e]
      .rw[z];exact#[zN,xO,yk]
     .rw[pE]
      refine dz.mpr #[Qp.nd,?_,λx zd y zc e=>?_]
      .show [O.x,O.lf,O.rs].Nodup
       simp only[d6,bL,jC,jD,not_or,VO,ff,and_true];exact#[#[L,I],yk.il]
      .obtain⟨p,c,zd⟩:=pD.mp zd
       obtain⟨lv,rn,q⟩:=Qp.fr p c;have yX:∃o,G x=ih o:=by
        simp only[bL,jC,jD]at zd;rcases zd with z|z|z
        .rw[z];exact#[_,q.hx]
        .rw[z];exact#[_,q.hl]
        .rw[z];exact#[_,q.hr]
       obtain⟨o,zh⟩:=yX;obtain⟨y0,yP,zc⟩:=pD.mp zc;rw[bR.mp yP]at zc;simp only[bL,jC,jD]at zc;rw[e]at zh;rcases zc with z|z|z
       .rw[z,n1]at zh;cases zh
       .rw[z,j]at zh;cases zh
       .rw[z,B]at zh;cases zh
     .rcases xi p c with z|z
      .exact zo p z
      .rw[z];show UA S.W S.NU fr.a;rw[yp];exact xw
     .rcases xi p c with z|z
      .exact xo _^a8.mpr #[p,z,Z]
      .rw[z];exact yO
     .rcases xi p c with z|z
      .exact zB p z
      .rw[z];exact zO
     .rcases xi p c with z|z
      .exact yu p z
      .rw[z];show ∀z,(fr.a,z)∉ ka;rw[yp];exact zr
     .rw[bj]
      refine dz.mpr #[xp,by simp,λx zd y zc e=>?_]
      obtain⟨p,c,rfl⟩:=a8.mp zd;have zc:y=fr.a:=bR.mp zc;exact xh p c (by rw[e,zc,yp])
     .rcases xi p c with z|z
      .exact yo p z
      .rw[z];exact#[xr,zk _ n1,zk _ j,zk _ B]
     .rw[List.head?_append]
      have:r.head?.map (·.2.a)=ih a:=xC;cases xG:r.head? with
      |none=>rw[xG]at this;cases this
      |some g=>rw[xG]at this;exact this
end eH
namespace eH
open L2 W HT PyProof.Rows
theorem iK.pairs{own:Own}(h:iK H vs own):kY H vs (own.map λq=>(q.1,V.int q.2)):=by
 induction h with
 |nil=>exact .nil
 |cons h _ a=>exact .cons h a
inductive rF(C D:FG)(vs:List V)(H:Hp)(Q:VK)(E:XK):Prop
 |mk{wd t tb tt:FG}{wt:List V}{Qa:List Th}{th:Th}{o:YC}{ws wb:List V}{Qc:List (Gd×List Gd)}{L:Gd->List Gd}{bk:Bk}{NU:List Gd}(_:vs=[.ref wd,.str th.1])(_:ik H wd t tb tt wt Qa)(_:FB H t tb o ws wb Qc L bk)(_:th∈Qa)(_:th.2.1∈Qc.map (·.1))(_:(th.2.2.map (·.1)).Nodup)
  (_:∀(S:Wh) H',S.W=⟨L th.2.1,bk,th.2.2⟩->S.NU=NU->ax H H'->cj C D S 0 0 [] [] [] [] H'->H S.x=none->H S.fi=none->H S.dh=none->H S.kn=none->H S.kp=none->Q (.ref S.x) H'):rF C D vs H Q E
noncomputable abbrev QY:List Gd:=["world","thing","kind","own"]
theorem vM:bp QY ["world","thing"]^aI tO:=bD
theorem N7{fF:FG}{yh:X3}(F:aQ K "whole_of" "whole_of" tO f fd)(zh:hA mg)(T:h8 K mg C)(xi:bB P w K mg base aF 4 fK dK ["world","thing"] rk "kind_and_own")(yi:bB P w K mg base aF 6 fF yh ["family","book"] (rh D) "finds_in")
  (M:Mk K C fI) (zi:aT P w K mg base aF 1 fI dI oO^qR C) (xj:Binds K dI oO []):aT P w K mg base aF 7 f fd ["world","thing"]^rF C D:=by
 refine F.bI vM λQb A outer s H vs Q E yj h=>?_
 .obtain @⟨wd,t,tb,tt,wt,Qa,th,o,ws,wb,Qc,L,bk,NU,rfl,h,zj,xk,yc,yk,q⟩:=h
  have N:aZ 6 _:=yj;have zc:aZ 4 _:=N.mono ∅
  have xd:aZ 2 _:=N.mono ∅
  intro X;refine#[_,ar (g6 (a' xi zc^aa (pv 0)^aa (pv 1) ai)^gH Z^cA (ba 2 vM.nd)^cA (ba 3 vM.nd) fM)
   (ay^a3^t2 M zi xd Z T.oZ xj .nil c8^aa (a' yi N^aa (aU bu (pv 0) aw)^aa (aU bu (pv 0) aw) ai)^aa (pv 2)^aa (df (Ii Z) Z zh.dict boot_dict^aa (pv 3) ai)^aa nS ai),?_]
  refine aW Z Z^rk.mk Z h xk λr b us Y j yd zd xe=>?_;refine#[r,_,Z,aX.of yd,Z,_,_,Z,_,_,Z,Z,?_];have h1:=h.same j;refine af Z^a7 h1.hw b6^af Z^a7 h1.hw cP^rh.mk Z (zj.same j) λfi zk dl de dh za xl H2 S a ye ze xf=>?_;have yf:iK H2 us th.2.2:=xe.keep λb xs e=>S _ _ e;refine aW Z Z #[b,us,_,Z,S _ _ zd,yf.pairs,by rw[dY];exact yk,λow zf=>?_]
  intro kp g;intro x dx c z ne;have l:=aJ (o:=.dK^cm th.2.2) zf;have xa:upd H2 ow (.dK^cm th.2.2) ow=cr^cm th.2.2:=ah;have yl:HO.dK (f9^th.2.2.map λq=>(q.1,V.int q.2))=.dK^cm th.2.2:=rfl;rw[yl]at g c z⊢;generalize upd H2 ow^.dK^cm th.2.2=xb at l xa g c z⊢;have U:=aJ (o:=.dT []) g;have B:upd xb kp (.dT []) kp=cs []:=ah;generalize upd xb kp^.dT []=m at U B c z⊢;have zl:=aJ (o:=.own x) z;have xg:upd m dx (.own x) x=none:=by rw[ag^aS ne];exact c
  have J:=zl.trans^aJ (o:=.ins C dx []) xg;have O:upd (upd m dx^.own x) x (.ins C dx []) x=ih^.ins C dx []:=ah;generalize upd (upd m dx^.own x) x^.ins C dx []=yb at J O⊢;refine qR.mk Z O (J _ _ B) λkn R=>#[Z,?_];have zb:=aJ (o:=.dT []) R;have yg:x≠kn:=aA O R;have ya:upd yb kn (.dT []) kn=cs []:=ah;generalize upd yb kn^.dT []=xc at zb ya⊢;have i:=l.trans U;have zg:=J.trans zb;have G:=j.trans S;have W:∀b u,m b=ih u->upd xc x (.ins C dx^fW fi ow kp kn th.2.1 0) b=ih u:=λb u e=>by rw[ag^aA e c];exact zg _ _ e
  have d:∀b u,H2 b=ih u->upd xc x (.ins C dx^fW fi ow kp kn th.2.1 0) b=ih u:=λb u e=>W _ _^i _ _ e;have I:m kn=none:=J.free R;obtain⟨p,y,ep⟩:=a8.mp yc;have xh:gT H2 za L th.2.1:=ep ▸ ye p y;refine q #[x,dx,fi,zk,dl,de,dh,ow,kp,kn,th.2.1,za,xl,#[L th.2.1,bk,th.2.2],L,NU] _ Z Z (λb u e=>d _ _^G _ _ e) #[aS^aA (i _ _ a.hx) c,ah,#[d _ _ a.hx,d _ _ a.hl,d _ _ a.he,d _ _ a.hh,a.du.same d,a.ok,a.nn],W _ _^U _ _ xa,by rw[ag^aS yg];exact ya,W _ _ B,#[aS^aA (i _ _ a.he) I,aS^aA (i _ _ a.hh) I,aS^aA (l _ _ a.he) g,aS^aA (l _ _ a.hh) g,aS^aA B I],xh.same d,Z,λk n b v e=>(by cases e),.nil,λp y=>(by cases y),ff,λp y=>(by cases y),aP _] ((G.trans i).free c) (j.free ze) (j.free xf) ((G.trans i).free I)^(G.trans l).free g
structure j4(wd t tb tt:FG)(wt:List V)(Qa:List Th)(th:Th)(o:YC)(ws wb:List V)(Qc:List (Gd×List Gd))(L:Gd->List Gd)(bk:Bk)(NU:List Gd)(a:Ask)(H:Hp):Prop where
 h:ik H wd t tb tt wt Qa
 fb:FB H t tb o ws wb Qc L bk
 hm:th∈Qa
 hk:th.2.1∈Qc.map (·.1)
 nd:(th.2.2.map (·.1)).Nodup
 wo:hF ⟨L th.2.1,bk,th.2.2⟩ NU
 ua:UA ⟨L th.2.1,bk,th.2.2⟩ NU a
theorem j4.same{t tb:FG}{Qa:am Th}{th:Th}{bk:Bk}{a:Ask}(h:j4 wd t tb tt wt Qa th o ws wb Qc L bk NU a H)(S:ax H H'):j4 wd t tb tt wt Qa th o ws wb Qc L bk NU a H':=#[h.h.same S,h.fb.same S,h.hm,h.hk,h.nd,h.wo,h.ua]
inductive rG(C D M N:FG)(vs:List V)(H:Hp)(Q:VK)(E:XK):Prop
 |mk{wd t tb tt:FG}{wt:List V}{Qa:List Th}{th:Th}{o:YC}{ws wb:List V}{Qc:List (Gd×List Gd)}{L:Gd->List Gd}{bk:Bk}{NU:List Gd}{a:Ask}(_:vs=[.ref wd,.str th.1,.str a.1,.str a.2])(_:j4 wd t tb tt wt Qa th o ws wb Qc L bk NU a H)
  (_:∀ns,eM ⟨L th.2.1,bk,th.2.2⟩ a ns ->∀e H',ax H H'->rB N ns H' e->E (.ref N) (ih e) H')
  (_:∀n,aO.Out ⟨L th.2.1,bk,th.2.2⟩ a (.miss n) ->∀e H',ax H H'->qS M n H' e->E (.ref M) (ih e) H')
  (_:∀z,aO.Out ⟨L th.2.1,bk,th.2.2⟩ a (.told z) ->∀x dx fi ow kp kn kd bg t y u kk H',ax H H'->H' x=ih (.ins C dx (fW fi ow kp kn kd bg))->H' kn=ih (.dT kk)->bq kk (b3 a)=ih (.ref t)->H' t=ih (.tup [y,.int z,u])->Q (.ref x) H'):rG C D M N vs H Q E
noncomputable abbrev km:List Gd:=["world","thing","name","behind"]
noncomputable abbrev QZ:List Gd:=["world","thing","name","behind","whole"]
theorem ER:bp QZ km^aI sN:=bD
theorem N8:bp ["thing"] ["thing"]^aI ug:=bD
theorem MM(F:aQ K "check_name" "check_name" ug f fd)(a:bB P w K mg base aF 1 fN dN ["thing"] mv "is_name"):aT P w K mg base aF 2 f fd ["thing"] qO:=by
 refine F.bI N8 λQb A outer s H vs Q E b h=>?_
 .obtain @⟨x,rfl,n,q⟩:=h
  intro X;exact#[_,ay^bo (gv^gu^a' a b^aa (pv 0) ai) s8 bE,_,Z,mv.mk Z n λY c=>#[true,Z,q Y c]]
theorem cj.wi{S:Wh}{ka:am (Ask×Int)}(h:cj C D S bg m kh kk kq ka H):WI C D S.x S.dx S.fi S.fx S.dl S.de S.dh S.ow S.kp S.kn S.kd bg S.kl (cm S.W.own) S.ke kh kk m S.W.bk H:=#[h.n3,h.hx,h.fi,h.ho,h.hk,h.n1.1,h.n1.2.1]
theorem N9{N yd fR:FG}{zd:X3}(F:aQ K "whole_asked" "whole_asked" sN f fd)(T:h8 K mg C)(xe:bB P w K mg base aF 7 fO dO ["world","thing"] (rF C D) "whole_of")(ye:bB P w K mg base aF 2 fN dN ["thing"] qO "check_name")(ze:bB P w K mg base aF 2 yd zd ["line","thing"] rf "check_behind")
  (xf:aT P w K mg base aF 1 fR dR ["self"]^qD C D) (yf:Meth K C "forebears" fR) (zf:Binds K dR ["self"] []) (xg:aT P w K mg base (cT P w) 5 fT dT ["self","first"]^rE C D R M N) (yg:Meth K C "tell" fT) (zg:Binds K dT ["self","first"] []):aT P w K mg base (cT P w) 8 f fd km^rG C D M N:=by
 refine F.vA ER λQb A outer s H vs Q E xh h=>?_
 .obtain @⟨wd,t,tb,tt,wt,Qa,th,o,ws,wb,Qc,L,bk,NU,a,rfl,h,yh,qn,q⟩:=h
  have g:aZ 7 _:=xh;have O:aZ 5 _:=g.mono ∅
  have m:aZ 2 _:=g.mono ∅
  have U:aZ 1 _:=g.mono ∅
  intro X;refine#[_,ar (a4 4 ER.nd^a' xe g^aa (pv 0)^aa (pv 1) ai)
   (ar (eL^a' ye m^aa (pv 2) ai)
   (ar (eL^a' ze m^aa (Jt (pv 4) T.cl yf xf U zf .nil c8)^aa (pv 3) ai)
   (ar (eL^hT (pv 4) T.cl yg xg O zg .nil qI^aa (cc^aa (pv 2)^aa (pv 3) ai) ai)
   (ay^a3^pv 4)))),?_]
  refine aW Z Z^rF.mk (NU:=NU) Z h.h h.fb h.hm h.hk h.nd λS Y c r zh j W xa ya za xb=>?_;refine af Z^qO.mk Z (h.wo.nm _ h.ua.1) λH2 v=>?_;have i:=j.same v;obtain⟨zk,xi,B⟩:=i.ln;have yi:S.L S.kd=L th.2.1:=by rw[j.el,c]
  rw[yi]at B;refine af Z #[S.x,S.dx,_,Z,i.hx,LL,qD.mk Z i.wi xi^af Z^rf.mk Z B (h.fb.a5 h.hk) h.ua.2 λG I=>?_];refine af Z #[S.x,S.dx,_,Z,I _ _ i.hx,LM,_,Z,_,Z,bQ,λta yb=>?_];have J:=aJ (o:=.tup [V.str a.1,V.str a.2]) yb;have l:upd G ta (.tup [V.str a.1,V.str a.2]) ta=bn [V.str a.1,V.str a.2]:=ah;generalize upd G ta^.tup [V.str a.1,V.str a.2]=zi at J l⊢;have p:=v.trans^I.trans J;have xj:=j.same p;have zb:=zh.trans p;have kt:∀H',KT S zi H'->ax H H':=λH' k b u e=>k b u (aA e xa) (aA e ya) (aA e za) (aA e xb) (aA e W)^zb _ _ e;refine rE.mk (S:=S) (a:=a) Z (by rw[c,r];exact h.wo) xj (bF _) l (by rw[c,r];exact h.ua) (λns d e H' k _ yj=>yh ns (by rw[<-c];exact d) e H' (kt H' k) yj) (λn d e H' k _ zj=>qn n (by rw[<-c];exact d) e H' (kt H' k) zj) λz d t y u xc yc H' k zc xd xk yk=>?_
  exact af Z^q z (by rw[<-c];exact d) S.x S.dx S.fi S.ow S.kp S.kn S.kd xc t y u yc H' (kt H' k) zc xd xk yk
inductive rH(M N:FG)(vs:List V)(H:Hp)(Q:VK)(E:XK):Prop
 |mk{wd t tb tt:FG}{wt:List V}{Qa:List Th}{th:Th}{o:YC}{ws wb:List V}{Qc:List (Gd×List Gd)}{L:Gd->List Gd}{bk:Bk}{NU:List Gd}{a:Ask}(_:vs=[.ref wd,.str th.1,.str a.1,.str a.2])(_:j4 wd t tb tt wt Qa th o ws wb Qc L bk NU a H)
  (_:∀ns,eM ⟨L th.2.1,bk,th.2.2⟩ a ns ->∀e H',ax H H'->rB N ns H' e->E (.ref N) (ih e) H')
  (_:∀n,aO.Out ⟨L th.2.1,bk,th.2.2⟩ a (.miss n) ->∀e H',ax H H'->qS M n H' e->E (.ref M) (ih e) H')
  (_:∀z,aO.Out ⟨L th.2.1,bk,th.2.2⟩ a (.told z) ->∀H',ax H H'->Q (.int z) H'):rH M N vs H Q E
theorem Pz:bp km km^aI l2:=bD
theorem Kq{k:Nat}(F:oK K x qual st dv f fd)(S:bp N ps^aI st)(b:∀vs H Q E,sp vs H Q E->vs.length=ps.length)
  (a:∀(Qb:i') (A:Yq) (outer:am Zq) (s:UJ) (H:Hp) (vs:am V) (Q:VK) (E:XK),aZ k^A.deeper^envOfC qual (aI st) s.aj f Qb->sp vs H Q E ->
   ∃t,dH (d8 (cT P w) P w K mg base N qual (aI st) f Qb A outer s H E) (bJ st) t/\t { nx:=λ_ H'=>Q .aK H',rt:=Q } (start N vs) H):aT P w K mg base (cT P w) (k+1) f fd ps sp:=by
 obtain⟨oc,od,kV,Qe,pm,an,Qb,ct,Qn,rfl,lk,c⟩:=F.ex;exact uX lk c S b λA outer s H vs Q E e d=>a Qb A outer s H vs Q E e d
theorem Oa{N fW:FG}(F:oK K "number_asked" "number_asked" l2 dv f fd)(T:h8 K mg C)(n:bB P w K mg base (cT P w) 8 fW dW km (rG C D M N) "whole_asked"):aT P w K mg base (cT P w) 9 f fd km^rH M N:=by
 refine Kq F Pz (λvs H Q E h=>?_)^λQb A outer s H vs Q E c h=>?_
 .obtain⟨rfl,_⟩:=h;rfl
 .obtain @⟨wd,t,tb,tt,wt,Qa,th,o,ws,wb,Qc,L,bk,NU,a,rfl,h,p,qn,q⟩:=h
  have d:aZ 8 _:=c;have e:=d9 c.units;refine#[_,ay^a3^aU bu (dV e (cq (K9 n d^aa (pv 0)^aa (pv 1)^aa (pv 2)^aa (pv 3) ai) Z)^cc^aa (pv 2)^aa (pv 3) ai) aw,?_];refine jk Z Z Z Z^rG.mk Z h p qn λz r x dx fi ow kp kn kd bg t y u kk Y v g i j k=>?_;refine#[x,C,dx,_,.ref kn,Z,g,T.cl,T.nn,i5,_,Z,_,Z,bQ,λta l=>?_];have b:=aJ (o:=.tup [V.str a.1,V.str a.2]) l;have m:upd Y ta (.tup [V.str a.1,V.str a.2]) ta=bn^(b3 a).map kV:=ah;refine#[kn,.ref t,Z,?_,a7 (b _ _ k) cP^q z r _^v.trans b];rw[<-j];exact b2.t (b _ _ i) m
end eH
namespace eH
open L2 W HT
inductive gV where
 |told (z:Int):gV
 |miss (n:Gd):gV
 |gf (ns:List Gd):gV
def aO.Comes(W:aO)(a:Ask):gV->Prop
 |.told z=>W.Out a (.told z)
 |.miss n=>W.Out a (.miss n)
 |.gf ns=>eM W a ns
def h9(H:Hp)(p:FG):gV->Prop
 |.told z=>H p=ih (.tup [V.str "told",.int z])
 |.miss n=>H p=ih (.tup [V.str "missing",.str n])
 |.gf ns=>∃t,H p=ih (.tup [V.str "endless",.ref t])/\H t=ih (.tup (ns.map V.str))
inductive lr(vs:List V)(H:Hp)(Q:VK)(E:XK):Prop
 |mk{wd t tb tt:FG}{wt:List V}{Qa:List Th}{th:Th}{o:YC}{ws wb:List V}{Qc:List (Gd×List Gd)}{L:Gd->List Gd}{bk:Bk}{NU:List Gd}{a:Ask}(_:vs=[.ref wd,.str th.1,.str a.1,.str a.2])(_:j4 wd t tb tt wt Qa th o ws wb Qc L bk NU a H)
  (_:∀r,aO.Comes ⟨L th.2.1,bk,th.2.2⟩ a r ->∀p H',ax H H'->h9 H' p r->Q (.ref p) H'):lr vs H Q E
noncomputable abbrev r0:List Gd:=["_law_world_here","_law_thing","_law_name","_law_behind"]
noncomputable abbrev Q2:List Gd:=["_law_world_here","_law_thing","_law_name","_law_behind","_law_told_here","e"]
theorem lu:bp Q2 r0^aI u5:=bD
theorem Ob{N y C:FG}{G I:X3}(F:aQ K "_law_told" "_law_told" u5 f fd)(k:vg K mg B M fI dI)(l:vK K mg B N y G)(O:mroIn K M^.ref M=ih true)(R:mroIn K N^.ref M=ih false)(S:mroIn K N^.ref N=ih true)(T:bB P w K mg base (cT P w) 9 C I km (rH M N) "number_asked"):aT P w K mg base aF 10 f fd r0 lr:=by
 refine F.bI lu λQb A outer s H vs Q E U h=>?_
 .obtain @⟨wd,t,tb,tt,wt,Qa,th,o,ws,wb,Qc,L,bk,NU,a,rfl,h,q⟩:=h
  have u:aZ 9 _:=U;intro X;refine#[_,ar (a4 4 lu.nd^cc ai)
   (ar (Lm (λJ D=>ay^a4 4 lu.nd^cc^aa br^aa (K' T u^aa (pv 0)^aa (pv 1)^aa (pv 2)^aa (pv 3) ai) ai)
     rfl Z (AV (j:=5) lu.nd Z Z Z Z Z k.mC k.q (λa=>ay^a4 4 lu.nd^cc^aa br^aa (C8^pv 5) ai)
      (AV (j:=5) lu.nd Z Z Z Z Z l.mC l.q (λa=>ay^a4 4 lu.nd^cc^aa br^aa (C8^pv 5) ai) I5)))
   (ay^a3^pv 4)),?_]
  refine#[bF _,λW v=>?_];have c:=aJ (o:=.tup []) v;generalize upd H W^.tup []=H0 at c⊢;refine jk Z Z Z Z^rH.mk Z (h.same c) (λns e a Y g xa=>?_) (λn e a Y g ya=>?_) λz za Y g=>?_
  .refine#[N,a,Z,Z,.inr #[R,.inl #[S,?_]]]
   obtain⟨d,t,m,p,xb⟩:=xa;refine af Z #[a,_,_,d,_,.ref t,Z,m,p,l.x,l.nk,Z,bQ,λi b=>?_];have r:=aJ (o:=.tup [V.str "endless",.ref t]) b;exact af Z^q (.gf ns) e i _ (c.trans^g.trans r) #[t,ah,r _ _ xb]
  .refine#[M,a,Z,Z,.inl #[O,?_]]
   obtain⟨d,m,p⟩:=ya;refine af Z #[a,_,_,d,_,.str n,Z,m,p,k.x,k.nk,Z,bQ,λi b=>?_];exact af Z^q (.miss n) e i _ (c.trans^g.trans^aJ b) ah
  .refine#[bQ,λi b=>?_]
   exact af Z^q (.told z) za i _ (c.trans^g.trans^aJ b) ah
theorem vi{b:Bool}{A:Prop}{T:St->Hp->Prop}(h7:St->Hp->Prop)(h1:b=true->(∀a H',h7 a H'->T a H')->A)(h2:b≠true->h7 σ H)(c:∀a H',h7 a H'->T a H'):if b=true then A else T σ H:=by
 cases b with
 |true=>exact h1 Z c
 |false=>exact c _ _^h2 b7
theorem iD{α:Type}{xs:am α}(h:i<xs.length):xs.take (i+1)=xs.take i++[xs[i]]:=by rw[dQ,bG h];rfl
theorem Ks{bk:Bk}{l:am Gd}(h:∀y∈l,d4 bk y n=none):c9 bk n l=none:=by
 have:=nJ (x:=n) l h [];rw[e6]at this;exact this
theorem LO{bk:Bk}{l:am Gd}{d:UN}(hi:i<l.length)(h:∀y∈l.take i,d4 bk y n=none)(e:d4 bk l[i] n=ih d):c9 bk n l=ih (l[i],d):=by
 have:=nJ (x:=n) (l.take i) h^l.drop i;rw[w4,lN hi,Ds e]at this;exact this
inductive j5(vs:List V)(H:Hp)(Q:VK)(E:XK):Prop
 |mk{la db:FG}{line:List Gd}{kvs:List (List Key×V)}{bk:Bk}{name gC:Gd}(_:vs=[.ref la,.ref db,.str name,.str gC])(_:H la=ih (.lst (line.map V.str)))(_:H db=ih (.dT kvs))(_:cg H kvs bk)(_:fz bk)(_:gC = "" \/ gC∈line)
  (_:∀v H',ax H H'->eO H' v (c9 bk name (ei line gC))->Q v H'):j5 vs H Q E
noncomputable abbrev r1:List Gd:=["_law_line_here","_law_book_here","_law_name","_law_behind"]
noncomputable abbrev Q3:List Gd:=["_law_line_here","_law_book_here","_law_name","_law_behind","_law_here","_law_kind"]
theorem rJ:bp Q3 r1^aI u4:=bD
theorem Oc(F:aQ K "_law_spot" "_law_spot" u4 f fd):aT P w K mg base aF 1 f fd r1 j5:=by
 refine F.bI rJ λQb A outer s H vs Q E S h=>?_
 .obtain @⟨g,db,line,kvs,bk,name,a,rfl,j,C,dv,ok,T,q⟩:=h
  have D:=d9 S.units;intro X;refine#[_,ar (a4 4 rJ.nd^pv 0)
   (ar (bo (bx je (pv 3) br^bC _) (ay^a4 4 rJ.nd^i0 mf (pv 0) (iz^bN fq (gw hQ VM VN JG (pv 0)^aa (pv 3) ai) aw) i6) bE)
   (ar (ee dZ Z (c7^pv 4) (ba 5 rJ.nd)
    (ay (bo (gr^i9 D (eT^aa (pv 5)^aa (pv 2) ai)^pv 1)
     (ay^a3^eT^aa (pv 5)^aa (dV D (pv 1)^eT^aa (pv 5)^aa (pv 2) ai) ai) bE)))
   (ay^a3 d3))),?_]
  refine aW Z Z #[Z,_,Z,vi (λR H'=>∃b,R=[bd g,bd db,ih^.str name,ih^.str a,bd b,none]/\ax H H'/\H' b=ce^(ei line a).map V.str) (λe k=>?_) (λe=>#[g,Z,ax.refl _,?_]) ?_]
  .have G:a ≠ "" :=λz=>by rw[z]at e;revert e;decide +kernel
   have U:a∈line:=T.resolve_left G;obtain⟨W,xa⟩:=tS U;refine aW Z Z #[.inl #[Z,_,au.of j],_,Z,g,line,a,line.idxOf a,Z,Z,j,W,xa,_,_,Z,Z,_,Z,g,_,Z,au.of j,λc ya=>?_];have e1:ei line a=line.drop (line.idxOf a+1):=by unfold ei;rw[ao G]
   refine k _ _ #[c,Z,dU ya,?_];rw[ah,e1,lT];exact dy ih^dy HO.lst^nZ (line.map V.str) (line.idxOf a+1)
  .have:a = "" :=by
    by_cases z:a = ""
    .exact z
    .exact absurd ⇑z e
   rw[show ei line a=line from aB this];exact j
  .rintro σ Y ⟨b,rfl,za,o⟩
   generalize ei line a=rest at q o;refine#[_,Z,b,Z,#[_,au.of o],gZ (xs:=rest.map V.str) (λi σ H2=>∃u:a2 V,σ=[bd g,bd db,ih^.str name,ih^.str a,bd b,u]/\ax H H2/\H2 b=ce^rest.map V.str /\∀y∈rest.take i,d4 bk y name=none)
    #[none,Z,za,o,λy m=>(by cases m)] (λi σ H2 _ ab=>by obtain⟨_,_,_,z,_⟩:=ab;exact au.of z) ?_ ?_]
   .rintro i x σ H2 xb ⟨u,rfl,B,I,no⟩
    refine hR ?_;intro yd E;obtain⟨J,rfl⟩:=iy xb;refine aW Z Z #[bQ,λkt yb M _ p=>?_];have p:yb kt=bn^([n' rest[i],n' name]:am Key).map kV:=p;have l:=B.trans M;refine af Z #[db,_,Z,b2.t (k:=[n' rest[i],n' name]) (l _ _ C) p,_,Z,?_];rcases (dv.same l).look (k:=rest[i]) (n:=name) ok.nd with⟨e1,e2⟩|⟨v,d,e1,e2,zb⟩
    .rw[e2]
     refine af Z #[l,M _ _ I,λy m=>?_];rw[iD J]at m;rcases bT.mp m with z|z
     .exact no y z
     .rw[bR.mp z];exact e1
    .rw[e2]
     refine jk Z Z Z Z #[bQ,λxc yc N _ r=>?_];have r:yc xc=bn^([n' rest[i],n' name]:am Key).map kV:=r;have L:=l.trans N;refine#[db,v,Z,by rw[<-e2];exact b2.t (L _ _ C) r,bQ,λt zc O _ xd=>?_]
     exact q _ zc (L.trans O) (by rw[LO J no e1];exact#[t,v,Z,xd,(zb.same N).same O])
   .rintro σ H2 ⟨u,rfl,B,I,no⟩
    rw[aE,cF]at no;exact q _ H2 B (by rw[Ks no];rfl)
inductive mO(vs:List V)(H:Hp)(Q:VK)(E:XK):Prop
 |mk{u:V}{d:UN}(_:vs=[u])(_:Ent d)(_:Rep H u d)(_:∀r us H',ax H H'->H' r=ih (.lst us)->bM H' us (b9 d)->Q (.ref r) H'):mO vs H Q E
theorem PB:bp ["_law_entry_here"] ["_law_entry_here"]^aI uo:=bD
theorem Od(F:aQ K "_law_steps" "_law_steps" uo f fd)(B:dw mg):aT P w K mg base aF 1 f fd ["_law_entry_here"] mO:=by
 refine F.bI PB λQb A outer s H vs Q E L h=>?_
 .obtain @⟨u,d,rfl,p,r,q⟩:=h
  intro X;refine#[_,ar (bo (bx dg (aU bu (pv 0) aw) br^bC _) (ay^a3^jW^aa (eT^aa br^aa (aU bu (pv 0) aw) ai) ai) bE)
   (ar (bo (bx dg (aU bu (pv 0) aw) br^bC _) (ay^a3^jW^aa (eT^aa br^aa (aU bu (pv 0) aw) ai)^aa (eT^aa br^aa (aU bu (pv 0) aw) ai) ai) bE)
   (ay^a3^df jH Z B.list boot_list^aa (aU bu (pv 0) aw) ai)),?_]
  cases p with
  |plain n t =>
   obtain⟨a,u,rfl,e,g⟩:=two1 r;obtain rfl:=g.iJ;refine af Z^a7 e b6 #[Z,_,Z,_,Z,a7 e cP #[bQ,λv Y k _ h1=>#[eW,λo H2 i _ h2=>?_]]];exact q o _ H2 (k.trans i) h2^.cons (.tup (i _ _ h1)^.cons (.str _)^.cons (.int _) .nil) .nil
  |ahead x n h t =>
   obtain⟨a,vs,rfl,e,rs⟩:=r.tupI;obtain⟨M,N,rfl,y,rs⟩:=rs.ft;obtain⟨O,R,rfl,g,rs⟩:=rs.ft;obtain⟨S,T,rfl,z,rs⟩:=rs.ft;obtain rfl:=rs.mM;obtain rfl:=y.hB;obtain rfl:=g.hB;obtain rfl:=z.iJ;refine af Z^a7 e b6 #[Z,_,Z,_,Z,a7 e b6 #[Z,_,Z,?_]];refine af Z^a7 e cP #[bQ,λv Y k _ h1=>af Z^a7 (k _ _ e) oN #[bQ,λo H2 i _ h2=>#[bQ,λC D l _ G=>?_]]];exact q C _ D (k.trans^i.trans l) G^.cons (.tup (l _ _^i _ _ h1)^.cons (.str _)^.cons (.str _) .nil)^.cons (.tup (l _ _ h2)^.cons (.str _)^.cons (.int _) .nil) .nil
  |behind ds I J =>
   obtain⟨a,u,rfl,e,g⟩:=two1 r;obtain⟨b,vs,rfl,m,rs⟩:=g.tupI;refine af Z^a7 e b6 #[Z,_,Z,_,Z,a7 e b6 #[Z,_,Z,_,Z,a7 e cP #[b,_,Z,.inr^aX.of m,λc j=>q c _ _ (dU j) ah^rs.same^dU j]]]
  |j2 ds I J =>
   obtain⟨a,u,rfl,e,g⟩:=two1 r;obtain⟨b,vs,rfl,m,rs⟩:=g.tupI;refine af Z^a7 e b6 #[Z,_,Z,_,Z,a7 e b6 #[Z,_,Z,_,Z,a7 e cP #[b,_,Z,.inr^aX.of m,λc j=>q c _ _ (dU j) ah^rs.same^dU j]]]
theorem Tells.or{t u:TT}{a b:Bool}(h:Tells t σ H a)(k:a=false ->∀Y,ax H Y->Tells u σ Y b):Tells (vR t u) σ H (a||b):=λR q=>h _ λY c=>by
 cases a with
 |true=>exact q _ c
 |false=>exact k Z Y c R λH2 d=>q _^c.trans d
theorem vN{t:TT}{a te:TS}{D:L2.Ends}{b:Bool}(h:Tells t σ H b)(k:∀Y,ax H Y->if b=true then a D σ Y else te D σ Y):vm t a te D σ H:=h _ k
def m5:Rs->List V
 |.told z=>[.str "told",.int z]
 |.miss n=>[.str "missing",.str n]
def Q4(H:Hp)(v:V):Option Rs->Prop
 |none=>v=.aK
 |some r=>∃t,v=.ref t/\H t=ih (.tup (m5 r))
def hG(H:Hp)(kk:List (List Key×V))(ka:List (Ask×Rs)):Prop:=VT (λkv p=>kv.1=b3 p.1 /\∃t,kv.2=V.ref t/\H t=ih (.tup (m5 p.2))) kk ka
theorem hG.keep{ka:am (Ask×Rs)}(h:hG H kk ka)(k:∀b xs,H b=bn xs->H' b=bn xs):hG H' kk ka:=Paired.imp' (λ_ _ a=>by obtain⟨e,t,e1,e2⟩:=a;exact #[e,t,e1,k _ _ e2]) h
theorem hG.same{ka:am (Ask×Rs)}(h:hG H kk ka)(S:ax H H'):hG H' kk ka:=h.keep λ_ _ e=>S _ _ e
theorem hG.val{ka:am (Ask×Rs)}(h:hG H kk ka)(a:Ask):(bq kk^b3 a=none/\ka.lookup a=none) \/∃t r,bq kk^b3 a=ih^.ref t/\ka.lookup a=ih r/\H t=bn^m5 r:=by
 induction h with
 |nil=>exact .inl #[Z,Z]
 |@cons d p kk ka e _ f =>
  obtain⟨b,t,e1,e2⟩:=e
  by_cases c:p.1=a
  .exact .inr #[t,p.2,by rw[fg (by rw[b,c]),e1],by rw[<-c];show VP p.1 ((p.1,p.2)::ka)=_;rw[dM,pf],e2]
  .have ne : ¬ d.1=b3 a:=λz=>c^CH^b.symm.trans z
   have g:VP a (p::ka)=ka.lookup a:=by show VP a ((p.1,p.2)::ka)=_;rw[dM,show(a==p.1)=false by simp[aS c]]
   rw[eK ne,g];exact f
theorem LP{d:UN}(e:Ent d):decide (bb d∈(["plain","behind"]:am Gd)) = !jU d:=by
 cases e with
 |plain n=>show decide (("plain" : Gd)∈(["plain","behind"]:am Gd)) = !decide (("plain" : Gd) = "ahead" \/ ("plain" : Gd) = "shut");decide +kernel
 |ahead x n=>show decide (("ahead" : Gd)∈(["plain","behind"]:am Gd)) = !decide (("ahead" : Gd) = "ahead" \/ ("ahead" : Gd) = "shut");decide +kernel
 |behind ds=>show decide (("behind" : Gd)∈(["plain","behind"]:am Gd)) = !decide (("behind" : Gd) = "ahead" \/ ("behind" : Gd) = "shut");decide +kernel
 |j2 ds=>show decide (("shut" : Gd)∈(["plain","behind"]:am Gd)) = !decide (("shut" : Gd) = "ahead" \/ ("shut" : Gd) = "shut");decide +kernel
theorem jc{W:aO}{a:Ask->Option Rs}{w:Gd}{d:UN}{ds:am UN}{t:Int}(c:W.need n w d=none):W.dX a n w (d::ds) t=W.dX a n w ds^stepT t d:=by
 show(match W.need n w d with|none=>_|some b=>_)=_;rw[c]
theorem Kt{d:UN}(e:eo d):bb d = "add" \/ bb d = "times" \/ bb d = "ask" \/ bb d = "onward" :=by
 cases e with
 |add n=>exact .inl Z
 |times n=>exact .inr^.inl Z
 |ask x=>exact .inr^.inr^.inl Z
 |mx=>exact .inr^.inr^.inr Z
theorem eO.same{r:a2 (Gd×UN)}(h:eO H v r)(S:ax H H'):eO H' v r:=by
 cases r with
 |none=>exact h
 |some p=>obtain⟨t,u,e,a,b⟩:=h;exact#[t,u,e,S _ _ a,b.same S]
theorem BW{i j g:Nat}{W:aO}{a:Ask}(h1:σ[i]?=ih^ih^.str n)(h2:σ[j]?=ih^ih^.ref ow)(h:σ[g]?=ih^ih v)(r:H ow=cr^cm W.own)(b:eO H v^W.look a)(o:∀wh d,W.look a=ih (wh,d)->Ent d) :
  Tells (vj (tB^vz (gO i)^gO j)^vR (qG^kc (λx y H Q=>y=.aK/\Q (.bl (decide (x=.aK))) H) (gO g)^tC .aK)^qG^kc (oV K false) (kc (mJ K) (kc (mJ K) (gO g)^tC^.int 1)^tC^.int 0)^DW^uV (tC^.str "plain")^uV (tC^.str "behind") vt) σ H ((W.own.lookup n).isSome&&W.eX a):=by
 refine .and (λR k=>#[_,h1,_,h2,ow,_,Z,b2.k (k:=n' n) r,_,Z,by rw[og,si];exact k _^ax.refl _]) λ_ B l R k=>?_
 cases f:W.look a with
 |none =>
  rw[f]at b;rw[show W.eX a=true by unfold aO.eX;rw[f]]at k
  have b:v=V.aK:=b;subst b;exact#[_,h,Z,_,Z,k _^ax.refl _]
 |some p =>
  obtain⟨y,d⟩:=p;rw[f]at b;rw[show W.eX a = !jU d by unfold aO.eX;rw[f]]at k
  obtain⟨t,u,rfl,s,w⟩:=b;have m:=o y d f;obtain⟨C,xs,rfl,q⟩:=ux m^w.same l;refine#[_,h,Z,_,Z,_,h,a7 (l _ _ s) cP^a7 q b6 #[bQ,λc D z _ A=>#[c,_,Z,.inl^au.of A,Z,Z,?_]]];have e:lG (.str^bb d)^(["plain","behind"]:am Gd).map V.str = !jU d:=by
   rw[i2];exact LP m
  have:=k _ z;rw[<-e]at this;exact af Z this
inductive mQ(vs:List V)(H:Hp)(Q:VK)(E:XK):Prop
 |mk{la db ow dk ky:FG}{line:List Gd}{kvs kk:List (List Key×V)}{bk:Bk}{own:Own}{ka:List (Ask×Rs)}{a:Ask}(_:vs=[.ref la,.ref db,.ref ow,.ref dk,.ref ky])(_:H la=ih (.lst (line.map V.str)))(_:H db=ih (.dT kvs))(_:cg H kvs bk)(_:fz bk)(_:H ow=ih (.dK (cm own)))(_:H dk=ih (.dT kk))(_:hG H kk ka)(_:H ky=ih (.tup [.str a.1,.str a.2]))(_:a.2 = "" \/ a.2∈line)
  (_:∀v H',ax H H'->Q4 H' v (aO.ck ⟨line,bk,own⟩ (λb=>ka.lookup b) a)->Q v H'):mQ vs H Q E
noncomputable abbrev r3:List Gd:=["_law_line_here","_law_book_here","_law_own","_law_known_here","_law_key"]
noncomputable abbrev Q5:List Gd:=["_law_line_here","_law_book_here","_law_own","_law_known_here","_law_key","_law_name","_law_behind","_law_spot_here","_law_total","_law_step_here","_law_here"]
theorem ia:bp Q5 r3^aI v9:=bD
theorem Oe(F:aQ K "_law_go" "_law_go" v9 f fd)(yq:bB P w K mg base aF 1 fS dS r1 j5 "_law_spot")(xB:bB P w K mg base aF 1 fL dL ["_law_entry_here"] mO "_law_steps"):aT P w K mg base aF 2 f fd r3 mQ:=by
 refine F.bI ia λQb A outer s H vs Q E M h=>?_
 .obtain @⟨zq,db,ow,dk,yf,line,kvs,kk,bk,own,ka,a,rfl,yj,zj,dv,ok,xk,xu,kt,yu,yB,q⟩:=h
  have ye:aZ 1 _:=M;have C:=d9 M.units;intro X;refine#[_,ar (g6 (pv 4)^gH Z^cA (ba 5 ia.nd)^cA (ba 6 ia.nd) fM)
   (ar (a4 7 ia.nd^a' yq ye^aa (pv 0)^aa (pv 1)^aa (pv 5)^aa (pv 6) ai)
   (ar (bo (PW.pt^pw_and (bx dg (pv 6) br^bC _)^pw_and (gr^i9 C (pv 5)^pv 2)^pw_and1^PW.pt^pw_or (bx gI (pv 7) d3^bC _)^pw_or1^bx jJ (aU bu (aU bu (pv 7) aw) aw) (jW^aa br^aa br ai) Z)
    (ay^a3^eT^aa br^aa (dV C (pv 2)^pv 5) ai) bE)
   (ar (bo (bx gI (pv 7) d3^bC _) (ay^a3^eT^aa br^aa (pv 5) ai) bE)
   (ar (a4 8 ia.nd aw)
   (ar (ee dZ Z (c7^a' xB ye^aa (aU bu (pv 7) aw) ai) (ba 9 ia.nd)
    (ar (a4 10 ia.nd^eT^aa (pv 5)^aa (aU bu (pv 7) aw) ai)
    (ar (bo (bx dg (aU bu (pv 9) aw) br^bC _) (ay^a4 10 ia.nd^eT^aa (aU bu (pv 9) aw)^aa br ai) bE)
    (ay (bo (bx dg (aU bu (pv 9) aw) br^bC _) (ay^a4 8 ia.nd^bN fq (pv 8)^aU bu (pv 9) aw)
     (ay (bo (bx dg (aU bu (pv 9) aw) br^bC _) (ay^a4 8 ia.nd^bN oi (pv 8)^aU bu (pv 9) aw)
      (ay (bo (PW.pt^pw_or (bx dg (aU bu (pv 9) aw) br^bC _)^pw_or1^gr^tZ^a' yq ye^aa (pv 0)^aa (pv 1)^aa (pv 5)^aa (aU bu (pv 7) aw) ai)
       (ar (bo (gr^tm C (pv 10)^pv 3) (ay^a3 d3) bE)
       (ar (bo (bx dg (aU bu (dV C (pv 3)^pv 10) aw) br^bC _) (ay^a3^dV C (pv 3)^pv 10) bE)
       (ay^a4 8 ia.nd^bN fq (pv 8)^aU bu (dV C (pv 3)^pv 10) aw)))
       bE)))))))))
   (ay^a3^eT^aa br^aa (pv 8) ai)))))),?_]
  generalize zf:(#[line,bk,own]:aO)=W at q;have xg:W.line=line:=by rw[<-zf]
  have eB:W.bk=bk:=by rw[<-zf]
  have yg:W.own=own:=by rw[<-zf]
  refine fj λU j=>?_;intro o D;refine af Z #[yf,_,Z,aX.of yu,Z,_,_,Z,_,_,Z,Z,?_];refine bO j λU j=>?_;intro o D;refine jk Z Z Z Z^j5.mk Z yj zj dv ok yB λv Y xr l=>?_;have yk:W.look a=c9 bk a.1^ei line a.2:=by unfold aO.look;rw[eB,xg]
  rw[<-yk]at l;have yt:=xr _ _ xk;have zk:∀wh d,W.look a=ih (wh,d)->Ent d:=λwh d e=>by rw[yk]at e;exact(kO ok wh d e).2
  have zu:∀wh d,W.look a=ih (wh,d)->wh∈line:=λwh d e=>by rw[<-xg];exact ml e
  refine bO j λU j=>?_;intro o D;have zt:Y ow=cr^cm W.own:=by rw[yg];exact yt
  refine vN (b:=decide (V.str a.2=V.str "")&&((W.own.lookup a.1).isSome&&W.eX a)) (.and (λR k=>af Z #[Z,_,Z,k _^ax.refl _]) λ_ zB G=>BW Z Z Z (G _ _ zt) (eO.same l G) zk) λzB G=>?_;have ya:=xr.trans G
  by_cases zg:a.2 = "" /\ (W.own.lookup a.1).isSome=true/\W.eX a=true
  .obtain⟨xl,yl,zl⟩:=zg
   obtain⟨z,xh⟩:=sd.mp yl;rw[yg]at xh;have xC:bq (cm own)^n' a.1=ih^.int z:=by rw[og,xh];rfl
   have xc:W.c2 a=ih z:=by unfold aO.c2;rw[aB #[xl,zl],yg,xh]
   rw[aB^by rw[yl,zl,xl];rfl]
   refine aW Z Z #[ow,.int z,Z,by rw[<-xC];exact b2.k (k:=n' a.1)^ya _ _ xk,bQ,λt yh zh _ N=>?_]
   exact q _ yh (ya.trans zh) (by unfold aO.ck;rw[xc];exact#[t,Z,N])
  have xc:W.c2 a=none:=by
   unfold aO.c2
   by_cases yc:a.2 = "" /\ W.eX a=true
   .rw[aB yc]
    cases e:W.own.lookup a.1 with
    |none=>rfl
    |some z=>exact absurd #[yc.1,by rw[e];rfl,yc.2] zg
   .rw[ao yc]
  rw[ao^λz=>zg (by
   rw[gW,gW]at z;refine#[?_,z.2.1,z.2.2];have e:=dA z.1;injection e)]
  refine bO j λU j=>?_;intro o D;cases I:W.look a with
  |none =>
   rw[I]at l;have l:v=V.aK:=l;subst l;refine af Z #[Z,_,Z,_,Z,bQ,λt yh zh _ N=>?_];exact q _ yh (ya.trans zh) (by unfold aO.ck;rw[xc,I];exact#[t,Z,N])
  |some p =>
  obtain⟨wh,d⟩:=p;rw[I]at l;obtain⟨t,u,rfl,N,yC⟩:=l;have O:=zk wh d I;have xv:=zu wh d I;have yv:W.ck (λb=>ka.lookup b) a=W.dX (λb=>ka.lookup b) a.1 wh (b9 d) 0:=by unfold aO.ck;rw[xc,I]
  rw[yv]at q;obtain⟨zv,yF⟩:=tU O;have xm:=G _ _ N;refine af Z #[Z,_,Z,?_];refine bO j λU j=>?_;intro o D;refine ?_;refine bO j λU j=>?_;intro o D;refine af Z^a7 xm cP^mO.mk Z O (yC.same G) λzC us xD yr ym zm=>?_;have xn:=ya.trans yr;have yn:=yr _ _ xm;have xw:=bM.length zm;refine#[zC,Z,#[_,au.of ym],gZ (xs:=us) (λi σ zc=>∃(z:Int) (xi ze:a2 V),σ=[bd zq,bd db,bd ow,bd dk,bd yf,ih^.str a.1,ih^.str a.2,bd t,ih^.int z,xi,ze]/\ax xD zc/\W.dX (λb=>ka.lookup b) a.1 wh ((b9 d).drop i) z=W.dX (λb=>ka.lookup b) a.1 wh (b9 d) 0)
   #[0,none,none,Z,ax.refl _,Z] (λi σ zc _ ab=>by obtain⟨_,_,_,_,z,_⟩:=ab;exact au.of^z _ _ ym) ?_ ?_]
  .rintro i x σ zc yD ⟨z,xi,ze,rfl,S,n⟩
   refine hR ?_;intro o D;obtain⟨g,zn,zD⟩:=bM.get (bM.same zm S) yD;have zr:eo g:=zv g^eu zn;have yw:(b9 d).drop i=g::(b9 d).drop (i+1):=by
    obtain⟨hi,e⟩:=b4.mp zn;rw[<-e];exact lN hi
   rw[yw]at n;obtain⟨xt,xs,rfl,zw,xo,xx,yx⟩:=qq zr zD;refine fj λU j=>?_;intro o xE;refine aW Z Z^a7 (S _ _ yn) b6 #[bQ,λh1 yi xd _ zx=>?_];refine bO j λU j=>?_;intro o xE;have xa:=xd _ _ zw;obtain⟨b,za⟩:∃b:Ask,b=if bb g = "ask" then (dq g,("" : Gd)) else (a.1,wh):=#[_,Z];refine af Z #[xt,_,0,_,Z,Z,aX.of xa,b6,Z,_,Z,vi (λxy H'=>∃M,xy=[bd zq,bd db,bd ow,bd dk,bd yf,ih^.str a.1,ih^.str a.2,bd t,ih^.int z,bd xt,bd M]/\ax yi H'/\H' M=bn [.str b.1,.str b.2]) (λe k=>?_) (λe=>#[h1,Z,ax.refl _,?_]) ?_]
   .have e:bb g = "ask" :=by
     have:=dA e;injection this
    have ex:=xx e;rw[ex]at xa;refine af Z^a7 xa cP #[bQ,λh2 yE yd _ yy=>k _ _ #[h2,Z,yd,?_]];rw[za,aB e];exact yy
   .have e:bb g ≠ "ask" :=λz=>e (by rw[z];exact cb Z)
    rw[za,ao e];exact zx
   rintro σ yE ⟨yo,rfl,yd,zE⟩;have zy:=xd.trans yd;have L:=S.trans zy;have xb:=xn.trans L;have B:=yd _ _ xa;have xz:=L _ _ yn;refine fw j ?_;intro o;refine af Z^a7 B b6 #[Z,_,Z,bZ (λe=>?_)^λe=>?_]
   .have e:bb g = "add" :=by
     have:=dA e;injection this
    have ex:=xo^.inl e;rw[ex]at B;refine aW Z Z^a7 B cP #[_,_,Z,Z,_,_,_,Z,L,?_];rw[<-n,jc^by unfold aO.need;rw[ao (by rw[e];decide +kernel),ao^by rw[e];decide +kernel]]
    unfold stepT;rw[aB e]
   have xf:bb g ≠ "add" :=λz=>e (by rw[z];exact cb Z)
   refine af Z^a7 B b6 #[Z,_,Z,bZ (λe=>?_)^λe=>?_]
   .have e:bb g = "times" :=by
     have:=dA e;injection this
    have ex:=xo^.inr e;obtain⟨lo,hi⟩:=yx e;rw[ex]at B;refine aW Z Z^a7 B cP #[_,_,Z,Z,.inr #[(),()],_,_,_,Z,L,?_]
    rw[<-n,jc^by unfold aO.need;rw[ao (by rw[e];decide +kernel),ao^by rw[e];decide +kernel]]
    unfold stepT;rw[ao xf,aB e]
   have zo:bb g ≠ "times" :=λz=>e (by rw[z];exact cb Z)
   refine vN (b:=decide (V.str^bb g=V.str "ask")||(W.look (a.1,wh)).isSome) (.or (λR k=>af Z^a7 B b6 #[Z,_,Z,k _^ax.refl _]) λ_ T y R k=>?_) λT y=>?_
   .refine jk Z Z Z Z^a7 (y _ _ xz) b6^j5.mk Z ((xb.trans y) _ _ yj) ((xb.trans y) _ _ zj) (dv.same^xb.trans y) ok (.inr xv) λv zF xp l=>?_
    have:c9 bk a.1^ei line wh=W.look (a.1,wh):=by unfold aO.look;rw[eB,xg]
    rw[this]at l;cases yp:W.look (a.1,wh) with
    |none =>
     rw[yp]at l k;have l:v=V.aK:=l;subst l;exact af Z^k _ xp
    |some p =>
     rw[yp]at l k;obtain⟨t',xG,rfl,_⟩:=l;exact af Z^k _ xp
   have zp:=L.trans y;have yb:=xb.trans y;have yz:=y _ _ zE;have xq:T yo=bn^(b3 b).map kV:=yz;have tg:bb g = "ask" \/ bb g = "onward" :=by
    rcases Kt zr with e|e|e|e
    .exact absurd e xf
    .exact absurd e zo
    .exact .inl e
    .exact .inr e
   have an:∀c:Bool,c=(decide (V.str^bb g=V.str "ask")||(W.look (a.1,wh)).isSome)->(c=true->W.need a.1 wh g=ih b)/\(c=false->W.need a.1 wh g=none/\bb g = "onward"):=λc zd=>by
    rcases tg with e|e
    .have:c=true:=by rw[zd,e];simp
     exact#[λ_=>by unfold aO.need;rw[aB e,za,aB e],λz=>by rw[this]at z;cases z]
    .have n1:bb g ≠ "ask" :=by rw[e];decide +kernel
     have e1:decide (V.str^bb g=V.str "ask")=false:=er λz=>n1 (by injection z)
     rw[e1,wW]at zd;have O:W.need a.1 wh g=if (W.look (a.1,wh)).isSome=true then ih (a.1,wh) else none:=by unfold aO.need;rw[ao n1,aB e]
     exact#[λz=>by rw[O,<-zd,aB z,za,ao n1],λz=>#[by rw[O,<-zd,ao^by rw[z];exact b7],e]]
   obtain⟨zz,xA⟩:=an _ Z;refine bZ (λc=>?_)^λc=>?_
   .have zi:=zz c
    rw[g4 zi]at n;refine fj λU j=>?_;intro o xF;have yA:=kt.same yb;have xj:=yb _ _ xu;refine aW Z Z #[dk,_,Z,b2.t (k:=b3 b) xj xq,_,Z,?_];rcases yA.val b with⟨e1,e2⟩|⟨J,r,e1,e2,zb⟩
    .rw[e1]
     rw[e2]at n;exact q _ T yb (by rw[<-n];rfl)
    .rw[e1]
     rw[e2]at n;refine bO j λU j=>?_;intro o xF;have xe:b2 T dk (.ref yo)^ih^.ref J:=by rw[<-e1];exact b2.t (k:=b3 b) xj xq
     cases r with
     |miss m =>
      refine aW Z Z #[dk,.ref J,Z,xe,a7 zb b6 #[Z,_,Z,?_]];refine bZ (λ_=>?_)^λz=>absurd (cb Z) z;exact aW Z Z #[dk,.ref J,Z,xe,q _ T yb^by rw[<-n];exact#[J,Z,zb]]
     |told z2 =>
      refine aW Z Z #[dk,.ref J,Z,xe,a7 zb b6 #[Z,_,Z,?_]];refine bZ (λz=>absurd z ⋯)^λ_=>?_
      refine fw j ?_;intro o;exact cZ Z Z Z #[dk,.ref J,Z,xe,a7 zb cP #[_,_,Z,Z,_,_,_,Z,zp,n]]
   .obtain⟨zi,e⟩:=xA ⇑c
    rw[jc zi]at n;have:stepT z g=z:=by unfold stepT;rw[ao xf,ao zo]
    rw[this]at n;exact#[_,_,_,Z,zp,n]
  .rintro σ zc ⟨z,xi,ze,rfl,S,n⟩
   rw[xw,Ag]at n;refine fw j ?_;intro o;refine af Z #[bQ,λt' yi xd _ zA=>?_];exact q _ yi (xn.trans^S.trans xd) (by rw[<-n];exact#[t',Z,zA])
def ES(W:aO)(ka:List (Ask×Rs)):Prop:= ∀p∈ka,W.Out p.1 p.2
theorem lookup_mem{a:Ask}{r:Rs}:∀{ka:am (Ask×Rs)},ka.lookup a=ih r->(a,r)∈ka
 |[],e=>by cases e
 |p::ka,e=>by
  by_cases c:a=p.1
  .subst c
   have e:VP p.1 ((p.1,p.2)::ka)=ih r:=e;rw[dM,pf]at e;cases e;exact aY
  .have e:VP a ((p.1,p.2)::ka)=ih r:=e
   rw[dM,show(a==p.1)=false by simp[c]]at e
   exact bh _^lookup_mem e
theorem lookup_none{a:Ask}:∀{ka:am (Ask×Rs)},ka.lookup a=none ↔ a ∉ ka.map (·.1)
 |[]=>by simp
 |p::ka=>by
  have b:=lookup_none (a:=a) (ka:=ka);show VP a ((p.1,p.2)::ka)=none ↔ _;rw[dM,bY,bL]
  by_cases c:a=p.1
  .simp[c]
  .rw[show(a==p.1)=false by simp[c]]
   simp only[c,false_or];exact b
section
variable{W:aO}{f g:Ask->Option Rs}{w:Gd}{ka:am (Ask×Rs)}
theorem tE(h:∀b r,f b=ih r->W.Out b r):∀{ds:am UN}{t:Int}{r:Rs},W.dX f n w ds t=ih r ->∃k,W.dX (W.out k) n w ds t=ih r
 |[],t,r,e=>#[0,e]
 |d::ds,t,r,e=>by
  cases a:W.need n w d with
  |none =>
   rw[jc a]at e;obtain⟨k,c⟩:=tE h e;exact#[k,by rw[jc a];exact c]
  |some b =>
   rw[g4 a]at e;cases g:f b with
   |none=>rw[g]at e;cases e
   |some x =>
    obtain⟨k,c⟩:=h b x g;rw[g]at e;cases x with
    |miss m=>exact#[k,by rw[g4 a,c];exact e]
    |told z =>
     obtain⟨m,i⟩:=tE h e;refine#[max k m,?_];rw[g4 a,mz (aaL k m) c];exact n0 (λ_ _ q=>mz (aay k m) q) i
theorem AB(h:∀b r,f b=ih r->W.Out b r){a:Ask}{r:Rs}(e:W.ck f a=ih r):W.Out a r:=by
 unfold aO.ck at e;cases c:W.c2 a with
 |some z=>rw[c]at e;cases e;exact Out.own c
 |none =>
  rw[c]at e;cases d:W.look a with
  |none=>rw[d]at e;cases e;exact Out.none c d
  |some p =>
   rw[d]at e;obtain⟨k,g⟩:=tE h e;exact#[k+1,by show W.ck _ a=_;unfold aO.ck;rw[c,d];exact g]
theorem tF{k:Ask->Prop}(h:∀b r,k b->f b=ih r->g b=ih r):∀{ds:am UN}{t:Int}{r:Rs},(∀s∈ds,∀b,W.need n w s=ih b->k b)->W.dX f n w ds t=ih r->W.dX g n w ds t=ih r
 |[],t,r,_,e=>e
 |d::ds,t,r,a,e=>by
  cases c:W.need n w d with
  |none=>rw[jc c]at e⊢;exact tF h (λs i=>a s^bh _ i) e
  |some b =>
   rw[g4 c]at e⊢;cases j:f b with
   |none=>rw[j]at e;cases e
   |some x =>
    rw[h b x (a d aY b c) j];rw[j]at e;cases x with
    |miss m=>exact e
    |told z=>exact tF h (λs i=>a s^bh _ i) e
def Within(W:aO)(Uv:Ask->Prop)(a:Ask):Prop:= ∀wh d,W.look a=ih (wh,d) ->∀s∈b9 d,∀b,W.need a.1 wh s=ih b->Uv b
theorem AD{d:Ask->Prop}(h:∀b r,d b->f b=ih r->g b=ih r){a:Ask}(wi:Within W d a){r:Rs}(e:W.ck f a=ih r):W.ck g a=ih r:=by
 unfold aO.ck at e⊢;cases i:W.c2 a with
 |some z=>rw[i]at e;exact e
 |none =>
  rw[i]at e;cases c:W.look a with
  |none=>rw[c]at e;exact e
  |some p=>rw[c]at e;exact tF h (wi p.1 p.2 c) e
structure Table(W:aO)(Uv:Ask->Prop)(ka:List (Ask×Rs)):Prop where
 ok:ES W ka
 cl:∀a,Uv a->ka.lookup a=none->W.ck (λb=>ka.lookup b) a=none
 wi:∀a,Uv a->Within W Uv a
theorem Table.all{d:Ask->Prop}(T:Table W d ka):∀(k:Nat) (a:Ask) (r:Rs),d a->W.out k a=ih r->ka.lookup a=ih r
 |0,_,_,_,e=>by cases e
 |k+1,a,r,u,e=>by
  have e2:W.ck (λb=>ka.lookup b) a=ih r:=AD (λb c g=>T.all k b c g) (T.wi a u) e;cases f:ka.lookup a with
  |none=>rw[T.cl a u f]at e2;cases e2
  |some c=>exact dy ih^Out.uniq (T.ok (a,c)^lookup_mem f) #[k+1,e]
theorem Table.a6{d:Ask->Prop}(T:Table W d ka){a:Ask}(wi:Within W d a)(r:Rs):W.ck (λb=>ka.lookup b) a=ih r ↔ W.Out a r:=by
 constructor
 .exact AB λb c e=>T.ok (b,c)^lookup_mem e
 .rintro⟨k,f⟩
  cases k with
  |zero=>cases f
  |succ k=>exact AD (λb c g=>T.all k b c g) wi f
end
def o3(W:aO)(ns:List Gd)(a:Ask):Prop:=a.1∈ns/\(a.2 = "" \/ a.2∈W.line)
theorem within{W:aO}(i:∀p∈W.bk,∀s∈b9 p.2.2,bb s = "ask" -> dq s∈ns)(j:∀p∈W.bk,p.2.1∈ns)(a:Ask):Within W (o3 W ns) a:=by
 intro wh d f s k b e;have g:(wh,a.1,d)∈W.bk:=kF (jS f).2;unfold aO.need at e
 by_cases c:bb s = "ask"
 .rw[aB c]at e;cases e;exact#[i _ g s k c,.inl Z]
 .rw[ao c]at e
  by_cases h:bb s = "onward"
  .rw[aB h]at e
   split at e
   .cases e;exact#[j _ g,.inr^ml f]
   .cases e
  .rw[ao h]at e;cases e
def fU(H:Hp)(vs:List V)(as:List Ask):Prop:=VT (λv a=>∃t,v=V.ref t/\H t=ih (.tup [.str a.1,.str a.2])) vs as
theorem fU.keep{a:am Ask}(h:fU H vs a)(k:∀b xs,H b=bn xs->H' b=bn xs):fU H' vs a:=Paired.imp' (λ_ _ c=>by obtain⟨t,e,q⟩:=c;exact #[t,e,k _ _ q]) h
theorem fU.same{a:am Ask}(h:fU H vs a)(S:ax H H'):fU H' vs a:=h.keep λ_ _ e=>S _ _ e
theorem fU.append{a bs:am Ask}(h:fU H vs a)(g:fU H ws bs):fU H (vs++ws) (a++bs):=by
 induction h with
 |nil=>exact g
 |cons e _ b=>exact .cons e b
def g5(ns bs:List Gd):List Ask:=bs.flatMap λb=>ns.map λn=>(n,b)
theorem AE{bs:am Gd}{a:Ask}:a∈g5 ns bs ↔ a.1∈ns/\a.2∈bs:=by
 unfold g5;rw[pD]
 constructor
 .rintro⟨b,c,h⟩
  obtain⟨n,d,rfl⟩:=a8.mp h;exact#[d,c]
 .rintro⟨h1,h2⟩
  exact#[a.2,h2,a8.mpr #[a.1,h1,Z]]
theorem AF(ns:am Gd):∀bs:am Gd,(g5 ns bs).length=bs.length * ns.length
 |[]=>by simp[g5]
 |b::bs=>by
  have a:=AF ns bs;unfold g5 at a⊢;rw[Gx,cz,a,aE,c4,sy,abG,Nat.add_comm]
theorem A7{ns:am Gd}(a:ns.Nodup):∀{bs:am Gd},bs.Nodup->(g5 ns bs).Nodup
 |[],_=>ff
 |b::bs,d=>by
  obtain⟨h1,h2⟩:=d6.mp d;have f:=A7 a h2;show((ns.map λn=>((n,b):Ask))++g5 ns bs).Nodup;refine dz.mpr #[a.map _ λx y n e=>n (aaJ e).1,f,λx g y c e=>?_];obtain⟨n,_,rfl⟩:=a8.mp g;exact h1 (by rw[<-e]at c;exact(AE.mp c).2)
structure KI(H0:Hp)(W:aO)(all:List Ask)(dk:FG)(kk:List (List Key×V))(ka:List (Ask×Rs))(H:Hp):Prop where
 S:ax H0 H
 hd:H dk=ih (.dT kk)
 kt:hG H kk ka
 ok:ES W ka
 nd:(ka.map (·.1)).Nodup
 cO:∀p∈ka,p.1∈all
theorem KI.a5{W:aO}{all:am Ask}{ka:am (Ask×Rs)}(h:KI H0 W all dk kk ka H):kk.length<=all.length:=by
 have:=k' h.nd λx a=>(by obtain⟨p,b,rfl⟩:=a8.mp a;exact h.cO p b:x∈all)
 rw[aE]at this;rw[cy h.kt];exact this
theorem KI.same{W:aO}{all:am Ask}{ka:am (Ask×Rs)}(h:KI H0 W all dk kk ka H)(S:ax H H'):KI H0 W all dk kk ka H':=#[h.S.trans S,S _ _ h.hd,h.kt.same S,h.ok,h.nd,h.cO]
theorem KI.wr{W:aO}{all:am Ask}{ka:am (Ask×Rs)}(h:KI H0 W all dk kk ka H)(k:∀b o,b≠l->H b=ih o->H' b=ih o)(n:dk≠l)(f:H0 l=none)(a:H l=ce xs):KI H0 W all dk kk ka H':=#[λb o e=>k _ _ (aA e f)^h.S _ _ e,k _ _ n h.hd,h.kt.keep λb ys e=>k _ _ (aq e a) e,h.ok,h.nd,h.cO]
theorem KI.put{W:aO}{all:am Ask}{t:FG}{ka:am (Ask×Rs)}{a:Ask}{r:Rs}(h:KI H0 W all dk kk ka H)(f:H0 dk=none)(g:a ∉ ka.map (·.1))(i:a∈all)(o:W.Out a r)(j:H t=bn^m5 r):KI H0 W all dk (kk++[(b3 a,.ref t)]) (ka++[(a,r)])^upd H dk^.dT (kk++[(b3 a,.ref t)]):=by
 have up:∀b xs,H b=bn xs->upd H dk (.dT (kk++[(b3 a,.ref t)])) b=bn xs:=λb xs e=>by rw[ag^aq e h.hd];exact e
 refine#[λb o e=>by rw[ag^aA e f];exact h.S _ _ e,ah,gX (h.kt.keep up) #[Z,t,Z,up _ _ j],λp c=>?_,?_,λp c=>?_]
 .rcases bT.mp c with z|z
  .exact h.ok p z
  .rw[bR.mp z];exact o
 .rw[bj]
  exact dz.mpr #[h.nd,by simp,λx k y d e=>g^by have d:y=a:=bR.mp d;rw[<-d,<-e];exact k]
 .rcases bT.mp c with z|z
  .exact h.cO p z
  .rw[bR.mp z];exact i
inductive mR(vs:List V)(H:Hp)(Q:VK)(E:XK):Prop
 |mk{la db ow ln:FG}{line ns:List Gd}{kvs:List (List Key×V)}{bk:Bk}{own:Own}(_:vs=[.ref la,.ref db,.ref ow,.ref ln])(_:H la=ih (.lst (line.map V.str)))(_:H db=ih (.dT kvs))(_:cg H kvs bk)(_:fz bk)(_:H ow=ih (.dK (cm own)))(_:H ln=ih (.lst (ns.map V.str)))(_:ns.Nodup)(_:line.Nodup)(_:∀k∈line,k ≠ "")(_:ns.length<=8)(_:line.length<=8)
  (_:∀p∈bk,∀s∈b9 p.2.2,bb s = "ask" -> dq s∈ns) (_:∀p∈bk,p.2.1∈ns)
  (_:∀dk kk ka H',ax H H'->H dk=none->H' dk=ih (.dT kk)->hG H' kk ka->Table ⟨line,bk,own⟩ (o3 ⟨line,bk,own⟩ ns) ka->Q (.ref dk) H'):mR vs H Q E
noncomputable abbrev r4:List Gd:=["_law_line_here","_law_book_here","_law_own","_law_names_here"]
noncomputable abbrev Fo:List Gd:=["_law_line_here","_law_book_here","_law_own","_law_names_here","_law_left","_law_behind","_law_known_here","_law_turn","_law_rest","_law_key","_law_told_here"]
theorem iM:bp Fo r4^aI oz:=bD
def ET(e:VH):VH:=match e with|.BinOp _ _ r _=>r|_=>.Constant .none 0 ⟨0,0,0,0⟩
abbrev Q6:VH:=ET (fy (bW (mj (bW (bJ oz) 1)) 0))
theorem EU:b8 Fo (aI oz) ["_law_name","_law_behind"] [none,ih 5]^cK Q6:=dF
theorem Of(F:aQ K "_law_known" "_law_known" oz f fd)(B:dw mg)(zJ:bB P w K mg base aF 2 fG dG r3 mQ "_law_go"):aT P w K mg base aF 3 f fd r4 mR:=by
 refine F.bI iM λQb A outer s H vs Q E yB h=>?_
 .obtain @⟨yk,db,ow,ln,line,ns,kvs,bk,own,rfl,zw,zD,dv,ok,xE,yE,zE,xF,yF,xK,zN,xb,yK,q⟩:=h
  have zF:aZ 2 _:=yB;have xG:=d9 yB.units;intro X;refine#[_,ar (a4 4 iM.nd^jW ai)
   (ar (ee dZ Z (c7^bN kW (Mj^pv 0)^jW^aa br ai) (qf (i:=5) iM.nd Z^YS Z)
    (ay^a4 4 iM.nd^bN kW (pv 4)^d7 Z EU (c7^pv 3)^λs H fp=>#[ba 0 EU.nd,ey,eT^aa (pv 0)^aa (pv 1) ai]))
   (ar (a4 6 iM.nd nS)
   (ar (ee dZ Z (iZ Z B.range^aa (bV eQ Z B.len ew^aa (pv 4) ai) ai) (ba 7 iM.nd)
    (ar (a4 8 iM.nd^jW ai)
    (ar (ee dZ Z (c7^pv 4) (ba 9 iM.nd)
     (ar (a4 10 iM.nd^a' zJ zF^aa (pv 0)^aa (pv 1)^aa (pv 2)^aa (pv 6)^aa (pv 9) ai)
     (ay^bo (bx gI (pv 10) d3^bC _) (ay^eL^gw hQ nB nC jK (pv 8)^aa (pv 9) ai)^ay^f5 xG (pv 6) (pv 9) (pv 10) Z)))
    (ar (bo (bx dg (bV eQ Z B.len ew^aa (pv 8) ai) (bV eQ Z B.len ew^aa (pv 4) ai)^bC _) (ay^a3^pv 6) bE)
    (ay^a4 4 iM.nd^pv 8)))))
   (ay^a3^pv 6)))),?_]
  generalize zq:(#[line,bk,own]:aO)=W at q;have zB:W.line=line:=by rw[<-zq]
  have eB:W.bk=bk:=by rw[<-zq]
  refine fj λU C=>?_;intro l xr;refine#[bF _,λyG Y yr xN xx=>?_];refine bO C λU C=>?_;intro l xr;refine af Z #[yk,_,Z,au.of^yr _ _ zw,λx1 yn=>#[by show 1<=UM;exact eW,λx2 H2 zk yN yx=>#[x1,x2,_,_,Z,Z,zk _ _ ah,yx,by rw[F5,aE,aV];show _+1<=_;omega,λx3 zn=>?_]]]
  have xj:=(yr.trans^dU (o:=.lst^(line.map V.str).reverse) yn).trans (zk.trans^dU (o:=.lst ((line.map V.str).reverse++[V.str ""])) zn);have xo:=(zk.trans^dU (o:=.lst ((line.map V.str).reverse++[V.str ""])) zn) _ _^dU (o:=.lst^(line.map V.str).reverse) yn _ _ xx;have e3:(line.map V.str).reverse++[V.str ""]=(line.reverse++[("" : Gd)]).map V.str:=by rw[bj,List.map_reverse];rfl
  have xf:upd H2 x3 (.lst ((line.map V.str).reverse++[V.str ""])) x3=ce^(line.reverse++[("" : Gd)]).map V.str:=by rw[e3];exact ah
  generalize upd H2 x3^.lst ((line.map V.str).reverse++[V.str ""])=zK at xj xf xo⊢;have cE:(line.reverse++[("" : Gd)]).Nodup:=dz.mpr #[(List.reverse_perm line).nodup_iff.mpr xF,by simp,λx yf y d e=>yF x (aao.mp yf)^by rw[e];exact bR.mp d]
  have zl:∀b,b∈line.reverse++[("" : Gd)] ↔ b = "" \/ b∈line:=λb=>by rw[bT,aao,bR];exact Or.comm
  have xw:(line.reverse++[("" : Gd)]).length<=9:=by rw[cz,F5];show _+1<=9;omega
  generalize line.reverse++[("" : Gd)]=bs at xf cE zl xw;clear e3 zn;have xm:∀i,(g5 ns^bs.take i).length<=72:=λi=>by
   rw[AF];have h1:(bs.take i).length<=9:=by rw[cH];omega
   exact ec (Ak h1 xK) ∅
  refine#[_,Z,#[_,au.of xf],gZ (xs:=bs.map V.str) (λi σ G=>∃(lf:FG) (vs:am V) (ya:a2 V),σ=[bd yk,bd db,bd ow,bd ln,bd lf,ya,none,none,none,none,none]/\ax zK G/\G lf=ce vs/\fU G vs^g5 ns^bs.take i)
   #[yG,[],none,Z,ax.refl _,xo,.nil] (λi σ G _ ab=>by obtain⟨_,_,_,_,z,_⟩:=ab;exact au.of^z _ _ xf) ?_ ?_]
  .rintro i x σ G yf ⟨lf,vs,ya,rfl,zf,D,av⟩
   refine hR ?_;intro l xL;obtain⟨zG,rfl⟩:=iy yf;have yw:=(xj.trans zf) _ _ yE;refine aW Z Z #[ln,Z,#[_,au.of yw],λc xC=>?_];refine fB (xs:=ns.map V.str) (λm ys l I=>∃zr:a2 V,l=[zr,ih^.str bs[i]]/\ax G I/\I c=ce ys/\fU I ys^(ns.take m).map λn=>(n,bs[i])) #[none,Z,dU xC,ah,.nil] (λm ys l I ab=>by obtain⟨_,_,z1,z2,_⟩:=ab;exact #[z2,au.of^z1 _ _ yw]) ?_ ?_
   .rintro m y ys l I d ⟨zr,rfl,xe,yo,xd⟩
    obtain⟨xH,rfl⟩:=iy d;refine aW Z Z #[bQ,λt xt O _ xg=>?_];have zx:=O _ _ yo;have up:∀b xs,xt b=bn xs->upd xt c (.lst (ys++[V.ref t])) b=bn xs:=λb xs e=>by rw[ag^aq e zx];exact e
    have yl:=cy xd;rw[aE,cH]at yl;refine#[zx,by rw[aV];omega,cw_next (b4.mp d).1 #[_,Z,λb o e=>by rw[ag^aA e xC];exact O _ _^xe _ _ e,ah,?_]]
    rw[iD xH,bj];exact gX ((xd.same O).keep up) #[t,Z,up _ _ xg]
   .rintro ys l I ⟨zr,rfl,xe,yo,xd⟩
    rw[aE,cF]at xd;have lv:=cy av;have xO:=xm i;have yL:=cy xd;rw[aE]at yL;refine#[lf,c,vs,ys,Z,Z,xe _ _ D,yo,by rw[aV];omega,λr zo=>?_]
    refine#[r,vs++ys,_,Z,zf.trans^xe.trans^dU zo,ah,?_];rw[iD zG];show fU _ _^(bs.take i++[bs[i]]).flatMap _;rw[pE];refine((av.same xe).same (dU zo)).append ?_;rw[Gx,List.flatMap_nil,e6];exact xd.same^dU zo
  rintro σ G ⟨lf,vs,ya,rfl,zf,D,av⟩;rw[aE,cF]at av;have xy:=xm bs.length;rw[cF]at xy;have yy:(g5 ns bs).Nodup:=A7 zE cE;have xh:∀a,a∈g5 ns bs ↔ o3 W ns a:=λa=>by rw[AE,zl,<-zB];rfl
  have yt:ax H G:=xj.trans zf;clear xm xf xx xo yn yx yr zk xj zf cE zl xw;generalize g5 ns bs=all at av xy yy xh;refine bO C λU C=>?_;intro l xr;intro dk ye;have yC:=yt.trans^dU (o:=.dT []) ye;have xp:KI H W all dk [] []^upd G dk^.dT []:=#[yC,ah,.nil,λp zt=>(by cases zt),ff,λp zt=>(by cases zt)]
  have yh:=dU (o:=.dT []) ye _ _ D;have yj:=av.same^dU (o:=.dT []) ye;have yp:H dk=none:=yt.free ye;generalize upd G dk^.dT []=yO at xp yh yj⊢;clear yC D av yt ye;refine bO C λU C=>?_;intro l xr;refine af Z #[lf,vs,Z,.inl^au.of yh,_,Z,?_];have lv:=cy yj;have zy:=within (W:=W) (ns:=ns) (by rw[eB];exact xb) (by rw[eB];exact yK)
  refine#[(),(),l0 (λi σ I=>∃(lf:FG) (vs:am V) (left:am Ask) (kk:am (List Key×V)) (ka:am (Ask×Rs)) (ya yb xu zb za:a2 V),σ=[bd yk,bd db,bd ow,bd ln,bd lf,ya,bd dk,yb,xu,zb,za]/\KI H W all dk kk ka I/\I lf=ce vs/\fU I vs left/\left.Nodup/\(∀a∈left,a∈all)/\left.length+i<=all.length/\(∀a∈all,a∈left\/a∈ka.map (·.1)) /\∀a∈left,a ∉ ka.map (·.1))
   #[lf,vs,all,[],[],_,none,none,none,none,Z,xp,yh,yj,yy,λa xb=>xb,aP _,λa xb=>.inl xb,λa _ h=>(by cases h)] ?_ ?_]
  .clear xp yh yj lv
   rintro i σ I hi ⟨lf,vs,left,kk,ka,ya,yb,xu,zb,za,rfl,g,D,av,zh,xi,ym,zj,fresh⟩;refine hR ?_;intro l xL;have lv:=cy av;refine fj λU C=>?_;intro l zL;refine#[bF _,λJ xt O xz M=>?_];have xk:=g.same O;have yi:=O _ _ D;have zp:=av.same O;have yz:dk≠J:=aq xk.hd M
   have yH:lf≠J:=aA D xz;have zH:H J=none:=g.S.free xz;refine bO C λU C=>?_;intro l zL;refine#[_,Z,lf,Z,#[_,au.of yi],gZ (xs:=vs) (λj σ R=>∃(L:am V) (rest:am Ask) (N:am (List Key×V)) (u:am (Ask×Rs)) (yb zb za:a2 V),σ=[bd yk,bd db,bd ow,bd ln,bd lf,ya,bd dk,yb,bd J,zb,za]/\KI H W all dk N u R/\R lf=ce vs/\fU R vs left/\R J=ce L/\fU R L rest/\rest.Sublist^left.take j/\(∀a∈left.take j,a∈rest\/a∈u.map (·.1))/\(∀a∈rest,a ∉ u.map (·.1))/\(∀a∈left.drop j,a ∉ u.map (·.1))/\(∀a∈ka.map (·.1),a∈u.map (·.1))/\(rest.length=j->u=ka /\∀a∈left.take j,W.ck (λb=>ka.lookup b) a=none))
    #[[],[],kk,ka,_,_,_,Z,xk,yi,zp,M,.nil,.refl _,λa h=>(by cases h),λa h=>(by cases h),λa h=>fresh a h,λa h=>h,λ_=>#[Z,λa h=>(by cases h)]] (λj σ R _ ab=>by obtain⟨_,_,_,_,_,_,_,_,_,z,_⟩:=ab;exact au.of z) ?_ ?_]
   .clear xk yi zp M g D av O
    rintro j x σ R yf ⟨L,rest,N,u,yb,zb,za,rfl,g,D,av,M,ze,sub,yc,zg,xl,zi,same⟩;refine hR ?_;intro l xM;obtain⟨a,zm,t,rfl,xg⟩:=L2.Paired.get av yf;have zz:j<left.length:=(b4.mp zm).1;have xA:left[j]=a:=(b4.mp zm).2;have zC:a∈left:=eu zm;have yg:=(xh a).mp (xi a zC);have zc:left.take (j+1)=left.take j++[a]:=by rw[iD zz,xA]
    have xq:left.drop j=a::left.drop (j+1):=by rw[lN zz,xA]
    have yu:a ∉ u.map (·.1):=xl a (by rw[xq];exact aY)
    have zv:∀y∈left.drop (j+1),y ∉ u.map (·.1):=λy d=>xl y (by rw[xq];exact bh _ d)
    have yM:=sub.length_le;rw[cH]at yM;have yA:=cy ze;refine fj λU C=>?_;intro l zO;refine q2 Z Z Z Z Z^mQ.mk Z (g.S _ _ zw) (g.S _ _ zD) (dv.same g.S) ok (g.S _ _ xE) g.hd g.kt xg (by rw[<-zB];exact yg.2) λv T xc rs=>?_
    rw[zq]at rs;have xa:=g.same xc;have xn:=xc _ _ D;have zd:=xc _ _ M;have zA:=av.same xc;have xB:=ze.same xc;refine fw C ?_;intro l;cases es:W.ck (λb=>u.lookup b) a with
    |none =>
     rw[es]at rs;have rs:v=V.aK:=rs;subst rs;refine af Z #[Z,_,Z,?_];refine af Z #[.inl #[Z,_,au.of zd],_,Z,J,L,_,Z,Z,zd,by rw[aV];omega,?_]
     have up:∀b o,b≠J->T b=ih o->upd T J (.lst (L++[V.ref t])) b=ih o:=λb o n e=>by rw[ag n];exact e
     have yd:∀b xs,T b=bn xs->upd T J (.lst (L++[V.ref t])) b=bn xs:=λb xs e=>up _ _ (aq e zd) e
     refine#[L++[V.ref t],rest++[a],N,u,_,_,_,Z,xa.wr up yz zH zd,up _ _ yH xn,zA.keep yd,ah,gX (xB.keep yd) #[t,Z,yd _ _^xc _ _ xg],by rw[zc];exact sub.append^abZ _,λy d=>?_,λy d=>?_,zv,zi,λzu=>?_]
     .rw[zc]at d
      rcases bT.mp d with z|z
      .exact(yc y z).imp (λz=>gj _ z) id
      .exact .inl^et _ z
     .rcases bT.mp d with z|z
      .exact zg y z
      .rw[bR.mp z];exact yu
     .obtain⟨e1,e2⟩:=same (by rw[cz]at zu;simpa using zu)
      refine#[e1,λy d=>?_];rw[zc]at d;rcases bT.mp d with z|z
      .exact e2 y z
      .rw[bR.mp z,<-e1];exact es
    |some r =>
     rw[es]at rs;obtain⟨xD,rfl,xI⟩:=rs;refine af Z #[Z,_,Z,?_];have yI:T t=bn^(b3 a).map kV:=xc _ _ xg;have a5:=xa.a5;refine cZ Z Z Z #[dk,_,Z,eG.t (k:=b3 a) xa.hd yI (by rw[aV];omega),?_]
     have zI:bq N^b3 a=none:=by
      rcases xa.kt.val a with⟨e1,_⟩|⟨_,_,_,e2,_⟩
      .exact e1
      .exact absurd (a8.mpr #[_,lookup_mem e2,Z]) yu
     rw[i4 _ zI];have xJ:W.Out a r:=AB (λb zM e=>xa.ok (b,zM)^lookup_mem e) es;have up:∀b o,b≠dk->T b=ih o->upd T dk (.dT (N++[(b3 a,.ref xD)])) b=ih o:=λb o n e=>by rw[ag n];exact e
     have yd:∀b xs,T b=bn xs->upd T dk (.dT (N++[(b3 a,.ref xD)])) b=bn xs:=λb xs e=>up _ _ (aq e xa.hd) e
     refine#[L,rest,_,u++[(a,r)],_,_,_,Z,xa.put yp yu (xi a zC) xJ xI,up _ _ (aq xn xa.hd) xn,zA.keep yd,up _ _ (aS yz) zd,xB.keep yd,by rw[zc];exact sub.trans^List.sublist_append_left _ _,λy d=>?_,λy d=>?_,λy d=>?_,λy d=>by rw[bj];exact gj _^zi y d,λzu=>?_]
     .rw[bj]
      rw[zc]at d;rcases bT.mp d with z|z
      .exact(yc y z).imp id^λz=>gj _ z
      .exact .inr (et _^by rw[bR.mp z];exact aY)
     .rw[bj]
      intro z;rcases bT.mp z with z|z
      .exact zg y d z
      .have xv:y=a:=bR.mp z
       have:a∈left.take j:=sub.subset (xv ▸ d);have yq:(left.take j++[a]).Nodup:=by rw[<-zc];exact zh.sublist^iS _ _
       exact(dz.mp yq).2.2 _ this _ aY Z
     .rw[bj]
      intro z;rcases bT.mp z with z|z
      .exact zv y d z
      .have xv:y=a:=bR.mp z
       have yq:(a::left.drop (j+1)).Nodup:=by rw[<-xq];exact zh.sublist^VJ _ _
       exact(d6.mp yq).1 (xv ▸ d)
     .omega
   .clear xk yi zp M g D av O
    rintro σ R ⟨L,rest,N,u,yb,zb,za,rfl,g,D,av,M,ze,sub,yc,zg,xl,zi,same⟩;rw[lv]at same sub yc;rw[cF]at sub yc same;have yA:=cy ze;refine bO C λU C=>?_;intro l xM;refine af Z #[J,L,Z,.inl^au.of M,_,Z,lf,vs,Z,.inl^au.of D,Z,_,Z,?_];refine bZ (λe=>?_)^λe=>?_
    .have e:rest.length=left.length:=by
      have e:=dA e;injection e with e;omega
     obtain⟨rfl,yD⟩:=same e;refine af Z^q dk N u R g.S yp g.hd g.kt #[g.ok,λa yg yv=>?_,λa _=>zy a];rcases zj a^(xh a).mpr yg with z|z
     .exact yD a z
     .exact absurd z^lookup_none.mp yv
    .have ne:rest.length≠left.length:=λz=>e (by rw[yA,lv,z];exact cb Z)
     have xP:=sub.length_le;refine fw C ?_;intro l;refine#[_,Z,J,L,rest,N,u,_,_,_,_,_,Z,g,M,ze,zh.sublist sub,λa xb=>xi a^sub.subset xb,(),λa yJ=>?_,zg]
     rcases zj a yJ with z|z
     .exact yc a z
     .exact .inr^zi a z
  .rintro σ I ⟨lf,vs,left,kk,ka,ya,yb,xu,zb,za,rfl,g,D,av,zh,xi,ym,zj,fresh⟩
   have e0:left=[]:=lR (by rw[lv]at ym;have:Y' ((all.length:Nat):Int)=all.length:=gD _;rw[this]at ym;omega)
   subst e0;refine fw C ?_;intro l;refine af Z^q dk kk ka I g.S yp g.hd g.kt #[g.ok,λa yg yv=>?_,λa _=>zy a];rcases zj a^(xh a).mpr yg with z|z
   .cases z
   .exact absurd z^lookup_none.mp yv
theorem MN(xs:am V)(k:Nat):fX xs none^ih (k:Int)=xs.take k:=by
 unfold fX;have e1:HT.bz xs.length 0 none=0:=rfl;rw[e1,wZ,F7];have e2:HT.bz xs.length xs.length^ih (k:Int)=min k xs.length:=by
  unfold HT.bz;simp;omega
 rw[e2]
 by_cases h:k<=xs.length
 .rw[aaK h]
 .rw[aax (),Gs^aP _,Gs ()]
structure ea(H:Hp)(l:FG)(ys:List Gd):Prop where
 hl:H l=ih (.lst (ys.map V.str))
 ne:ys ≠ []
 a5:ys.length<=20
 nm:∀y∈ys,Nm y
 nd:ys.Nodup
theorem ea.c3(h:ea H l ys)(a:cW p H)(b:bw p H H'):ea H' l ys:=#[b.kp _ _ h.hl^fh a h.hl,h.ne,h.a5,h.nm,h.nd]
theorem ea.same(h:ea H l ys)(S:ax H H'):ea H' l ys:=#[S _ _ h.hl,h.ne,h.a5,h.nm,h.nd]
inductive mS(vs:List V)(H:Hp)(Q:VK)(E:XK):Prop
 |mk{p lk:FG}{m:Nat}{al:Bool}{ks:List Gd}(_:vs=[.ref p,.int m,.bl al,.ref lk])(_:cW p H)(_:1<=m)(_:m<=20)(_:ea H lk ks)(_:∀(l:FG) (ys:List Gd) (H':Hp),bw p H H'->ea H' l ys->ys.length<=m->Q (.ref l) H'):mS vs H Q E
noncomputable abbrev r5:List Gd:=["_law_pot_here","_law_many","_law_alike","_law_kinds"]
noncomputable abbrev Q7:List Gd:=["_law_pot_here","_law_many","_law_alike","_law_kinds","_law_found"]
theorem EV:bp Q7 r5^aI uj:=bD
theorem Og(F:aQ K "_law_called" "_law_called" uj f fd)(n:bB P w K mg base aF 3 fN dN ["_law_pot_here","_law_many"] jQ "_law_names"):aT P w K mg base aF 4 f fd r5 mS:=by
 refine F.bI EV λQb A outer s H vs Q E o h=>?_
 .obtain @⟨p,lk,m,v,ks,rfl,d,x,g,a,q⟩:=h
  intro X;refine#[_,ar (a4 4 EV.nd^a' n o^aa (pv 0)^aa (pv 1) ai)
   (ar (bo (gu^pv 2) (ay^a3^i0 mf (pv 3) i6^iz^pv 1) bE)
   (ay^a3^pv 4)),?_]
  refine aW Z Z^jQ.mk Z d g λl ys Y B r i j b h1=>?_;refine aW Z Z ?_;refine bZ (λe=>?_)^λe=>?_
  .have k:=a.c3 d b
   refine cZ Z Z Z #[lk,_,Z,au.of k.hl,λc t=>?_];rw[MN,<-aaW];have kp:0<ks.length:=jG.mpr a.ne;have tl:(ks.take m).length=min m ks.length:=cH ..;refine q c (ks.take m) _ (b.new t) #[ah,λz=>?_,by have:=a.a5;omega,λy u=>a.nm y^nD u,a.nd.sublist^iS _ _] ()
   rw[z,jA]at tl;omega
  .exact af Z^q l ys Y b #[h1,λz=>by rw[z,jA]at r;omega,(),i,j] ()
structure oH(own:Own):Prop where
 nd:(own.map (·.1)).Nodup
 nm:∀q∈own,Nm q.1
theorem Du{own:Own}(h:oH own)(l:Nm n)(z:Int):∃f,cm f=putK (cm own) (n' n)^.int z/\oH f/\f.length<=own.length+1:=by
 cases e:bq (cm own)^n' n with
 |none =>
  have j:n ∉ own.map (·.1):=λm=>by
   rw[og,VG,List.lookup_eq_none_iff]at e;obtain⟨q,d,rfl⟩:=a8.mp m;exact absurd (e q d) (by simp)
  refine#[own++[(n,z)],?_,#[?_,λq d=>?_],by simp]
  .rw[i4 _ e];unfold cm f9;rw[bj,bj];rfl
  .rw[bj]
   exact dz.mpr #[h.nd,by simp,λa o b g y=>j^by have g:b=n:=bR.mp g;rw[<-g,<-y];exact o]
  .rcases bT.mp d with z|z
   .exact h.nm q z
   .rw[bR.mp z];exact l
 |some v =>
  have i:(own.map λq=>if q.1=n then (q.1,z) else q).map (·.1)=own.map (·.1):=by
   rw[dY];exact lS λq _=>by show(if q.1=n then (q.1,z) else q).1=q.1;split <;> rfl
  refine#[own.map λq=>if q.1=n then (q.1,z) else q,?_,#[by rw[i];exact h.nd,λq d=>?_],by simp]
  .unfold putK
   rw[aB^by rw[i3,e];rfl]
   unfold cm f9;rw[dY,dY,dY,dY];refine lS λq _=>?_;show((n' (if q.1=n then (q.1,z) else q).1,V.int (if q.1=n then (q.1,z) else q).2):Key×V)=if (n' q.1:Key)=n' n then (n' q.1,V.int z) else (n' q.1,V.int q.2)
   by_cases c:q.1=n
   .rw[aB c,aB^by rw[c]]
   .rw[ao c,ao^λz=>c^fZ z]
  .have:q.1∈own.map (·.1):=by rw[<-i];exact a8.mpr #[q,d,Z]
   obtain⟨p,k,r⟩:=a8.mp this;rw[<-r];exact h.nm p k
def eP(H:Hp)(td:FG)(kvs:List (Key×V))(Qa:List Th):Prop:=VT (λkv p=>kv.1=n' p.1 /\∃a b,kv.2=V.ref a/\a≠td/\b≠td/\H a=ih (.tup [.str p.2.1,.ref b])/\H b=ih (.dK (cm p.2.2))) kvs Qa
theorem eP.keep{Qa:am Th}(h:eP H td kvs Qa)(k:∀b u,b≠td->(∀xs,u≠HO.lst xs)->H b=ih u->H' b=ih u):eP H' td kvs Qa:=Paired.imp' (λ_ _ e=>by obtain⟨e1,a,b,e2,n1,c,e3,d⟩:=e;exact #[e1,a,b,e2,n1,c,k _ _ n1 (by intro xs z;cases z) e3,k _ _ c (by intro xs z;cases z) d]) h
theorem eP.same{Qa:am Th}(h:eP H td kvs Qa)(S:ax H H'):eP H' td kvs Qa:=h.keep λb u _ _ e=>S _ _ e
theorem eP.c3{Qa:am Th}(h:eP H td kvs Qa)(a:cW p H)(c:bw p H H'):eP H' td kvs Qa:=h.keep λb u _ d e=>c.kp _ _ e (by
 obtain⟨x,y,e0,_⟩:=a;intro z;rw[z,e0]at e;cases e;exact d _ Z)
theorem eP.keys{Qa:am Th}(h:eP H td kvs Qa):kvs.map (·.1)=(Qa.map (·.1)).map n':=by
 induction h with
 |nil=>rfl
 |cons e _ a=>rw[bY,bY,bY,a,e.1]
structure rK(ks:List Gd)(Qa:List Th):Prop where
 nm:∀p∈Qa,Nm p.1
 nd:(Qa.map (·.1)).Nodup
 kd:∀p∈Qa,p.2.1∈ks
 ow:∀p∈Qa,oH p.2.2/\p.2.2.length<=22
inductive rL(vs:List V)(H:Hp)(Q:VK)(E:XK):Prop
 |mk{p lk ln:FG}{al:Bool}{ks ns:List Gd}(_:vs=[.ref p,.bl al,.ref lk,.ref ln])(_:cW p H)(_:ea H lk ks)(_:ea H ln ns)(_:∀(td:FG) (kvs:List (Key×V)) (Qa:List Th) (H':Hp),bw p H H'->H td=none->H' td=ih (.dK kvs)->eP H' td kvs Qa->rK ks Qa->Qa ≠ []->Qa.length<=5->Q (.ref td) H'):rL vs H Q E
noncomputable abbrev wx:List Gd:=["_law_pot_here","_law_alike","_law_kinds","_law_names_here"]
noncomputable abbrev Q8:List Gd:=["_law_pot_here","_law_alike","_law_kinds","_law_names_here","_law_called_here","_law_things_here","_law_thing","_law_own","_law_kind","_law_name"]
theorem lx:bp Q8 wx^aI um:=bD
theorem Oh{zB:FG}{xC:X3}(F:aQ K "_law_things" "_law_things" um f fd)(B:dw mg)(yC:bB P w K mg base aF 4 fC dC r5 mS "_law_called")(yh:bB P w K mg base aF 1 fD dD ["_law_pot_here","_law_many"] g0 "_law_digit")
  (zC:bB P w K mg base aF 3 fN dN ["_law_pot_here","_law_many"] jQ "_law_names") (xD:bB P w K mg base aF 2 zB xC ["_law_pot_here"] hZ "_law_number"):aT P w K mg base aF 5 f fd wx rL:=by
 refine F.bI lx λQb A outer s H vs Q E D h=>?_
 .obtain @⟨p,lk,ln,al,ks,ns,rfl,zc,xd,zh,q⟩:=h
  have xb:aZ 4 _:=D;have xw:aZ 3 _:=xb.mono ∅
  have yw:aZ 2 _:=xb.mono ∅
  have yf:aZ 1 _:=xb.mono ∅
  have ym:=d9 D.units;intro X;refine#[_,ar (a4 4 lx.nd^a' yC xb^aa (pv 0)^aa (bN fq aw^a' yh yf^aa (pv 0)^aa aw ai)^aa (pv 1)^aa (pv 2) ai)
   (ar (a4 5 lx.nd nR)
   (ar (ee dZ Z (c7^pv 4) (ba 6 lx.nd)
    (ar (a4 7 lx.nd nR)
    (ar (a4 8 lx.nd^aU d2 (pv 2)^a' yh yf^aa (pv 0)^aa (bV eQ Z B.len ew^aa (pv 2) ai) ai)
    (ar (ee dZ Z (c7^bN kW (pv 3)^a' zC xw^aa (pv 0)^aa aw ai) (ba 9 lx.nd)
     (ay^bo (bx dg (a' yh yf^aa (pv 0)^aa aw ai) aw^bC _) (ay^f5 ym (pv 7) (pv 9) (a' xD yw^aa (pv 0) ai) Z) bE))
    (ay^f5 ym (pv 5) (pv 6) (cc^aa (pv 8)^aa (pv 7) ai) Z)))))
   (ay^a3^pv 5))),?_]
  refine aW Z Z (c6 (p:=p) (m:=5) zc ∅ ∅ λd1 Y yD zI xi=>#[_,_,Z,Z,_,Z,_,Z,?_])
  obtain⟨j,rfl⟩:=gY yD;refine mS.mk (m:=1+j) (al:=al) (by rw[Gy];rfl) xi.ok () () (xd.c3 zc xi) λyd a H2 p2 U xH=>?_
  have R:=xi.trans p2;have zw:=xd.c3 zc R;have xx:=zh.c3 zc R;intro td yb;have zl:=R.free yb;have yi:=R.new (o:=.dK []) yb;have zd:=aJ (o:=.dK []) yb;have yx:p≠td:=R.ok.ne yb;have zm:upd H2 td (.dK []) td=cr []:=ah;have zf:=U.same zd;have xn:=zw.same zd;have yn:=xx.same zd;have zx:=yi.ok;generalize upd H2 td^.dK []=xJ at yi zd zm zf xn yn zx⊢;refine#[_,Z,yd,Z,#[_,au.of zf.hl],gZ (xs:=a.map V.str) (λi σ d=>∃(kvs:am (Key×V)) (Qa:am Th) (zi xj yj G:a2 V),σ=[bd p,ih^.bl al,bd lk,bd ln,bd yd,bd td,zi,xj,yj,G]/\bw p H d/\ea d lk ks/\ea d ln ns/\ea d yd a/\d td=cr kvs/\eP d td kvs Qa/\rK ks Qa/\Qa.map (·.1)=a.take i)
   #[[],[],none,none,none,none,Z,yi,xn,yn,zf,zm,.nil,#[λx v=>(by cases v),ff,λx v=>(by cases v),λx v=>(by cases v)],Z] (λi σ d _ ab=>by obtain⟨_,_,_,_,_,_,_,_,_,_,z,_⟩:=ab;exact au.of z.hl) ?_ ?_]
  .rintro i x σ d v ⟨kvs,Qa,zi,xj,yj,G,rfl,g,zj,xk,xr,xe,W,xa,C⟩
   obtain⟨zn,rfl⟩:=iy v;have xg:a.take (i+1)=a.take i++[a[i]]:=by rw[dQ,bG zn];rfl
   have yv:a[i]∉ a.take i:=by
    have:(a.take (i+1)).Nodup:=U.nd.sublist^iS _ _;rw[xg]at this;exact λz=>(dz.mp this).2.2 _ z _ aY Z
   intro c ya;have xy:p≠c:=g.ok.ne ya;have yr:=aJ (o:=.dK []) ya;have za:bw p d^upd d c^.dK []:=(bw.refl g.ok).new ya;have zr:upd d c (.dK []) c=cr []:=ah;generalize upd d c^.dK []=yJ at yr za zr⊢;have xt:=zj.same yr;have kp:0<ks.length:=jG.mpr xd.ne;have zJ:=xd.a5;refine cZ Z Z Z #[lk,_,Z,.inl^au.of xt.hl,?_];rw[aE];refine c6 (p:=p) (m:=(ks.length:Int)) za.ok () () λxK yK b0 b1 p6=>?_
   obtain⟨I,rfl⟩:=gY b0;have xo:I<ks.length:=()
   have zD:=xt.c3 za.ok p6;have yk:=za.trans p6;refine e9 zD.hl (cx^by rw[c5,bG xo];rfl) ?_
   have xE:=i7 za.ok p6 zr;refine aW Z Z (jQ.mk (m:=2) Z yk.ok ∅ λyE L yt yH zK yy zH p7 zE=>?_)
   have zt:=yk.trans p7;have xF:=(xk.c3 g.ok zt);have zy:=i7 yk.ok p7 xE;have xL:=zh.a5;refine#[ln,yE,_,_,Z,Z,xF.hl,zE,by rw[aE,aE,aV];omega,λM yo=>?_]
   rw[<-bj];have ye:=zt.new (o:=.lst^(ns++L).map V.str) yo;have zb:=aJ (o:=.lst^(ns++L).map V.str) yo _ _ zy;have O:upd yt M (.lst^(ns++L).map V.str) M=ce^(ns++L).map V.str:=ah;have zo:∀y∈ns++L,Nm y:=λy zk=>by
    rcases bT.mp zk with z|z
    .exact zh.nm y z
    .exact yy y z
   have xz:(ns++L).length<=22:=by rw[cz];omega
   generalize ns++L=xc at ye zb O zo xz⊢;generalize upd yt M^.lst^xc.map V.str=yL at ye zb O⊢;have xp:M≠p:=fh ye.ok O;have yz:M≠c:=aq O zb
   refine#[M,Z,#[_,au.of O],gZ (xs:=xc.map V.str) (λk σ J=>∃(own:Own) (G:a2 V),σ=[bd p,ih^.bl al,bd lk,bd ln,bd yd,bd td,ih^.str a[i],bd c,ih^.str ks[I],G]/\bw p d J/\J M=ce^xc.map V.str/\J c=cr^cm own/\oH own/\own.length<=k)
    #[[],G,Z,ye,O,zb,#[ff,λq yF=>(by cases yF)],aP _] (λk σ J _ ab=>by obtain⟨_,_,_,_,z,_⟩:=ab;exact au.of z) ?_ ?_]
   .rintro k x σ J v ⟨own,G,rfl,N,xu,xl,ze,yp⟩
    obtain⟨zz,rfl⟩:=iy v;refine af Z (c6 (p:=p) (m:=3) N.ok ∅ ∅ λzL yg xM yM zg=>#[Z,_,Z,?_])
    have l:=N.trans zg;have zp:=zg.kp _ _ xu xp;have S:=i7 N.ok zg xl;refine bZ (λ_=>?_)^λ_=>?_
    .refine af Z^hZ.mk Z l.ok λz xI _ xh=>?_
     have xA:=l.trans xh;have yA:=xh.kp _ _ zp xp;have zA:=i7 l.ok xh S;obtain⟨zv,zF,xG,yI⟩:=Du ze (zo _^eJ zz) z;refine aW Z Z #[c,_,Z,eG.k (k:=n' xc[k]) zA (by unfold cm f9;rw[aE,aE,aV];omega),?_]
     exact#[zv,_,Z,xA.write ya xy,by rw[ag yz];exact yA,by rw[zF];exact ah,xG,()]
    .exact#[own,_,Z,l,zp,S,ze,()]
   .rintro σ J ⟨own,G,rfl,N,xu,xl,ze,yp⟩
    rw[aE]at yp;have yu:=i7 g.ok N xe;have yG:=W.c3 g.ok N;have xq:c≠td:=aS^aA xe ya;refine aW Z Z #[bQ,λt yl=>?_];have yc:=aJ (o:=.tup [V.str ks[I],.ref c]) yl;have xm:upd J t (.tup [V.str ks[I],.ref c]) t=bn [V.str ks[I],.ref c]:=ah;have l:=N.new (o:=.tup [V.str ks[I],.ref c]) yl;have T:=yc _ _ yu;have S:=yc _ _ xl;have yq:=yG.same yc;have zq:t≠td:=aS^aA yu yl;generalize upd J t^.tup [V.str ks[I],.ref c]=yg at yc xm l T S yq⊢;have xf:bq kvs^n' a[i]=none:=by
     have:(bq kvs^n' a[i]).isSome=false:=by
      rw[<-i3,wF];intro xf xB z;have zu:xf.1∈kvs.map (·.1):=a8.mpr #[xf,xB,Z];rw[W.keys,C]at zu;obtain⟨y,zk,xv⟩:=a8.mp zu;rw[dA z]at xv;exact yv (fZ xv ▸ zk)
     simpa using this
    have yB:kvs.length=(a.take i).length:=by
     have:=dy Y5 W.keys;rw[C,aE,aE]at this;exact this
    rw[cH]at yB;refine aW Z Z #[td,_,Z,eG.k (k:=n' a[i]) T (by rw[aV];omega),?_]
    rw[i4 _ xf];have zG:=(g.trans l).write (o:=.dK (kvs++[(n' a[i],.ref t)])) zl yx;have up:∀b u,b≠td->yg b=ih u->upd yg td (.dK (kvs++[(n' a[i],.ref t)])) b=ih u:=λb u n e=>by rw[ag n];exact e
    refine#[_,Qa++[(a[i],ks[I],own)],_,_,_,_,Z,zG,?_,?_,?_,ah,?_,#[λr D=>?_,?_,λr D=>?_,λr D=>?_],?_]
    .have z:=zj.c3 g.ok l;exact#[up _ _ (aq z.hl T) z.hl,z.ne,z.a5,z.nm,z.nd]
    .have z:=xk.c3 g.ok l;exact#[up _ _ (aq z.hl T) z.hl,z.ne,z.a5,z.nm,z.nd]
    .have z:=xr.c3 g.ok l;exact#[up _ _ (aq z.hl T) z.hl,z.ne,z.a5,z.nm,z.nd]
    .exact gX (yq.keep λb u n _ e=>up _ _ n e) #[Z,t,c,Z,zq,xq,up _ _ zq xm,up _ _ xq S]
    .rcases bT.mp D with z|z
     .exact xa.nm r z
     .rw[bR.mp z];exact U.nm _^eJ zn
    .rw[bj,C]
     show(a.take i++[a[i]]).Nodup;rw[<-xg];exact U.nd.sublist^iS _ _
    .rcases bT.mp D with z|z
     .exact xa.kd r z
     .rw[bR.mp z];exact eJ xo
    .rcases bT.mp D with z|z
     .exact xa.ow r z
     .rw[bR.mp z];exact#[ze,by show own.length<=22;omega]
    .rw[bj,C,xg];rfl
  .rintro σ d ⟨kvs,Qa,zi,xj,yj,G,rfl,g,zj,xk,xr,xe,W,xa,C⟩
   rw[aE,cF]at C;have zM:Qa.length=a.length:=by have:=dy Y5 C;rwa [aE]at this
   exact af Z^q td kvs Qa d g zl xe W xa (λz=>by rw[z]at C;exact U.ne C.symm) ()
def o4(p q:Th):Prop:=q.1=p.1/\q.2.1=p.2.1/\q.2.2.Perm p.2.2
theorem hC.keyed{Qa:am Th}(h:hC H vs Qa):∃kvs,iC H 1 vs kvs/\kvs.map (·.1)=(Qa.map (·.1)).map λx=>[x]:=by
 induction h with
 |nil=>exact#[[],.nil,Z]
 |@cons _ p _ _ h _ c =>
  obtain⟨a,b,us,e,q,_⟩:=h;obtain⟨kvs,h1,h2⟩:=c;exact#[([p.1],[.str p.2.1,.ref b])::kvs,.cons #[a,e,q,Z] h1,by rw[bY,h2];rfl]
theorem ints_of{own:Own}{a:am (Gd×V)}(p:a.Perm^own.map λq=>(q.1,V.int q.2)):∃b:Own,a=b.map (λq=>(q.1,V.int q.2))/\b.Perm own:=by
 have e:a=(a.map λq=>((q.1,match q.2 with|.int z=>z|_=>0):Gd×Int)).map λq=>(q.1,V.int q.2):=by
  rw[dY];refine((lS (g:=id) λq c=>?_).trans (Ac _)).symm;obtain⟨x,_,rfl⟩:=a8.mp (p.mem_iff.mp c)
  rfl
 refine#[_,e,?_];have:=p.map λq=>((q.1,match q.2 with|.int z=>z|_=>0):Gd×Int);rw[dY]at this;refine this.trans^Z2^(lS (g:=id) λq _=>rfl).trans (Ac _)
theorem Ji{own:Own}(h:kY H vs^own.map λq=>(q.1,V.int q.2)):iK H vs own:=by
 induction own generalizing vs with
 |nil=>cases h;exact .nil
 |cons q own a=>cases h with|cons e r=>exact .cons e^a r
theorem tG{Qa a:am Th}(h:VT o4 Qa a):a.map (·.1)=Qa.map (·.1):=by
 induction h with
 |nil=>rfl
 |cons e _ b=>rw[bY,bY,b,e.1]
theorem LQ{Qa a:am Th}(h:VT o4 Qa a){p:Th}(b:p∈Qa):∃q∈a,o4 p q:=by
 induction h with
 |nil=>cases b
 |cons e _ c =>
  rcases bL.mp b with z|z
  .exact#[_,aY,z ▸ e]
  .obtain⟨q,d,r⟩:=c z;exact#[q,bh _ d,r]
theorem uy{kv:Key×V}:∀{kvs:am (Key×V)}{i:Nat},(kvs.map (·.1)).Nodup->kvs[i]?=ih kv->bq kvs kv.1=ih kv.2
 |[],i,_,h=>by simp at h
 |p::kvs,0,_,h=>by cases h;exact fg Z
 |p::kvs,i+1,a,h=>by
  rw[bY,d6]at a;rw[eK^λz=>a.1 (by rw[z];exact a8.mpr #[kv,eu ⇑h,Z])]
  exact uy a.2 ⇑h
theorem eP.nodup{Qa:am Th}(h:eP H td kvs Qa)(a:(Qa.map (·.1)).Nodup):(kvs.map (·.1)).Nodup:=by
 rw[h.keys,jE,kC];exact(jE.mp a).imp λh z=>h^fZ z
inductive mT(vs:List V)(H:Hp)(Q:VK)(E:XK):Prop
 |mk{t db td:FG}{kvs:List (List Key×V)}{a6:Bk}{kt:List (Key×V)}{Qa:List Th}{ks:List Gd}(_:vs=[.ref t,.ref db,.ref td])(_:H db=ih (.dT kvs))(_:cg H kvs a6)(_:fz a6)(_:H td=ih (.dK kt))(_:eP H td kt Qa)(_:rK ks Qa)(_:Qa.length<=5)
  (_:∀r tb tt wb wt bk rM H',ax H H'->ik H' r t tb tt wt rM->H' tb=ih (.tup wb)->cY H' wb bk->bk.Perm a6->(∀p∈Qa,∃q∈rM,o4 p q)->Q (.ref r) H'):mT vs H Q E
noncomputable abbrev r6:List Gd:=["_law_family_here","_law_book_here","_law_things_here"]
noncomputable abbrev Fp:List Gd:=["_law_family_here","_law_book_here","_law_things_here","_law_rows","_law_thing","_law_kind","_law_own","_law_triples"]
theorem mU:bp Fp r6^aI oy:=bD
noncomputable abbrev Q9:VH:=fy (bW (bJ oy) 2)
theorem rN:b8 Fp (aI oy) ["_law_kind","_law_name","_law_entry_here"] [none,none,none]^cK Q9:=dF
theorem Oi(F:aQ K "_law_world" "_law_world" oy f fd)(B:dw mg)(yk:hA mg):aT P w K mg base aF 1 f fd r6 mT:=by
 refine F.bI mU λQb A outer s H vs Q E yf h=>?_
 .obtain @⟨t,db,td,kvs,a6,kt,Qa,ks,rfl,xe,dv,ok,S,tv,to,xM,q⟩:=h
  have xA:=d9 yf.units;intro X;refine#[_,ar (a4 3 mU.nd^eN ai)
   (ar (ee dZ Z (Lb^pv 2) (ba 4 mU.nd)
    (ar (g6 (dV xA (pv 2)^pv 4)^gH Z^cA (ba 5 mU.nd)^cA (ba 6 mU.nd) fM)
    (ay^eL^gw hQ nB nC jK (pv 3)^aa (cc^aa (pv 4)^aa (pv 5)^aa (df iX Z B.tuple boot_tuple^aa (GL Z Z yk.sorted^pv 6) ai) ai) ai)))
   (ar (lZ Z rN mU.nd (i:=7) Z Z (I7^pv 1)^λs H fp=>#[qa (n:=2) K Z Z^cA (qa (n:=2) K Z Z^cA (ba 0 rN.nd)^cA (ba 1 rN.nd) fM)^cA (ba 2 rN.nd) fM,ey,cc^aa (pv 0)^aa (pv 1)^aa (pv 2) ai])
   (ay^a3^J'^Dh^cc^aa (pv 0)^aa (df iX Z B.tuple boot_tuple^aa (bV sJ Z yk.sorted boot_sorted^aa (pv 7) ai) ai)^aa (df iX Z B.tuple boot_tuple^aa (bV sJ Z yk.sorted boot_sorted^aa (pv 3) ai) ai) ai))),?_]
  refine#[bF _,λk yi=>?_];have zf:=aJ (o:=.lst []) yi;have ye:td≠k:=aA S yi;have zi:db≠td:=aq xe S
  have zn:upd H k (.lst []) k=ce []:=ah;have zq:=tv.same zf;have xo:=zf _ _ S;generalize upd H k^.lst []=Y at zf zn zq xo⊢;have xF:kt.length=Qa.length:=cy tv;refine af Z #[td,kt,Z,.inl #[xo,λo=>?_]];have ze:∀b u,b≠td->Y b=ih u->upd Y td (.bf o^.dK kt) b=ih u:=λb u n e=>by rw[ag n];exact e
  have zc:upd Y td (.bf o^.dK kt) td=ih^.bf o^.dK kt:=ah;have xr:eP (upd Y td^.bf o^.dK kt) td kt Qa:=zq.keep λb u n _ e=>ze b u n e;have xd:=ze _ _ (aS ye) zn;generalize upd Y td^.bf o^.dK kt=H2 at ze zc xr xd⊢;refine JQ (o:=o) (λi σ d=>∃(I:am V) (R:am Th) (zk xl yl:a2 V),σ=[bd t,bd db,bd td,bd k,zk,xl,yl,none]/\(∀b u,b≠k->H2 b=ih u->d b=ih u)/\d k=ce I/\hC d I R/\VT o4 (Qa.take i) R)
   #[[],[],none,none,none,Z,λb u _ e=>e,xd,.nil,.nil] (λi σ d _ ab=>by obtain⟨_,_,_,_,_,_,z,_⟩:=ab;exact z _ _ ye zc) ?_ ?_
  .rintro i m σ d xa ⟨I,R,zk,xl,yl,rfl,C,W,xb,v⟩
   obtain⟨p,j,yb,a,b,yF,yM,zM,xw,J⟩:=L2.Paired.get xr xa;have pm:=eu j;have xj:Qa.take (i+1)=Qa.take i++[p]:=by rw[dQ,j];rfl
   have yA:=C _ _ (aq xw xd) xw
   have zA:=C _ _ (aq J xd) J
   have yh:=C _ _ ye zc;have zl:=uy (tv.nodup to.nd) xa;rw[yF]at zl;rw[yb]at zl⊢;rw[show kV^n' p.1=V.str p.1 from rfl];refine aW Z Z #[td,.ref a,Z,.inl #[kt,n' p.1,.inr #[o,yh],Z,zl.symm],?_];refine#[a,_,Z,aX.of yA,Z,_,_,Z,_,_,Z,Z,?_];refine af Z #[.inl #[Z,_,au.of W],_,Z,_,Z,_,Z,b,_,Z,zA,by rw[dY];exact(to.ow p pm).1.nd,by rw[aE];have:=(to.ow p pm).2;omega,λD ys yK zb yw zF xG pv yG xN=>?_]
   obtain⟨xz,rfl,zG⟩:=ints_of yG;refine#[D,ys,Z,.inl #[au.of xG,λc U=>#[gS,λtt G=>?_]]];have y:=zF.trans^(aJ (o:=.tup ys) U).trans (aJ (o:=.tup [V.str p.1,.str p.2.1,.ref c]) G);have yr:=(aJ (o:=.tup ys) U).trans (aJ (o:=.tup [V.str p.1,.str p.2.1,.ref c]) G);have yo:upd (upd zb c^.tup ys) tt (.tup [V.str p.1,.str p.2.1,.ref c]) tt=bn [V.str p.1,.str p.2.1,.ref c]:=ah;have zr:upd (upd zb c^.tup ys) tt (.tup [V.str p.1,.str p.2.1,.ref c]) c=bn ys:=by rw[ag^aA ah G];exact ah
   generalize upd (upd zb c^.tup ys) tt^.tup [V.str p.1,.str p.2.1,.ref c]=g at y yr yo zr⊢;have zo:=y _ _ W;have yN:I.length<=5:=by have h1:=cy xb;have h2:=cy v;rw[cH]at h2;omega
   refine#[k,I,_,Z,Z,zo,by rw[aV];omega,?_]
   have up:∀{zs:am V} b xs,g b=bn xs->upd g k (.lst zs) b=bn xs:=λb xs e=>by rw[ag^aq e zo];exact e
   refine#[_,R++[(p.1,p.2.1,xz)],_,_,_,Z,λb u n e=>by rw[ag n];exact y _ _^C b u n e,ah,?_,?_]
   .exact gX ((xb.same y).keep up) #[tt,c,ys,Z,up _ _ yo,up _ _ zr,((Ji pv).keep λb xs e=>yr _ _ e).keep up]
   .rw[xj];exact gX v #[Z,Z,zG]
  .rintro σ d ⟨I,R,zk,xl,yl,rfl,C,W,xb,v⟩
   rw[xF,cF]at v;have zN:=cy xb;have xO:=cy v;have yj:∀b u,b≠td->H b=ih u->d b=ih u:=λb u n e=>C _ _ (aA e yi)^ze _ _ n^zf _ _ e;have yd:=yj _ _ zi xe;have yh:=C _ _ ye zc;have xB:cg d kvs a6:=dv.keep (λb xs e=>yj _ _ (aq e S) e) ok.ent
   have lk:=dv.length;have a5:=ok.a5;refine af Z #[db,kvs,Z,yd,λL c U=>?_];have T:∀b u,b≠db->d b=ih u->upd d db (.bf L^.dT kvs) b=ih u:=λb u n e=>by rw[ag n];exact e
   have zd:upd d db (.bf L^.dT kvs) db=ih^.bf L^.dT kvs:=ah;have xt:cg (upd d db^.bf L^.dT kvs) kvs a6:=xB.keep (λb xs e=>T _ _ (aq e yd) e) ok.ent
   have zw:hC (upd d db^.bf L^.dT kvs) I R:=xb.keep λb xs e=>T _ _ (aq e yd) e
   have zh:=T _ _ (aS zi) yh;have xp:=T _ _ (aq W yd) W
   generalize upd d db^.bf L^.dT kvs=zb at T zd xt zw zh xp U⊢;refine Hx (λi ys xg g=>∃xm ym zm:a2 V,xg=[xm,ym,zm]/\g c=ce ys/\ax zb g/\cY g ys^a6.take i) #[none,none,none,Z,ah,aJ U,.nil] (λi ys xg g ab=>by obtain⟨_,_,_,_,z1,z2,_⟩:=ab;exact #[z1,z2 _ _ zd]) ?_ ?_
   .rintro i m tp b ys xg g xa yB J ⟨xm,ym,zm,rfl,xn,y,M⟩
    have zB:i<kvs.length:=(b4.mp xa).1;obtain⟨p,j,yb,xH⟩:=L2.Paired.get (xt.same y) xa;have pm:=eu j;have xj:a6.take (i+1)=a6.take i++[p]:=by rw[dQ,j];rfl
    replace J:g b=bn [V.str p.1,V.str p.2.1]:=by rw[yb]at J;exact J
    have yg:=aJ (o:=.tup [V.ref b,m.2]) yB;have yp:upd g tp (.tup [V.ref b,m.2]) tp=bn [V.ref b,m.2]:=ah;have yt:=yg _ _ J;have zt:=xH.same yg;generalize upd g tp^.tup [V.ref b,m.2]=xx at yg yp yt zt⊢;refine#[tp,_,Z,aX.of yp,Z,_,_,Z,b,_,Z,aX.of yt,Z,_,_,Z,_,_,Z,Z,_,_,Z,Z,?_];refine cZ Z Z Z #[gS,λtt G=>?_];have N:=aJ (o:=.tup [V.str p.1,V.str p.2.1,m.2]) G;have zp:upd xx tt (.tup [V.str p.1,V.str p.2.1,m.2]) tt=bn [V.str p.1,V.str p.2.1,m.2]:=ah;have xu:=zt.same N;generalize upd xx tt^.tup [V.str p.1,V.str p.2.1,m.2]=O at N zp xu⊢;have zj:=yg.trans N;have yu:=zj _ _ xn;have up:∀{zs:am V} b xs,O b=bn xs->upd O c (.lst zs) b=bn xs:=λb xs e=>by rw[ag^aq e yu];exact e
    refine#[yu,?_,cw_next zB #[_,_,_,Z,ah,λx u yx=>by rw[ag^aA yx U];exact zj _ _^y x u yx,?_]]
    .have:=M.length
     rw[cH]at this;rw[aV];omega
    .rw[xj]
     exact cY.append (up _ _ zp) ((ok.ent p pm).keep xu up)^cY.keep up (cY.same zj M) λq yH=>ok.ent q^nD yH
   .rintro ys xg g ⟨xm,ym,zm,rfl,xn,y,M⟩
    rw[lk,cF]at M;obtain⟨xC,zH,yb⟩:=M.keyed;have yO:=M.length;refine aW Z Z #[c,_,xC,2,Z,.inl^au.of xn,zH,∅,by rw[yb];exact ok.nd,(),λD l zK yw zy zO xL yL=>?_]
    obtain⟨yC,zu,xI⟩:=cY.perm zy M;have yI:=aJ (o:=.lst l) yw;refine#[D,l,Z,.inl #[au.of ah,λtb zC=>?_]];have N:=yI.trans^aJ (o:=.tup l) zC;have xq:upd (upd g D^.lst l) tb (.tup l) tb=bn l:=ah;have zx:=cY.same N xI;generalize upd (upd g D^.lst l) tb^.tup l=O at N xq zx⊢;have xk:=y.trans N;have xy:=zw.same xk;obtain⟨xv,zI,xD⟩:=xy.keyed;have yD:(xv.map (·.1)).Nodup:=by
     rw[xD,tG v,jE,kC];exact(jE.mp to.nd).imp λh z=>h (pA z).1
    refine af Z #[k,_,xv,1,Z,.inl^au.of^xk _ _ xp,zI,aP _,yD,(),λzg wt zL zD yy _ _ _=>?_]
    obtain⟨xi,xf,yn⟩:=sM yy xy;have yn:hC O wt xi:=yn;have xE:=aJ (o:=.lst wt) zD;refine#[zg,wt,Z,.inl #[au.of ah,λtt G=>#[gS,λr yf=>?_]]];have ya:=xE.trans^(aJ (o:=.tup wt) G).trans (aJ (o:=.tup [V.ref t,.ref tb,.ref tt]) yf);have yq:upd (upd (upd O zg^.lst wt) tt^.tup wt) r (.tup [V.ref t,.ref tb,.ref tt]) tt=bn wt:=by rw[ag^aA ah yf];exact ah
    have yv:upd (upd (upd O zg^.lst wt) tt^.tup wt) r (.tup [V.ref t,.ref tb,.ref tt]) r=bn [V.ref t,.ref tb,.ref tt]:=ah;generalize upd (upd (upd O zg^.lst wt) tt^.tup wt) r^.tup [V.ref t,.ref tb,.ref tt]=xh at ya yq yv⊢;have za:=xk.trans ya;refine#[db,L,kvs,za _ _ zd,(λo u z=>by cases xe.symm.trans z),td,o,kt,?_,(λo u z=>by cases S.symm.trans z),?_]
    .rw[ag^aS zi];exact za _ _ zh
    .have zv:∀b u,b≠db->b≠td->xh b=ih u->upd (upd xh db^.dT kvs) td (.dK kt) b=ih u:=λb u n1 xc e=>by rw[ag xc,ag n1];exact e
     have yz:=za _ _ zd;have zz:=za _ _ zh;have yc:∀b xs,xh b=bn xs->upd (upd xh db^.dT kvs) td (.dK kt) b=bn xs:=λb xs e=>zv _ _ (aq e yz) (aq e zz) e
     have yE:∀p∈xi,Nm p.1:=λp j=>by
      have xJ:p.1∈Qa.map (·.1):=by rw[<-tG v];exact a8.mpr #[p,xf.mem_iff.mp j,Z]
      obtain⟨yJ,h0,e0⟩:=a8.mp xJ;rw[<-e0];exact to.nm yJ h0
     refine q r tb tt l wt yC xi _ (λb u e=>?_) #[yc _ _ yv,yc _ _ yq,(yn.keep λb xs e=>ya _ _ e).keep yc,by rw[xf.length_eq];omega,yE,by rw[(xf.map (·.1)).nodup_iff,tG v];exact to.nd] (yc _ _^ya _ _ xq) (cY.keep yc (cY.same ya zx) λp j=>ok.ent p^zu.mem_iff.mp j) zu^λp j=>?_
     .by_cases n1:b=td
      .subst n1;rw[S]at e;cases e;exact ah
      .by_cases xc:b=db
       .subst xc;rw[xe]at e;cases e;rw[ag n1];exact ah
       .exact zv _ _ xc n1^za _ _^T _ _ xc^yj _ _ n1 e
     .obtain⟨zJ,zE,xK⟩:=LQ v j
      exact#[zJ,xf.mem_iff.mpr zE,xK]
structure BI(H:Hp)(db:FG)(kvs:List (List Key×V))(bk:Bk)(ks ns:List Gd)(i j:Nat):Prop where
 hd:H db=ih (.dT kvs)
 dv:cg H kvs bk
 ent:∀p∈bk,Ent p.2.2
 ask:∀p∈bk,∀s∈b9 p.2.2,bb s = "ask" -> dq s∈ns
 nd:(bk.map cS).Nodup
 cO:∀p∈bk,(p.1∈ks.take i/\p.2.1∈ns)\/(ih p.1=ks[i]? /\ p.2.1∈ns.take j)
 a5:bk.length<=i * ns.length+j
theorem BI.keep{kvs:am (List Key×V)}{bk:Bk}(h:BI H db kvs bk ks ns i j)(k:∀b o,(∃xs,o=HO.tup xs)\/b=db->H b=ih o->H' b=ih o):BI H' db kvs bk ks ns i j:=#[k _ _ (.inr Z) h.hd,h.dv.keep (λb xs e=>k _ _ (.inl #[_,Z]) e) h.ent,h.ent,h.ask,h.nd,h.cO,h.a5]
inductive rO(vs:List V)(H:Hp)(Q:VK)(E:XK):Prop
 |mk{p lk ln:FG}{ks ns:List Gd}(_:vs=[.ref p,.ref lk,.ref ln])(_:cW p H)(_:ea H lk ks)(_:ea H ln ns)(_:ks.length<=8)(_:ns.length<=6)
  (_:∀db kvs bk H',bw p H H'->H db=none->H' db=ih (.dT kvs)->cg H' kvs bk->fz bk->(∀q∈bk,∀s∈b9 q.2.2,bb s = "ask" -> dq s∈ns)->(∀q∈bk,q.1∈ks/\q.2.1∈ns)->Q (.ref db) H'):rO vs H Q E
noncomputable abbrev wy:List Gd:=["_law_pot_here","_law_kinds","_law_names_here"]
noncomputable abbrev Q':List Gd:=["_law_pot_here","_law_kinds","_law_names_here","_law_book_here","_law_kind","_law_name"]
theorem rP:bp Q' wy^aI u3:=bD
theorem Oj(F:aQ K "_law_book" "_law_book" u3 f fd)(B:dw mg)(zl:bB P w K mg base aF 1 fD dD ["_law_pot_here","_law_many"] g0 "_law_digit")(xm:bB P w K mg base aF 4 fE dE ["_law_pot_here","_law_names_here","_law_at"] qN "_law_entry"):aT P w K mg base aF 5 f fd wy rO:=by
 refine F.bI rP λQb A outer s H vs Q E xg h=>?_
 .obtain @⟨p,lk,ln,ks,ns,rfl,yg,zb,N,ym,zm,q⟩:=h
  have ye:aZ 4 _:=xg;have yi:aZ 1 _:=ye.mono ∅
  have zi:=d9 xg.units;intro X;refine#[_,ar (a4 3 rP.nd nS)
   (ar (ee dZ Z (c7^pv 1) (ba 4 rP.nd)
    (ay (ee dZ Z (c7^pv 2) (ba 5 rP.nd)
     (ay^bo (bx DQ (a' zl yi^aa (pv 0)^aa aw ai) aw^bC _) (ay^f5 zi (pv 3) (eT^aa (pv 4)^aa (pv 5) ai) (a' xm ye^aa (pv 0)^aa (pv 2)^aa (bV eQ Z B.len ew^aa (pv 2) ai) ai) Z) bE))))
   (ay^a3^pv 3)),?_]
  refine fj λU xc=>?_;intro Y xn;intro db L;have ze:p≠db:=yg.ne L;have yc:=(bw.refl yg).new (o:=.dT []) L;have S:=zb.same^dU (o:=.dT []) L;have za:=N.same^dU (o:=.dT []) L;have h0:upd H db (.dT []) db=cs []:=ah;generalize upd H db^.dT []=H0 at yc S za h0⊢;refine bO xc λU xc=>?_;intro Y xn;refine#[_,Z,lk,Z,#[_,au.of S.hl],gZ (xs:=ks.map V.str) (λi σ G=>∃(kvs:am (List Key×V)) (bk:Bk) (zc I:a2 V),σ=[bd p,bd lk,bd ln,bd db,zc,I]/\bw p H G/\ea G lk ks/\ea G ln ns/\BI G db kvs bk ks ns i 0)
   #[[],[],none,none,Z,yc,S,za,#[h0,.nil,λx c=>(by cases c),λx c=>(by cases c),ff,λx c=>(by cases c),bF _]] (λi σ G _ ab=>by obtain⟨_,_,_,_,_,_,z,_⟩:=ab;exact au.of z.hl) ?_ ?_]
  .clear yc S za h0
   rintro i x σ G c ⟨kvs,bk,zc,I,rfl,PG,J,D,a⟩;refine hR ?_;intro Y zq;obtain⟨T,rfl⟩:=iy c;have xi:ks[i]∉ ks.take i:=by
    have:(ks.take (i+1)).Nodup:=zb.nd.sublist^iS _ _;rw[iD T]at this;exact λz=>(dz.mp this).2.2 _ z _ aY Z
   refine#[_,Z,ln,Z,#[_,au.of D.hl],gZ (xs:=ns.map V.str) (λj σ G=>∃(kvs:am (List Key×V)) (bk:Bk) (I:a2 V),σ=[bd p,bd lk,bd ln,bd db,ih^.str ks[i],I]/\bw p H G/\ea G lk ks/\ea G ln ns/\BI G db kvs bk ks ns i j)
    #[kvs,bk,I,Z,PG,J,D,a] (λj σ G _ ab=>by obtain⟨_,_,_,_,_,_,z,_⟩:=ab;exact au.of z.hl) ?_ ?_]
   .clear a J D PG
    rintro j y σ G yn ⟨kvs,bk,I,rfl,PG,J,D,a⟩;refine hR ?_;intro Y xr;obtain⟨xb,rfl⟩:=iy yn;have xj:ns[j]∉ ns.take j:=by
     have:(ns.take (j+1)).Nodup:=N.nd.sublist^iS _ _;rw[iD xb]at this;exact λz=>(dz.mp this).2.2 _ z _ aY Z
    have yq:i * ns.length+j<48:=by
     have h1:(i+1) * ns.length<=8 * ns.length:=Nat.mul_le_mul_right _ ()
     rw[sy]at h1;omega
    have zd:∀{G zg:Hp}{kvs:am (List Key×V)}{bk:Bk}{j:Nat},cW p G->bw p G zg->BI G db kvs bk ks ns i j->BI zg db kvs bk ks ns i j:=λyj zn m=>m.keep λb o xo e=>zn.kp _ _ e (by
     rcases xo with⟨xs,rfl⟩|rfl
     .obtain⟨x,y,e0,_⟩:=yj;exact aq e e0
     .exact aS ze)
    refine af Z (c6 (p:=p) (m:=5) PG.ok ∅ ∅ λyr zr e0 e1 xa=>#[_,_,Z,Z,_,Z,?_])
    have b1:=zd PG.ok xa a;have M:=PG.trans xa;have xf:=J.c3 PG.ok xa;have W:=D.c3 PG.ok xa;have xe:∀q∈bk,(q.1∈ks.take i/\q.2.1∈ns)\/(ih q.1=ks[i]? /\ q.2.1∈ns.take (j+1)):=λq yo=>by
     rcases b1.cO q yo with z|⟨r,C⟩
     .exact .inl z
     .exact .inr #[r,by rw[iD xb];exact gj _ C]
    refine bZ (λ_=>?_)^λ_=>#[_,_,_,Z,M,xf,W,#[b1.hd,b1.dv,b1.ent,b1.ask,b1.nd,xe,by have:=b1.a5;omega]]
    refine cZ Z Z Z #[ln,_,Z,.inl^au.of W.hl,qN.mk (k:=ns.length) (by rw[aE];rfl) M.ok W.hl N.ne () N.nm λv d xt ya zo xh xp=>?_]
    have yp:=zd M.ok ya b1;have yf:=M.trans ya;have zj:=xf.c3 M.ok ya;have xk:=W.c3 M.ok ya;refine cZ Z Z Z #[bQ,λkt O R _ yk=>?_];have zk:O kt=bn^([n' ks[i],n' ns[j]]:am Key).map kV:=yk;have g:=yp.keep λb o _ e=>R _ _ e;have a5:=g.a5;have lk:=g.dv.length;have zf : [ks[i],ns[j]]∉ bk.map cS:=λzp=>by
     obtain⟨xd,xl,e⟩:=a8.mp zp;have e1:xd.1=ks[i]:=by injection e
     have e2:xd.2.1=ns[j]:=by injection e with _ z;injection z
     rcases g.cO xd xl with⟨z,_⟩|⟨_,z⟩
     .exact xi (e1 ▸ z)
     .exact xj (e2 ▸ z)
    have yl:bq kvs [n' ks[i],n' ns[j]]=none:=by
     rcases g.dv.val (k:=ks[i]) (n:=ns[j]) with⟨z,_⟩|⟨yt,zt,_,C,_⟩
     .exact z
     .exact absurd (a8.mpr #[_,C,Z]) zf
    refine#[db,_,Z,eG.t (k:=[n' ks[i],n' ns[j]]) g.hd zk (by rw[aV];omega),?_]
    rw[i4 _ yl];have yh:∀{zs:am (List Key×V)} b xs,O b=bn xs->upd O db (.dT zs) b=bn xs:=λb xs e=>by rw[ag^aq e g.hd];exact e
    have zh:∀{zs:am (List Key×V)}{l:FG}{ys:am Gd},ea O l ys->ea (upd O db^.dT zs) l ys:=λh=>#[by rw[ag^aq h.hl g.hd];exact h.hl,h.ne,h.a5,h.nm,h.nd]
    refine#[_,bk++[(ks[i],ns[j],d)],_,Z,(yf.trans^kM yf.ok R).write L ze,zh^zj.same R,zh^xk.same R,#[ah,cg.snoc (xh.keep (zo.same R) yh)^g.dv.keep yh g.ent,λx c=>?_,λx c=>?_,?_,λx c=>?_,by rw[cz,lL];omega]]
    .rcases bT.mp c with z|z
     .exact g.ent x z
     .rw[bR.mp z];exact xh
    .rcases bT.mp c with z|z
     .exact g.ask x z
     .rw[bR.mp z];exact xp
    .rw[bj]
     exact dz.mpr #[g.nd,by simp,λu xq v yd y=>zf^by have yd:v=[ks[i],ns[j]]:=bR.mp yd;rw[<-yd,<-y];exact xq]
    .rcases bT.mp c with z|z
     .exact xe x z
     .rw[bR.mp z]
      exact .inr #[(bG T).symm,by rw[iD xb];exact et _ aY]
   .clear a J D PG
    rintro σ G ⟨kvs,bk,I,rfl,PG,J,D,a⟩;rw[aE]at a;refine#[kvs,bk,_,_,Z,PG,J,D,#[a.hd,a.dv,a.ent,a.ask,a.nd,λx c=>.inl ?_,by have:=a.a5;rw[sy];omega]]
    rw[iD T];rcases a.cO x c with⟨r,C⟩|⟨r,C⟩
    .exact#[gj _ r,C]
    .rw[bG T]at r
     exact#[et _ (by rw[cQ r];exact aY),nD C]
  .rintro σ G ⟨kvs,bk,zc,I,rfl,PG,J,D,a⟩
   rw[aE]at a;refine fw xc ?_;intro Y;have yb:∀x∈bk,x.1∈ks/\x.2.1∈ns:=λx c=>by
    rcases a.cO x c with⟨r,C⟩|⟨r,C⟩
    .exact#[nD r,C]
    .rw[sk^aP _]at r;cases r
   exact af Z^q db kvs bk G PG L a.hd a.dv #[λx c=>#[zb.nm _ (yb x c).1,N.nm _ (yb x c).2],a.ent,a.nd,by have:=a.a5;have h1:ks.length * ns.length<=8 * 6:=Ak ym zm;omega] a.ask yb
def hW(d:UN):List Gd:=((b9 d).filter λs=>decide (bb s = "ask")).map dq
def ly(d:UN):Bool:=(b9 d).any λs=>decide (bb s = "onward")
def gJ(W:aO)(n:Gd):Nat->Option (Gd×UN)->List Gd
 |0,_=>[]
 |_+1,none=>[]
 |k+1,ih (w,d)=>hW d++gJ W n k (if ly d=true then W.look (n,w) else none)
def jd(W:aO)(n:Gd):List Gd:=if (W.c2 (n,"")).isSome=true then [] else gJ W n W.line.length (W.look (n,""))
def vO:UN:=.tuple [.str "onward"]
theorem LR{s:UN}(h:eo s):X8 s vO=decide (bb s = "onward"):=by
 cases h with
 |add n=>show YF [.str "add",.int n] [.str "onward"]=decide (("add" : Gd) = "onward");rfl
 |times n=>show YF [.str "times",.int n] [.str "onward"]=decide (("times" : Gd) = "onward");rfl
 |ask x=>show YF [.str "ask",.str x] [.str "onward"]=decide (("ask" : Gd) = "onward");rfl
 |mx=>rfl
theorem A8{W:aO}:∀k,gJ W n k none=[]
 |0=>rfl
 |_+1=>rfl
theorem any_congr{α:Type}{l:am α}{p q:α->Bool}(h:∀x∈l,p x=q x):l.any p=l.any q:=by
 induction l with
 |nil=>rfl
 |cons x l a=>rw[jz,jz,h x aY,a λy b=>h y^bh _ b]
theorem AG{W:aO}{w:Gd}{k:Nat}{d:UN}:gJ W n (k+1)^ih (w,d)=hW d++gJ W n k (if ly d=true then W.look (n,w) else none):=rfl
structure LB(H:Hp)(la db ow:FG)(line:List Gd)(kvs:List (List Key×V))(bk:Bk)(own:Own):Prop where
 hl:H la=ih (.lst (line.map V.str))
 hd:H db=ih (.dT kvs)
 dv:cg H kvs bk
 ok:fz bk
 ho:H ow=ih (.dK (cm own))
 l8:line.length<=8
theorem LB.same{a:FG}{line:am Gd}{kvs:am (List Key×V)}{bk:Bk}{own:Own}(h:LB H a db ow line kvs bk own)(S:ax H H'):LB H' a db ow line kvs bk own:=#[S _ _ h.hl,S _ _ h.hd,h.dv.same S,h.ok,S _ _ h.ho,h.l8]
inductive rQ(vs:List V)(H:Hp)(Q:VK)(E:XK):Prop
 |mk{la db ow:FG}{line:List Gd}{kvs:List (List Key×V)}{bk:Bk}{own:Own}{name:Gd}(_:vs=[.ref la,.ref db,.ref ow,.str name])(_:LB H la db ow line kvs bk own)
  (_:∀r H',ax H H'->H' r=ih (.lst ((jd ⟨line,bk,own⟩ name).map V.str))->Q (.ref r) H'):rQ vs H Q E
noncomputable abbrev wz:List Gd:=["_law_line_here","_law_book_here","_law_own","_law_name"]
noncomputable abbrev Fq:List Gd:=["_law_line_here","_law_book_here","_law_own","_law_name","_law_spot_here","_law_found","_law_turn","_law_steps_here"]
theorem j6:bp Fq wz^aI oA:=bD
abbrev Ra:VH:=ET (fy (bW (uP (bW (mj (bW (bJ oA) 3)) 0)) 1))
theorem EW:b8 Fq (aI oA) ["_law_step_here"] [none]^cK Ra:=dF
theorem Ol(F:aQ K "_law_leads" "_law_leads" oA f fd)(B:dw mg)(yl:bB P w K mg base aF 1 fS dS r1 j5 "_law_spot")(xw:bB P w K mg base aF 1 fL dL ["_law_entry_here"] mO "_law_steps"):aT P w K mg base aF 2 f fd wz rQ:=by
 refine F.bI j6 λQb A outer s H vs Q E zl h=>?_
 .obtain @⟨S,db,ow,line,kvs,bk,own,name,rfl,I,q⟩:=h
  have xc:aZ 1 _:=zl;have xm:=zl.units;have zp:=d9 xm;intro X;refine#[_,ar (a4 4 j6.nd^a' yl xc^aa (pv 0)^aa (pv 1)^aa (pv 3)^aa br ai)
   (ar (a4 5 j6.nd^jW ai)
   (ar (bo (PW.pt^pw_and (gr^i9 zp (pv 3)^pv 2)^pw_and1^PW.pt^pw_or (bx gI (pv 4) d3^bC _)^pw_or1^bx jJ (aU bu (aU bu (pv 4) aw) aw) (jW^aa br^aa br ai) Z)
    (ay^a3^pv 5) bE)
   (ar (ee dZ Z (iZ Z B.range^aa (bV eQ Z B.len ew^aa (pv 0) ai) ai) (ba 6 j6.nd)
    (ay (bo (gr^tZ^pv 4)
     (ar (a4 7 j6.nd^a' xw xc^aa (aU bu (pv 4) aw) ai)
     (ar (a4 5 j6.nd^bN kW (pv 5)^d7 Z EW (c7^pv 7)^λs H fp=>#[ba 0 EW.nd,i1^bx dg (aU (jN K Z) (pv 0) aw) br^bC _,aU (jN K Z) (pv 0) aw^λ_ _=>rfl])
     (ay (bo (bx (DC xm) (eT^aa br ai) (pv 7) Z) (ay^a4 4 j6.nd^a' yl xc^aa (pv 0)^aa (pv 1)^aa (pv 3)^aa (aU bu (pv 4) aw) ai)
      (ay^a4 4 j6.nd d3)))))
     bE)))
   (ay^a3^pv 5)))),?_]
  generalize ze:(#[line,bk,own]:aO)=W at q;have xf:W.line=line:=by rw[<-ze]
  have eB:W.bk=bk:=by rw[<-ze]
  have yw:W.own=own:=by rw[<-ze]
  have lk:∀b,W.look (name,b)=c9 bk name^ei line b:=λb=>by unfold aO.look;rw[eB,xf]
  have yc:∀b wh d,W.look (name,b)=ih (wh,d)->Ent d/\wh∈line:=λb wh d e=>#[by rw[lk]at e;exact(kO I.ok wh d e).2,by rw[<-xf];exact ml e]
  refine fj λU j=>?_;intro g yf;refine cZ Z Z Z^j5.mk Z I.hl I.hd I.dv I.ok (.inl Z) λv Y zw zf=>?_;rw[<-lk]at zf;refine bO j λU j=>?_;intro g yf;refine#[bF _,λlf H2 xg _ xq=>?_];have yi:=zw.trans xg;have zi:=I.same yi;refine bO j λU j=>?_;intro g yf;refine vN (BW Z Z Z (W:=W) (a:=(name,"")) (by rw[yw];exact zi.ho) (eO.same zf xg) λwh d e=>(yc _ wh d e).1) λyg T=>?_
  have xj:=yi.trans T;have xi:=T _ _ xq;have yj:=zi.same T
  by_cases J:(W.own.lookup name).isSome=true/\W.eX (name,"")=true
  .rw[aB^by rw[J.1,J.2];rfl]
   obtain⟨z,xx⟩:=sd.mp J.1;have zg:W.c2 (name,"")=ih z:=by unfold aO.c2;rw[aB #[Z,J.2],xx]
   exact af Z (q lf yg xj^by unfold jd;rw[zg];exact xi)
  rw[ao (λz=>J^by rw[gW]at z;exact z)]
  have zg:W.c2 (name,"")=none:=by
   unfold aO.c2
   by_cases xa:W.eX (name,"")=true
   .rw[aB #[Z,xa]]
    cases e:W.own.lookup name with
    |none=>rfl
    |some z=>exact absurd #[by rw[e];rfl,xa] J
   .rw[ao^λz=>xa z.2]
  have yq:jd W name=gJ W name line.length^W.look (name,""):=by unfold jd;rw[zg,ao (by simp),xf]
  rw[yq]at q;refine bO j λU j=>?_;intro g yf;have xB:=I.l8;refine#[_,Z,S,_,Z,.inl^au.of yj.hl,_,Z,(),by rw[aE];omega,l0 (λi σ G=>∃(lf:FG) (fs:am Gd) (k:a2 (Gd×UN)) (n:V) (xh yh:a2 V),σ=[bd S,bd db,bd ow,ih^.str name,ih n,bd lf,xh,yh]/\ax yg G/\G lf=ce^fs.map V.str/\eO G n k/\(∀wh d,k=ih (wh,d)->Ent d/\wh∈line)/\fs++gJ W name (line.length - i) k=gJ W name line.length^W.look (name,"")/\fs.length<=4 * i)
   #[lf,[],_,v,none,none,Z,ax.refl _,xi,(eO.same zf xg).same T,yc "",Z,bF _] ?_ ?_]
  .rintro i σ G hi ⟨lf,fs,k,n,xh,yh,rfl,N,ya,oc,ym,l,yx⟩
   refine hR ?_;intro g yB;have zA:i<line.length:=by rw[aE]at hi;have:Y' ((line.length:Nat):Int)=line.length:=gD _;rw[this]at hi;exact hi
   have wB:=yj.same N;cases k with
   |none =>
    have oc:n=V.aK:=oc;subst oc;refine aW Z Z ?_;refine bZ (λz=>absurd z ∅)^λ_=>?_
    exact#[lf,fs,none,_,_,_,Z,N,ya,Z,λwh d e=>(by cases e),by rw[A8]at l⊢;exact l,()]
   |some p =>
    obtain⟨wh,d⟩:=p;obtain⟨zm,zq⟩:=ym wh d Z;obtain⟨t,u,rfl,xn,zx⟩:=oc;obtain⟨zc,xr⟩:=tU zm;have xy:line.length - i=(line.length - (i+1))+1:=()
    rw[xy,AG]at l;refine aW Z Z ?_;refine bZ (λ_=>?_)^λz=>absurd (by rw[er^by intro z;cases z];rfl) z
    refine fj λU j=>?_;intro g yy;refine af Z^a7 xn cP^mO.mk Z zm zx λyn us zy xz xd yd=>?_;refine bO j λU j=>?_;intro g yy;have yr:=bM.length yd;refine aW Z Z #[yn,Z,#[_,au.of xd],λc zn=>?_];refine fB (xs:=us) (λm ys g r=>∃zh:a2 V,g=[zh]/\ax zy r/\r c=ce ys/\ys=((((b9 d).take m).filter λs=>decide (bb s = "ask")).map dq).map V.str) #[none,Z,dU zn,ah,Z] (λm ys g r ab=>by obtain⟨_,_,z1,z2,_⟩:=ab;exact #[z2,au.of^z1 _ _ xd]) ?_ ?_
    .rintro m y ys g r xo ⟨zh,rfl,C,D,rfl⟩
     have zj:=(b4.mp xo).1;obtain⟨za,zd,yz⟩:=bM.get (bM.same yd C) xo;have zr:m<(b9 d).length:=(b4.mp zd).1;have zo:eo za:=zc za^eu zd;obtain⟨zB,xs,rfl,xe,_,xt,_⟩:=qq zo yz;have xk:(b9 d).take (m+1)=(b9 d).take m++[za]:=by rw[iD zr,(b4.mp zd).2]
     refine af Z^a7 xe b6 #[Z,_,Z,?_];have a5:(((b9 d).take m).filter λs=>decide (bb s = "ask")).length<=4:=ec (gn _ _) (by rw[cH];omega)
     by_cases e:bb za = "ask"
     .refine ite_tt (by rw[e];rfl) ?_
      have ex:=xt e;rw[ex]at xe;refine af Z^a7 xe cP #[D,by rw[aE,aE,aV];omega,cw_next zj #[_,Z,λb o e=>by rw[ag^aA e zn];exact C _ _ e,ah,?_]]
      rw[xk,gp,kD,aB^cb e,sv,bj,bj];rfl
     .refine ite_ff (er λz=>e^by injection z) ?_
      refine cw_next zj^af Z #[C,D,?_];rw[xk,gp,kD,ao (by simp[e]),sv,e6]
    .rintro ys g r ⟨zh,rfl,C,D,rfl⟩
     rw[yr,cF]at D;have a5:(hW d).length<=4:=by unfold hW;rw[aE];exact ec (gn _ _) xr
     have D:r c=ce^(hW d).map V.str:=D;have yk:=xz.trans C;refine#[lf,c,_,_,Z,Z,yk _ _ ya,D,by rw[aE,aE,aV];omega,λO yt=>?_]
     rw[<-bj];have xb:=dU (o:=.lst^(fs++hW d).map V.str) yt;have zk:upd r O (.lst^(fs++hW d).map V.str) O=ce^(fs++hW d).map V.str:=ah;generalize upd r O^.lst^(fs++hW d).map V.str=xC at xb zk⊢;have zt:=yk.trans xb;have xp:=(C.trans xb) _ _ xd;have yp:=bM.same yd^C.trans xb;refine fw j ?_;intro g;refine#[eW,λxa yo yb _ xu=>af Z #[vO,b9 d,.tup xu^.cons (.str _) .nil,.inl^.lst (yb _ _ xp)^bM.same yp yb,⋯,(CA zc).1,⋯,_,Z,?_]]
     rw[ao b7];have ye:=zt.trans yb;have R:=wB.same ye;have yu:=ye _ _ xn;have zu:((b9 d).any λy=>X8 y vO)=ly d:=by
      unfold ly;exact any_congr λs zz=>LR^zc s zz
     rw[zu];have xl:∀(L:V) (M:a2 (Gd×UN)) (x:Hp),ax yo x->eO x L M->(∀wh d,M=ih (wh,d)->Ent d/\wh∈line)->M=(if ly d=true then W.look (name,wh) else none) ->∃(lf:FG) (fs:am Gd) (k:a2 (Gd×UN)) (n:V) (xv yv:a2 V),[bd S,bd db,bd ow,ih^.str name,ih L,bd O,ih^V.int (0+(i:Int)),bd yn]=[ih^V.ref S,bd db,bd ow,ih^.str name,ih n,bd lf,xv,yv]/\ax yg x/\x lf=ce^fs.map V.str/\eO x n k/\(∀wh d,k=ih (wh,d)->Ent d/\wh∈line)/\fs++gJ W name (line.length - (i+1)) k=gJ W name line.length^W.look (name,"")/\fs.length<=4 * (i+1):=λL M x zb o' xA zv=>#[O,fs++hW d,M,L,_,_,Z,N.trans^ye.trans zb,(yb.trans zb) _ _ zk,o',xA,by rw[zv,nj];exact l,by rw[cz];omega]
     refine bZ (λc=>?_)^λc=>?_
     .refine jk Z Z Z Z^a7 yu b6^j5.mk Z R.hl R.hd R.dv R.ok (.inr zq) λL x zb o'=>?_
      rw[<-lk]at o';exact xl L _ x zb o' (yc wh) (by rw[aB c])
     .exact xl .aK none yo (ax.refl _) Z (λwh d e=>(by cases e)) (by rw[ao c])
  .rintro σ G ⟨lf,fs,k,n,xh,yh,rfl,N,ya,oc,ym,l,yx⟩
   have yA:Y' (((line.map V.str).length:Nat):Int)=line.length:=by rw[aE];exact gD _
   rw[yA,Nat.sub_self]at l;have l:fs++[]=_:=l;rw[e6]at l;refine fw j ?_;intro g;exact af Z (q lf G (xj.trans N)^by rw[<-l];exact ya)
def gg(line:List Gd)(b:Gd):Nat:=if b = "" then 0 else line.idxOf b+1
theorem BX{W:aO}(c:W.line.Nodup){b:Gd}{d:UN}(h:W.look (n,b)=ih (wh,d))(ne:wh ≠ ""):gg W.line b<gg W.line wh/\gg W.line wh<=W.line.length:=by
 have e:ei W.line b=W.line.drop^gg W.line b:=by unfold ei gg;split <;> rfl
 have a:wh∈ei W.line b:=(jS h).1;rw[e]at a;obtain⟨i,hi,rfl⟩:=zZ.mp a;rw[m9]at hi;have f:gg W.line (W.line.drop^gg W.line b)[i]=gg W.line b+i+1:=by
  rw[show gg W.line (W.line.drop^gg W.line b)[i]=W.line.idxOf (W.line.drop^gg W.line b)[i]+1 from ao ne,List.getElem_drop,c.idxOf_getElem]
 omega
section
variable{W:aO}
theorem s7{w:Gd}{d:UN}{b:Ask}(h:W.need n w d=ih b):(bb d = "ask" /\ b=(dq d,("" : Gd)))\/(bb d = "onward" /\ b=(n,w)):=by
 unfold aO.need at h
 by_cases c:bb d = "ask"
 .rw[aB c]at h;cases h;exact .inl #[c,Z]
 .rw[ao c]at h
  by_cases a:bb d = "onward"
  .rw[aB a]at h
   split at h
   .cases h;exact .inr #[a,Z]
   .cases h
  .rw[ao a]at h;cases h
theorem CL{f:bt}(ok:bS W f){b:Ask}(h:gM W f=ih b):∃d s,W.look f.a=ih (f.w,d)/\s∈b9 d/\W.need f.a.1 f.w s=ih b:=by
 obtain⟨s,ds,e1,e2⟩:=kH h;obtain⟨_,d,pre,h2,c,_⟩:=ok.lk;exact#[d,s,h2,by rw[c,e1];exact et _ aY,e2]
theorem jM{a:Ask}{b:am Ask}:cf (a::b)=if a.2 = "" then a.1::cf b else cf b:=by
 unfold cf;rw[kD]
 by_cases c:a.2 = ""
 .rw[aB^cb c,aB c];rfl
 .rw[ao (by simp[c]),ao c]
theorem tV{a bs:am Ask}:cf (a++bs)=cf a++cf bs:=by unfold cf;rw[gp,bj]
theorem A9{f:bt}{l:am bt}{b:Ask}(c:Chain W (f::l) b):∃x,gM W f=ih x/\(l.map (·.a)++[b]).head?=ih x /\∀g d,l=g::d->Chain W (g::d) b:=by
 cases l with
 |nil=>exact#[b,c,Z,λ_ _ e=>(by cases e)]
 |cons g d=>exact#[g.a,c.1,Z,λ_ _ e=>by cases e;exact c.2]
theorem A'(m:W.line.Nodup)(ne:∀k∈W.line,k ≠ ""){b:Ask}{y:Gd}:∀{l:am bt}{f:bt}{k:Nat},(∀g∈f::l,bS W g)->Chain W (f::l) b->(cf (l.map (·.a)++[b])).head?=ih y->W.line.length<=k+gg W.line f.a.2->y∈gJ W f.a.1 k^W.look f.a
 |l,f,k,ok,c,h,B=>by
  obtain⟨x,u,i,cn⟩:=A9 c;obtain⟨d,s,e1,e2,e3⟩:=CL (ok f aY) u;have o:=ml e1;obtain⟨C,p2⟩:=BX m (n:=f.a.1) (b:=f.a.2) e1^ne _ o;obtain⟨k,rfl⟩:∃v,k=v+1:=#[k - 1,()]
  rw[e1,AG];rcases s7 e3 with⟨t,rfl⟩|⟨t,rfl⟩
  .refine gj _ ?_
   have:cf (l.map (·.a)++[b])=dq s::cf^(l.map (·.a)++[b]).drop 1:=by
    cases e:l.map (·.a)++[b] with
    |nil=>simp at e
    |cons z r=>rw[e]at i;cases i;rw[jM,aB Z];rfl
   rw[this]at h;cases h
   exact a8.mpr #[s,eb.mpr #[e2,cb t],Z]
  .refine et _ ?_
   rw[aB (show ly d=true from lO.mpr #[s,e2,cb t])];have p:=ne _ o;cases l with
   |nil =>
    cases i
    rw[show cf (([]:am bt).map (·.a)++[(f.a.1,f.w)])=[] from by show cf [(f.a.1,f.w)]=[];rw[jM,ao p];rfl]at h
    cases h
   |cons g q =>
    have j:g.a=(f.a.1,f.w):=cQ i;have:=A' m ne (l:=q) (f:=g) (k:=k) (b:=b) (y:=y) (λz A=>ok z^bh _ A) (cn g q Z) (by
     rw[bY,F6,jM,ao^by rw[j];exact p]at h;exact h) (by rw[j];show _<=_+gg W.line f.w;omega)
    rw[j]at this;exact this
theorem Ba(j:W.line.Nodup)(ne:∀k∈W.line,k ≠ ""){b:Ask}:∀{l:am bt}{f:bt},(∀g∈f::l,bS W g)->Chain W (f::l) b->cf (l.map (·.a)++[b])=[]->gg W.line f.a.2<gg W.line b.2
 |l,f,ok,c,h=>by
  obtain⟨x,u,i,cn⟩:=A9 c;obtain⟨d,s,e1,e2,e3⟩:=CL (ok f aY) u;have m:=ml e1;obtain⟨o,p2⟩:=BX j (n:=f.a.1) (b:=f.a.2) e1^ne _ m;have:x=(f.a.1,f.w):=by
   rcases s7 e3 with⟨t,rfl⟩|⟨t,rfl⟩
   .cases e:l.map (·.a)++[b] with
    |nil=>simp at e
    |cons z r=>rw[e]at i h;cases i;rw[jM,aB Z]at h;cases h
   .rfl
  cases l with
  |nil=>cases i;rw[this];exact o
  |cons g p =>
   have q:g.a=(f.a.1,f.w):=by cases i;exact this
   have:=Ba j ne (l:=p) (f:=g) (b:=b) (λz v=>ok z^bh _ v) (cn g p Z) (by
    rw[bY,F6,jM,ao^by rw[q];exact ne _ m]at h;exact h)
   rw[q]at this;exact lM o this
theorem BY{b:Ask}:∀{l m:am bt}{c:Ask},Chain W l c->m.head?.map (·.a)=ih c->Chain W m b->Chain W (l++m) b
 |[],m,c,_,_,h=>h
 |[f],[],c,_,e,_=>by cases e
 |[f],g::m,c,h1,e,h2=>by cases e;exact#[h1,h2]
 |f::g::l,m,c,h1,e,h2=>#[h1.1,BY (l:=g::l) h1.2 e h2]
theorem sO(i:W.line.Nodup)(ne:∀k∈W.line,k ≠ ""){b:Ask}:∀{l:am bt}{k:Nat}{x y:Gd},(∀g∈l,bS W g)->Chain W l b->(cf^l.map (·.a))[k]?=ih x->(cf^l.map (·.a))[k+1]?=ih y->y∈jd W x
 |[],k,x,y,_,_,e,_=>by cases e
 |f::l,k,x,y,ok,c,ex,d=>by
  have m:Chain W l b:=by
   cases l with
   |nil=>trivial
   |cons g s=>exact c.2
  have j:∀g∈l,bS W g:=λz p=>ok z^bh _ p;rw[bY,jM]at ex d
  by_cases h:f.a.2 = ""
  .rw[aB h]at ex d
   cases k with
   |succ k=>exact sO i ne j m ex d
   |zero =>
    have ex:f.a.1=x:=by simpa using ex
    subst ex;have d:(cf^l.map (·.a))[0]?=ih y:=by simpa using d
    have q:(cf (l.map (·.a)++[b])).head?=ih y:=by
     rw[tV];cases e:cf^l.map (·.a) with
     |nil=>rw[e]at d;cases d
     |cons z r=>rw[e]at d;simpa using d
    have:=A' i ne (k:=W.line.length) ok c q^aaz _ _;have n:f.a=(f.a.1,("" : Gd)):=by rw[<-h]
    have o:=(ok f aY).lk.1;rw[n]at o;unfold jd;rw[o,ao^by simp]
    rw[n]at this;exact this
  .rw[ao h]at ex d
   exact sO i ne j m ex d
theorem BZ{n x:Gd}{NS:am Gd}(c:∀p∈W.bk,∀s∈b9 p.2.2,bb s = "ask" -> dq s∈NS):∀{k:Nat}{b:Gd},x∈gJ W n k^W.look (n,b)->x∈NS
 |0,_,h=>by cases h
 |k+1,b,h=>by
  cases e:W.look (n,b) with
  |none=>rw[e]at h;cases h
  |some p =>
   rw[e]at h;have h:x∈hW p.2++gJ W n k (if ly p.2=true then W.look (n,p.1) else none):=h;rcases bT.mp h with z|z
   .obtain⟨s,a,rfl⟩:=a8.mp z
    obtain⟨a,d⟩:=eb.mp a;exact c _ (kF (jS e).2) s a^dA d
   .split at z
    .exact BZ c z
    .rw[A8]at z;cases z
structure D8(W:aO)(NS ns:List Gd):Prop where
 ne:ns ≠ []
 nd:ns.Nodup
 ld:∀k,k<ns.length ->∃x y,ns[k]?=ih x/\ns[(k+1) % ns.length]?=ih y/\y∈jd W x
 cO:∀n∈ns,n∈NS
theorem eM.is{a:Ask}(h:eM W a ns)(q:W.line.Nodup)(ne:∀k∈W.line,k ≠ "")(u:∀p∈W.bk,∀s∈b9 p.2.2,bb s = "ask" -> dq s∈NS):D8 W NS ns:=by
 obtain⟨_,fs,b,d,ok,c,v,rfl⟩:=h.core;cases fs with
 |nil=>cases d
 |cons f l =>
  have d:f.a=b:=by simpa using d
  have h1:cf^(f::l).map (·.a)≠ []:=λz=>by
   have:=Ba q ne ok c (by
    rw[tV];rw[bY,jM]at z
    by_cases e:f.a.2 = ""
    .rw[aB e]at z;cases z
    .rw[ao e]at z;rw[z,<-d,jM,ao e];rfl)
   rw[d]at this;exact jt _ this
  have h2:(cf^(f::l).map (·.a)).Nodup:=by
   have w:(((f::l).map (·.a)).filter λa=>decide (a.2=("" : Gd))).Nodup:=v.filter _;refine Vz _ ?_^abz.mp w;rintro x y ⟨A,B,n⟩ e;have e1:=dA (eb.mp A).2;have e2:=dA (eb.mp B).2;exact n^wI e^e1.trans e2.symm
  have C:Chain W ((f::l)++(f::l)) b:=BY c (by simp[d]) c
  have ld:∀k,k<(cf^(f::l).map (·.a)).length ->∃x y,(cf^(f::l).map (·.a))[k]?=ih x/\(cf^(f::l).map (·.a))[(k+1) % (cf^(f::l).map (·.a)).length]?=ih y/\y∈jd W x:=by
   have m:=λ{k x y}=>sO q ne (l:=(f::l)++(f::l)) (k:=k) (x:=x) (y:=y) (λg D=>(bT.mp D).elim (ok g)^ok g) C;rw[bj,tV]at m;generalize cf^(f::l).map (·.a)=ns at m h1;intro k o;have E:(k+1) % ns.length<ns.length:=w9 _ ()
   refine#[ns[k],ns[(k+1) % ns.length],bG o,bG E,m (k:=k) ?_ ?_]
   .rw[FE o,bG o]
   .rcases Nat.lt_or_ge (k+1) ns.length with z|z
    .rw[FE z,bG z];congr 1;simp only[aaw z]
    .have e:k+1=ns.length:=()
     have e2:(k+1) % ns.length=0:=by rw[e,Nat.mod_self]
     rw[UY z,show k+1 - ns.length=0 by omega,bG ()]
     congr 1;simp only[e2]
  refine#[h1,h2,ld,λn r=>?_];generalize cf^(f::l).map (·.a)=ns at h1 h2 ld r;obtain⟨i,hi,rfl⟩:=zZ.mp r;have F:(i+(ns.length - 1)) % ns.length<ns.length:=w9 _ ()
  obtain⟨x,y,_,t,j⟩:=ld ((i+(ns.length - 1)) % ns.length) F;have:((i+(ns.length - 1)) % ns.length+1) % ns.length=i:=by
   rw[Nat.mod_add_mod,show i+(ns.length - 1)+1=i+ns.length by omega,Nat.add_mod_right,aaw hi]
  rw[this,bG hi]at t;cases t
  unfold jd at j;split at j
  .cases j
  .exact BZ u j
end
inductive rR(vs:List V)(H:Hp)(Q:VK)(E:XK):Prop
 |mk{la db ow t:FG}{line NS ns:List Gd}{kvs:List (List Key×V)}{bk:Bk}{own:Own}(_:vs=[.ref la,.ref db,.ref ow,.ref t])(_:LB H la db ow line kvs bk own)(_:H t=ih (.tup (ns.map V.str)))(_:D8 ⟨line,bk,own⟩ NS ns)(_:ns.length<=100)(_:∀n∈ns,Nm n)
  (_:∀H',ax H H'->Q (.bl true) H'):rR vs H Q E
noncomputable abbrev m6:List Gd:=["_law_line_here","_law_book_here","_law_own","_law_names_here"]
theorem PD:bp m6 m6^aI kL:=bD
abbrev PF:VH:=gz (Ex (uQ (D7 (bW (bJ kL) 0)) 2))
abbrev PH:VH:=gz (mL (bW (bJ kL) 2))
theorem D9:b8 m6 (aI kL) ["_law_name"] [none]^cK PF:=dF
theorem D':b8 m6 (aI kL) ["_law_k","_law_names_here","_law_line_here","_law_book_here","_law_own"] [none,ih 3,ih 0,ih 1,ih 2]^cK PH:=dF
theorem Om(F:aQ K "_law_is_round" "_law_is_round" kL f fd)(B:dw mg)(L:hA mg)(bs:mg "set" = none)(D:bB P w K mg base aF 2 fL dL wz rQ "_law_leads"):aT P w K mg base aF 3 f fd m6 rR:=by
 refine F.bI PD λQb A outer s H vs Q E xb h=>?_
 .obtain @⟨yf,db,ow,t,line,NS,ns,kvs,bk,own,rfl,zf,j,M,yj,xg,q⟩:=h
  have yg:=xb.units;have yd:aZ 2 _:=xb;intro X;refine#[_,ar (bo (PW.pt (pw_or (gv^gu^bV l6 Z L.m2 mc^aa (pv 3)^aa (me (v:=.ty "tuple") Z B.tuple boot_tuple Z) ai)
    (pw_or (bx (uG yg) (pv 3) (eT ai)^bC _)
    (pw_or1^gv^gu^bV (pR Z) Z B.all boot_all^aa (d7 Z D9 (kR^pv 3)^λs H fp=>#[ba 0 D9.nd,ey,bV (HW K Z) Z L.m2 mc^aa (pv 0)^aa (me (v:=.ty "str") Z L.str boot_str Z) ai]) ai)))) (ay^a3 g7) bE)
   (ar (bo (bx je (bV Hq Z B.len ew^aa (df (Co Z) Z bs BU^aa (pv 3) ai) ai) (bV eQ Z B.len ew^aa (pv 3) ai)^bC _) (ay^a3 g7) bE)
   (ay^a3^bV (pR Z) Z B.all boot_all^aa (d7 Z D' (iZ Z B.range^aa (bV eQ Z B.len ew^aa (pv 3) ai) ai)^λs H fp=>#[ba 0 D'.nd,ey,
    jO (C2 K Z) (aU (jN K Z) (pv 1)^bN kT (bN fq (pv 0) aw)^bV (HV K Z) Z B.len ew^aa (pv 1) ai) (f3 D.G yd Z D.m D.k D.b .nil c8^aa (pv 2)^aa (pv 3)^aa (pv 4)^aa (aU (jN K Z) (pv 1)^pv 0) ai) Z]) ai)),?_]
  have xd : ¬ ns=[]:=M.ne;have zd:(PyData.tuple^ns.map VB).canLay0=true:=nY xg;refine fj λU N=>?_;intro d zg;refine af Z #[#[_,.inr #["tuple",Z]],.ref t,.ty "tuple",.type "tuple",.type "tuple",true,Z,Z,.inl^.tup j,Z,true,Z,?_];refine af Z #[bF _,λe Y O _ xh=>#[.tuple^ns.map VB,.tuple [],.tup (O _ _ j)^ma _ _,.tup xh .nil,zd,Z,by show Vs _+1<=60;rw[nH];decide,_,Z,?_]]
  have e0:X8 (.tuple^ns.map VB)^.tuple []=false:=by
   show YF _^List.map VB []=false;rw[tR];exact er xd
  rw[e0];have T:=O _ _ j;refine af Z #[t,Z,#[_,aX.of T],λp yb=>?_];refine l7 (xs:=ns.map V.str) (λi ys d H2=>∃g:a2 V,d=[g]/\ys=(YD i true).map V.bl/\ax Y H2/\H2 p=ce ys) #[none,Z,Z,dU yb,ah] (λi ys d H2 ab=>by obtain⟨_,_,_,z,z2⟩:=ab;exact #[z2,aX.of^z _ _ T]) ?_ ?_
  .rintro i x ys d H2 zb ⟨g,rfl,rfl,R,h2⟩
   have W:i<(ns.map V.str).length:=(b4.mp zb).1;have I:i<ns.length:=by simpa using W
   obtain rfl:V.str ns[i]=x:=by simpa [I] using zb
   refine af Z #[#[_,.inr #["str",Z]],.str ns[i],.ty "str",.type "str",.type "str",true,Z,Z,.inl^.str _,Z,h2,by rw[aE,wH,aV];omega,cw_next W #[_,Z,?_,λb u e=>?_,ah]]
   .rw[Gu,bj];rfl
   .rw[ag^aA e yb];exact R _ _ e
  .rintro ys d H2 ⟨g,rfl,rfl,R,h2⟩
   refine#[p,_,Z,au.of h2,_,Z,?_];have:(YD (ns.map V.str).length true).all id=true:=by simp
   rw[this];have xa:=O.trans R;have ya:=xa _ _ j;refine bO N λU N=>?_;intro d zg;refine af Z #[t,ns,Z,.inr^aX.of ya,(),λa ds yh xe ye=>?_]
   have xc:=dU (o:=jm X.prog X.w a ds) yh;refine#[a,ds,Z,ah,_,Z,t,_,Z,.inr^aX.of^xc _ _ ya,Z,?_];rw[aE,((VE xe M.nd).mpr ye).length_eq];refine af Z^ite_ff (by rw[cb Z];rfl) ?_
   have C:=xa.trans xc;generalize upd H2 a^jm X.prog X.w a ds=zh at C⊢;have za:=C _ _ j;have ze:=zf.same C;refine fw N ?_;intro d;refine af Z #[t,_,Z,.inr^aX.of za,_,Z,(),by rw[aE];omega,λc yc=>?_]
   refine pM (λi ys d l=>∃g:a2 V,d=[g,bd t,bd yf,bd db,bd ow]/\ys=(YD i true).map V.bl/\ax zh l/\l c=ce ys) #[none,Z,Z,dU yc,ah] (λi ys d l ab=>by obtain⟨_,_,_,_,z⟩:=ab;exact z) ?_ ?_
   .rintro i ys d l hi ⟨g,rfl,rfl,n,S⟩
    have I:i<ns.length:=by rw[aE]at hi;have:Y' ((ns.length:Nat):Int)=ns.length:=gD _;rw[this]at hi;exact hi
    rw[show(0:Int)+(i:Int)=i by omega]
    obtain⟨x,y,ex,xi,yi⟩:=M.ld i I;have J:=n _ _ za;have zi:(ns.map V.str).length=ns.length:=aE _;have xj:((i:Int)+1) % ((ns.map V.str).length:Nat)=(((i+1) % ns.length:Nat):Int):=by rw[zi];exact(Int.natCast_emod (i+1) ns.length).symm
    refine aW Z Z #[_,_,Z,Z,_,Z,t,_,Z,.inr^aX.of J,_,_,Z,Z,(),?_]
    refine#[t,_,_,_,Z,dy V.int xj,aX.of J,cx (by rw[c5,xi];rfl),_,Z,_,Z,_,Z,_,Z,_,Z,P7 J (cx^by rw[c5,ex];rfl)^rQ.mk Z (ze.same n) λr zj zc xf=>?_]
    refine#[r,_,Z,.inl^au.of xf,Z,jL _,?_];rw[ao b7,i2,cb yi];refine#[zc _ _ S,by rw[aE,wH,aV];omega,cw_next hi #[_,Z,?_,λb u e=>?_,ah]]
    .rw[Gu,bj];rfl
    .rw[ag^aA e yc];exact zc _ _^n _ _ e
   .rintro ys d l ⟨g,rfl,rfl,n,S⟩
    refine#[c,_,Z,au.of S,?_];rw[show(YD (Y' (((ns.map V.str).length:Nat):Int)) true).all id=true by simp]
    exact q _^C.trans n
section
variable{W:aO}
theorem tW{f:Ask->Option Rs}{n w m:Gd}:∀{ds:am UN}{t:Int},W.dX f n w ds t=ih^.miss m ->∃s∈ds,∃b,W.need n w s=ih b/\f b=ih^.miss m
 |[],t,h=>by cases h
 |d::ds,t,h=>by
  cases a:W.need n w d with
  |none =>
   rw[jc a]at h;obtain⟨s,c,r⟩:=tW h;exact#[s,bh _ c,r]
  |some b =>
   rw[g4 a]at h;cases e:f b with
   |none=>rw[e]at h;cases h
   |some x =>
    rw[e]at h;cases x with
    |miss g=>cases h;exact#[d,aY,b,a,e]
    |told z =>
     obtain⟨s,c,r⟩:=tW h;exact#[s,bh _ c,r]
theorem qd{NS:am Gd}(c:∀p∈W.bk,∀s∈b9 p.2.2,bb s = "ask" -> dq s∈NS){m:Gd}:∀{k:Nat}{a:Ask},W.out k a=ih^.miss m->m=a.1\/m∈NS
 |0,_,h=>by cases h
 |k+1,a,h=>by
  have h:W.ck (W.out k) a=ih^.miss m:=h;unfold aO.ck at h;cases f:W.c2 a with
  |some z=>rw[f]at h;cases h
  |none =>
   rw[f]at h;cases d:W.look a with
   |none=>rw[d]at h;cases h;exact .inl Z
   |some p =>
    rw[d]at h;obtain⟨s,i,b,j,g⟩:=tW h;rcases s7 j with⟨t,rfl⟩|⟨t,rfl⟩
    .rcases qd c g with e|e
     .exact .inr (by rw[e];exact c _ (kF (jS d).2) s i t)
     .exact .inr e
    .exact qd (a:=(a.1,p.1)) c g
end
def o5:Rs->UN
 |.told z=>.tuple [.str "told",.int z]
 |.miss n=>.tuple [.str "missing",.str n]
theorem DM{t:FG}{r:Rs}(h:H t=bn^m5 r):Rep H (.ref t)^o5 r:=by
 cases r with
 |told z=>exact .tup h^.cons (.str _)^.cons (.int _) .nil
 |miss n=>exact .tup h^.cons (.str _)^.cons (.str _) .nil
theorem MO{r:Rs}(h:∀n,r=.miss n->Nm n):(o5 r).canLay0=true/\(o5 r).depth<=60:=by
 cases r with
 |told z=>exact#[by show(VI "told" && (true&&true))=true;decide +kernel,by simp[o5,Yi,Vs]]
 |miss n=>exact#[by show(VI "missing" && (VI n&&true))=true;rw[mH^h n Z];decide +kernel,by simp[o5,Yi,Vs]]
inductive mV(vs:List V)(H:Hp)(Q:VK)(E:XK):Prop
 |mk{la db ow dk ky p:FG}{line NS:List Gd}{kvs kk:List (List Key×V)}{bk:Bk}{own:Own}{ka:List (Ask×Rs)}{a:Ask}{r:gV}(_:vs=[.ref la,.ref db,.ref ow,.ref dk,.ref ky,.ref p])(_:LB H la db ow line kvs bk own)(_:H dk=ih (.dT kk))(_:hG H kk ka)(_:Table ⟨line,bk,own⟩ (o3 ⟨line,bk,own⟩ NS) ka)(_:H ky=ih (.tup [.str a.1,.str a.2]))(_:a.2 = "" \/ a.2∈line)(_:Nm a.1)
  (_:h9 H p r) (_:aO.Comes ⟨line,bk,own⟩ a r) (_:line.Nodup) (_:∀k∈line,k ≠ "") (_:NS.length<=8) (_:∀n∈NS,Nm n)
  (_:∀q∈bk,∀s∈b9 q.2.2,bb s = "ask" -> dq s∈NS) (_:∀q∈bk,q.2.1∈NS) (_:∀H',ax H H'->Q (.bl true) H'):mV vs H Q E
noncomputable abbrev r7:List Gd:=["_law_line_here","_law_book_here","_law_own","_law_known_here","_law_key","_law_told_here"]
noncomputable abbrev Rb:List Gd:=["_law_line_here","_law_book_here","_law_own","_law_known_here","_law_key","_law_told_here","_law_due"]
theorem EX:bp Rb r7^aI v':=bD
theorem Oo{fR:FG}(F:aQ K "_law_is" "_law_is" v' f fd)(I:hA mg)(J:vI mg)(ya:bB P w K mg base aF 2 fG dG r3 mQ "_law_go")(za:bB P w K mg base aF 3 fR dR m6 rR "_law_is_round"):aT P w K mg base aF 4 f fd r7 mV:=by
 refine F.bI EX λQb A outer s H vs Q E L h=>?_
 .obtain @⟨ye,db,ow,dk,ze,p,line,NS,kvs,kk,bk,own,ka,a,r,rfl,g,O,kt,T,R,xb,yb,av,y,zb,ne,xf,M,B,S,q⟩:=h
  have xc:=L.units;have D:aZ 3 _:=L;have W:aZ 2 _:=D.mono ∅
  intro X;refine#[_,ar (a4 6 EX.nd^a' ya W^aa (pv 0)^aa (pv 1)^aa (pv 2)^aa (pv 3)^aa (pv 4) ai)
   (ar (bo (bx gI (pv 6) d3^bC _)
    (ar (bo (bx je (aU bu (pv 5) aw) br^bC _) (ay^a3 g7) bE)
    (ay^a3^a' za D^aa (pv 0)^aa (pv 1)^aa (pv 2)^aa (aU bu (pv 5) aw) ai)) bE)
   (ar (bo (bx (qx xc) (pv 5) (pv 6)^bC _) (ay^a3 g7) bE)
   (ay^a3^MZ (jO je (aU bu (pv 6) aw) br^bC _)^qu^uA (bV l6 Z I.m2 mc^aa (aU bu (pv 5) aw)^aa (me (v:=.ty "int") Z J.int boot_int Z) ai)^qu^L0^bV l6 Z I.m2 mc^aa (aU bu (pv 5) aw)^aa (me (v:=.ty "bool") Z J.bool boot_bool Z) ai))),?_]
  have wi:Within #[line,bk,own] (o3 #[line,bk,own] NS) a:=within B S a;refine fj λU c=>?_;intro j N;refine q2 Z Z Z Z Z^mQ.mk Z g.hl g.hd g.dv g.ok g.ho O kt R xb λv Y d i=>?_;refine bO c λU c=>?_;intro j N;have xa:=g.same d;obtain⟨x,ox,yc⟩|⟨ns,t,rn,zc,l⟩:(∃x,aO.Out ⟨line,bk,own⟩ a x/\H p=bn (m5 x)) \/∃ns t,eM ⟨line,bk,own⟩ a ns/\H p=bn [V.str "endless",.ref t]/\H t=bn (ns.map V.str):=by
   cases r with
   |told z=>exact .inl #[_,y,av]
   |miss n=>exact .inl #[_,y,av]
   |gf ns=>obtain⟨t,h1,h2⟩:=av;exact .inr #[ns,t,y,h1,h2]
  .rw[(T.a6 wi x).mpr ox]at i
   obtain⟨t,rfl,l⟩:=i;have u:=d _ _ yc;obtain⟨C,xd⟩:=MO (r:=x) λn e=>by
    subst e;obtain⟨k,m⟩:=ox;rcases qd B m with e|e
    .rw[e];exact yb
    .exact M n e
   refine af Z #[Z,_,Z,ite_ff (er λz=>by cases z) ?_]
   refine bO c λU c=>?_;intro j N;refine aW Z Z #[_,_,DM u,DM l,C,C,xd,_,Z,ite_ff (by rw[VR _ C];rfl) ?_]
   refine fw c ?_;intro j;cases x with
   |told z=>exact af Z^a7 l b6 #[Z,false,Z,_,Z,a7 u cP #[#[_,.inr #["int",Z]],.int z,.ty "int",.type "int",.type "int",true,Z,Z,.inl^.int z,Z,true,Z,_,Z,a7 u cP #[#[_,.inr #["bool",Z]],.int z,.ty "bool",.type "int",.type "bool",false,Z,Z,.inl^.int z,Z,false,Z,q _ d]]]
   |miss n=>exact af Z^a7 l b6 #[Z,true,Z,q _ d]
  .have yd:aO.ck #[line,bk,own] (λb=>ka.lookup b) a=none:=by
    cases e:aO.ck #[line,bk,own] (λb=>ka.lookup b) a with
    |none=>rfl
    |some x =>
     obtain⟨k,m⟩:=(T.a6 wi x).mp e;rw[rn.core.1 k]at m;cases m
   rw[yd]at i;have i:v=V.aK:=i;subst i;have o:=rn.is zb ne B;have G:=d _ _ zc;refine af Z #[Z,_,Z,ite_tt (cb Z) ?_];refine fj λU c=>?_;intro j yf;refine af Z^a7 G b6 #[Z,_,Z,ite_ff (by rw[cb Z];rfl) ?_]
   refine fw c ?_;intro j;exact jk Z Z Z Z^a7 G cP^rR.mk Z xa (d _ _ l) o (ec (k' o.nd o.cO) ()) (λn zd=>M n^o.cO n zd) λH2 xe=>q _^d.trans xe
section
variable{W W':aO}
theorem pW{f g:bt}{x y:Ask}(o:bS W f)(p:bS W g)(e:f.a=g.a)(h1:gM W f=ih x)(h2:gM W g=ih y)(q:∀k,W.out k x=none)(u:∀k,W.out k y=none):x=y:=by
 obtain⟨s,ds,v,n1⟩:=kH h1;obtain⟨s',E,w,b⟩:=kH h2;obtain⟨_,d,pre,i,j,c⟩:=o.lk;obtain⟨_,F,D,l,m,A⟩:=p.lk;rw[e]at i c n1;rw[i]at l;obtain⟨B,C⟩:=aaJ^cQ l;subst C;rw[B]at n1 c;rw[v]at j;rw[w]at m;have no:∀{z:Ask},(∀k,W.out k z=none) ->¬ ∃r,W.Out z r:=λh ⟨r,k,n⟩=>by rw[h k]at n;cases n
 rcases List.append_eq_append_iff.mp^j.symm.trans m with⟨t,e1,e2⟩|⟨t,e1,e2⟩
 .cases t with
  |nil=>cases e2;rw[n1]at b;exact cQ b
  |cons z t=>cases e2;exact absurd (A s (by rw[e1];simp) x n1)^no q
 .cases t with
  |nil=>cases e2;rw[n1]at b;exact cQ b
  |cons z t=>cases e2;exact absurd (c s' (by rw[e1];simp) y b)^no u
theorem B0{b c:Ask}(q:∀k,W.out k b=none)(r:∀k,W.out k c=none):∀{l m:am bt}{f g:bt},(∀x∈f::l,bS W x)->(∀x∈g::m,bS W x)->Chain W (f::l) b->Chain W (g::m) c->f.a=g.a->((f::l).map (·.a)++[b]) <+: ((g::m).map (·.a)++[c])\/((g::m).map (·.a)++[c]) <+: ((f::l).map (·.a)++[b])
 |[],[],f,g,j,n,d,i,e=>by
  have:=pW (j f aY) (n g aY) e d i q r;subst this
  left
  show [f.a,b] <+: [g.a,b];rw[e];exact List.prefix_refl _
 |[],o::m,f,g,j,n,d,i,e=>by
  have:=pW (j f aY) (n g aY) e d i.1 q^nK (fs:=o::m) (λx p=>n x^bh _ p) i.2 rfl r;subst this
  left
  exact#[m.map (·.a)++[c],by show f.a::o.a::_=g.a::o.a::_;rw[e];rfl]
 |f'::l,[],f,g,j,n,d,i,e=>by
  have:=pW (j f aY) (n g aY) e d.1 i (nK (fs:=f'::l) (λx p=>j x^bh _ p) d.2 rfl q) r;subst this
  right
  exact#[l.map (·.a)++[b],by show g.a::f'.a::_=f.a::f'.a::_;rw[e];rfl]
 |f'::l,o::m,f,g,j,n,d,i,e=>by
  have s:∀x∈f'::l,bS W x:=λx p=>j x^bh _ p;have t:∀x∈o::m,bS W x:=λx p=>n x^bh _ p;have:=pW (j f aY) (n g aY) e d.1 i.1 (nK (fs:=f'::l) s d.2 rfl q)^nK (fs:=o::m) t i.2 rfl r;rcases B0 q r s t d.2 i.2 this with h|h
  .left
   show f.a::((f'::l).map (·.a)++[b]) <+: g.a::((o::m).map (·.a)++[c]);rw[e];exact(VS _).mpr h
  .right
   show g.a::((o::m).map (·.a)++[c]) <+: f.a::((f'::l).map (·.a)++[b]);rw[e];exact(VS _).mpr h
theorem CM{α:Type}{xs ys:am α}{b c:α}(h:xs++[b] <+: ys++[c])(e:b∈xs)(d:ys.Nodup):xs=ys/\b=c:=by
 obtain⟨t,a⟩:=h;rcases List.eq_nil_or_concat t with rfl|⟨t',y,rfl⟩
 .rw[e6]at a
  obtain⟨e1,e2⟩:=aaq a Z;cases e2;exact#[e1,Z]
 .rw[List.concat_eq_append,<-nj]at a
  obtain⟨e1,e2⟩:=aaq a Z;rw[<-e1,nj]at d;exact absurd Z ((dz.mp d).2.2 b e b^by simp)
theorem eM.uniq{a:Ask}{j:am Gd}(h:eM W a ns)(h':eM W a j):ns=j:=by
 obtain⟨fs,b,i,ok,c,e,n,hi,rfl⟩:=h;obtain⟨gs,t,u,k,o,v,r,d,rfl⟩:=h';have w:=(uv ok c hi).2.2.2;have s:=(uv k o d).2.2.2;have p:=eu hi;have q:=eu d;cases fs with
 |nil=>cases p
 |cons f l =>
  cases gs with
  |nil=>cases q
  |cons g m =>
   have x:f.a=g.a:=by
    have e1:f.a=a:=e;have e2:g.a=a:=v;rw[e1,e2]
   obtain⟨e1,e2⟩:(f::l).map (·.a)=(g::m).map (·.a)/\b=t:=by
    rcases B0 w s ok k c o x with h|h
    .exact CM h p r
    .obtain⟨y,z⟩:=CM h q n;exact#[y.symm,z.symm]
   rw[<-e1]at d⊢;subst e2;have:i=u:=(Vo (b4.mp hi).1 n).mp (hi.trans d.symm);rw[this]
theorem Comes.uniq{a:Ask}{r c:gV}(h:W.Comes a r)(h':W.Comes a c):r=c:=by
 cases r with
 |told z =>
  cases c with
  |told y=>cases Out.uniq h h';rfl
  |miss n=>cases Out.uniq h h'
  |gf ns=>obtain⟨k,b⟩:=h;rw[(eM.core h').1 k]at b;cases b
 |miss n =>
  cases c with
  |told y=>cases Out.uniq h h'
  |miss m=>cases Out.uniq h h';rfl
  |gf ns=>obtain⟨k,b⟩:=h;rw[(eM.core h').1 k]at b;cases b
 |gf ns =>
  cases c with
  |told y=>obtain⟨k,b⟩:=h';rw[(eM.core h).1 k]at b;cases b
  |miss m=>obtain⟨k,b⟩:=h';rw[(eM.core h).1 k]at b;cases b
  |gf d=>rw[eM.uniq h h']
structure Alike(W' W:aO):Prop where
 lk:∀a,W'.look a=W.look a
 ow:∀a,W'.c2 a=W.c2 a
theorem Alike.need(h:Alike W' W)(n w:Gd)(d:UN):W'.need n w d=W.need n w d:=by simp only[aO.need,h.lk]
theorem Alike.go(h:Alike W' W)(f:Ask->Option Rs)(n w:Gd):∀(ds:am UN) (t:Int),W'.dX f n w ds t=W.dX f n w ds t
 |[],t=>rfl
 |d::ds,t=>by
  cases e:W.need n w d with
  |none=>rw[jc e,jc^(h.need n w d).trans e];exact h.go f n w ds _
  |some b =>
   rw[g4 e,g4^(h.need n w d).trans e];cases f b with
   |none=>rfl
   |some x=>cases x with
    |miss m=>rfl
    |told z=>exact h.go f n w ds _
theorem Alike.step(h:Alike W' W)(f:Ask->Option Rs)(a:Ask):W'.ck f a=W.ck f a:=by
 unfold aO.ck;rw[h.ow,h.lk];cases W.c2 a with
 |some z=>rfl
 |none=>cases W.look a with
  |none=>rfl
  |some p=>exact h.go f _ _ _ _
theorem Alike.out(h:Alike W' W):∀k,W'.out k=W.out k
 |0=>rfl
 |k+1=>by funext a;show W'.ck (W'.out k) a=W.ck (W.out k) a;rw[h.out k,h.step]
theorem Alike.Out(h:Alike W' W){a:Ask}{r:Rs}:W'.Out a r ↔ W.Out a r:=by unfold aO.Out;simp only[h.out]
theorem Alike.fr(h:Alike W' W){f:bt}(o:bS W' f):bS W f:=by
 obtain⟨h1,d,pre,h2,a,c⟩:=o.lk;exact#[λk r e=>h.Out.mp (o.up k r^by rw[h.out,h.go];exact e),λk r e=>by have:=o.dn k r (by rw[h.out];exact e);rw[h.out,h.go]at this;exact this,
  (h.ow _).symm.trans h1,d,pre,(h.lk _).symm.trans h2,a,λs g b i=>by obtain⟨r,j⟩:=c s g b^(h.need _ _ _).trans i;exact#[r,h.Out.mp j]]
theorem Alike.head(h:Alike W' W)(f:bt):gM W' f=gM W f:=by
 unfold gM;cases f.left with
 |nil=>rfl
 |cons d ds=>exact h.need _ _ _
theorem Alike.chain(h:Alike W' W){b:Ask}:∀{fs:am bt},Chain W' fs b->Chain W fs b
 |[],c=>trivial
 |[f],c=>(h.head f).symm.trans c
 |f::g::r,c=>#[(h.head f).symm.trans c.1,h.chain c.2]
theorem Alike.comes(h:Alike W' W){a:Ask}{r:gV}(c:W'.Comes a r):W.Comes a r:=by
 cases r with
 |told z=>exact h.Out.mp c
 |miss n=>exact h.Out.mp c
 |gf ns =>
  obtain⟨fs,b,i,ok,c,e,d,hi,q⟩:=c;exact#[fs,b,i,λf g=>h.fr^ok f g,h.chain c,e,d,hi,q]
end
theorem Ku{own b:Own}(a:(own.map (·.1)).Nodup)(p:b.Perm own):b.lookup n=own.lookup n:=by
 have c:∀{l:Own} (_:(l.map (·.1)).Nodup) {m:Gd}{z:Int},l.lookup m=ih z ↔ (m,z)∈l:=λ{l} a {m z}=>by
  induction l with
  |nil=>simp
  |cons q l f =>
   obtain⟨x,y⟩:=q;rw[bY,d6]at a;rw[dM]
   by_cases e:m=x
   .subst e
    simp only[pf,bL,aam,true_and]
    constructor
    .intro h;cases h;exact .inl Z
    .rintro(h|h)
     .rw[h]
     .exact absurd (a8.mpr #[(m,z),h,Z]) a.1
   .rw[show(m==x)=false by simp[e]]
    simp only[bL,aam,e,false_and,false_or];exact f a.2
 have d:(b.map (·.1)).Nodup:=(p.map (·.1)).nodup_iff.mpr a;cases e:own.lookup n with
 |some z=>exact(c d).mpr (p.mem_iff.mpr^(c a).mp e)
 |none =>
  cases g:b.lookup n with
  |none=>rfl
  |some z=>rw[(c a).mpr (p.mem_iff.mp^(c d).mp g)]at e;cases e
theorem alike{line:am Gd}{bk c:Bk}{own b:Own}(p:c.Perm bk)(d:(bk.map cS).Nodup)(q:b.Perm own)(no:(own.map (·.1)).Nodup):Alike #[line,c,b] #[line,bk,own]:=by
 have lk:∀a,aO.look #[line,c,b] a=aO.look #[line,bk,own] a:=λa=>CC p d _;refine#[lk,λa=>?_];unfold aO.c2 aO.eX;rw[lk];show(if _ then b.lookup a.1 else none)=if _ then own.lookup a.1 else none;rw[Ku no q]
def lz:gV->UN
 |.told z=>.tuple [.str "told",.int z]
 |.miss n=>.tuple [.str "missing",.str n]
 |.gf ns=>.tuple [.str "endless",.tuple (ns.map VB)]
theorem Dv{r:gV}(h:h9 H p r):Rep H (.ref p)^lz r:=by
 cases r with
 |told z=>exact .tup h^.cons (.str _)^.cons (.int _) .nil
 |miss n=>exact .tup h^.cons (.str _)^.cons (.str _) .nil
 |gf ns=>obtain⟨t,h1,h2⟩:=h;exact .tup h1^.cons (.str _)^.cons (.tup h2^ma _ _) .nil
theorem h9.same{r:gV}(h:h9 H p r)(S:ax H H'):h9 H' p r:=by
 cases r with
 |told z=>exact S _ _ h
 |miss n=>exact S _ _ h
 |gf ns=>obtain⟨t,h1,h2⟩:=h;exact#[t,S _ _ h1,S _ _ h2]
theorem LS{r:gV}(a:∀n,r=.miss n->Nm n)(b:∀ns,r=.gf ns ->∀n∈ns,Nm n):(lz r).canLay0=true/\(lz r).depth<=60:=by
 cases r with
 |told z=>exact#[by show(VI "told" && (true&&true))=true;decide +kernel,by simp[lz,Yi,Vs]]
 |miss n=>exact#[by show(VI "missing" && (VI n&&true))=true;rw[mH^a n Z];decide +kernel,by simp[lz,Yi,Vs]]
 |gf ns =>
  refine#[?_,?_]
  .show(VI "endless" && (X'^ns.map VB&&true))=true
   rw[nY^b ns Z];decide +kernel
  .show max 0^max (Vs^ns.map VB+1) 0+1<=60
   rw[nH];decide
theorem MP{W:aO}{a:Ask}{r:gV}(c:W.Comes a r)(f:Nm a.1)(b:∀n∈NS,Nm n)(g:W.line.Nodup)(ne:∀k∈W.line,k ≠ "")(d:∀p∈W.bk,∀s∈b9 p.2.2,bb s = "ask" -> dq s∈NS):(lz r).canLay0=true/\(lz r).depth<=60:=by
 refine LS (λn e=>?_)^λns e=>?_
 .subst e
  obtain⟨k,i⟩:=c;rcases qd d i with e|e
  .rw[e];exact f
  .exact b n e
 .subst e
  exact λn h=>b n^(eM.is c g ne d).cO n h
theorem eP.at{Qa:am Th}{th:Th}(tv:eP H td kt Qa)(f:(Qa.map (·.1)).Nodup)(g:th∈Qa):∃ta a,bq kt^n' th.1=ih^.ref ta/\H ta=bn [.str th.2.1,.ref a]/\H a=cr^cm th.2.2:=by
 obtain⟨j,h,i⟩:=zZ.mp g;have l:kt.length=Qa.length:=cy tv;obtain⟨c,b⟩:∃c,kt[j]?=ih c:=#[kt[j],bG ()]
 obtain⟨p,d,k,ta,a,m,_,_,h1,h2⟩:=L2.Paired.get tv b;rw[bG h]at d;cases d
 subst i;have e:=uy (tv.nodup f) b;rw[m,k]at e;exact#[ta,a,e,h1,h2]
structure o6(ks ns:List Gd)(Qc:List (Gd×List Gd))(L:Gd->List Gd):Prop where
 k8:ks.length<=8
 Rc:∀x∈ks,Nm x
 ld:∀x∈ks,(L x).Nodup /\∀y∈L x,y∈ks
 fo:jf Qc L
 fk:∀x∈ks,x∈Qc.map (·.1)
 n6:ns.length<=6
structure hH(H:Hp)(t d1 ln:FG)(o:YC)(ws:List V)(Qd:List (Key×V))(ks ns:List Gd)(Qc:List (Gd×List Gd))(L:Gd->List Gd):Prop where
 ht:H t=ih (.bf o (.tup ws))
 od:o.dict=none
 fv:di H ws Qc
 h1:H d1=ih (.dK Qd)
 l1:∀x∈ks,en H Qd L x
 nn:ea H ln ns
 p:o6 ks ns Qc L
structure js(H:Hp)(db:FG)(kvs:List (List Key×V))(a6:Bk)(ns:List Gd):Prop where
 hd:H db=ih (.dT kvs)
 dv:cg H kvs a6
 ok:fz a6
 ask:∀q∈a6,∀s∈b9 q.2.2,bb s = "ask" -> dq s∈ns
 cO:∀q∈a6,q.2.1∈ns
structure eY(H:Hp)(td:FG)(kt:List (Key×V))(ks:List Gd)(Qa:List Th):Prop where
 h:H td=ih (.dK kt)
 tv:eP H td kt Qa
 ok:rK ks Qa
 t5:Qa.length<=5
section
variable{t:FG}{kvs:am (List Key×V)}{a6:Bk}{Qa:am Th}
theorem hH.same(h:hH H t d1 ln o ws Qd ks ns Qc L)(S:ax H H'):hH H' t d1 ln o ws Qd ks ns Qc L:=#[S _ _ h.ht,h.od,h.fv.same S,S _ _ h.h1,λx a=>(h.l1 x a).same S,h.nn.same S,h.p]
theorem js.same(h:js H db kvs a6 ns)(S:ax H H'):js H' db kvs a6 ns:=#[S _ _ h.hd,h.dv.same S,h.ok,h.ask,h.cO]
theorem eY.same(h:eY H td kt ks Qa)(S:ax H H'):eY H' td kt ks Qa:=#[S _ _ h.h,h.tv.same S,h.ok,h.t5]
theorem o6.line(p:o6 ks ns Qc L){k:Gd}(c:k∈ks):(L k).Nodup/\(∀y∈L k,y ≠ "")/\(L k).length<=8 /\∀y∈L k,Nm y:=by
 obtain⟨h1,h2⟩:=p.ld k c;have b:∀y∈L k,Nm y:=λy a=>p.Rc y^h2 y a;exact#[h1,λy a z=>by have:=(b y a).lo;rw[z]at this;exact absurd this ∅,ec (k' h1 h2) p.k8,b]
theorem DN{tb:FG}{b:am Th}{bk:Bk}{a:Th}{c:Gd}(p:o6 ks ns Qc L)(w:ik H wd t tb tt wt b)(d:FB H t tb o ws wb Qc L bk)(f:a∈b)(e:a.2.1∈ks)(g:(a.2.2.map (·.1)).Nodup)(ask:∀q∈bk,∀s∈b9 q.2.2,bb s = "ask" -> dq s∈ns)(h:∀n∈ns,Nm n)(i:name∈ns)(j:c = "" \/ c∈L a.2.1):j4 wd t tb tt wt b a o ws wb Qc L bk ns (name,c) H:=by
 obtain⟨_,_,l,k⟩:=p.line e;have m:=p.n6;exact#[w,d,f,p.fk _ e,g,#[d.ok,ask,h,(),by show(L a.2.1).length<=9;omega,k],#[i,j]]
end
inductive oR(vs:List V)(H:Hp)(Q:VK)(E:XK):Prop
 |mk{hm t d1 ln db td sl:FG}{o:YC}{ws:List V}{Qd kt:List (Key×V)}{kvs:List (List Key×V)}{ks ns lb:List Gd}{Qc:List (Gd×List Gd)}{L:Gd->List Gd}{a6:Bk}{Qa:List Th}{th:Th}(_:vs=[.ref hm,.ref db,.ref td,.str th.1,.ref sl])(_:H hm=ih (.tup [.ref t,.ref d1,.ref ln]))(_:hH H t d1 ln o ws Qd ks ns Qc L)(_:js H db kvs a6 ns)(_:eY H td kt ks Qa)(_:th∈Qa)
  (_:H sl=ih (.lst (lb.map V.str))) (_:∀n∈lb,n∈ns) (_:∀H',ax H H'->Q (.bl true) H'):oR vs H Q E
noncomputable abbrev wC:List Gd:=["_law_home","_law_book_here","_law_things_here","_law_thing","_law_some"]
noncomputable abbrev Rf:List Gd:=["_law_home","_law_book_here","_law_things_here","_law_thing","_law_some","_law_family_here","_law_lines","_law_names_here","_law_world_here","_law_kind","_law_own","_law_known_here","_law_name","_law_told_here"]
theorem iN:bp Rf wC^aI tw:=bD
theorem Oq{fW:FG}(F:aQ K "_law_all_right" "_law_all_right" tw f fd)
  (xm:bB P w K mg base aF 1 fW dW r6 mT "_law_world")
  (ym:bB P w K mg base aF 3 fK dK r4 mR "_law_known")
  (zm:bB P w K mg base aF 10 fO dO r0 lr "_law_told")
  (xn:bB P w K mg base aF 4 fI dI r7 mV "_law_is"):aT P w K mg base aF 11 f fd wC oR:=by
 refine F.bI iN λQb A outer s H vs Q E xd h=>?_
 .obtain @⟨yd,t,d1,ln,db,td,sl,o,ws,Qd,kt,kvs,ks,ns,I,Qc,L,a6,Qa,th,rfl,yn,g,b,tg,B,xa,xg,q⟩:=h
  have x:aZ 10 _:=xd;have yg:aZ 4 _:=x.mono ∅
  have zg:aZ 3 _:=x.mono ∅
  have xh:aZ 1 _:=x.mono ∅
  have J:=d9 xd.units;intro X;refine#[_,ar (g6 (pv 0)^gH Z^cA (ba 5 iN.nd)^cA (ba 6 iN.nd)^cA (ba 7 iN.nd) fM)
   (ar (a4 8 iN.nd^a' xm xh^aa (pv 5)^aa (pv 1)^aa (pv 2) ai)
   (ar (g6 (dV J (pv 2)^pv 3)^gH Z^cA (ba 9 iN.nd)^cA (ba 10 iN.nd) fM)
   (ar (a4 11 iN.nd^a' ym zg^aa (dV J (pv 6)^pv 9)^aa (pv 1)^aa (pv 10)^aa (pv 7) ai)
   (ar (ee dZ Z (c7^pv 4) (ba 12 iN.nd)
    (ar (a4 13 iN.nd^a' zm x^aa (pv 8)^aa (pv 3)^aa (pv 12)^aa br ai)
    (ay^bo (gv^gu^a' xn yg^aa (dV J (pv 6)^pv 9)^aa (pv 1)^aa (pv 10)^aa (pv 11)^aa (eT^aa (pv 12)^aa br ai)^aa (pv 13) ai) (ay^a3 g7) bE)))
   (ay^a3 g7))))),?_]
  have M:=g.nn.nm;have yh:=g.nn.nd;have N:=tg.ok.kd th B;have ya:=tg.ok.ow th B;obtain⟨za,xb,zd,_⟩:=g.p.line N;have zr:=g.p.n6;obtain⟨ta,zn,xo,zh,yb⟩:=tg.tv.at tg.ok.nd B;obtain⟨Y,xi,zb⟩:=g.l1 _ N;have yo:∀{v:Hp},v td=cr kt->b2 v td (.str th.1)^ih^.ref ta:=λe=>by rw[<-xo];exact b2.k (k:=n' th.1) e
  have xe:∀{v:Hp},v d1=cr Qd->b2 v d1 (.str th.2.1)^ih^.ref Y:=λe=>by rw[<-xi];exact b2.k (k:=n' th.2.1) e
  refine fj λU c=>?_;intro j C;refine af Z #[yd,_,Z,aX.of yn,Z,_,_,Z,_,_,Z,_,_,Z,Z,?_];refine bO c λU c=>?_;intro j C;refine cZ Z Z Z^mT.mk Z b.hd b.dv b.ok tg.h tg.tv tg.ok tg.t5 λwd tb tt wb wt bk xr zo d yi zi xj pm xp=>?_;have m:=g.same d;have yj:=Dr pm b.ok;have zj:FB zo t tb o ws wb Qc L bk:=#[m.ht,m.od,m.fv,m.p.fo,zi,xj,yj];have yf:∀q∈bk,∀s∈b9 q.2.2,bb s = "ask" -> dq s∈ns:=λq yp=>b.ask q^pm.mem_iff.mp yp;refine bO c λU c=>?_;intro j C;refine aW Z Z #[td,.ref ta,Z,yo^d _ _ tg.h,ta,_,Z,aX.of^d _ _ zh,Z,_,_,Z,_,_,Z,Z,?_];refine bO c λU c=>?_;intro j C;refine aW Z Z #[d1,.ref Y,Z,xe m.h1,_,Z,_,Z,_,Z,mR.mk Z (d _ _ zb) (d _ _ b.hd) (b.dv.same d) b.ok (d _ _ yb) m.nn.hl yh za xb () zd b.ask b.cO λdk kk ka zp ye yr xk kn T=>?_]
  have O:=d.trans ye;refine bO c λU c=>?_;intro j C;refine#[_,Z,sl,Z,#[_,au.of^O _ _ xa],gZ (xs:=I.map V.str) (λi σ G=>∃(R S:a2 V),σ=[bd yd,bd db,bd td,ih^.str th.1,bd sl,bd t,bd d1,bd ln,bd wd,ih^.str th.2.1,bd zn,bd dk,R,S]/\ax zp G)
   #[none,none,Z,ax.refl _] (λi σ G _ ab=>by obtain⟨_,_,_,z⟩:=ab;exact au.of^z _ _^O _ _ xa) ?_ ?_]
  .rintro i y σ G xq ⟨R,S,rfl,n⟩
   refine hR ?_;intro j xt;obtain⟨yk,rfl⟩:=iy xq;have ze:=xg _^eJ yk;have zk:=M _ ze;have W:=ye.trans n;obtain⟨xf,xl,yl,xc,yc⟩:=xp th B;have yq:Alike #[L th.2.1,bk,xf.2.2] #[L th.2.1,a6,th.2.2]:=alike pm b.ok.nd yc ya.1.nd;refine fj λU c=>?_;intro j yt;refine cZ Z Z Z^lr.mk (th:=xf) (a:=(I[i],"")) (by rw[yl];rfl) (DN g.p (yi.same W) (zj.same W) xl (by rw[xc];exact N) ((yc.map (·.1)).nodup_iff.mpr ya.1.nd) yf M ze^.inl Z) λr zc p2 zt D av=>?_
   rw[xc]at zc;have zf:=yq.comes zc;have u:=d.trans^W.trans D;refine fw c ?_;intro j;refine aW Z Z #[d1,.ref Y,Z,xe (g.same u).h1,_,Z,_,Z,_,Z,_,Z,bQ,λxu yu l _ zl=>af Z^mV.mk (NS:=ns) (a:=(I[i],"")) Z #[(u.trans l) _ _ zb,(u.trans l) _ _ b.hd,b.dv.same^u.trans l,b.ok,(u.trans l) _ _ yb,zd] ((n.trans^D.trans l) _ _ xk) (kn.same^n.trans^D.trans l) T zl (.inl Z) zk (h9.same av l) zf za xb () M b.ask b.cO λzu zq=>?_]
   refine af Z^ite_ff Z ?_;exact#[_,_,Z,n.trans^D.trans^l.trans zq]
  .rintro σ G ⟨R,S,rfl,n⟩
   refine fw c ?_;intro j;exact q _^O.trans n
theorem nG{α β γ δ:Type}{R:α->β->Prop}{S:γ->δ->Prop}{f:α->γ}{g:β->δ}(h:∀a b,R a b->S (f a)^g b):∀{xs:am α}{ys:am β},VT R xs ys->VT S (xs.map f)^ys.map g
 |_,_,.nil=>.nil
 |_,_,.cons r t=>.cons (h _ _ r)^nG h t
def kr(Qa:List Th)(x kd:Gd)(own:Own):List Th:=Qa.map λq=>if q.1=x then (x,kd,own) else q
theorem Jj(Qa:am Th)(x kd:Gd)(own:Own):(kr Qa x kd own).map (·.1)=Qa.map (·.1):=by
 unfold kr;rw[dY];refine lS λq _=>?_;show(if q.1=x then (x,kd,own) else q).1=q.1;split
 .next h=>exact h.symm
 .rfl
theorem uz{Qa:am Th}{own:Own}{q:Th}(h:q∈kr Qa x kd own):q=(x,kd,own)\/q∈Qa:=by
 obtain⟨a,h0,e⟩:=a8.mp h
 by_cases c:a.1=x
 .rw[aB c]at e;exact .inl e.symm
 .rw[ao c]at e;exact .inr (e ▸ h0)
theorem gK{o:HO}(h:cW p H)(e:H b=ih o)(a:∀xs,o ≠ .lst xs):b≠p:=by
 rintro rfl;obtain⟨x,y,e2,_⟩:=h;rw[e]at e2;exact a _^cQ e2
section
variable{t:FG}{kvs:am (List Key×V)}{a6:Bk}{Qa:am Th}
theorem hH.keep(h:hH H t d1 ln o ws Qd ks ns Qc L)(c:∀b xs,H b=bn xs->H' b=bn xs)(f:∀b o xs,H b=ih^.bf o^.tup xs->H' b=ih^.bf o^.tup xs)(g:∀b xs,H b=cr xs->H' b=cr xs)(d:∀b (ys:am Gd),H b=ce^ys.map V.str->H' b=ce^ys.map V.str):hH H' t d1 ln o ws Qd ks ns Qc L:=
 #[f _ _ _ h.ht,h.od,Paired.imp' (λ_ _ j=>by obtain⟨a,b,e,h1,h2⟩:=j;exact #[a,b,e,c _ _ h1,c _ _ h2]) h.fv,g _ _ h.h1,λx i=>let ⟨a,e,q⟩:=h.l1 x i;#[a,e,d _ _ q],#[d _ _ h.nn.hl,h.nn.ne,h.nn.a5,h.nn.nm,h.nn.nd],h.p]
theorem hH.c3(h:hH H t d1 ln o ws Qd ks ns Qc L)(a:cW p H)(c:bw p H H'):hH H' t d1 ln o ws Qd ks ns Qc L:=h.keep (λb xs e=>c.kp _ _ e^gK a e λ_ z=>by cases z) (λb o xs e=>c.kp _ _ e^gK a e λ_ z=>by cases z) (λb xs e=>c.kp _ _ e^gK a e λ_ z=>by cases z) λb ys e=>c.kp _ _ e^fh a e
theorem js.c3(h:js H db kvs a6 ns)(a:cW p H)(c:bw p H H'):js H' db kvs a6 ns:=#[c.kp _ _ h.hd (gK a h.hd λ_ z=>by cases z),h.dv.keep (λb xs e=>c.kp _ _ e^gK a e λ_ z=>by cases z) h.ok.ent,h.ok,h.ask,h.cO]
theorem eY.keep(h:eY H td kt ks Qa)(d:∀b xs,H b=bn xs->H' b=bn xs)(c:∀b xs,H b=cr xs->H' b=cr xs):eY H' td kt ks Qa:=#[c _ _ h.h,Paired.imp' (λ_ _ g=>by obtain⟨e,a,b,e2,n1,f,h1,h2⟩:=g;exact #[e,a,b,e2,n1,f,d _ _ h1,c _ _ h2]) h.tv,h.ok,h.t5]
theorem eY.c3(h:eY H td kt ks Qa)(a:cW p H)(c:bw p H H'):eY H' td kt ks Qa:=h.keep (λb xs e=>c.kp _ _ e^gK a e λ_ z=>by cases z) λb xs e=>c.kp _ _ e (gK a e λ_ z=>by cases z)
theorem eY.copy{c:FG}(h:eY H td kt ks Qa)(d:H c=none):eY (upd H c^.dK kt) c kt ks Qa:=by
 have S:=aJ (o:=.dK kt) d;exact#[ah,Paired.imp' (λ_ _ f=>by obtain⟨e,a,b,e2,_,_,h1,h2⟩:=f;exact #[e,a,b,e2,aA h1 d,aA h2 d,S _ _ h1,S _ _ h2]) h.tv,h.ok,h.t5]
end
theorem eY.put{Qa:am Th}{th:Th}{own:Own}{m:FG}(g:eY H td kt ks Qa)(i:th∈Qa)(o:kd∈ks)(ok:oH own)(ol:own.length<=22)(n1:tt≠td)(j:m≠td)(h1:H tt=bn [.str kd,.ref m])(h2:H m=cr^cm own) :
  eY (upd H td^.dK^putK kt (n' th.1)^.ref tt) td (putK kt (n' th.1)^.ref tt) ks^kr Qa th.1 kd own/\(th.1,kd,own)∈kr Qa th.1 kd own:=by
 have up:∀{zs:am (Key×V)} b u,b≠td->H b=ih u->upd H td (.dK zs) b=ih u:=λb u n e=>by rw[ag n];exact e
 obtain⟨ta,w,r,_,_⟩:=g.tv.at g.ok.nd i;have e:putK kt (n' th.1)^.ref tt=kt.map λf=>if f.1=n' th.1 then (f.1,.ref tt) else f:=by
  unfold putK;rw[aB^by rw[i3,r];rfl]
 refine#[#[ah,?_,#[λp d=>?_,by rw[Jj];exact g.ok.nd,λp d=>?_,λp d=>?_],by unfold kr;rw[aE];exact g.t5],a8.mpr #[th,i,aB Z]]
 .rw[e]
  refine nG (λf q x=>?_) g.tv;obtain⟨h,a,b,s,k,l,t,v⟩:=x
  by_cases c:q.1=th.1
  .rw[aB (by rw[h,c]),aB c]
   exact#[by rw[h,c],tt,m,Z,n1,j,up _ _ n1 h1,up _ _ j h2]
  .rw[ao (by rw[h];exact λz=>c^fZ z),ao c]
   exact#[h,a,b,s,k,l,up _ _ k t,up _ _ l v]
 .rcases uz d with rfl|z
  .exact g.ok.nm th i
  .exact g.ok.nm p z
 .rcases uz d with rfl|z
  .exact o
  .exact g.ok.kd p z
 .rcases uz d with rfl|z
  .exact#[ok,ol]
  .exact g.ok.ow p z
theorem CN{kv:am Key×V}:∀{kvs:am (List Key×V)}{i:Nat},(kvs.map (·.1)).Nodup->kvs[i]?=ih kv->bq kvs kv.1=ih kv.2
 |[],i,_,h=>by simp at h
 |p::kvs,0,_,h=>by cases h;exact fg Z
 |p::kvs,i+1,a,h=>by
  rw[bY,d6]at a;rw[eK^λz=>a.1 (by rw[z];exact a8.mpr #[kv,eu ⇑h,Z])]
  exact CN a.2 ⇑h
theorem Kv{kvs:am (List Key×V)}{a6:Bk}(h:cg H kvs a6):kvs.map (·.1)=a6.map h6:=by
 induction h with
 |nil=>rfl
 |cons e _ a=>rw[bY,bY,a,e.1]
theorem MQ{kvs:am (List Key×V)}{a6:Bk}(h:cg H kvs a6)(a:(a6.map cS).Nodup):(kvs.map (·.1)).Nodup:=by
 rw[Kv h,jE,kC];rw[jE,kC]at a;exact a.imp λh z=>h (by
  unfold h6 at z;have e1:=(pA z).1;have e2:=(pA (pA z).2).1;unfold cS;rw[fZ e1,fZ e2])
def jg(a6:Bk)(one:Gd):Bk:=a6.filter λq=>decide (q.2.1≠one)
theorem Kw{a6:Bk}{one:Gd}(h:fz a6):fz^jg a6 one:=
 #[λp a=>h.nm p (eb.mp a).1,λp a=>h.ent p (eb.mp a).1,h.nd.sublist^(List.filter_sublist).map _,ec (gn _ _) h.a5]
inductive qT(vs:List V)(H:Hp)(Q:VK)(E:XK):Prop
 |mk{p hm t d1 ln db td sl:FG}{o:YC}{ws:List V}{Qd kt:List (Key×V)}{kvs:List (List Key×V)}{ks ns lb:List Gd}{Qc:List (Gd×List Gd)}{L:Gd->List Gd}{a6:Bk}{Qa:List Th}{th:Th}(_:vs=[.ref p,.ref hm,.ref db,.ref td,.str th.1,.ref sl])(_:cW p H)(_:H hm=ih (.tup [.ref t,.ref d1,.ref ln]))(_:hH H t d1 ln o ws Qd ks ns Qc L)(_:js H db kvs a6 ns)(_:eY H td kt ks Qa)(_:th∈Qa)
  (_:H sl=ih (.lst (lb.map V.str))) (_:∀n∈lb,n∈ns) (_:lb ≠ []) (_:lb.length<=100) (_:∀H',bw p H H'->Q (.bl true) H'):qT vs H Q E
noncomputable abbrev vP:List Gd:=["_law_pot_here","_law_home","_law_book_here","_law_things_here","_law_thing","_law_ring"]
noncomputable abbrev PK:List Gd:=["_law_pot_here","_law_home","_law_book_here","_law_things_here","_law_thing","_law_ring","_law_kind","_law_own","_law_one","_law_mine","_law_others","_law_less","_law_key"]
theorem jY:bp PK vP^aI vG:=bD
theorem MR{xD yD:FG}{zD xE:X3}(F:aQ K "_law_cut" "_law_cut" vG f fd)(B:dw mg)(xr:hA mg)
  (yE:bB P w K mg base aF 1 fD dD ["_law_pot_here","_law_many"] g0 "_law_digit")
  (zE:bB P w K mg base aF 2 xD zD ["_law_pot_here"] hZ "_law_number")
  (yr:bB P w K mg base aF 11 yD xE wC oR "_law_all_right"):aT P w K mg base aF 12 f fd vP qT:=by
 refine F.bI jY λQb A outer s H vs Q E zr h=>?_
 .obtain @⟨p,zd,t,d1,ln,db,td,sl,o,ws,Qd,kt,kvs,ks,ns,za,Qc,L,a6,Qa,th,rfl,C,yj,zj,a,tg,yb,N,yg,zx,xJ,q⟩:=h
  have yd:aZ 11 _:=zr;have xy:aZ 2 _:=yd.mono ∅
  have yy:aZ 1 _:=yd.mono ∅
  have zb:=d9 zr.units;intro X;refine#[_,ar (g6 (dV zb (pv 3)^pv 4)^gH Z^cA (ba 6 jY.nd)^cA (ba 7 jY.nd) fM)
   (ar (a4 8 jY.nd^aU d2 (pv 5)^a' yE yy^aa (pv 0)^aa (bV eQ Z B.len ew^aa (pv 5) ai) ai)
   (ar (a4 9 jY.nd^df AU Z xr.dict boot_dict^aa (pv 7) ai)
   (ar (f5 zb (pv 9) (pv 8) (a' zE xy^aa (pv 0) ai) Z)
   (ar (a4 10 jY.nd^df AU Z xr.dict boot_dict^aa (pv 3) ai)
   (ar (f5 zb (pv 10) (pv 4) (eT^aa (pv 6)^aa (pv 9) ai) Z)
   (ar (bo (bx uU (bV BG Z B.len ew^aa (pv 9) ai) aw^bC _)
    (ay^bo (gv^gu^a' yr yd^aa (pv 1)^aa (pv 2)^aa (pv 10)^aa (pv 4)^aa (pv 5) ai) (ay^a3 g7) bE) bE)
   (ar (a4 11 jY.nd nS)
   (ar (ee dZ Z (J3^pv 2) (ba 12 jY.nd)
    (ay^bo (bx je (aU bu (pv 12) aw) (pv 8)^bC _) (ay^f5 zb (pv 11) (pv 12) (dV zb (pv 2)^pv 12) Z) bE))
   (ay^a3^Dh^a' yr yd^aa (pv 1)^aa (pv 11)^aa (pv 3)^aa (pv 4)^aa (pv 5) ai))))))))),?_]
  have yo:=tg.ok.ow th yb;have zy:=tg.ok.kd th yb;obtain⟨ta,xk,xF,xz,yz⟩:=tg.tv.at tg.ok.nd yb;have yJ:0<za.length:=jG.mpr zx;have xK:kt.length<=5:=by rw[cy tg.tv];exact tg.t5
  refine fj λU g=>?_;intro J O;refine aW Z Z #[td,.ref ta,Z,by rw[<-xF];exact b2.k (k:=n' th.1) tg.h,ta,_,Z,aX.of xz,Z,_,_,Z,_,_,Z,Z,?_]
  refine bO g λU g=>?_;intro J O;refine cZ Z Z Z #[sl,_,Z,.inl^au.of N,?_];rw[aE];refine c6 (p:=p) (m:=(za.length:Int)) C () () λd xt e0 e1 zc=>?_
  obtain⟨j,rfl⟩:=gY e0;have yF:j<za.length:=()
  obtain⟨one,xo⟩:∃x,za[j]?=ih x:=#[za[j],bG yF];have zz:=zj.nn.nm one^yg one^eu xo;refine e9 (zc.kp _ _ N^fh C N) (cx^by rw[c5,xo];rfl) ?_
  refine bO g λU g=>?_;intro J O;refine af Z #[xk,_,Z,i7 C zc yz,λm zg=>?_];have zF:=zc.free zg;have xA:p≠m:=zc.ok.ne zg;have xd:=zc.new (o:=.dK^cm th.2.2) zg;have h2:upd xt m (.dK^cm th.2.2) m=cr^cm th.2.2:=ah;generalize upd xt m^.dK^cm th.2.2=zL at xd h2⊢;refine bO g λU g=>?_;intro J O;refine af Z^hZ.mk Z xd.ok λz yt xM zt=>?_;have xu:=xd.trans zt;have yu:=i7 xd.ok zt h2;obtain⟨D,xG,yG,yK⟩:=Du yo.1 zz z;have ol:=yo.2;refine aW Z Z #[m,_,Z,eG.k (k:=n' one) yu (by unfold cm f9;rw[aE,aE,aV];omega),?_]
  rw[<-xG];have xa:=xu.write (o:=.dK^cm D) zF xA;have xe:upd yt m (.dK^cm D) m=cr^cm D:=ah;generalize upd yt m^.dK^cm D=zG at xa xe⊢;refine bO g λU g=>?_;intro J O;have xh:=tg.c3 C xa;refine af Z #[td,_,Z,xh.h,λI W=>?_];have xH:=xa.free W;have yA:p≠I:=xa.ok.ne W;have ye:=xa.new (o:=.dK kt) W;have yk:=xh.copy W;have zk:=aJ (o:=.dK kt) W _ _ xe;generalize upd zG I^.dK kt=yM at ye yk zk⊢;refine bO g λU g=>?_;intro J O;refine aW Z Z #[bQ,λtt xl yl zJ zo=>?_];have ze:=yk.same yl;have zl:=yl _ _ zk;have zu:=ye.trans^kM ye.ok yl;have yH:tt≠I:=aq zo ze.h
  have xv:m≠I:=aA xe W;refine aW Z Z #[I,_,Z,eG.k (k:=n' th.1) ze.h (by rw[aV];omega),?_]
  have M:=zu.write (o:=.dK^putK kt (n' th.1)^.ref tt) xH yA;have xm:D.length<=22->eY (upd xl I^.dK^putK kt (n' th.1)^.ref tt) I (putK kt (n' th.1)^.ref tt) ks^kr Qa th.1 th.2.1 D/\(th.1,th.2.1,D)∈kr Qa th.1 th.2.1 D:=λzA=>ze.put yb zy yG zA yH xv zo zl;have ym:upd xl I (.dK^putK kt (n' th.1)^.ref tt) m=cr^cm D:=by rw[ag xv];exact zl
  generalize upd xl I^.dK^putK kt (n' th.1)^.ref tt=zM at M xm ym⊢;refine bO g λU g=>?_;intro J O;refine af Z #[m,_,Z,ym,_,_,Z,Z,_,Z,vi (λxp H'=>xp=[bd p,bd zd,bd db,bd td,ih^.str th.1,bd sl,ih^.str th.2.1,bd xk,ih^.str one,bd m,bd I,none,none]/\bw p H H') (λe k=>?_) (λe=>#[Z,M]) ?_]
  .have xN:D.length<9:=by
    have:=dA e;unfold cm f9 at this;rw[aE,aE]at this;omega
   obtain⟨xB,yB⟩:=xm ()
   refine q2 Z Z Z Z Z^oR.mk (th:=(th.1,th.2.1,D)) Z (M.kp _ _ yj^gK C yj λ_ z=>by cases z) (zj.c3 C M) (a.c3 C M) xB yB (M.kp _ _ N^fh C N) yg λzm zH=>af Z^ite_ff Z^k _ _ #[Z,M.trans^kM M.ok zH]
  rintro xp zm ⟨rfl,yv⟩;clear xm ym M ze zl zu yk zk ye xh xe xa yu xu h2 xd;refine bO g λU g=>?_;intro J O;intro dl yp;have zv:=yv.free yp;have xf:=yv.new (o:=.dT []) yp;have yf:upd zm dl (.dT []) dl=cs []:=ah;have xc:=a.c3 C xf;have yc:db≠dl:=aA a.hd zv;generalize upd zm dl^.dT []=zf at xf yf xc⊢;refine bO g λU g=>?_;intro J O;refine af Z #[db,kvs,Z,xc.hd,λT=>?_];have Y:∀b u,b≠db->zf b=ih u->upd zf db (.bf T^.dT kvs) b=ih u:=λb u n e=>by rw[ag n];exact e
  have xg:upd zf db (.bf T^.dT kvs) db=ih^.bf T^.dT kvs:=ah;generalize upd zf db^.bf T^.dT kvs=xw at Y xg⊢;have zB:cg xw kvs a6:=xc.dv.keep (λb xs e=>Y _ _ (aq e xc.hd) e) a.ok.ent
  have a5:=a.ok.a5;have xC:=a.dv.length;refine I8 (o:=T) (λi σ G=>∃(yh:a2 V) (R:am (List Key×V)),σ=[bd p,bd zd,bd db,bd td,ih^.str th.1,bd sl,ih^.str th.2.1,bd xk,ih^.str one,bd m,bd I,bd dl,yh]/\(∀b u,b≠dl->xw b=ih u->G b=ih u)/\G dl=cs R/\cg G R^jg (a6.take i) one)
   #[none,[],Z,λb u _ e=>e,Y _ _ (aS yc) yf,.nil] (λi σ G _ ab=>by obtain⟨_,_,_,z,_⟩:=ab;exact z _ _ yc xg) ?_ ?_
  .rintro i yw b σ G zp zw ⟨yh,R,rfl,kp,xb,S⟩
   refine hR ?_;intro J yN;obtain⟨l,zh,xI,yI⟩:=L2.Paired.get zB zp;have zK:i<a6.length:=(b4.mp zh).1;have xi:a6.take (i+1)=a6.take i++[l]:=by rw[dQ,zh];rfl
   have xq:G b=bn^[V.str l.1,.str l.2.1]:=by rw[zw,xI];rfl
   have yi:=kp _ _ yc xg;refine af Z^a7 xq cP^af Z #[Z,_,Z,bZ (λc=>?_)^λc=>?_]
   .have cn:l.2.1≠one:=λz=>by rw[z,cb Z]at c;cases c
    refine aW Z Z #[db,yw.2,Z,.inr #[kvs,yw.1,b,.inr #[T,yi],Z,zw,(CN (MQ a.dv a.ok.nd) zp).symm],?_];have yC:bq R^h6 l=none:=by
     rcases S.val (k:=l.1) (n:=l.2.1) with⟨z,_⟩|⟨v,d,_,z,_⟩
     .exact z
     .have zd:=(eb.mp z).1
      have yq:((a6.take i++[l]).map cS).Nodup:=by rw[<-xi];exact a.ok.nd.sublist^(iS _ _).map _
      rw[bj]at yq;exact absurd Z^(dz.mp yq).2.2 _ (a8.mpr #[_,zd,Z]) _ aY
    have xL:R.length<=48:=by
     have:=S.length;have h1:(jg (a6.take i) one).length<=(a6.take i).length:=gn _ _;rw[cH]at h1;omega
    refine aW Z Z #[dl,_,Z,eG.t (k:=h6 l) xb xq (by rw[aV];omega),?_]
    rw[i4 _ yC];have xx:∀{zs:am (List Key×V)} b xs,G b=bn xs->upd G dl (.dT zs) b=bn xs:=λb xs e=>by rw[ag^aq e xb];exact e
    refine#[_,_,Z,λb u n e=>by rw[ag n];exact kp b u n e,ah,?_]
    have xn:jg (a6.take (i+1)) one=jg (a6.take i) one++[l]:=by
     unfold jg;rw[xi,gp,kD,aB^cb cn];rfl
    rw[xn];have yx:=a.ok.ent l^eu zh;exact cg.snoc (k:=l.1) (n:=l.2.1) (d:=l.2.2) (yx.keep (yx.keep yI λb xs e=>kp _ _ (aq e^Y _ _ (aS yc) yf) e) xx)^S.keep xx λx zI=>a.ok.ent x^nD (eb.mp zI).1
   .have cn:l.2.1=one:=by
     cases z:decide (V.str l.2.1=V.str one) with
     |true=>exact V.str.inj^dA z
     |false=>rw[z]at c;exact absurd Z c
    refine#[_,R,Z,kp,xb,?_];have xn:jg (a6.take (i+1)) one=jg (a6.take i) one:=by
     unfold jg;rw[xi,gp,kD,ao^by simp[cn]];simp
    rw[xn];exact S
  .rintro σ G ⟨yh,R,rfl,kp,xb,S⟩
   rw[xC,cF]at S;refine fw g ?_;intro J;have yi:=kp _ _ yc xg;have ya:∀b u,b≠p->b≠db->H b=ih u->G b=ih u:=λb u n1 yn e=>kp _ _ (aA e zv)^Y _ _ yn^xf.kp _ _ e n1;have zi:∀b xs,H b=bn xs->G b=bn xs:=λb xs e=>ya _ _ (gK C e λ_ z=>by cases z) (aq e a.hd) e
   have zq:∀b xs,H b=cr xs->G b=cr xs:=λb xs e=>ya _ _ (gK C e λ_ z=>by cases z) (aq e a.hd) e
   have zC:=zj.keep zi (λb o xs e=>ya _ _ (gK C e λ_ z=>by cases z) (aq e a.hd) e) zq^λb ys e=>ya _ _ (fh C e) (aq e a.hd) e
   refine q2 Z Z Z Z Z^oR.mk Z (zi _ _ yj) zC #[xb,S,Kw a.ok,λq zn=>a.ask q (eb.mp zn).1,λq zn=>a.cO q (eb.mp zn).1] (tg.keep zi zq) yb (ya _ _ (fh C N) (aq N a.hd) N) yg λyL xj=>#[db,T,kvs,xj _ _ yi,(λo u z=>by cases a.hd.symm.trans z),q _ #[?_,λb u e n=>?_]]
   .obtain⟨x,y,e,r⟩:=xf.ok
    have n1:p≠db:=aq e xc.hd
    have yn:p≠dl:=aq e yf
    exact#[x,y,by rw[ag n1];exact xj _ _^kp _ _ yn^Y _ _ n1 e,r]
   .by_cases c:b=db
    .subst c;rw[a.hd]at e;cases e;exact ah
    .rw[ag c];exact xj _ _^ya _ _ n c e
theorem qe(h:au K H a xs)(s:ax H H'):au K H' a xs:=by
 rcases h with(h|⟨o,h⟩)|h
 .exact .inl^.inl^s _ _ h
 .exact .inl^.inr #[o,s _ _ h]
 .exact .inr h
theorem lA{a:Hp}(S:ax Y H2)(c:Y p=none)(d:bw p H2 a):ax Y a:=λb u e=>d.kp _ _ (S _ _ e)^aA e c
theorem qF{ns:am Int}{k:Int}{E:XK}(h:au K H a^ns.map V.int)(c:0<=k)(d:k<=100)(e:ns.length<=63)(q:∀p H',H p=none->cW p H'->ax H H'->Q (.ref p) H'):qJ K [.ref a,.int k] H Q E:=#[Z,h,c,d,e,λp x y b f g i=>q p _ b #[x,y,ah,f,g,i]^aJ b]
structure LI(K:Ys)(H:Hp)(a d1 ln db td wd t tb tt:FG)(sc:List Int)(ks ns:List Gd)(Qd:List (Key×V))(L:Gd->List Gd)(kvs:List (List Key×V))(a6:Bk)(kt:List (Key×V))(Qa:List Th)(wt:List V)(rM:List Th)(o:YC)(ws wb:List V)(Qc:List (Gd×List Gd))(bk:Bk):Prop where
 sc:au K H a (sc.map V.int)
 hv:hH H t d1 ln o ws Qd ks ns Qc L
 bv:js H db kvs a6 ns
 tg:eY H td kt ks Qa
 wd:ik H wd t tb tt wt rM
 fb:FB H t tb o ws wb Qc L bk
theorem LI.same{t tb:FG}{sc:am Int}{kvs:am (List Key×V)}{a6:Bk}{Qa:am Th}{b:am Th}{bk:Bk}(h:LI K H a d1 ln db td wd t tb tt sc ks ns Qd L kvs a6 kt Qa wt b o ws wb Qc bk)(S:ax H H'):LI K H' a d1 ln db td wd t tb tt sc ks ns Qd L kvs a6 kt Qa wt b o ws wb Qc bk:=
 #[qe h.sc S,h.hv.same S,h.bv.same S,h.tg.same S,h.wd.same S,h.fb.same S]
noncomputable abbrev PL:List Gd:=["_law_script","_law_pot_here","_law_alike","_law_kinds","_law_family_here","_law_lines","_law_names_here","_law_book_here","_law_things_here","_law_world_here","_law_k","_law_thing","_law_name","_law_kind","_law_own","_law_known_here","_law_told_here"]
theorem eU:bp PL ["_law_script"]^aI q6:=bD
abbrev ip:List Vm:=mj (bW (bJ q6) 9)
@[irreducible] def dc(k:Nat):List Vm:=ip.drop k
theorem Rg:ip=dc 0:=by unfold dc;rfl
theorem Rh:dc 0=bW ip 0::dc 1:=by unfold dc;rfl
theorem Ri:dc 1=bW ip 1::dc 2:=by unfold dc;rfl
theorem Rj:dc 2=bW ip 2::dc 3:=by unfold dc;rfl
theorem Rk:dc 3=bW ip 3::dc 4:=by unfold dc;rfl
theorem Rl:dc 4=bW ip 4::dc 5:=by unfold dc;rfl
theorem Rm:dc 5=bW ip 5::dc 6:=by unfold dc;rfl
theorem wB:dc 6=bW ip 6::dc 7:=by unfold dc;rfl
theorem Rn:dc 7=bW ip 7::dc 8:=by unfold dc;rfl
theorem Ro:dc 8=[bW ip 8]:=by unfold dc;rfl
theorem MS{l a:am Vm}{t:TS}(h:l=a)(p:dH X a t):dH X l t:=h ▸ p
theorem jV{l c:am Vm}{s:Vm}{t u:TS}(h:l=s::c)(a:PS X s t)(b:dH X c u):dH X l^qW t u:=by rw[h];exact ar a b
theorem MT{l:am Vm}{s:Vm}{t:TS}(h:l=[s])(a:PS X s t):dH X l t:=by rw[h];exact ay a
inductive mI(K:Ys)(vs:List V)(H:Hp)(Q:VK)(E:XK):Prop
 |mk{a:FG}{ns:List Int}(_:vs=[.ref a])(_:au K H a (ns.map V.int))(_:ns.length<=63)(_:∀H',Q (.bl true) H'):mI K vs H Q E
theorem MU{y4 fF z4 fW x5:FG}{y5 z5 x6 y6:X3}(F:aQ K "law" "law" q6 f fd)(B:dw mg)(B2:hA mg)(B3:vI mg)
  (xh:bB P w K mg base aF 1 y4 y5 ["_law_script","_law_k"] (qJ K) "_law_pot")
  (zb:bB P w K mg base aF 1 fD dD ["_law_pot_here","_law_many"] g0 "_law_digit")
  (z6:bB P w K mg base aF 3 fN dN ["_law_pot_here","_law_many"] jQ "_law_names")
  (x7:bB P w K mg base aF 3 fF z5 ["_law_pot_here","_law_kinds"] q9 "_law_family")
  (y7:bB P w K mg base aF 4 fC dC r5 mS "_law_called")
  (z7:bB P w K mg base aF 5 z4 x6 wy rO "_law_book")
  (x8:bB P w K mg base aF 5 fT dT wx rL "_law_things")
  (y8:bB P w K mg base aF 1 fW dW r6 mT "_law_world")
  (z8:bB P w K mg base aF 3 fK dK r4 mR "_law_known")
  (zN:bB P w K mg base aF 10 fO dO r0 lr "_law_told")
  (x9:bB P w K mg base aF 4 fI dI r7 mV "_law_is")
  (y9:bB P w K mg base aF 12 x5 y6 vP qT "_law_cut") :
  aT P w K mg base aF 13 f fd ["_law_script"]^mI K:=by
 refine F.bI eU λQb A outer s H vs Q E xO h=>?_
 .obtain @⟨a,sc,rfl,zx,zd,q⟩:=h
  have yO:=xO.units;have zn:=d9 yO;have zD:aZ 12 _:=xO;have M:aZ 10 _:=zD.mono ∅
  have yG:aZ 5 _:=M.mono ∅
  have zG:aZ 4 _:=M.mono ∅
  have xo:aZ 3 _:=M.mono ∅
  have l:aZ 1 _:=M.mono ∅
  intro X;refine#[_,ar (a4 1 eU.nd^a' xh l^aa (pv 0)^aa aw ai)
   (ar (a4 2 eU.nd^jO dg (a' zb l^aa (pv 1)^aa aw ai) aw^bC _)
   (ar (a4 3 eU.nd^a' z6 xo^aa (pv 1)^aa (bN fq aw^a' zb l^aa (pv 1)^aa aw ai) ai)
   (ar (g6 (a' x7 xo^aa (pv 1)^aa (pv 3) ai)^gH Z^cA (ba 4 eU.nd)^cA (ba 5 eU.nd) fM)
   (ar (a4 1 eU.nd^a' xh l^aa (pv 0)^aa aw ai)
   (ar (a4 6 eU.nd^a' y7 zG^aa (pv 1)^aa (bN fq aw^a' zb l^aa (pv 1)^aa aw ai)^aa (pv 2)^aa (pv 3) ai)
   (ar (a4 7 eU.nd^a' z7 yG^aa (pv 1)^aa (pv 3)^aa (pv 6) ai)
   (ar (a4 8 eU.nd^a' x8 yG^aa (a' xh l^aa (pv 0)^aa aw ai)^aa (pv 2)^aa (pv 3)^aa (pv 6) ai)
   (ar (a4 9 eU.nd^a' y8 l^aa (pv 4)^aa (pv 7)^aa (pv 8) ai)
   (ar (ee dZ Z (Iy Z B.range^aa aw^aa (bV (Bc Z) Z B.max boot_max^aa aw^aa (bV (Bd Z) Z B.min boot_min^aa aw^aa (bV eQ Z B.len ew^aa (pv 0) ai) ai) ai) ai) (ba 10 eU.nd) (MS Rg
    (jV Rh (a4 1 eU.nd^a' xh l^aa (pv 0)^aa (pv 10) ai)
    (jV Ri (a4 11 eU.nd^aU d2 (df (AQ Z) Z B.list boot_list^aa (pv 8) ai)^a' zb l^aa (pv 1)^aa (bV BG Z B.len ew^aa (pv 8) ai) ai)
    (jV Rj (a4 12 eU.nd^aU d2 (pv 6)^a' zb l^aa (pv 1)^aa (bV eQ Z B.len ew^aa (pv 6) ai) ai)
    (jV Rk (g6 (dV zn (pv 8)^pv 11)^gH Z^cA (ba 13 eU.nd)^cA (ba 14 eU.nd) fM)
    (jV Rl (a4 15 eU.nd^a' z8 xo^aa (dV zn (pv 5)^pv 13)^aa (pv 7)^aa (pv 14)^aa (pv 6) ai)
    (jV Rm (a4 16 eU.nd^a' zN M^aa (pv 9)^aa (pv 11)^aa (pv 12)^aa br ai)
    (jV wB (bo (gv^gu^a' x9 zG^aa (dV zn (pv 5)^pv 13)^aa (pv 7)^aa (pv 14)^aa (pv 15)^aa (eT^aa (pv 12)^aa br ai)^aa (pv 16) ai)
     (ay^a3 g7) bE)
    (jV Rn (bo (bx dg (aU bu (pv 16) aw) br^bC _)
     (ay (bo (gv^gu^a' y9 zD^aa (pv 1)^aa (eT^aa (pv 4)^aa (pv 5)^aa (pv 6) ai)^aa (pv 7)^aa (pv 8)^aa (pv 11)^aa (df jH Z B.list boot_list^aa (aU bu (pv 16) aw) ai) ai)
      (ay^a3 g7) bE)) bE)
    (MT Ro (bo (bx (qx yO) (a' zN M^aa (pv 9)^aa (pv 11)^aa (pv 12)^aa br ai) (pv 16)^bC _)
     (ay^a3 g7) bE))))))))))))
   (ay^a3 g7)))))))))),?_]
  refine fj λU b=>?_;intro c v;refine af Z (qF (k:=0) zx ∅ ∅ zd λp Y z9 pk zO=>?_)
  refine bO b λU b=>?_;intro c v;refine af Z (c6 (p:=p) (m:=4) pk ∅ ∅ λal H2 a0 a1 p2=>#[Z,?_])
  generalize decide (V.int al=V.int 0)=xP;refine bO b λU b=>?_;intro c v;refine aW Z Z (c6 (p:=p) (m:=8) p2.ok ∅ ∅ λdk H3 b0 b1 p3=>#[1,dk,Z,Z,?_])
  obtain⟨mk,rfl⟩:=gY b0;have xy:=p2.trans p3;refine jQ.mk (m:=1+mk) (by rw[Gy];rfl) xy.ok () λlk ks H4 VY kl xe yo p4 yh=>?_
  have zh:ks.length<=8:=()
  have yV:ks ≠ []:=λz=>by rw[z,jA]at kl;omega
  have xi:=xy.trans p4;refine bO b λU b=>?_;intro c v;refine aW Z Z^q9.mk Z xi.ok yh yo xe zh λr t d1 o ws Qd L Ps Qc yy d=>#[r,_,Z,aX.of d.hr,Z,_,_,Z,_,_,Z,Z,?_];have yP:=xi.trans d.pa;have zy:ax H yy:=lA zO z9 yP;have xH:ea yy lk ks:=#[d.pa.kp _ _ yh^fh xi.ok yh,yV,(),xe,yo]
  refine bO b λU b=>?_;intro c v;refine af Z (qF (k:=1) (qe zx zy) ∅ ∅ zd λp' H6 zV zo xz=>?_)
  have xp:=xH.same xz;refine bO b λU b=>?_;intro c v;refine aW Z Z (c6 (p:=p') (m:=6) zo ∅ ∅ λdn H7 c0 c1 p7=>#[1,dn,Z,Z,_,Z,_,Z,?_])
  obtain⟨mn,rfl⟩:=gY c0;refine mS.mk (m:=1+mn) (al:=xP) (by rw[Gy];rfl) p7.ok () () (xp.c3 zo p7) λln ns H8 zP yp nl=>?_
  have xa:=p7.trans zP;have xQ:ns.length<=6:=()
  have zp:=xp.c3 zo xa;refine bO b λU b=>?_;intro c v;refine cZ Z Z Z^rO.mk Z xa.ok zp yp zh xQ λdb kvs a6 yi zi ab xq dv O N xU=>?_;have yQ:=xa.trans zi;have ya:ax yy yi:=lA xz zV yQ;have yH:=zp.c3 xa.ok zi;have R:=yp.c3 xa.ok zi;have xE:∀x∈ks,en yi Qd L x:=λx xc=>(d.l1 x xc).same ya;have yE:=ya _ _ d.h1;have xn:=ya _ _ d.ht;have yn:=d.fv.same ya;have zE:=(d.fm.NG yo xe zh).perm d.pm;have zH:=d.od;have fld:=d.fm.ld;have zT:∀x∈ks,x∈Qc.map (·.1):=λx xc=>a8.mpr #[(x,Ps x),d.pm.mem_iff.mpr^a8.mpr #[x,xc,Z],Z];have yq:=qe zx^zy.trans ya;clear d yP xi xy xa yQ zi zP p7 p4 p3 p2 zp xp xH yp yh xz ya zy zO;refine bO b λU b=>?_;intro c v;refine af Z (qF (k:=2) yq ∅ ∅ zd λV0 G1 W xW ye=>?_)
  refine cZ Z Z Z^rL.mk Z xW (yH.same ye) (R.same ye) λtd kt Qa G2 zQ V1 zq tv to yW xR=>?_;have xj:ax yi G2:=lA ye W zQ;refine bO b λU b=>?_;intro c v;refine cZ Z Z Z^mT.mk Z (xj _ _ xq) (dv.same xj) O zq tv to xR λwd tb tt wb wt bk xF J yj xI yI yR pm ts=>?_;have j:ax yi J:=xj.trans yj;have xr:o6 ks ns Qc L:=#[zh,xe,fld,zE,zT,xQ];have zW:=Dr pm O;have g:LI K J a d1 ln db td wd t tb tt sc ks ns Qd L kvs a6 kt Qa wt xF o ws wb Qc bk:=
   #[qe yq j,#[j _ _ xn,zH,yn.same j,j _ _ yE,λx xc=>(xE x xc).same j,R.same j,xr],#[j _ _ xq,dv.same j,O,N,λq yz=>(xU q yz).2],#[yj _ _ zq,tv.same yj,to,xR],xI,#[j _ _ xn,zH,yn.same j,zE,yI,yR,zW]]
  have ze:=R.nm;have xX:=R.nd;have yU:∀q∈bk,∀s∈b9 q.2.2,bb s = "ask" -> dq s∈ns:=λq yz=>N q^pm.mem_iff.mp yz;have VU:0<ns.length:=jG.mpr R.ne;clear xI yI yR zq tv yj j xj zQ ye dv xq yq yn xn yE xE R yH;refine bO b λU b=>?_;intro c v;refine#[_,Z,a,_,Z,.inl g.sc,_,_,Z,_,_,Z,_,_,Z,?_,l0 (λi σ G=>∃(zz yr zr xt yt zt xu yu:a2 V),σ=[bd a,zz,ih^.bl xP,bd lk,bd t,bd d1,bd ln,bd db,bd td,bd wd,yr,zr,xt,yt,zt,xu,yu]/\ax J G)
   #[_,none,none,none,none,none,none,none,Z,ax.refl _] ?_ ?_]
  .refine#[∅,∅,?_,?_] <;> (rw[aE];repeat' split <;> omega)
  .rintro i σ G hi ⟨zz,yr,zr,xt,yt,zt,xu,yu,rfl,zj⟩
   refine hR ?_;intro c E2;have VV:i<10:=by
    refine eZ hi ?_;rw[aE];repeat' split <;> omega
   have xk:=g.same zj;refine fj λU b=>?_;intro c I;refine aW Z Z^qF xk.sc () () zd λyc zR xf yX yk=>?_
   have xA:=xk.same yk;refine bO b λU b=>?_;intro c I;have zX:kt.length=Qa.length:=cy g.tg.tv;have Qx:0<Qa.length:=jG.mpr yW;have ek:kt.map (λyA=>kV yA.1)=(Qa.map (·.1)).map V.str:=by
    have:kt.map (λyA=>kV yA.1)=(kt.map (·.1)).map kV:=by rw[dY];rfl
    rw[this,g.tg.tv.keys,dY];rfl
   refine af Z #[td,kt,Z,xA.tg.h,λlt zI=>?_];rw[ek];have zc:=(bw.refl yX).new (o:=.lst^(Qa.map (·.1)).map V.str) zI;have zk:upd zR lt (.lst^(Qa.map (·.1)).map V.str) lt=ce^(Qa.map (·.1)).map V.str:=ah;have zA:=xA.same^aJ (o:=.lst^(Qa.map (·.1)).map V.str) zI;generalize upd zR lt^.lst^(Qa.map (·.1)).map V.str=G5 at zc zk zA⊢;refine aW Z Z #[td,kt,Z,zA.tg.h,?_];rw[zX];refine c6 (p:=yc) (m:=(Qa.length:Int)) zc.ok () () λV2 G6 e0 e1 xB=>?_
   obtain⟨yB,rfl⟩:=gY e0;have xY:yB<Qa.length:=()
   obtain⟨th,xJ⟩:∃th,Qa[yB]?=ih th:=#[Qa[yB],bG xY];have yb:=eu xJ;have xl:=zc.trans xB;refine e9 (xB.kp _ _ zk^fh zc.ok zk) (cx^by rw[c5,c5,xJ];rfl) ?_
   have xS:=xk.same^lA yk xf xl;refine bO b λU b=>?_;intro c I;refine cZ Z Z Z #[ln,_,Z,.inl^au.of xS.hv.nn.hl,?_];rw[aE];refine c6 (p:=yc) (m:=(ns.length:Int)) xl.ok () () λdm G7 f0 f1 yS=>?_
   obtain⟨zB,rfl⟩:=gY f0;have yY:zB<ns.length:=()
   obtain⟨name,xD⟩:∃x,ns[zB]?=ih x:=#[ns[zB],bG yY];have yJ:=eu xD;have zJ:=ze name yJ;have xC:=xl.trans yS;have za:=xk.same^lA yk xf xC;have yl:ax J G7:=zj.trans^lA yk xf xC;refine e9 za.hv.nn.hl (cx^by rw[c5,xD];rfl) ?_
   clear xS zA xA zk zc xB yS xl;refine bO b λU b=>?_;intro c I;have zu:=to.kd th yb;have xK:=to.ow th yb;obtain⟨yf,zf,zS,_⟩:=xr.line zu;obtain⟨ta,ob,vk,zY,yK⟩:=g.tg.tv.at to.nd yb;obtain⟨yC,x0,zK⟩:=g.hv.l1 th.2.1 zu;have xT:∀{xd:Hp},xd d1=cr Qd->b2 xd d1 (.str th.2.1)^ih^.ref yC:=λe=>by rw[<-x0];exact b2.k (k:=n' th.2.1) e
   refine aW Z Z #[td,.ref ta,Z,by rw[<-vk];exact b2.k (k:=n' th.1) za.tg.h,ta,_,Z,aX.of^yl _ _ zY,Z,_,_,Z,_,_,Z,Z,?_]
   refine bO b λU b=>?_;intro c I;refine aW Z Z #[d1,.ref yC,Z,xT za.hv.h1,_,Z,_,Z,_,Z,mR.mk Z (yl _ _ zK) za.bv.hd za.bv.dv O (yl _ _ yK) za.hv.nn.hl xX yf zf () zS N g.bv.cO λdk kk ka G8 yT V3 xL kn T=>?_]
   have xv:=yl.trans yT;have y0:=g.same xv;refine bO b λU b=>?_;intro c I;obtain⟨zl,z0,yL,yv,zL⟩:=ts th yb;have al:Alike #[L th.2.1,bk,zl.2.2] #[L th.2.1,a6,th.2.2]:=alike pm O.nd zL xK.1.nd;have ask:∀{xd:Hp},ax J xd->j4 wd t tb tt wt xF zl o ws wb Qc L bk ns (name,"") xd:=λS=>DN xr (g.same S).wd (g.same S).fb z0 (by rw[yv];exact zu) ((zL.map (·.1)).nodup_iff.mpr xK.1.nd) yU ze yJ^.inl Z
   refine cZ Z Z Z^lr.mk (th:=zl) (a:=(name,"")) (by rw[yL];rfl) (ask xv) λr xM p2 G9 xm av=>?_
   rw[yv]at xM;have yd:=al.comes xM;have xg:=xv.trans xm;have ym:=g.same xg;refine bO b λU b=>?_;intro c I;refine aW Z Z #[d1,.ref yC,Z,xT ym.hv.h1,_,Z,_,Z,_,Z,_,Z,bQ,λky V4 C _ x1=>af Z^mV.mk (NS:=ns) (a:=(name,"")) Z #[(xg.trans C) _ _ zK,(ym.same C).bv.hd,(ym.same C).bv.dv,O,(xg.trans C) _ _ yK,zS] ((xm.trans C) _ _ xL) (kn.same^xm.trans C) T x1 (.inl Z) zJ (h9.same av C) yd yf zf () ze N g.bv.cO λyg z1=>?_]
   refine af Z^ite_ff Z ?_;have zv:=C.trans z1;have yM:cW yc yg:=by
    obtain⟨x,y,e,rr⟩:=xC.ok;exact#[x,y,(yT.trans^xm.trans zv) _ _ e,rr]
   have zM:=xg.trans zv;have xb:=h9.same av zv;have zU:J yc=none:=zj.free xf;clear ym y0 kn xL av;refine bO b λU b=>?_;intro c I;have xw:∀D,bw yc yg D->h9 D p2 r->I.nx c D:=λD x2 xV=>by
    have yF:ax J D:=lA zM zU x2;refine fw b ?_;intro c;refine cZ Z Z Z^lr.mk (th:=zl) (a:=(name,"")) (by rw[yL];rfl) (ask yF) λr' zF p3 z2 u x3=>?_
    rw[yv]at zF;have:=Comes.uniq yd^al.comes zF;subst this;obtain⟨y1,y2⟩:=MP (NS:=ns) yd zJ ze yf zf N;refine af Z #[_,_,Dv x3,Dv^h9.same xV u,y1,y1,y2,_,Z,ite_ff (by rw[VR _ y1];rfl) ?_]
    exact#[_,_,_,_,_,_,_,_,Z,yF.trans u]
   have xN:=bw.refl yM;cases r with
   |told z=>exact af Z^a7 xb b6 #[Z,_,Z,ite_ff (by rfl)^xw yg xN xb]
   |miss n=>exact af Z^a7 xb b6 #[Z,_,Z,ite_ff (by rfl)^xw yg xN xb]
   |gf ring =>
    obtain⟨tr,W,yw⟩:=xb;have zm:=eM.is yd yf zf N;have rl:=k' zm.nd zm.cO;have y3:=g.same zM;refine af Z^a7 W b6 #[Z,_,Z,ite_tt (by rfl) ?_]
    refine jk Z Z Z Z #[gS,λhm D zw _ z3=>jk Z Z Z Z^a7 (zw _ _ W) cP #[tr,_,Z,.inr^aX.of^zw _ _ yw,λzC yN=>?_]];have u:=zw.trans^aJ (o:=.lst^ring.map V.str) yN;have xG:=(aJ (o:=.lst^ring.map V.str) yN) _ _ z3;have yD:upd D zC (.lst^ring.map V.str) zC=ce^ring.map V.str:=ah;generalize upd D zC^.lst^ring.map V.str=z2 at u xG yD⊢;have zg:=kM yM u;have xx:=y3.same u;refine qT.mk Z zg.ok xG xx.hv xx.bv xx.tg yb yD zm.cO zm.ne () λx4 yx=>af Z^ite_ff Z^xw x4 (zg.trans yx) #[tr,?_,?_]
    .exact yx.kp _ _ (u _ _ W) (gK zg.ok (u _ _ W) λ_ z=>by cases z)
    .exact yx.kp _ _ (u _ _ yw) (gK zg.ok (u _ _ yw) λ_ z=>by cases z)
  .rintro σ G ⟨zz,yr,zr,xt,yt,zt,xu,yu,rfl,zj⟩
   refine fw b ?_;intro c;exact q G
end eH
namespace eH
open L2 W
def Fs(K:Ys)(LE M N:FG):Bool:=qA K M&&(mroIn K M (.ref M)==ih true&&(Yk K (.ref M) "name" == ih none&&(Yv K (.ref M)&&(readsIn K LE (.type "type")&&(specialIn K (.ref LE) "__getattribute__" == ih (ih (.builtin "type.__getattribute__"))&&(qA K N&&(mroIn K N (.ref M)==ih false&&(mroIn K N (.ref N)==ih true&&(Yk K (.ref N) "names" == ih none&&Yv K (.ref N))))))))))
theorem all_mk{l:aai}{zm:FG}(X:K.In h)(G:h.Ns U5 mg)(yv:mg "law" = ih^.ref zm){LE N L y:FG}{zv:Tok}{yo:a2 FG}{zo:Array^Option i'}{xp:i'}{yp:Nat}{zp xq:a2 FG}{yq:Array^Option i'}{zq xr yr zr I xt:i'}
  (hd:rW K [pr "is_name" n8,pr "check_name" ug,pr "goes_first" sS,pr "steps_of" tM,pr "merged" n9,pr "least_free" qy,pr "wish_against" oF,pr "lines_of" mu,pr "line_from" nN,pr "finds_in" tN,pr "is_behind" tq,pr "check_behind" uh,pr "entries_by_place" nT,pr "is_thing" nU,pr "check_thing" ui,pr "kind_and_own" nV,pr "whole_asked" sN,pr "whole_of" tO,pr "round_from" kG,pr "_law_pot" vF,pr "_law_digit" oq,pr "_law_names" ja,pr "_law_merged" ix,pr "_law_line" ot,pr "_law_parents" tu,pr "_law_family" nW,pr "_law_called" uj,pr "_law_number" uk,pr "_law_step" u2,pr "_law_entry" ou,pr "_law_book" u3,pr "_law_things" um,pr "_law_world" oy,pr "_law_spot" u4,pr "_law_steps" uo,pr "_law_go" v9,pr "_law_known" oz,pr "_law_leads" oA,pr "_law_is_round" kL,pr "_law_told" u5,pr "_law_is" v',pr "_law_all_right" tw,pr "_law_cut" vG,pr "law" q6])
  (hz:vD K ["len","max","min","abs","range","any","all","list","tuple","enumerate","isinstance","str","dict","sorted","int","bool","set"])
  (O:nsIn K U5 "LineError" = ih^ih^.ref LE)
  (cD:CO K "Finds" D ["lines","entries","hits","met"] [tr "__init__" "Finds.__init__" u6,tr "look" "Finds.look" u7,tr "walk" "Finds.walk" u9])
  (cC:CO K "Whole" C ["finds","kind","own","kept","known","begun"] [tr "__init__" "Whole.__init__" uM,tr "forebears" "Whole.forebears" sT,tr "tell" "Whole.tell" u',tr "enter" "Whole.enter" oB,tr "go_on" "Whole.go_on" va,tr "come_to" "Whole.come_to" uq,tr "settle" "Whole.settle" oe])
  (cR:CO K "Reckoning" R ["asking","where","left","total","rested"] [tr "__init__" "Reckoning.__init__" uN,tr "step_by" "Reckoning.step_by" ur,tr "take_in" "Reckoning.take_in" uu])
  (xM:XO K "Missing" "Missing.__init__" "name" M p1)
  (xN:XO K "Endless" "Endless.__init__" "names" N p8)
  (yt:nsIn K U5 "number_asked" = ih^ih^.ref y)
  (zt:K.lookup y=ih #[zq,zp,.func^fnOf "number_asked" "number_asked" (dB l2) (bJ l2) (aI l2) (.ref L) xr yr zr xq I xt,yq])
  (xu:codeIn K I "number_asked" = true)
  (J:Yv K^.ref y=true)
  (yu:K.lookup L=ih #[xp,yo,.seq #v[.str "" zv] yp,zo])
  (A:Fs K LE M N=true)
  (P:findCls K (.ref LE) (.type "type") "__init__" = ih^.val^.builtin "ValueError.__init__") :
  ∃fd:X3,(∀(s:UJ) (v:i'),ZO s fd #[[v],[]] [("_law_script",v)]) /\∀base:Yb,K.In base->base.Ns U5 mg->aT l.prog w K mg base aF 13 zm fd ["_law_script"]^mI K:=by
 have z:∀x∈_,mg x=none:=Dk X G hz;obtain⟨xw,yw,zw,xx,yx,zx,xy,yy,zy,xz,yz,zz,xA,yA,zA,xB,yB,zB,xC,hP,hD,hN,yC,zC,xD,yD,zD,xE,yE,zE,xF,yF,zF,xG,yG,zG,xH,yH,zH,xI,yI,zI,xJ,hL,-⟩:=hd;obtain⟨V5,V6,yJ,Q,S,T⟩:=hU X G xw "thing";obtain⟨V7,V8,zJ,xK,yK,zK⟩:=hU X G yw "thing";obtain⟨V9,V',xL,yL,zL,yM⟩:=hU X G zw "entry";obtain⟨Wa,Wb,zM,yN,zN,xO⟩:=hU X G xx "entry";obtain⟨Wc,Wd,yO,zO,xP,yP⟩:=hU X G yx "rows";obtain⟨We,Wf,zP,Wg,xQ,yQ⟩:=hU X G zx "rest";obtain⟨Wi,Wj,zQ,Wk,xR,yR⟩:=gq X G xy "rest" "name";obtain⟨Wl,Wm,zR,xS,yS,zS⟩:=hU X G yy "family";obtain⟨Wn,Wo,xT,yT,zT,xU⟩:=mi X G zy "lines" "kind" "parents";obtain⟨Wq,Wr,yU,zU,xV,yV⟩:=gq X G xz "family" "book";obtain⟨Ws,Wt,zV,xW,yW,zW⟩:=gq X G yz "line" "thing";obtain⟨Wu,Wv,xX,yX,zX,xY⟩:=gq X G zz "line" "thing";obtain⟨Ww,Wx,yY,zY,x0,y0⟩:=hU X G xA "book";obtain⟨Wy,Wz,z0,z1,z2,y3⟩:=gq X G yA "world" "thing";obtain⟨WA,WB,z3,y4,z4,y5⟩:=gq X G zA "world" "thing";obtain⟨WC,WD,z5,y6,z6,y7⟩:=gq X G xB "world" "thing";obtain⟨WE,WG,z7,y8,z8,y9⟩:=jP X G yB "world" "thing" "name" "behind";obtain⟨WH,WJ,z9,Rp,Rq,Rr⟩:=gq X G zB "world" "thing";obtain⟨WK,WL,Rt,Ru,Rv,Rw⟩:=gq X G xC "standing" "again";obtain⟨fP,dP,FP,kP,bP,mP⟩:=gq X G hP "_law_script" "_law_k";obtain⟨fD,dD,B,i,e,f⟩:=gq X G hD "_law_pot_here" "_law_many";obtain⟨fN,dN,FN,E,F,mN⟩:=gq X G hN "_law_pot_here" "_law_many";obtain⟨WM,WN,Rx,WO,Ry,Rz⟩:=hU X G yC "_law_rows";obtain⟨WQ,WR,RA,RB,RC,RE⟩:=mi X G zC "_law_lines" "_law_kind" "_law_own";obtain⟨WS,WT,RF,RG,RH,RI⟩:=gq X G xD "_law_pot_here" "_law_made";obtain⟨WU,WV,RJ,RK,RL,RM⟩:=gq X G yD "_law_pot_here" "_law_kinds";obtain⟨WW,WX,RN,U,V,W⟩:=jP X G zD "_law_pot_here" "_law_many" "_law_alike" "_law_kinds";obtain⟨WY,ac,RO,p,q,r⟩:=hU X G xE "_law_pot_here";obtain⟨W0,W2,RP,RQ,RS,RT⟩:=mi X G yE "_law_pot_here" "_law_names_here" "_law_at";obtain⟨W3,W4,RU,RV,RW,RX⟩:=mi X G zE "_law_pot_here" "_law_names_here" "_law_at";obtain⟨W5,W6,RY,aa,R0,R1⟩:=mi X G xF "_law_pot_here" "_law_kinds" "_law_names_here";obtain⟨W7,W8,R3,R4,R5,R6⟩:=jP X G yF "_law_pot_here" "_law_alike" "_law_kinds" "_law_names_here";obtain⟨W9,Xa,R7,Y,xa,ya⟩:=mi X G zF "_law_family_here" "_law_book_here" "_law_things_here";obtain⟨Xb,Xc,R8,za,xb,yb⟩:=jP X G xG "_law_line_here" "_law_book_here" "_law_name" "_law_behind";obtain⟨Xd,Xe,R9,zb,xc,yc⟩:=hU X G yG "_law_entry_here";obtain⟨Xf,Xg,R',zc,xd,yd⟩:=Di X G zG "_law_line_here" "_law_book_here" "_law_own" "_law_known_here" "_law_key";obtain⟨Xh,Xi,Sa,zd,xe,ye⟩:=jP X G xH "_law_line_here" "_law_book_here" "_law_own" "_law_names_here";obtain⟨Xj,Xk,Sb,Sd,Se,Sf⟩:=jP X G yH "_law_line_here" "_law_book_here" "_law_own" "_law_name";obtain⟨Xl,Xm,Sg,Sh,Si,Sj⟩:=jP X G zH "_law_line_here" "_law_book_here" "_law_own" "_law_names_here";obtain⟨Xn,Xo,Sk,ze,xf,yf⟩:=jP X G xI "_law_world_here" "_law_thing" "_law_name" "_law_behind";obtain⟨Xp,Xq,Sl,zf,xg,yg⟩:=Dj X G yI "_law_line_here" "_law_book_here" "_law_own" "_law_known_here" "_law_key" "_law_told_here";obtain⟨Xr,Xs,Sm,Sn,So,Sq⟩:=Di X G zI "_law_home" "_law_book_here" "_law_things_here" "_law_thing" "_law_some";obtain⟨Xt,Xu,Sr,Ss,Su,Sv⟩:=Dj X G xJ "_law_pot_here" "_law_home" "_law_book_here" "_law_things_here" "_law_thing" "_law_ring";obtain⟨fL,dL,xn,aL⟩:=hL;cases yv.symm.trans^jF X G aL
 have b:∀{x:Gd},x∈_->mg x=none:=λ{x} m=>z x m;have a:dw mg:=#[b ∅,b ∅,b ∅,b ∅,b ∅,b ∅,b ∅,b ∅,b ∅,b ∅]
 have c:hA mg:=#[b ∅,b ∅,b ∅,b ∅]
 have yn:vI mg:=#[b ∅,b ∅]
 obtain⟨⟨aD,Sw,Sx,Sy,Sz,SA,SD,SE⟩,SF,SG,SH,-⟩:=cD;obtain⟨Xv,Xw,SI,zg,SJ⟩:=ue SF "self" "lines" "entries";obtain⟨Xx,Xy,SK,xh,yh⟩:=uf SG "self" "kind" "name" "behind";obtain⟨Xz,XA,SM,SN,SO⟩:=uf SH "self" "kind" "name" "behind";obtain⟨⟨aC,SQ,SR,SS,SU,SV,SW,SX⟩,SY,S0,S1,S2,S3,S4,S5,-⟩:=cC;obtain⟨XB,XC,S6,zh,S7⟩:=Lp SY "self" "finds" "kind" "own" "kept";obtain⟨XD,XE,S8,S9,S'⟩:=Lo S0 "self";obtain⟨XF,XG,Ta,Tb,Tc⟩:=n7 S1 "self" "first";obtain⟨XH,XI,Td,Te,Tf⟩:=ue S2 "self" "standing" "asking";obtain⟨XJ,XM,Tg,Ti,Tj⟩:=n7 S3 "self" "reckoning";obtain⟨XN,XQ,Tn,To,Tp⟩:=ue S4 "self" "reckoning" "step";obtain⟨XR,XS,Tq,Tr,Ts⟩:=n7 S5 "self" "reckoning";obtain⟨⟨aR,Tt,Tu,Tv,Tw,Tx,Tz,TB⟩,TC,TF,TH,-⟩:=cR;obtain⟨XT,XU,TJ,xi,TK⟩:=uf TC "self" "asking" "where" "steps";obtain⟨XW,XX,TL,TM,TN⟩:=n7 TF "self" "step";obtain⟨XY,ad,TQ,TR,TU⟩:=n7 TH "self" "told";have u:∀{x:Gd},x∈_->Yk K (.ref D) x=ih none:=λ{x} m=>qk SE m;have n:∀{x:Gd},x∈_->Yk K (.ref C) x=ih none:=λ{x} m=>qk SX m;have o:∀{x:Gd},x∈_->Yk K (.ref R) x=ih none:=λ{x} m=>qk TB m;have j:j3 K mg D:=#[#[Sw,Sx,Sy,Sz],u ∅,u ∅,u ∅,u ∅,jF X G aD]
 have g:iL K mg R:=#[#[Tt,Tu,Tv,Tw],o ∅,o ∅,o ∅,o ∅,o ∅,jF X G aR]
 have d:h8 K mg C:=#[#[SQ,SR,SS,SU],n ∅,n ∅,n ∅,n ∅,n ∅,n ∅,jF X G aC]
 obtain⟨TV,X0,yi,TX,aM,zu⟩:=xM;obtain⟨TY,X1,zi,ab,aN,xv⟩:=xN;have T1:=Ep yi "self" "name";have T2:=Ep zi "self" "names";have xj:=Lk (st:=l2) zt xu J;have T3:=xj.binds (ps:=km) (ds:=[]) yu λ_ _ _ _ _ _ us hl=>by
  have h4:us.length=4:=by simpa using hl
  obtain⟨_,_,_,_,rfl⟩:=mK h4;exact#[_,Z,Z]
 have T4:=jF X G yt;unfold Fs at A;simp only[gW,dJ]at A;obtain⟨x1,x2,x3,x4,x5,x6,x7,x8,x9,y1,y2⟩:=A;have zn:vg K mg LE M TV _:=#[jF X G aM,zu,TX.fn,x4,yi,#[x5,x6,P],jF X G O,T1,Dm x1,x3];have xo:vK K mg LE N TY _:=#[jF X G aN,xv,ab.fn,y2,zi,#[x5,x6,P],jF X G O,T2,Dm x7,y1];obtain⟨_,_,_,_,_,_,_,_,_,rfl,_,_⟩:=xn.ex;exact#[_,λs v=>.of_eq Z,λbase _ _ =>
  let yj:=Ls yJ a c
  let T5:=MM zJ #[yj,Q,S,T]
  let T6:=NT xL
  let T7:=I' yO a zQ xR yR zP xQ yQ
  let T8:=NA xT a #[T7,zO,xP,yP]
  let T9:=Kh zR a #[T8,yT,zT,xU]
  let T':=NI yY
  let Ua:=LH SM j
  let zj:=LJ SK j Ua SN SO
  let Ub:=NM yU j #[T9,xS,yS,zS] #[T',zY,x0,y0] #[SA,zg.at_,zg.fn,SD] (MI SI j) SJ
  let Uc:=NJ zV c
  let Ud:=NK xX #[Uc,xW,yW,zW]
  let Ue:=NN z0 #[yj,Q,S,T]
  let Ug:=NO z3 #[Ue,z1,z2,y3]
  let Uh:=NQ z5 #[Ug,y4,z4,y5]
  let Ui:=N7 z9 c d #[Uh,y6,z6,y7] #[Ub,zU,xV,yV] #[SV,zh.at_,zh.fn,SW] (MJ S6 c d) S7
  let Uj:=NV zM
  let Uk:=NW TJ a g
  let Ul:=NZ Tn d j g zj xh yh
  let Um:=N0 Tg d g Ul To Tp (NX TL g) TM TN (NY TQ g) TR TU
  let Uo:=N1 Tq a c (b ∅) d g
  let Up:=N4 Rt a g
  let Uq:=N5 Td d j g zn xo #[Up,Ru,Rv,Rw] zj xh yh #[T6,yL,zL,yM] #[Uj,yN,zN,xO] #[Tx,xi.at_,xi.fn,Tz] Uk TK
  let Ur:=N6 Ta d Uq Te Tf Um Ti Tj Uo Tr Ts
  let Us:=N9 z7 d #[Ui,Rp,Rq,Rr] #[T5,xK,yK,zK] #[Ud,yX,zX,xY] (LN S8 d j) S9 S' Ur Tb Tc
  let Ut:=Oa xj d #[Us,y8,z8,y9]
  let k:=tP B
  let Uu:=NH RJ a c (MB RF a B e f) RG RH RI (ND RA a Rx Ry Rz) RB RC RE
  let GP:=My FP a
  let H:=Kd FN a B e f
  let xk:=Og RN #[H,E,F,mN]
  let t:=MC RO #[k,i,e,f]
  let Uw:=MD RP a #[k,i,e,f] #[t,p,q,r]
  let Ux:=ME RU a #[k,i,e,f] #[t,p,q,r] #[Uw,RQ,RS,RT]
  let Uy:=Oj RY a #[k,i,e,f] #[Ux,RV,RW,RX]
  let Uz:=Oh R3 a #[xk,U,V,W] #[k,i,e,f] #[H,E,F,mN] #[t,p,q,r]
  let yk:=Oi R7 a c
  let zk:=Oc R8
  let xl:=Od R9 a
  let yl:=Oe R' #[zk,za,xb,yb] #[xl,zb,xc,yc]
  let zl:=Of Sa a #[yl,zc,xd,yd]
  let UB:=Ol Sb a #[zk,za,xb,yb] #[xl,zb,xc,yc]
  let UC:=Om Sg a c (b ∅) #[UB,Sd,Se,Sf]
  let xm:=Oo Sl c yn #[yl,zc,xd,yd] #[UC,Sh,Si,Sj]
  let ym:=Ob Sk zn xo x2 x8 x9 #[Ut,J,T3,T4]
  let UD:=Oq Sm #[yk,Y,xa,ya] #[zl,zd,xe,ye] #[ym,ze,xf,yf] #[xm,zf,xg,yg]
  let UE:=MR Sr a c #[k,i,e,f] #[t,p,q,r] #[UD,Sn,So,Sq]
  MU xn a c yn #[GP,kP,bP,mP] #[k,i,e,f] #[H,E,F,mN] #[Uu,RK,RL,RM] #[xk,U,V,W] #[Uy,aa,R0,R1] #[Uz,R4,R5,R6] #[yk,Y,xa,ya] #[zl,zd,xe,ye] #[ym,ze,xf,yf] #[xm,zf,xg,yg] #[UE,Ss,Su,Sv]]
theorem walk{l:aai}{q:Yg}{d:DefRec}{K:Params->Ys}(e:l.most=ih 63)(c:d.params.defaults=[])
  (g:∀(w:Yo) (h:Yb),YP w h->(K w.params).In h)
  (F:∀(w:Yo) (mg:Gd->Option i') (b:FG) (h:Yb),(K w.params).In h->h.Ns U5 mg->mg d.name=ih^.ref b ->
   ∃fd:X3,(∀(s:UJ) (u:i'),ZO s fd #[[u],[]] [("_law_script",u)]) /\∀base:Yb,(K w.params).In base->base.Ns U5 mg->aT l.prog w (K w.params) mg base aF 13 b fd ["_law_script"]^mI^K w.params) :
  WalkO q Qs XP YP l.row.toRowW d [] (λf vs=>Z6 f vs):=
 L2.KR (n:=63) (k:=13) (x:= "_law_script") (CX:=λ_=>aF) (sp:=λw=>mI^K w.params) e ∅ c #[Z,∅,∅,Z] g F (λ_ _ a ns i _ j=>mI.mk Z j i λ_=>rfl) λ_ _ _ _ _ z=>z
end eH
structure PySem.W.Fast:Prop where
 (tw5459884696182845244 tw14251175190373365257 tw13201585019514894034 tw993210317227340411 tw12515860976980979469 tw16651544738962450399 tw8743629019093930473 tw1471827840476332471 tw7520519794998590932 tw8668847396056686476 tw7004672548484681395 tw4233198291120289154 tw13636749489836746620 tw8990002846237179990 tw2424925689714358974 tw1610960850726236924 tw7397086383134113761 tw13450948939661265815 tw4901778247506106128 tw18248285040659984156 tw12218954102367994669 tw15020739726167938232 tw12283184396743783980 tw3724133822069225435 tw6735652733231377799 tw18188111980048618439 tw1921850547033082682 tw16974322956811003256 tw4620944753953243234 tw5427328611580392158 tw2476076893641877797 tw2266114764424581098 tw5290812387909369892 tw3228965626602474091 tw13314377517394779037 tw10713045379541731982 tw3035859383481793684 tw723438456544525127 tw16602256494851817702 tw16672593071659458718 tw15698327333639995308 tw11798879906304072593 tw6961370485195675804 tw1511754442776579546 tw13236796242352896360 tw11053188633900194536 tw4815665132552408766 tw656219157537369351 tw16249153531522496625 tw12737656372031922825 tw10409013887301763199 tw13111823914466482738 tw3994917520334282810 tw4691670673902631389 tw6905412698553168284 tw15955469013150193567 tw4854349852307610977 tw79062921730012903 tw4866165168558876894 tw7874750288569817722 tw4735976311907694310 tw11912395266005046743 tw5853328852180011521 tw14847225854587929271 tw10653395307897613661 tw7847629217716857267 tw4885854199228573347 tw13495827152062625061 tw15992624126876124680 tw9382422963007927308 tw7794902346985199694 tw13054732454182826613 tw16108840790139496769 tw15324433507413919269 tw11299721049394970532 tw16224590505272243283 tw15541685662588624377 tw6875697589295815740 tw2497764776635985107 tw10925245203639379129 tw18019518491132763865 tw15103043081130951786 tw12655120750189882468 tw3944271636255395554 tw18183556017259942026 tw411096303673292288 tw3999477673811288143 tw9032835797322078315 tw7759800963681755654 tw12546454809708136084 tw9487476581601164503 tw3139113499951464314 tw14777307624508265868 tw10293140721573542306 tw2840148065950219560 tw1224756300220817081 tw16924091380982152353 tw17691808076475658861 tw5298120255977952629 tw5255930902040532876 tw4523966898634783797 tw17755868212373596737 tw12948817935977225625 tw5763501175332450318 tw13858485706009196210 tw200970683197859241 tw1079636576524483457 tw13225203395427727338 tw17960000174335784652 tw5076486374248143779 tw12627196516837901170 tw2183426160633863021 tw8128949698329476797 tw1636974378773113779 tw14601671342341736883 tw16588451963822585022 tw180772483090351359 tw12562893242333820995 tw13554158305462261719 tw7400791636596343507 tw5053059706084829010 tw249298196741012176 tw17650958185086935140 tw8357037611618617328 tw14570066393918259100 tw5604118377729278111 tw17756175706189582734 tw9794724716473023021 tw8983618747598937917 tw17939940503324754911 tw9171977590845982141 tw8527683543464700919 tw13352318433656288697 tw9634227779025241664 tw14646790803278304531 tw10633601102497500783 tw14514678959280673716 tw6785147476462720329 tw15691100366225108444 tw18042092659984001548 tw11922548427073279176 tw7936185631190185752 tw2220835532211138077 tw7934800544767600665 tw6799144038117757894 tw4471655441412840135 tw7641579765699544656 tw2812109103975349234 tw3342572139030762055 tw17350950056882599355 tw5274265827357179022 tw9690909024717496651 tw1038713897626185834 tw5465258382389158131 tw11421685221006770072 tw2773633683854705250 tw9913015577332535741 tw7986983064724689535 tw5841930492947779517 tw6861290285527227627 tw5543500520666357887 tw5029706228454140612 tw2124736926665488667 tw470909011957139219 tw13085724327618958217 tw2147849363581277560 tw14655075151946675123 tw5167991191123520487 tw1481160772502024559 tw17950287124570010469 tw13441910431190368962 tw2206292402645113635 tw13481095511209106661 tw5233443831646863330 tw5596275245139333044 tw16526818411073615 tw13580708891802490353 tw13035989611397852419 tw7192489017673044629 tw9952567910899092968 tw3852945889798575602 tw10667195395241736184 tw4175055110266680499 tw1562788231654405989 tw9355165798115927271 tw9317066805545340498 tw3872375882337215189 tw12280107167650509001 tw17797955545641023941 tw11958209698548562309 tw5787487892385809982 tw6910396977287264404 tw6327918436105767421 tw9709340005887006671 tw16701006283329729139 tw6381128536080987956 tw12081649125836187461 tw17326961327200272546 tw13376828918447046949 tw2850694936502395050 tw9747161646338459495 tw5111631895042421289 tw7137187827373267082 tw13032647703252990128 tw8957482967311513231 tw1509004565988077727 tw299694447351910262 tw7343057503094899923 tw13671424974883447876 tw12623209471624569362 tw2022912267114943076 tw5601678505578248012 tw2601990244179467377 tw6040676266759049739 tw6625303392643234938 tw17817594151165325006 tw7146375934875354290 tw16434886944415867244 tw10267373640046222866 tw3545482044978385090 tw14349850633715089919 tw16840176341595905 tw1115379632182334346 tw7770083753594817718 tw16099893309322883029 tw12432228926143048446 tw11516872288694462489 tw2778115291033707381 tw12906481463036259839 tw13928376535025245799 tw15778545871848340227 tw11152999937859909671 tw14363233339873388589 tw18081595782935247751 tw569531881330234233 tw10705998049344840994 tw10561509369034690355 tw14861243678095573652 tw596747315046671440 tw93538575464114025 tw17145872380704739284 tw2235864027579911730 tw12868203289256139321 tw13698646351026472758 tw3701523701842678863 tw5936944299113912434 tw1687235079105249757 tw9814370304329498183 tw14363250768874040624 tw6828346579224675860 tw10708458330747471320 tw17147311703998796402 tw14263652466213007834 tw14811061929267509747 tw3821869872797136741 tw6750982966299462621 tw17584645727361795899 tw4843408194988645539 tw17802175907342128481 tw9081086109524249576 tw6600230355175790021 tw10925982791266581418 tw16234255894968912226 tw5450498451099008734 tw15414741035354468067 tw5809333394937597881 tw11724032112385494390 tw7523556679500787146 tw17558088414101033539 tw10106875000584412166 tw12000402036270947576 tw10142748684321001508 tw10233513810185890858 tw2640527149989059736 tw9290251729532474335 tw15116578843886075992 tw5685283168891987424 tw326863810008755929 tw17311792338076120035 tw14457170177323462876 tw4976851560288410366 tw6568866111973690410 tw18314338941211909129 tw7745697145710163644 tw616318314681071184 tw17856302298277766681 tw3577422269434335595 tw11123345169222282748 tw7593484156618371269 tw13059668998015717794 tw9365123716640298882 tw14703388459259303445 tw15025500243699317566 tw8830475192679767977 tw12919865731811633210 tw2897607577574922592 tw18251699911928862200 tw3345721598409945560 tw7431598677758270116 tw12313068116985736516 tw13705582970319600114 tw842041813171258572 tw18034612155076414750 tw16302650322188336879 tw7555662359876024865 tw17654820877926566215 tw2239479246572225377 tw15825861963576437734 tw8855478442058462700 tw12557266600692915949 tw997200532829459585 tw12829974358491934927 tw913393119734647660 tw15457452959407911818 tw10037130034684744977 tw11142507807173108441 tw15472162333507153256 tw17375906896719837226 tw11318269912707775860 tw8217794077161774965 tw3610551433093270090:True)
open W PyProof.Rows
set_option maxRecDepth 100000 in
set_option maxHeartbeats 0 in
theorem PySem.Challenge.cw_parentlines_k45_whole_rounds_cut_and_clo_holds : PySem.Challenge.rw_parentlines_k45_whole_rounds_cut_and_clo.Holds := by
 w_on;o_law;k_head;(case hw=>w_witness2)
 k_fill
 refine eH.walk (l:=aa3) rfl rfl (λw h Y=>PySem.W.kIn_of Y) ?F
 case F =>
  intro w mg fa h KX G UG;refine' eH.all_mk KX G UG ?d ?z ?UH ?cD ?cC ?cR ?xM ?xN ?PM ?PN ?PQ ?PR ?PU ?hx ?UI
  (case d=>(repeat (refine' L2.Nw ?a ?l ?c ?k ?_;(case a=>k_is);(case l=>k_is);(case c=>k_is);(case k=>k_is)));exact trivial)
  (case z=>(repeat' first|exact trivial|refine Zl ?_ ?_) <;> k_is)
  (case cD|cC|cR=>refine' ⟨⟨?a,?_,?_,?_,?_,?_,?_,?n⟩,?m⟩;(case a=>k_is);(case n=>(repeat' first|exact trivial|refine Zl ?_ ?_) <;> k_is);(case m=>(repeat (refine' L2.Nx ?a ?i ?l ?c ?k ?_;(case a=>k_is);(case i=>k_is);(case l=>k_is);(case c=>k_is);(case k=>k_is)));exact trivial);all_goals k_is)
  (case xM|xN=>refine' L2.Ny ?n ?a ?i ?l ?c ?k ?e;(case n=>k_is);(case a=>k_is);(case i=>k_is);(case l=>k_is);(case c=>k_is);(case k=>k_is);(case e=>kernel_rfl))
  (case UH=>k_is)
  (case PM=>k_is)
  (case PN=>k_is)
  (case PQ=>k_is)
  (case PR=>k_is)
  (case PU=>k_is)
  (case UI=>k_is)
  (case hx=>kernel_rfl)
