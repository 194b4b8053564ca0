import PyProof.Rows.All
import Wide.All
import OpenK.AllK
import Wide.FinOn
import Lean
import PyProof.EqAt
import PyProof.EqKinds
import PyProof.TupleCall
import PyProof.ReprRoads
import PyProof.ReprBulk
import PyProof.EnumMake
import PyProof.EnumFor
import KE.KRevSl
import KE.KDictList
import PyProof.ZipIter
import PyProof.AttrMissHeap
import KE.KDictOf
import KE.KItemsList
import PyProof.Rows.ZipGen
import PyProof.CallFns
import PyProof.NsDelKeeps
import PyProof.StrWalks
import PyProof.FString5
import KE.KSortTup
import PyProof.SetRoads
import PyProof.SetNew
import PyProof.Rows.SetFrom
import PyProof.WalksMore
import PyProof.ForAny
import PyProof.DictWalks
import PyProof.MeetsDict
import KE.KEqDict
import PyProof.DictItemsLoops
import KE.KPairComp
import PyProof.DictTable
import PySem.Challenge.RW_parentlines_k61_finds_kept
set_option Elab.async false
set_option linter.all false
set_option maxRecDepth 100000
set_option maxHeartbeats 4000000
set_option compiler.extract_closed false
noncomputable section
abbrev al:=@List
abbrev am:=@Option
open Option renaming some->ih,map->UQ,getD_none->U4,map_map->U9,none->Vz
open Sum renaming inr->Cv,inl->Uv
open PySem renaming Value->CS,Str->Pd,Addr->Ph,PyData->Pj,sizeLine->Pk,Shared->Pn,wpAny->Px,mainGlobals->P5,model->Qu,Stmt->QB,Expr->QD,starEach->SQ,bootBuiltins->SR,compareOp->SU,DictEntry->SX,Paired->S2,FuncData->Ta,Program->Tj,Str->Tn,Heap->To,NameKind->Tp,binaryOp->Tu,Value->Tv,World->Tw,Addr->Tz,Builtin->TF,Around->TJ,IsItemIter->TK,Scope->TY,cLine->T6,Within->Uc,Shared->Ud,Obj->Ue,IsPart->Uu,Env->Uy,Sem->UB,Heap->UD,BindsTo->UK,call->UU,IsItemIterOut->UW,CmpOp->U1,Fin->U7,Operator->Vg,Result->Vy,Tok->VI,Model->VJ,World->VO,Pos->VT,Stmt->VW,Expr->VX,Obj->Wh,Params->WI,ExceptHandler->WO,IsRangeIter->Xh
open PySem.W renaming Frag->Pw,emptyDict->S3,findIn->Td,instObj->Th,fnOf->Ti,keepIn->Tr,Frag->Tx,codeIn->TX,plainGet->T8,lookIn->Uh,keepIn->Uk,findIn->Ul,methodObj->Up,hasDictIn->Uq,takerIn->Uw,isFn->UG,plainOver->US,handedIn->UX,makesIn->U3,OpenLaw->U5
open PySem.PyData renaming depthAll->Pz,strOk->PX,bulkAll->Qt,canLayAll0->SS,str->S4,depth->Te,bulk->TQ,eqvAll->T7,eqv->Ub,tuple->Vn
open PySem.Value renaming ref->PU,none->SV,bool->TL,builtin->TR,int->Ua,str->Uj,type->UC,isStrOf->UE,isInt->UN,float->UO,isStrOf_shape->UR,isInt_shape->U2,bytes->VN
open PySem.NameKind renaming free->P7,cell->S0
open PySem.Str renaming ofString->SW,length->WJ,empty->WM
open List renaming range->SY,lookup->S',replicate->TH,length->TV,getD->TZ,nodup_range->U',mem_flatMap->Va,getElem_inj->Vb,ext_getElem->Vc,forIn_cons->Vl,find?_some->Vm,all_cons->VA,not_lt->V0
open ForInStep renaming yield->S5,done->Xd
open PySem.Heap renaming SameBut->S8,get?_none_of_le->UT,IsKeyIter->Vq,ExtBut->V1
open PySem.Builtin.Dict_items renaming ownsTuple->S9,ownedTupleIsFree->T1,ownedTupleFields->T5,pairFromOwner->T',newIterator->Ve,dictOf->Vf
open True renaming intro->Tb
open PySem.Txt renaming slice->Tc,join->Vw
open False renaming elim->Tf
open PySem.Obj renaming mapSeq->Tg,data_mapDictKeys->UY,data_mapFields->U8,mapFields->VP
open PySem.Builtin.Slice renaming slicePlaces->Tq,sliceAdjust->TU,sliceApplied->Ur,slicePartIndex->Wd,sliceFields->We
open PySem.Builtin.Tuple renaming tupleExact->Ts,tupleItemsOf->TM
open PyProof.Rows renaming IsTup->Tt,StrsAre->Ug,AllBare->Um,IntsAre->U6,Subscript_->Vx,lt_str->Wy,iadd_int->Wz,floordiv_int->WA,callWith_builtin1->WB
open PySem.Builtin.Dict renaming showsAll->TB,updateFrom->Ux,pairItems->Uz,takeOut->UA,selfAndRest->WC,noArgs->WD,keyAndDefault->WE,dictSlotNone->WG,addKeywords->WH
open Or renaming inr->TC,inl->VL
open PySem.Builtin.Str renaming strSliceIndices->TN,glued->WL
open List.Pairwise renaming nil->Ui,map->Wb,and_mem->Wc
open And renaming intro->Uo
open PySem.Builtin.List renaming listExtendWith->Us
open PySem.Around renaming under->Ut
open PySem.SeqAt.EqAt renaming str_int->UH,int_str->UI,str_str->WR,str_none->WS,str_bool->WT,same->WU,none_str->WV,none_int->WW,none_bool->WX,int_none->WY,int_int->WZ,int_bool->W0,bool_str->W2,bool_none->W3,bool_int->W4,bool_bool->W5
open PySem.Calls renaming callWith_builtin->UJ
open PySem.Code renaming isFrame->UL,isGuard->VQ,frames->V2
open PySem.Heap.DictOf renaming new->UM
open Classical renaming choose->UP,not_forall->Xf,choose_spec->Xg
open List.Perm renaming swap->UZ,trans->W9,of_eq->W',map->Xa,eq_of_pairwise->Xb,append_left->Xc
open PySem.F renaming slot_dict_items_iter->U0,slot_dict_items->Vr,slot_dict_iter->VB,entry_any_loop->VC
open PySem.Heap.SameBut renaming update->Vd
open PySem.Walks renaming dictKeys->Vh,list->VU
open PySem.Shared renaming TypeIs->Vi
open Nat renaming min_eq_right->Vj,lt_succ_self->Vk,strongRecOn->Vo,min_eq_left->Vp,le_of_eq->VY
open Bool renaming and_false->Vs,or_false->VD,beq_comm->VE,true_or->VR
open Array renaming mem_def->Vt,toList->VF
open Std.Legacy.Range renaming size->Vu,forIn_eq_forIn_range'->Vv
open PySem.Challenge renaming rw_parentlines_k61_finds_kept->VG,pw_parentlines_k61_finds_kept->VH
open PySem.W.WShape renaming has->VM
open PySem.Heap.IsSliceOf renaming new->VS
open PySem.SeqAt renaming EqAt->VV
open PySem.W.Looks renaming here->VZ,here->V3
open PySem.EqMixed renaming ne_str_int->V4,ne_str_bool->V5,ne_int_str->V6,ne_bool_str->V7,eq_str_int->V8,eq_str_bool->V9,eq_int_str->V',eq_bool_str->Wa
open PySem.Builtin.Range renaming rangeSize->Wf
open PySem.W.WData renaming int->Wg
open PySem.Within renaming cons->Wi
open PySem.EqNone renaming ne_str_none->Wj,ne_none_str->Wk,ne_none_none->Wl,ne_none_int->Wm,ne_none_bool->Wn,ne_int_none->Wo,ne_bool_none->Wq,eq_str_none->Wr,eq_none_str->Ws,eq_none_none->Wt,eq_none_int->Wu,eq_none_bool->Wv,eq_int_none->Ww,eq_bool_none->Wx
open PySem.Flow renaming next->WK
open Int renaming toNat->WN
open Std.Legacy renaming Range->WQ
open PySem.Value.ref renaming inj->W6
open PySem.IsL renaming update->W7
open List.cons renaming inj->W8
open PySem.DictEntry renaming refKey->Xe
open Nat.succ renaming inj->Xi
open PySem.MeetsSeq renaming list_pop_at->Xj
open PySem.Heap.Ns1 renaming of_empty->Xk
open PySem.AutoSeq1 renaming list_clear_list_0->Xl
open PySem renaming wpAny_bind->ah,wpAny_pure->au,sizeLine_eq->aR,boot_len->d3,wpAny_holding->eM,wpAny_newObj_type->gc,wpAny_truthy_bool->gS,mem_of_lookup->ij,wpAny_call_entry->il,wpAny_mono->i0,wpAny_dictEntries->jP,wpAny_standAt->kY,wpAny_rule->kZ,wpAny_passesOwn->k0,wpAny_field->k6,wpAny_callSpecial?_slot->mY,wpAny_typeOf->m1,wpAny_attempt->m4,codeAny_builtin->m5,size_of_entries->ng,wpAny_dictEpoch->ni,wpAny_execs_nil->pX,wpAny_Call_Name_kw->pY,call_meets->p0,plainId_quiet->p1,tupleKind_room_in1->p4,wpAny_pyIter_list->tE,wpAny_call->tG,codeAny_mono->tH,seqIndex_of->tJ,wpAny_getItem_str_slice->tO,post_val_or_str->tP,wpAny_notOrdered_dict->tX,wpAny_typeNameOfWhole_keyiter->t6,wpAny_typeNameOf_keyiter->t7,wpAny_fieldsOf->t8,wpAny_typeNameOfWhole_itemiter->t9,wpAny_typeNameOf_itemiter->ua,wpAny_eqBool_str->Cm,noFill_tuple_add->Cw,seq_tuple_add->Cy,wpAny_comprehension_free->CH,wpAny_newList->CT,wpAny_pyIter_keyiter->CU,wpAny_setField->CV,wpAny_isOneOf_itemiter->CY,evalArgs_none->Py
open List renaming length_map->aK,mem_map->ba,map_append->bC,mem_cons_self->bJ,mem_cons_of_mem->bL,getElem?_eq_some_iff->bT,mem_cons->bU,map_cons->bV,getElem?_eq_getElem->bY,size_toArray->b9,length_cons->cf,length_take->cj,take_length->cx,take_succ->cK,mem_append->cQ,getElem?_map->cR,mem_filter->cU,length_append->dA,mem_singleton->dR,nodup_cons->d0,length_filter_le->ee,mem_of_getElem?->eF,lookup_cons->eN,getElem_mem->eO,append_nil->eY,mem_append_right->fR,getD_eq_getElem?_getD->fV,filter_append->gy,drop_eq_getElem_cons->gT,nodup_append->gU,map_map->hF,filter_cons_of_neg->hI,filter_cons_of_pos->hJ,length_singleton->ip,mem_range->iZ,filter_cons->i2,any_cons->jL,all_eq_true->jM,length_nil->jN,nodup_nil->jO,mem_append_left->kX,take_sublist->k5,mem_of_mem_take->lh,length_pos_iff->lj,any_eq_true->m7,find?_cons->m8,take_append_drop->m9,filter_eq_self->nc,filter_nil->nj,mem_filterMap->pU,pairwise_map->p5,filter_sublist->p7,length_eq_one_iff->qa,map_drop->qb,length_drop->tI,map_nil->tM,any_map->tS,getElem_of_mem->tU,drop_zero->tV,nodup_iff_pairwise_ne->tY,map_congr_left->t4,sum_cons->ub,drop_length->uc,take_of_length_le->uh,cons_lt_cons_iff->ui,map_take->uj,not_mem_nil->um,filterMap_cons->Cn,any_eq_false->Cq,of_mem_zip->Ct,length_replicate->Cu,append_assoc->CF,lookup_append->CG,length_range->CJ,length_pos_of_mem->CK,cons_append->CM,all_map->CZ,eq_nil_of_length_eq_zero->C0,mem_of_mem_drop->C2,find?_eq_none->C3,mem_take_iff_getElem->C8,getElem?_set_self->Pe,getElem?_set_ne->Pf,length_erase_of_mem->PH,mem_erase_of_ne->PJ,drop_of_length_le->PK,getElem_toArray->PL,getElem?_eq_none->P0,replicate_succ'->Qv,countP_eq_length_filter->Qw,filter_congr->Qx,length_dropLast->Qy,mem_of_find?_eq_some->QA
open Nat renaming le_refl->aN,zero_le->bw,ne_of_lt->cn,le_trans->ed,lt_of_lt_of_le->eX,lt_irrefl->iY,ne_of_gt->jJ,le_succ->jK,lt_trans->k9,le_of_lt->pW,le_antisymm->tW,not_lt_zero->tZ,sub_zero->CP,le_of_succ_le->PN,le_succ_of_le->PV,lt_of_succ_lt_succ->PY
open Ne renaming symm->aQ
open PySem.Heap renaming get?_push_of_some->bu,lt_size->bF,get?_push_size->cm,size_push->k4,get?_update_other->tK,get?_update_self->CC
open Bool renaming false_ne_true->bM,eq_iff_iff->k3,false_eq_true->k7,and_eq_true->m3,false_and->Cp,false_or->CL,true_and->C1,and_eq_true_iff->PF
open PySem.Paired renaming length->cw,snoc->gi
open Option.some renaming inj->c7,injEq->Pc
open PySem.PassesOwn renaming never->eP
open Int renaming eq_ofNat_of_zero_le->eZ,toNat_natCast->mX,add_zero->qd,emod_nonneg->uf,emod_lt_of_pos->ug,natCast_zero->C4,fdiv_eq_ediv_of_nonneg->Pl,lt_of_lt_of_le->Qs
open Option renaming map_eq_some_iff->fU,map_some->pV,bind_some->tN,map_eq_none_iff->uk,isSome_map->CN,isSome_iff_exists->Pu,isSome_some->PB,some_ne_none->Qz,toList_some->QC
open Sum.inr renaming inj->gb
open PySem.W renaming kia_one->hE,plainGet_of->Cr,callWith_K->Cs,kitx_list->Po,kitx_dict->Pp,methodCall_KW->Pq,callWith_K0->Pr,cellsFrom_some->Pt
open Array renaming getD_eq_getD_getElem?->hG,length_toList->mW,getElem?_eq_getElem->p6,getElem?_toList->tL,toList_inj->tQ,size_append->tR,getElem?_eq_some_iff->CI,toArray_toList->PM,mem_of_getElem?->PQ,perm_iff_toList_perm->PR,getElem?_eq_none->P6
open List.Sublist renaming map->lb
open PySem.F renaming plainAttrs_list->lg,slot_dict_keyiterator_next->p8,slot_dict_itemiterator_next->p9,plain_any_loop->tT,slot_dict_pop->t5,slot_list_append->ud,type_list_append->ue,slot_tuple_add->Cz,entry_tuple_add->CA,args_tuple_add_2->CB,slot_tuple_getattribute->CQ,plainAttrs_dict->C5,type_dict_pop->C6,attrBase_ValueError->PD,plain_list_iadd->PZ,slot_tuple_index->P1,entry_dict_keyiterator_next->P2,args_dict_keyiterator_next_1->P4,entry_dict_itemiterator_next->P8,args_dict_itemiterator_next_1->P9
open PyProof.Rows renaming slot_tuple_getitem->mZ,callWith_type1->tF,assignInOrder_cons->Co
open PySem.Around renaming under_plainId->m6
open Prod renaming ext->pZ
open List.Perm renaming refl->t2
open PySem.SeqAt renaming eqv_refl->C7
open PySem.Calls renaming Name_function_global->Pg
def ax:=@if_neg
def aI:=@if_pos
def a':=@decide_eq_true
def bS:=@decide_eq_false
def dc:=@congrArg
def gf:=@if_false
def gg:=@if_true
def hC:=@beq_eq_false_iff_ne
def hH:=@of_decide_eq_true
def i1:=@beq_iff_eq
def k':=@Vd
def p':=@PySem.wpAny_setField_rec
def qc:=@decide_eq_decide
def uo:=@or_false
def CD:=@beq_self_eq_true
def P':=@List.length_filter_lt_length_iff_exists
variable{us its:al Tv}{x n name qual q:Tn}{u Qb pm Qa ct oc vl vu dv:Tv}{a b l it D p dx C f sl d fW fL fD fM fB fN fS fE dl fI fK fC fT fG br df a7 db dm:Tz}{o:Wh}{i t' j n1 ep:Nat}{h h' g base:UD}{items:Array Tv}{P prog:PySem.Program}{w:VO}{e c tg iter value Ql:VX}{L Ps:Tn->List Tn}{J:al (Tz×Wh)}{s s' s2:Ud}{ch fp:al Tz}{N ns ps Qm N' r own done ks line:al Tn}{A:PySem.Around}{E:Tv->Ud->Prop}{pos Qg Qi tp:PySem.Pos}{rest rows:al (List Tn)}{K:Pw}{st:VW}{es Qd Qn:al VX}{body:al VW}{lo m wk:Int}{mA mg:Tn->Option Tv}{R:Vy->Ud->Prop}{kw:al (Tn×Tv)}{env:PySem.Env}{fd dL dB dN dW dS dD dE dI dK dC dT dG dF:PySem.FuncData}{kindOf:Tn->Option PySem.NameKind}{sc scope:PySem.Scope}{an od:am Tz}{Qk:Array (Option Tv)}{T:String}{hi:am Int}{XP:(Tn->Option Tv)->UD->Prop}{YP:VO->UD->Prop}{B:Prop}{cells:al (Tn×Tz)}{Qc:al (Option Nat)}{tn:Nat->UD->Prop}{RR:Tv->Tz->Vy->Ud->Prop}{tk:PySem.Tok}{av:Tz->Prop}{U:al (Tn×List Tn)}{dn:Tn->Bool}
open PySem
namespace L2
open Spec PyProof.Rows
abbrev Key:=Sum Int Pd
def kx:Key->CS->Bool
 |.inl k,v=>UN k v
 |.inr x,v=>UE x v
def JU(w:Tw):Key->Int
 |.inl k=>hashInt k
 |.inr x=>hashStr w x
theorem hM:∀{k:Key}{v:CS},kx k v=true->(∃i t,k=Uv i/\v=Ua i t)\/(∃x t,k=Cv x/\v=Uj x t)
 |.inl i,v,h=>by
  obtain⟨t,e⟩:=U2 (k:=i) (v:=v) h;exact .inl ⟨i,t,rfl,e⟩
 |.inr x,v,h=>by
  obtain⟨t,e⟩:=UR (x:=x) (v:=v) h;exact .inr ⟨x,t,rfl,e⟩
theorem D2(i:Int)(t:VI):kx (.inl i) (.int i t)=true:=by simp[kx,UN]
theorem D3(x:Pd)(t:VI):kx (.inr x) (.str x t)=true:=by simp[kx,UE]
theorem Hd(a b:Int):decide ((Uv a:Key)=Uv b)=(a==b):=by
 by_cases e:a=b
 ·subst e;simp
 ·have h : ¬ (Uv a:Key)=Uv b:=λq=>e (Sum.inl.inj q)
  rw[bS h];exact(hC.mpr e).symm
theorem He(a b:Pd):decide ((Cv a:Key)=Cv b)=decide (a=b):=by
 by_cases e:a=b
 ·subst e;simp
 ·have h : ¬ (Cv a:Key)=Cv b:=λq=>e (gb q)
  rw[bS h,bS e]
theorem Hf(a:Int)(b:Pd):decide ((Uv a:Key)=Cv b)=false:=bS (λq=>nomatch q)
theorem Hg(a:Pd)(b:Int):decide ((Cv a:Key)=Uv b)=false:=bS (λq=>nomatch q)
def b8(prog:Tj)(w:Tw):PySem.KeyKind prog w Key where
 is:=kx
 hash:=JU w
 inj:=λv a b ha hb=>by
  rcases hM ha with⟨i,t,rfl,rfl⟩|⟨x,t,rfl,rfl⟩
  ·rcases hM hb with⟨j,u,rfl,e⟩|⟨y,u,rfl,e⟩
   ·injection e with e1 _;rw[e1]
   ·exact nomatch e
  ·rcases hM hb with⟨j,u,rfl,e⟩|⟨y,u,rfl,e⟩
   ·exact nomatch e
   ·injection e with e1 _;rw[e1]
 byValue:=λk v h=>by
  rcases hM h with⟨i,t,rfl,rfl⟩|⟨x,t,rfl,rfl⟩ <;> rfl
 pyHash:=λhv h=>by
  rcases hM hv with⟨i,t,rfl,rfl⟩|⟨x,t,rfl,rfl⟩
  ·exact wpAny_pyHash_int h
  ·exact wpAny_pyHash_str h
 eqBool:=λhu hv h=>by
  rcases hM hu with⟨i,t,rfl,rfl⟩|⟨x,t,rfl,rfl⟩
  ·rcases hM hv with⟨j,u,rfl,rfl⟩|⟨y,u,rfl,rfl⟩
   ·rw[Hd]at h;exact wpAny_eqBool_int h
   ·rw[Hf]at h;exact UI i t y u _ _ _ _ h
  ·rcases hM hv with⟨j,u,rfl,rfl⟩|⟨y,u,rfl,rfl⟩
   ·rw[Hg]at h;exact UH x t j u _ _ _ _ h
   ·rw[He]at h;exact Cm h
 «strs» :=λk x t v h=>by
  rcases hM h with⟨i,u,rfl,e⟩|⟨y,u,rfl,e⟩
  ·exact nomatch e
  ·injection e with e1 _
   subst e1;cases v <;> rfl
theorem Du(prog:Tj)(w:Tw)(i:Int)(t:VI):(b8 prog w).is (.inl i) (.int i t)=true:=D2 i t
theorem Dv(prog:Tj)(w:Tw)(x:Pd)(t:VI):(b8 prog w).is (.inr x) (.str x t)=true:=D3 x t
inductive V where
 |aJ|bl (b:Bool)|int (i:Int)|str (x:Pd)|fJ (b:Array UInt8)|jx (b:UInt64)|ref (a:Ph)|ty (n:String)
 deriving DecidableEq
def RelV:V->CS->Prop
 |.aJ,u=>u=SV
 |.bl b,u=>u=TL b
 |.int i,u=>∃t,u=Ua i t
 |.str x,u=>∃t,u=Uj x t
 |.fJ b,u=>∃t,u=VN b t
 |.jx b,u=>∃t,u=UO b t
 |.ref a,u=>u=PU a
 |.ty n,u=>u=UC n
abbrev Vals:List V->List CS->Prop:=S2 RelV
theorem Vals.length{xs:al V}(r:Vals xs us):xs.length=us.length:=cw r
theorem Vals.get:∀{xs:al V}{us:al CS}{i:Nat}{x:V},Vals xs us->xs[i]?=ih x ->∃u,us[i]?=ih u/\RelV x u
 |_,_,_,_,.nil,e=>by simp at e
 |_,_,0,_,.cons r _,e=>by simp at e;subst e;exact⟨_,rfl,r⟩
 |_,_,i+1,x,.cons _ t,e=>by
  obtain⟨u,h1,h2⟩:=Vals.get (i:=i) (x:=x) t (by simpa using e)
  exact⟨u,by simpa using h1,h2⟩
theorem Vals.set{x:V}{u:CS}(r:RelV x u):∀{xs:al V}{us:al CS} (i:Nat),Vals xs us->Vals (xs.set i x) (us.set i u)
 |_,_,_,.nil=>.nil
 |_,_,0,.cons _ t=>.cons r t
 |_,_,i+1,.cons q t=>.cons q (Vals.set r i t)
theorem Vals.append:∀{xs ys:al V}{us ws:al CS},Vals xs us->Vals ys ws->Vals (xs++ys) (us++ws)
 |_,_,_,_,.nil,s=>s
 |_,_,_,_,.cons r t,s=>.cons r (Vals.append t s)
theorem Vals.take:∀{xs:al V}{us:al CS} (n:Nat),Vals xs us->Vals (xs.take n) (us.take n)
 |_,_,0,_=>.nil
 |_,_,_+1,.nil=>.nil
 |_,_,n+1,.cons r t=>.cons r (Vals.take n t)
theorem Vals.drop:∀{xs:al V}{us:al CS} (n:Nat),Vals xs us->Vals (xs.drop n) (us.drop n)
 |_,_,0,r=>r
 |_,_,_+1,.nil=>.nil
 |_,_,n+1,.cons _ t=>Vals.drop n t
def d7:Option V->Option CS->Prop
 |some v,ih u=>RelV v u
 |none,none=>True
 |_,_=>False
def KV{κ:Type}:List (κ×V)->List (κ×CS)->Prop:=S2 λ(p:κ×V) (q:κ×CS)=>p.1=q.1/\RelV p.2 q.2
def kV:Key->V
 |.inl i=>.int i
 |.inr x=>.str x
inductive HO where
 |lst (xs:List V)
 |tup (xs:List V)
 |dK (kvs:List (Key×V))|dT (kvs:List (List Key×V))
 |set (S:Int->Bool) (n:Nat)
 |ins (C dx:Ph) (fs:List (Pd×V))
 |own (x:Ph)
 |xd (fs:List (Pd×V))
 |met (f x:Ph)
 |pA (lo hi:Int)
 |aG (o:Ue) (u:HO)
 |iM (ps:Array CS)
 |ext (φ:To->Prop)
abbrev bd(x:List V):Option HO:=ih (.tup x)
abbrev bi(x:List V):Option HO:=ih (.lst x)
abbrev bm(x:List (Key×V)):Option HO:=ih (.dK x)
abbrev bn(x:List (List Key×V)):Option HO:=ih (.dT x)
abbrev a2(x:Ph):Option V:=ih (.ref x)
abbrev Hp:=Ph->Option HO
def upd(H:Hp)(a:Ph)(o:HO):Hp:=λb=>if b=a then ih o else H b
theorem ae{H:Hp}{o:HO}:upd H a o a=ih o:=by unfold upd;rw[aI rfl]
theorem ab{H:Hp}{o:HO}(h:b≠a):upd H a o b=H b:=by unfold upd;rw[ax h]
theorem e5{H:Hp}{o u:HO}:upd (upd H a o) a u=upd H a u:=by
 funext b;unfold upd;split <;> rfl
theorem wL{l:al Pd}{x:V}(h:(l.map V.str)[i]?=ih x):∃h:i<l.length,V.str l[i]=x:=by
 have a:i<l.length:=by simpa using (bT.mp h).1
 exact⟨a,by simpa [a] using h⟩
theorem aH{H:Hp}{o u:HO}(h:H a=ih o)(h':H b=ih u)(d:o≠u:=by intro z;cases z):a≠b:=by
 intro e;subst e;rw[h]at h';exact d (c7 h')
theorem ar{H:Hp}{o:HO}(h:H a=ih o)(h':H b=none):a≠b:=by
 intro e;subst e;rw[h]at h';cases h'
def h6(h:To)(a:Ph)(items:Array CS):Prop:= ∃o,h.get? a=ih o/\o.cls=.type "tuple" /\∃n,o.data=.seq items n/\o.dict=none
theorem h6.is(x:h6 h a items):Tt h a items:=let ⟨o,e,c,n,d,_⟩:=x;⟨o,e,c,n,d⟩
theorem h6.new(h:To)(items:Array CS):h6 (h.push { cls:=.type "tuple",data:=.seq items }) h.objs.size items:=⟨_,cm _ rfl,rfl,_,rfl,rfl⟩
section
variable(P:Tj)(w:Tw)
def bB(H:Hp)(h:To)(a:Ph):HO->Prop
 |.lst xs=>xs.length<=Pk /\∃(its:List CS) (n:Nat),Vals xs its/\h.get? a=ih { cls:=.type "list",data:=.seq its.toArray n }
 |.tup xs=>xs.length<=Pk /\∃its:List CS,Vals xs its/\h6 h a its.toArray
 |.dK kvs=>kvs.length<=Pk/\(a==sysModules)=false /\∃vs,KV kvs vs/\h.DictOf (b8 P w) a vs
 |.dT kvs=>kvs.length<=Pk/\(a==sysModules)=false /\∃xs:List (List Key×Ph×CS),
   S2 (λ(p:List Key×V) (q:List Key×Ph×CS)=>p.1=q.1/\H q.2.1=ih (.tup (p.1.map kV))/\RelV p.2 q.2.2) kvs xs /\
   ∃o es ep,h.get? a=ih o/\o.ExactDict/\o.data=.dict es ep/\es.toList=xs.map (entryOfKey (tupleKind (b8 P w)))/\(xs.map (·.1)).Nodup
 |.set S n=>h.SetOf (intKind P w) a S n
 |.ins C dx fs=>H dx=ih (.own a)/\fs.length<=1000/\dx≠a/\h.get? a=ih (Th C dx) /\
   ∃mA,h.Ns1 dx mA/\(∀f,d7 (fs.lookup f) (mA f))/\Uc mA (fs.map (·.1))
 |.own _=>∃o,h.get? a=ih o
 |.xd fs=>∃mA,h.Ns1 a mA /\∀f,d7 (fs.lookup f) (mA f)
 |.pA lo hi=>∃t u v,h.get? a=ih { cls:=.type "range",data:=.fields #[.int lo t,.int hi u,.int 1 v] }
 |.aG o u=>h.get? a=ih o/\bB H h a u
 |.iM ps=>h.get? a=ih { cls:=.none,data:=.fields ps }
 |.met f x=>h.get? a=ih (Up (.ref f) (.ref x))
 |.ext φ=>φ h/\(∃o,h.get? a=ih o) /\∀h1 h2:To,φ h1->(∀o,h1.get? a=ih o->h2.get? a=ih o)->φ h2
def cF(H:Hp)(h:To):Prop:= ∀a o,H a=ih o->bB P w H h a o
end
section
variable{H Y:Hp}{o:HO}
theorem bB.lt(x:bB P w H h a o):a<h.objs.size:=by
 cases o with
 |lst xs=>obtain⟨_,_,_,_,e⟩:=x;exact bF e
 |tup xs=>obtain⟨_,_,_,p⟩:=x;exact p.is.lt
 |dK kvs=>obtain⟨_,_,_,_,o,_,_,e,_⟩:=x;exact bF e
 |dT kvs=>obtain⟨_,_,_,_,o,_,_,e,_⟩:=x;exact bF e
 |set S n=>obtain⟨o,_,_,_,e,_⟩:=x;exact bF e
 |ins C dx fs=>obtain⟨_,_,_,e,_⟩:=x;exact bF e
 |own y=>obtain⟨_,e⟩:=x;exact bF e
 |xd fs=>obtain⟨_,⟨_,_,_,e,_⟩,_⟩:=x;exact bF e
 |pA lo hi=>obtain⟨_,_,_,e⟩:=x;exact bF e
 |aG b u=>obtain⟨e,_⟩:=x;exact bF e
 |iM ps=>exact bF (show h.get? a=ih _ from x)
 |met f y=>exact bF (show h.get? a=ih _ from x)
 |ext c=>obtain⟨_,⟨_,e⟩,_⟩:=x;exact bF e
theorem Paired.oO{α β:Type}{F G:α->β->Prop}:∀{c:al α}{d:al β},S2 F c d->(∀a b,F a b->G a b)->S2 G c d
 |_,_,.nil,_=>.nil
 |_,_,.cons r t,f=>.cons (f _ _ r) (Paired.oO t f)
theorem Paired.imp'{α β:Type}{F G:α->β->Prop}(f:∀a b,F a b->G a b){c:al α}{d:al β}(r:S2 F c d):S2 G c d:=Paired.oO r f
theorem bB.eV(x:bB P w H h a o)(k:∀b u,(b=a\/H b=ih (.own a))->h.get? b=ih u->h'.get? b=ih u)
  (i:∀b,H b=ih (.own a)->Y b=ih (.own a)) (j:∀b xs,H b=bd xs->Y b=bd xs):bB P w Y h' a o:=by
 induction o with
 |lst xs=>obtain⟨z,its,n,r,e⟩:=x;exact⟨z,its,n,r,k _ _ (.inl rfl) e⟩
 |tup xs=>obtain⟨z,its,r,g,e,c⟩:=x;exact⟨z,its,r,g,k _ _ (.inl rfl) e,c⟩
 |dK kvs=>obtain⟨z,y,vs,r,g,es,ep,e,c⟩:=x;exact⟨z,y,vs,r,g,es,ep,k _ _ (.inl rfl) e,c⟩
 |dT kvs =>
  obtain⟨z,y,xs,r,g,es,ep,e,c⟩:=x;exact⟨z,y,xs,Paired.oO r λp q z=>⟨z.1,j _ _ z.2.1,z.2.2⟩,g,es,ep,k _ _ (.inl rfl) e,c⟩
 |set S n=>obtain⟨g,es,ep,t,e,c⟩:=x;exact⟨g,es,ep,t,k _ _ (.inl rfl) e,c⟩
 |ins C dx fs =>
  obtain⟨d,z,ne,e,mA,⟨od,es,ep,l,c⟩,r⟩:=x;exact⟨i _ d,z,ne,k _ _ (.inl rfl) e,mA,⟨od,es,ep,k _ _ (.inr d) l,c⟩,r⟩
 |own y=>obtain⟨g,e⟩:=x;exact⟨g,k _ _ (.inl rfl) e⟩
 |xd fs=>obtain⟨mA,⟨od,es,ep,e,c⟩,r⟩:=x;exact⟨mA,⟨od,es,ep,k _ _ (.inl rfl) e,c⟩,r⟩
 |pA lo hi=>obtain⟨t,u,v,e⟩:=x;exact⟨t,u,v,k _ _ (.inl rfl) e⟩
 |aG g u m=>obtain⟨e,q⟩:=x;exact⟨k _ _ (.inl rfl) e,m q⟩
 |iM ps =>
  have e:h.get? a=ih { cls:=.none,data:=.fields ps }:=x;show h'.get? a=ih { cls:=.none,data:=.fields ps };exact k a _ (.inl rfl) e
 |met f y =>
  have e:h.get? a=ih (Up (.ref f) (.ref y)):=x;show h'.get? a=ih (Up (.ref f) (.ref y));exact k a _ (.inl rfl) e
 |ext s=>obtain⟨p,⟨o,e⟩,st⟩:=x;exact⟨st _ _ p λo q=>k _ _ (.inl rfl) q,⟨o,k _ _ (.inl rfl) e⟩,st⟩
theorem cF.lt(x:cF P w H h)(e:H a=ih o):a<h.objs.size:=(x a o e).lt
theorem cF.fresh(x:cF P w H h)(e:h.objs.size<=a):H a=none:=by
 cases q:H a with
 |none=>rfl
 |some u=>exact absurd (eX (x.lt q) e) (iY _)
theorem cF.kept(x:cF P w H h)(k:∀b u,h.get? b=ih u->h'.get? b=ih u):cF P w H h':=λa o e =>
 (x a o e).eV (λb u _ q=>k b u q) (λ_ q=>q) λ_ _ q=>q
theorem cF.laid(x:cF P w H h)(k:∀b u,h.get? b=ih u->h'.get? b=ih u)(g:h.objs.size<=a)(new:bB P w (upd H a o) h' a o):cF P w (upd H a o) h':=λb u e=>by
 have d:=x.fresh g
 by_cases f:b=a
 ·subst f;rw[ae]at e;cases e;exact new
 ·rw[ab f]at e
  exact(x b u e).eV (λc v _ q=>k c v q) (λc q=>by rw[ab (ar q d)];exact q) λc xs q=>by rw[ab (ar q d)];exact q
end
def Rd(H:Hp)(a:Ph)(u:HO):Prop:=H a=ih u \/∃o,H a=ih (.aG o u)
theorem Rd.of{H:Hp}{u:HO}(h:H a=ih u):Rd H a u:=.inl h
theorem Rd.ok{H:Hp}{u:HO}(r:Rd H a u)(x:cF P w H h):bB P w H h a u:=by
 rcases r with r|⟨o,r⟩
 ·exact x a u r
 ·obtain⟨_,q⟩:=x a _ r
  exact q
def mF:Option HO->Prop
 |some (.lst _)=>True
 |some (.dK _)=>True
 |some (.dT _)=>True
 |some (.set _ _)=>True
 |some (.ins _ _ _)=>True
 |some (.ext _)=>True
 |_=>False
section
variable{H:Hp}{x e:Ph}{o':HO}
theorem cF.write(ok:cF P w H h)(d:mF (H x))(i:e=x\/H e=ih (.own x))(k:∀b u,b≠e->h.get? b=ih u->h'.get? b=ih u)(m:∃u,h'.get? e=ih u)
  (new:bB P w (upd H x o') h' x o'):cF P w (upd H x o') h':=λb u q=>by
 have g:∀c y,H c=ih (.own y)->c≠x:=λc y r z=>by subst z;rw[r]at d;exact d
 have l:∀c xs,H c=bd xs->c≠x:=λc xs r z=>by subst z;rw[r]at d;exact d
 by_cases f:b=x
 ·subst f;rw[ae]at q;cases q;exact new
 ·rw[ab f]at q
  by_cases a:b=e
  ·have j:H b=ih (.own x):=by
    rcases i with z|z
    ·exact absurd (a.trans z) f
    ·rw[a];exact z
   rw[q]at j;cases j;obtain⟨v,n⟩:=m;exact⟨v,by rw[a];exact n⟩
  ·refine(ok b u q).eV (λc v hc r=>k c v ?_ r) (λc r=>by rw[ab (g c b r)];exact r) λc xs r=>by rw[ab (l c xs r)];exact r
   rcases hc with rfl|hc
   ·exact a
   ·rintro rfl
    rcases i with z|z
    ·exact g c b hc z
    ·rw[hc]at z;cases z;exact f rfl
end
structure Un(fs ex:List Ph)(H Y:Hp)(h h':To):Prop where
 keep:∀b o,h.get? b=ih o->H b=none->b ∉ fs->b ∉ ex->h'.get? b=ih o
 slot:∀b o,h.get? b=ih o->H b=none->b∈fs->b ∉ ex ->∃sl,h'.get? b=ih { o with slots:=sl }
 free:∀b o,h.get? b=ih o->H b=none->b ∉ ex->Y b=none
 there:∀b o,h.get? b=ih o->b ∉ ex ->∃o',h'.get? b=ih o'
 g9:∀b xs,H b=ih (.tup xs)->Y b=ih (.tup xs)
 h7:∀b o u,H b=ih (.aG o u)->Y b=ih (.aG o u)
 iF:∀b ps,H b=ih (.iM ps) ->∃JV,Y b=ih (.iM (ps++JV))
section
variable{fs Qo ex Qr:al Ph}{H O H2:Hp}{h1 h2:To}{x e:Ph}{o:HO}
theorem Un.any(u:Un fs ex H O h h1){ob:Ue}(q:h.get? b=ih ob)(n:H b=none)(a:b ∉ ex):∃sl,h1.get? b=ih { ob with slots:=sl }:=by
 by_cases c:b∈fs
 ·exact u.slot b ob q n c a
 ·exact⟨ob.slots,u.keep b ob q n c a⟩
theorem Un.kept(k:∀b u,h.get? b=ih u->h'.get? b=ih u):Un fs ex H H h h':=
 ⟨λb a q _ _ _=>k b a q,λb a q _ _ _=>⟨a.slots,k b a q⟩,λ_ _ _ n _=>n,λb a q _=>⟨a,k b a q⟩,λ_ _ q=>q,λ_ _ _ q=>q,λ_ ps q=>⟨#[],by rw[q];simp⟩⟩
theorem Un.refl:Un fs ex H H h h:=Un.kept λ_ _ q=>q
theorem Un.laid(k:∀b u,h.get? b=ih u->h'.get? b=ih u)(d:h.objs.size<=a)(c:H a=none):Un fs ex H (upd H a o) h h' where
 keep:=λb u q _ _ _=>k b u q
 slot:=λb u q _ _ _=>⟨u.slots,k b u q⟩
 free:=λb u q n _=>by rw[ab (cn (eX (bF q) d))];exact n
 there:=λb u q _=>⟨u,k b u q⟩
 g9:=λb xs q=>by rw[ab (ar q c)];exact q
 h7:=λb u xs q=>by rw[ab (ar q c)];exact q
 iF:=λb ps q=>⟨#[],by rw[ab (ar q c),q];simp⟩
theorem Un.write(a:mF (H x))(j:e=x\/H e=ih (.own x))(k:∀b u,b≠e->h.get? b=ih u->h'.get? b=ih u)(i:∃u,h'.get? e=ih u):Un fs ex H (upd H x o) h h':=by
 have f:∀b,H b=none->b≠x:=λb n z=>by subst z;rw[n]at a;exact a
 have g:∀b,H b=none->b≠e:=λb n z=>by
  subst z;rcases j with r|r
  ·exact f b n r
  ·rw[n]at r;cases r
 have c:∀b u,H b=ih u ->¬ mF (ih u)->b≠x:=λb u q l z=>by subst z;rw[q]at a;exact l a
 refine⟨λb u q n _ _=>k b u (g b n) q,λb u q n _ _=>⟨u.slots,k b u (g b n) q⟩,λb u q n _=>by rw[ab (f b n)];exact n,λb u q _=>?_,
  λb xs q=>by rw[ab (c b _ q λz=>z)];exact q,λb u xs q=>by rw[ab (c b _ q λz=>z)];exact q,λb ps q=>⟨#[],by rw[ab (c b _ q λz=>z),q];simp⟩⟩
 by_cases d:b=e
 ·subst d;exact i
 ·exact⟨u,k b u d q⟩
end
def gw(h:To)(H:Hp):List Ph:=(SY h.objs.size).filter λa=>(H a).isSome
def h8(h:To)(H:Hp):To:=PySem.W.hideAll h (gw h H)
theorem D4(h:To)(H:Hp):(h8 h H).objs.size=h.objs.size:=PySem.W.hideAll_size _ _
theorem ER{H:Hp}(e:h.get? b=ih o)(n:H b=none):(h8 h H).get? b=ih o:=
 PySem.W.hideAll_get _ e λa=>by
  have q:(H b).isSome=true:=(cU.mp a).2;rw[n]at q;simp at q
theorem FT{H:Hp}(e:(h8 h H).get? b=ih o):h.get? b=ih o/\H b=none:=by
 have a:h.get? b=ih o:=PySem.W.of_hideAll (gw h H) e;refine⟨a,?_⟩;cases q:H b with
 |none=>rfl
 |some x =>
  have c:b∈gw h H:=cU.mpr ⟨iZ.mpr (bF a),by simp[q]⟩
  have z:(h8 h H).get? b=none:=PySem.W.hideAll_none (gw h H) c;rw[z]at e;cases e
def qY(g h:To)(L:Ph):List (Ph×Ue):=(SY h.objs.size).filterMap λa=>if a=L\/(g.get? a).isSome=true then none else (h.get? a).map λo=>(a,o)
theorem uz{L:Ph}(h1:a≠L)(h2:g.get? a=none)(b:h.get? a=ih o):(a,o)∈qY g h L:=
 pU.mpr ⟨a,iZ.mpr (bF b),by simp[h1,h2,b]⟩
theorem qf{L:Ph}{p:Ph×Ue}(c:p∈qY g h L):p.1≠L/\g.get? p.1=none/\h.get? p.1=ih p.2:=by
 obtain⟨b,_,e⟩:=pU.mp c;split at e
 ·cases e
 ·rename_i a
  cases q:h.get? b with
  |none=>rw[q]at e;simp at e
  |some u =>
   rw[q]at e;simp only[pV,Pc]at e;subst e;refine⟨λz=>a (.inl z),?_,q⟩;show g.get? b=none;cases r:g.get? b with
   |none=>rfl
   |some v=>exact(a (.inr (by simp[r]))).elim
theorem ES{L:Ph}:News g L h (qY g h L):=λp d=>let ⟨a,b,c⟩:=qf d;⟨c,a,b⟩
structure Mod(K:Pw)(mg:Pd->Option CS)(base:To):Prop where
 mG:K.In base
 glob:base.Ns P5 mg
 blt:∃mb,base.Ns builtinsNs mb /\∀x:Pd,x ≠ "__name__" -> mb x=SR x
 nolimit:base.NoLimit
structure Cx where
 prog:Tj
 w:Tw
 K:Pw
 mg:Pd->Option CS
 base:To
 A:TJ
 N:List Pd
 eo:Pn
 h9:Hp
 env:Uy
 outer:List Uy
 stack:List Uy
 ex:List Ph
 fn:Pd->Bool
 calm:Bool
 pn:List (Ph×Ue)
 xe:CS->Pn->Prop
abbrev Cx.dY(X:Cx):=Qu X.prog X.w
abbrev wA{α:Type}(X:Cx):=Px (α:=α) X.dY X.A
end L2
abbrev PySem.Shared.ai(s:Ud):Tz:=s.heap.objs.size
namespace L2
open Spec PyProof.Rows W
def gM(l:List Uy):List Ph:=l.filterMap (·.frame)
abbrev Cx.fs(X:Cx):List Ph:=gM X.outer
def sJ(sc:TY)(x:Pd):Prop:=sc.names.lookup x=ih .local\/sc.names.lookup x=ih .cell\/sc.names.lookup x=ih .free
def Loc(sc:TY)(x:Pd):Prop:=sc.names.lookup x=ih .local\/sc.names.lookup x=ih .cell
def Look(env:Uy)(h:To)(m:Pd->Option CS)(x:Pd)(u:CS):Prop:=
 (env.kindOf x=ih .local/\m x=ih u)\/((env.kindOf x=ih .cell\/env.kindOf x=ih .free) /\∃c,env.cells.lookup x=ih c/\h.IsCell c (ih u))
structure Cx.Ok(X:Cx):Prop where
 mod:Mod X.K X.mg X.base
 kind:X.env.scope.kind=.function
 glob:X.env.globals=P5
 blt:X.env.builtins=builtinsNs
 above:X.eo.heap.objs.size<=X.env.locals
 inj:∀x y c,X.env.cells.lookup x=ih c->X.env.cells.lookup y=ih c->x=y
 has:∀x,(X.env.kindOf x=ih .cell\/X.env.kindOf x=ih .free) ->∃c,X.env.cells.lookup x=ih c
 mH:∀x c,X.fn x=true->X.env.cells.lookup x=ih c->X.eo.heap.objs.size<=c
 hd:X.calm=true->X.A.handled=none
 frames:X.A.frames=ih X.stack
 pB:X.stack=X.outer\/(X.stack=X.env::X.outer/\X.env.frame=ih X.env.locals)
 pC:∀b∈X.ex,b≠X.env.locals /\∀x c,X.env.cells.lookup x=ih c->c≠b
 bs:∀b o,X.base.get? b=ih o->X.eo.heap.get? b=ih o/\X.h9 b=none
 iN:X.base.objs.size<=X.eo.heap.objs.size
 mj:∀b o,X.base.get? b=ih o->b ∉ X.ex
 ml:∀b∈X.ex,b ∉ X.fs
 gs:X.eo.heap.FunFrames X.base X.outer
 jy:∀b∈X.fs,X.h9 b=none
structure Inv(X:Cx)(J:List (Ph×Ue))(σ:List (Option V))(H:Hp)(s:Pn):Prop where
 ok:X.Ok
 os:s.os=X.eo.os
 bare:Um s.gens
 base:Un X.fs X.ex X.h9 H X.eo.heap s.heap
 loc:∃m,s.heap.Ns X.env.locals m /\∀(i:Nat) (x:Pd) (v:V),X.N[i]?=ih x->σ[i]?=ih (ih v)->sJ X.env.scope x ->∃u,RelV v u/\Look X.env s.heap m x u
 cell:∀x c,X.env.cells.lookup x=ih c ->∃v,s.heap.IsCell c v
 free:H X.env.locals=none
 gq:∀x c,X.env.cells.lookup x=ih c->H c=none
 pin:∀p∈X.pn++J,s.heap.get? p.1=ih p.2/\H p.1=none/\p.1≠X.env.locals/\p.1 ∉ X.fs /\∀v,p.2.data ≠ .cell v
 aB:cF X.prog X.w H s.heap
 len:σ.length=X.N.length
section
variable{X:Cx}{σ:al (Option V)}{H Y:Hp}
theorem Cx.Ok.JW(ok:X.Ok)(e:X.base.get? b=ih o):b ∉ X.fs:=λa=>by
 have:=(ok.gs.mem a).1;rw[e]at this;cases this
theorem Inv.bs(I:Inv X J σ H s):∀b o,X.base.get? b=ih o->s.heap.get? b=ih o/\H b=none:=λb o e =>
 ⟨I.base.keep b o (I.ok.bs b o e).1 (I.ok.bs b o e).2 (I.ok.JW e) (I.ok.mj b o e),I.base.free b o (I.ok.bs b o e).1 (I.ok.bs b o e).2 (I.ok.mj b o e)⟩
theorem Inv.bk(I:Inv X J σ H s):∀b o,X.base.get? b=ih o->s.heap.get? b=ih o:=λb o e=>(I.bs b o e).1
theorem Inv.mod(I:Inv X J σ H s):Mod X.K X.mg X.base:=I.ok.mod
theorem Inv.cN(I:Inv X J σ H s):X.K.In s.heap:=I.ok.mod.mG.keeps I.bk
theorem Inv.lt(I:Inv X J σ H s):X.env.locals<s.ai:=let ⟨_,a,_⟩:=I.loc;a.lt
theorem Inv.sz(I:Inv X J σ H s):X.eo.heap.objs.size<=s.ai:=ed I.ok.above (pW I.lt)
theorem Inv.JX(I:Inv X J σ H s)(h:s.ai<=a):a ∉ X.fs:=λb=>by
 obtain⟨_,o,c,_⟩:=I.ok.gs.mem b;exact absurd (eX (bF c) (ed I.sz h)) (iY _)
theorem Inv.jz(I:Inv X J σ H s):∀x c,X.env.cells.lookup x=ih c->c≠X.env.locals:=λx c e z=>by
 obtain⟨v,o,a,b⟩:=I.cell x c e;obtain⟨m,⟨o',es,ep,d,f,_⟩,_⟩:=I.loc;rw[z,d]at a;cases a;rw[f]at b;cases b
theorem Inv.gs(I:Inv X J σ H s):s.heap.FunFrames X.base X.outer:=by
 have all:∀(l:al Uy),(∀b∈gM l,b∈X.fs)->X.eo.heap.FunFrames X.base l->s.heap.FunFrames X.base l:=by
  intro l
  induction l with
  |nil=>intro _ _;trivial
  |cons env r g =>
   rintro f ⟨i,⟨L,o,a,j,k,m⟩,n⟩;have c:L∈X.fs:=f L (by unfold gM;rw[Cn,a];exact bJ)
   obtain⟨sl,e⟩:=I.base.slot L o k (I.ok.jy L c) c λz=>I.ok.ml L z c;exact⟨i,⟨L,_,a,j,e,m⟩,g (λb d=>f b (by unfold gM;rw[Cn,a];exact bL _ d)) n⟩
 exact all X.outer (λ_ d=>d) I.ok.gs
theorem Inv.stack(I:Inv X J σ H s):s.heap.FunFrames X.base X.stack:=by
 rcases I.ok.pB with e|⟨e,a⟩
 ·rw[e];exact I.gs
 ·rw[e]
  obtain⟨m,b,_⟩:=I.loc;refine .cons (by rw[I.ok.kind];decide) a b ?_ I.gs
  exact UT (ed I.ok.iN I.ok.above)
theorem Inv.rp(I:Inv X J σ H s):∀b∈gM X.stack,b∈X.env.locals::X.fs:=λb a=>by
 rcases I.ok.pB with e|⟨e,c⟩
 ·rw[e]at a;exact bL _ a
 ·rw[e]at a
  unfold gM at a;rw[Cn,c]at a;exact a
theorem Inv.wM(I:Inv X J σ H s):∀b∈gM X.stack,H b=none:=λb hb=>by
 rcases bU.mp (I.rp b hb) with e|hb
 ·rw[e];exact I.free
 ·obtain⟨_,o,a,_⟩:=I.ok.gs.mem hb
  exact I.base.free b o a (I.ok.jy b hb) λz=>I.ok.ml b z hb
theorem Inv.step{g':Array GenState}{d':Drawn}(I:Inv X J σ H s)
  (j:∀b∈ch,(b∈X.ex\/X.eo.heap.objs.size<=b)/\b≠X.env.locals/\(∀x c,X.env.cells.lookup x=ih c->c≠b) /\∀p∈X.pn++J,p.1≠b)
  (keep:∀b o,b≠X.env.locals->b ∉ X.fs->b ∉ ch->s.heap.get? b=ih o->H b=none->h'.get? b=ih o)
  (D:∀b o,b≠X.env.locals->b∈X.fs->b ∉ ch->s.heap.get? b=ih o->H b=none ->∃sl,h'.get? b=ih { o with slots:=sl }) (free:∀b o,b ∉ ch->s.heap.get? b=ih o->H b=none->Y b=none)
  (L:∀b o,b ∉ ch->s.heap.get? b=ih o ->∃o',h'.get? b=ih o')
  (M:∀b xs,H b=bd xs->Y b=bd xs) (N:∀b o u,H b=ih (.aG o u)->Y b=ih (.aG o u)) (O:∀b ps,H b=ih (.iM ps) ->∃P,Y b=ih (.iM (ps++P)))
  (ns:∀m,s.heap.Ns X.env.locals m->h'.Ns X.env.locals m) (Q:cF X.prog X.w Y h') (S:Um g') :
  Inv X J σ Y { s with heap:=h',gens:=g',drawn:=d',toks:=t' }:=by
 have E:∀b o,X.eo.heap.get? b=ih o->b≠X.env.locals:=λb o e=>cn (eX (bF e) I.ok.above);have A:∀b o,X.eo.heap.get? b=ih o->b ∉ X.ex->b ∉ ch:=λb o e a g=>by
  rcases (j b g).1 with z|z
  ·exact a z
  ·exact absurd (eX (bF e) z) (iY _)
 have C:∀x c,X.env.cells.lookup x=ih c ->∀v,s.heap.IsCell c v->h'.IsCell c v:=λx c e v ⟨o,h,B⟩=>by
  have t:c ∉ ch:=λz=>(j c z).2.2.1 x c e rfl
  by_cases F:c∈X.fs
  ·obtain⟨sl,q⟩:=D c o (I.jz x c e) F t h (I.gq x c e)
   exact⟨_,q,B⟩
  ·exact⟨o,keep c o (I.jz x c e) F t h (I.gq x c e),B⟩
 refine⟨I.ok,I.os,S,⟨λb o e n g a=>?_,λb o e n g a=>?_,λb o e n a=>?_,λb o e a=>?_,λb xs e=>M b xs (I.base.g9 b xs e),λb o xs e=>N b o xs (I.base.h7 b o xs e),λb ps e=>?_⟩,?_,λx c e=>?_,?_,λx c e=>?_,λp G=>?_,Q,I.len⟩
 ·exact keep b o (E b o e) g (A b o e a) (I.base.keep b o e n g a) (I.base.free b o e n a)
 ·obtain⟨sl,f⟩:=I.base.slot b o e n g a
  obtain⟨R,y⟩:=D b _ (E b o e) g (A b o e a) f (I.base.free b o e n a);exact⟨R,y⟩
 ·obtain⟨o',f⟩:=I.base.there b o e a
  exact free b o' (A b o e a) f (I.base.free b o e n a)
 ·obtain⟨o',f⟩:=I.base.there b o e a
  exact L b o' (A b o e a) f
 ·obtain⟨T,f⟩:=I.base.iF b ps e
  obtain⟨U,y⟩:=O b _ f;exact⟨T++U,by rw[y,Array.append_assoc]⟩
 ·obtain⟨m,V,W⟩:=I.loc
  refine⟨m,ns m V,λi x v f y xa=>?_⟩;obtain⟨u,r,l⟩:=W i x v f y xa;refine⟨u,r,?_⟩;rcases l with l|⟨k,c,e,z⟩
  ·exact .inl l
  ·exact .inr ⟨k,c,e,C x c e _ z⟩
 ·obtain⟨v,z⟩:=I.cell x c e
  exact⟨v,C x c e v z⟩
 ·obtain⟨m,⟨o,_,_,h,_⟩,_⟩:=I.loc
  exact free _ o (λz=>(j _ z).2.1 rfl) h I.free
 ·obtain⟨v,o,h,B⟩:=I.cell x c e
  exact free c o (λz=>(j c z).2.2.1 x c e rfl) h (I.gq x c e)
 ·obtain⟨e,n,ne,K,d⟩:=I.pin p G
  have t:p.1 ∉ ch:=λz=>(j p.1 z).2.2.2 p G rfl;exact⟨keep p.1 p.2 ne K t e n,free p.1 p.2 t e n,ne,K,d⟩
theorem Inv.un(I:Inv X J σ H s)(u:Un X.fs [] H Y s.heap h')(f:cF X.prog X.w Y h'):Inv X J σ Y { s with heap:=h',toks:=t' }:=by
 obtain⟨m,⟨o,es,ep,d,r⟩,_⟩:=id I.loc;obtain⟨sl,i⟩:=u.any d I.free (by simp)
 exact I.step (g':=s.gens) (d':=s.drawn) (ch:=[]) (λ_ z=>nomatch z) (λb o _ a _ e n=>u.keep b o e n a (by simp)) (λb o _ a _ e n=>u.slot b o e n a (by simp)) (λb o _ e n=>u.free b o e n (by simp)) (λb o _ e=>u.there b o e (by simp)) u.g9 u.h7 u.iF (λl j=>by
  obtain⟨o',g,h,c,k⟩:=j;rw[d]at c;cases c;exact⟨_,g,h,i,k⟩) f I.bare
theorem Inv.call{g':Array GenState}{d':Drawn}(I:Inv X J σ H s)(u:Un (gM X.stack) ch H Y s.heap h')(i:cF X.prog X.w Y h')(l:Um g')
  (f:∀b∈ch,(b∈X.ex\/X.eo.heap.objs.size<=b)/\b≠X.env.locals/\(∀x c,X.env.cells.lookup x=ih c->c≠b) /\∀p∈X.pn++J,p.1≠b) :
  Inv X J σ Y { s with heap:=h',gens:=g',drawn:=d',toks:=t' }:=by
 obtain⟨m,⟨o,es,ep,h,r⟩,_⟩:=id I.loc;obtain⟨sl,d⟩:=u.any h I.free λz=>(f _ z).2.1 rfl;exact I.step (ch:=ch) f (λb o d q a e n=>u.keep b o e n (λz=>(bU.mp (I.rp b z)).elim d q) a) (λb o _ _ a e n=>u.any e n a) (λb o a e n=>u.free b o e n a) (λb o a e=>u.there b o e a) u.g9 u.h7 u.iF (λy t=>by
  obtain⟨o',j,k,g,v⟩:=t;rw[h]at g;cases g;exact⟨_,j,k,d,v⟩) i l
theorem Inv.turned(I:Inv X J σ H s)(k:∀b o,b≠it->s.heap.get? b=ih o->h'.get? b=ih o)(g:H it=none)(f:it≠X.env.locals)
  (h1:it∈X.ex\/X.eo.heap.objs.size<=it) (h2:∀x c,X.env.cells.lookup x=ih c->c≠it) (h:∀p∈X.pn++J,p.1≠it):Inv X J σ H { s with heap:=h',toks:=t' }:=by
 have d:∀b u,H b=ih u->b≠it:=λb u e z=>by rw[z,g]at e;cases e
 refine I.step (g':=s.gens) (d':=s.drawn) (ch:=[it]) (λb i=>?_) (λb o _ _ a e _=>k b o (λz=>a (by simp[z])) e) (λb o _ _ a e _=>⟨o.slots,k b o (λz=>a (by simp[z])) e⟩) (λ_ _ _ _ n=>n)
  (λb o a e=>⟨o,k b o (λz=>a (by simp[z])) e⟩) (λ_ _ e=>e) (λ_ _ _ e=>e) (λb ps e=>⟨#[],by rw[e];simp⟩) (λm j=>?_) (λb u e=>?_) I.bare
 ·have e:b=it:=by simpa using i
  subst e;exact⟨h1,f,h2,h⟩
 ·obtain⟨o,es,ep,l,r⟩:=j
  exact⟨o,es,ep,k _ o (aQ f) l,r⟩
 ·refine(I.aB b u e).eV (λc v a q=>k c v ?_ q) (λ_ q=>q) λ_ _ q=>q
  rcases a with z|z
  ·rw[z];exact d b u e
  ·exact d c _ z
theorem Inv.tok(I:Inv X J σ H s)(t:Nat):Inv X J σ H { s with toks:=t }:=I.un (h':=s.heap) (t':=t) Un.refl I.aB
theorem Inv.kept(I:Inv X J σ H s)(k:∀b u,s.heap.get? b=ih u->h'.get? b=ih u):Inv X J σ H { s with heap:=h',toks:=t' }:=I.un (Un.kept k) (I.aB.kept k)
theorem Inv.laid{o:HO}(I:Inv X J σ H s)(k:∀b u,s.heap.get? b=ih u->h'.get? b=ih u)(c:s.ai<=a)(new:bB X.prog X.w (upd H a o) h' a o) :
  Inv X J σ (upd H a o) { s with heap:=h',toks:=t' }:=I.un (Un.laid k c (I.aB.fresh c)) (I.aB.laid k c new)
theorem Inv.write{x e:Ph}{o:HO}(I:Inv X J σ H s)(c:mF (H x))(d:e=x\/H e=ih (.own x))(k:∀b u,b≠e->s.heap.get? b=ih u->h'.get? b=ih u)(a:∃u,h'.get? e=ih u)
  (new:bB X.prog X.w (upd H x o) h' x o):Inv X J σ (upd H x o) { s with heap:=h',toks:=t' }:=I.un (Un.write c d k a) (I.aB.write c d k a new)
theorem Inv.wN{a:al (Ph×Ue)}(I:Inv X J σ H s)(h:∀p∈a,s.heap.get? p.1=ih p.2/\H p.1=none/\p.1≠X.env.locals/\p.1 ∉ X.fs /\∀v,p.2.data ≠ .cell v):Inv X a σ H s:=
 ⟨I.ok,I.os,I.bare,I.base,I.loc,I.cell,I.free,I.gq,λp b=>(cQ.mp b).elim (λz=>I.pin p (kX _ z)) (h p),I.aB,I.len⟩
theorem vF(c:N.Nodup)(a:N[i]?=ih x)(b:N[j]?=ih x):i=j:=by
 obtain⟨h1,d⟩:=bT.mp a;obtain⟨h2,e⟩:=bT.mp b;exact(Vb c).mp (d.trans e.symm)
theorem u3{M:VJ}{v:V}{Q:Unit->Pn->Prop}(I:Inv X J σ H s)(xb:X.N.Nodup)(hi:X.N[i]?=ih x)(l:Loc X.env.scope x)(r:RelV v u)
  (h:∀s',Inv X J (σ.set i (ih v)) H s'->(∃a,S8 a s.heap s'.heap/\(a=X.env.locals\/X.env.cells.lookup x=ih a))->Q () s') (xd:X.fn x=true\/X.env.scope.names.lookup x=ih .local:=by first|exact .inl rfl|exact .inr rfl|assumption):Px M A (storeName X.env x u) Q E s:=by
 obtain⟨m,K,yb⟩:=id I.loc;have zb:(X.env.scope.kind == .class||(X.env.scope.kind == .module&&X.env.locals != X.env.globals))=false:=by rw[I.ok.kind];rfl
 have Y:i<σ.length:=by rw[I.len];exact(bT.mp hi).1
 have jz:=I.jz;have U:∀{a:Ph}{h':To},(∃o,s.heap.get? a=ih o/\H a=none)->S8 a s.heap h'->cF X.prog X.w H h':=λ{a h'} yd f b zd e=>by
  obtain⟨_,_,W⟩:=yd;refine(I.aB b zd e).eV (λc D hc q=>(f.2 c ?_).trans q) (λ_ q=>q) λ_ _ q=>q;rintro rfl;rcases hc with rfl|hc
  ·rw[W]at e;cases e
  ·rw[W]at hc;cases hc
 rcases l with hk|hk
 ·refine wpAny_storeName_local hk K (λh' yc f=>?_) zb
  obtain⟨xe,_,_,zc,_⟩:=id K;refine h _ ⟨I.ok,I.os,I.bare,⟨λb o e n B l=>?_,λb o e n B l=>?_,I.base.free,λb o e l=>?_,I.base.g9,I.base.h7,I.base.iF⟩,⟨_,yc,λj y L g t O=>?_⟩,λy c e=>?_,I.free,I.gq,λp P=>?_,U ⟨xe,zc,I.free⟩ f,by simpa using I.len⟩ ⟨_,f,.inl rfl⟩
  ·exact(f.2 b (cn (eX (bF e) I.ok.above))).trans (I.base.keep b o e n B l)
  ·obtain⟨sl,g⟩:=I.base.slot b o e n B l
   exact⟨sl,(f.2 b (cn (eX (bF e) I.ok.above))).trans g⟩
  ·obtain⟨o',g⟩:=I.base.there b o e l
   exact⟨o',(f.2 b (cn (eX (bF e) I.ok.above))).trans g⟩
  ·by_cases C:j=i
   ·subst C
    rw[hi]at g;cases g;rw[Pe Y]at t;cases t
    exact⟨u,r,.inl ⟨hk,by simp⟩⟩
   ·rw[Pf (aQ C)]at t
    obtain⟨R,S,q⟩:=yb j y L g t O;refine⟨R,S,?_⟩;rcases q with⟨k,e⟩|⟨k,c,e,z⟩
    ·refine .inl ⟨k,?_⟩
     have:y≠x:=λe=>C (vF xb g (e ▸ hi));simp[this,e]
    ·exact .inr ⟨k,c,e,z.sameBut f (jz y c e)⟩
  ·obtain⟨D,z⟩:=I.cell y c e
   exact⟨D,z.sameBut f (jz y c e)⟩
  ·obtain⟨e,n,ne,T,d⟩:=I.pin p P
   exact⟨(f.2 p.1 ne).trans e,n,ne,T,d⟩
 ·have G:X.fn x=true:=by
   rcases xd with z|z
   ·exact z
   ·rw[z]at hk;cases hk
  obtain⟨c,hc⟩:=I.ok.has x (.inl hk);obtain⟨D,z⟩:=I.cell x c hc;refine wpAny_storeName_cell I.ok.kind hk hc z (λh' xa f=>?_);obtain⟨oc,ya,xc⟩:=id z;refine h { s with heap:=h' } ⟨I.ok,I.os,I.bare,⟨λb o e n B l=>?_,λb o e n B l=>?_,I.base.free,λb o e l=>?_,I.base.g9,I.base.h7,I.base.iF⟩,⟨m,K.sameBut f (aQ (jz x c hc)),λj y L g t O=>?_⟩,λy F e=>?_,I.free,I.gq,λp P=>?_,U ⟨oc,ya,I.gq x c hc⟩ f,by simpa using I.len⟩ ⟨c,f,.inr hc⟩
  ·exact(f.2 b (cn (eX (bF e) (I.ok.mH x c G hc)))).trans (I.base.keep b o e n B l)
  ·obtain⟨sl,g⟩:=I.base.slot b o e n B l
   exact⟨sl,(f.2 b (cn (eX (bF e) (I.ok.mH x c G hc)))).trans g⟩
  ·obtain⟨o',g⟩:=I.base.there b o e l
   exact⟨o',(f.2 b (cn (eX (bF e) (I.ok.mH x c G hc)))).trans g⟩
  ·by_cases C:j=i
   ·subst C
    rw[hi]at g;cases g;rw[Pe Y]at t;cases t
    exact⟨u,r,.inr ⟨.inl hk,c,hc,xa⟩⟩
   ·rw[Pf (aQ C)]at t
    obtain⟨R,S,q⟩:=yb j y L g t O;refine⟨R,S,?_⟩;rcases q with q|⟨k,F,e,ye⟩
    ·exact .inl q
    ·refine .inr ⟨k,F,e,ye.sameBut f ?_⟩
     rintro rfl;exact C (vF xb g (I.ok.inj _ _ _ e hc ▸ hi))
  ·by_cases za:F=c
   ·subst za;exact⟨_,xa⟩
   ·obtain⟨ze,z2⟩:=I.cell y F e
    exact⟨ze,z2.sameBut f za⟩
  ·obtain⟨e,n,ne,T,d⟩:=I.pin p P
   refine⟨(f.2 p.1 ?_).trans e,n,ne,T,d⟩;intro q;rw[q,ya]at e;have xf:oc=p.2:=c7 e;exact d D (by rw[<-xf];exact xc)
theorem nK{M:VJ}{v:V}{Q:Unit->Pn->Prop}(I:Inv X J σ H s)(a:X.N.Nodup)(hi:X.N[i]?=ih x)(b:Loc X.env.scope x)(r:RelV v u)
  (h:∀s',Inv X J (σ.set i (ih v)) H s'->Q () s') (c:X.fn x=true\/X.env.scope.names.lookup x=ih .local:=by first|exact .inl rfl|exact .inr rfl|assumption):Px M A (storeName X.env x u) Q E s:=
 u3 I a hi b r (λs' d _=>h s' d) c
theorem Inv.IH(I:Inv X J σ H s)(f:s'.os=s.os)(u:Un (gM X.stack) ch H Y s.heap s'.heap)(a:cF X.prog X.w Y s'.heap)(g:Um s'.gens)
  (d:∀b∈ch,(b∈X.ex\/X.eo.heap.objs.size<=b)/\b≠X.env.locals/\(∀x c,X.env.cells.lookup x=ih c->c≠b) /\∀p∈X.pn++J,p.1≠b):Inv X J σ Y s':=by
 obtain⟨h',g',d',t',o'⟩:=s';have e:o'=s.os:=f;subst e;exact I.call (g':=g') (t':=t') (d':=d') u a g d
end
abbrev XK:=CS->Option Ph->Hp->Prop
abbrev St:=List (Option V)
abbrev VK:=V->Hp->Prop
abbrev TE:=St->Hp->VK->Prop
abbrev TT:=St->Hp->(Bool->Hp->Prop)->Prop
end L2
variable{xs ys vs ws wb:al L2.V}{H Y O H2:L2.Hp}{X:L2.Cx}{σ dy:L2.St}{v y:L2.V}{Q:L2.VK}{ta tb te tl tv:L2.TE}{ti:L2.TT}{kvs kf kb:al (List L2.Key×L2.V)}{Qh:Tz->L2.St->L2.Hp->(L2.Hp->Prop)->Prop}{kl:al (L2.Key×L2.V)}
namespace L2
open Spec PyProof.Rows W
abbrev TA:=St->Hp->(List V->Hp->Prop)->Prop
structure Ends where
 nx:St->Hp->Prop
 rt:VK
 bk:St->Hp->Prop:=λ_ _=>False
 ct:St->Hp->Prop:=λ_ _=>False
abbrev TS:=Ends->St->Hp->Prop
def EP(X:Cx)(J:List (Ph×Ue))(σ:St)(Q:VK)(u:CS)(s':Pn):Prop:= ∃v Y,Inv X J σ Y s'/\RelV v u/\Q v Y
def TP(X:Cx)(J:List (Ph×Ue))(σ:St)(Q:Bool->Hp->Prop)(b:Bool)(s':Pn):Prop:= ∃Y,Inv X J σ Y s'/\Q b Y
def AP(X:Cx)(J:List (Ph×Ue))(σ:St)(Q:List V->Hp->Prop)(us:List CS)(s':Pn):Prop:= ∃vs Y,Inv X J σ Y s'/\Vals vs us/\Q vs Y
def SP(X:Cx)(J:List (Ph×Ue))(D:Ends)(f:Flow)(s':Pn):Prop:=
 match f with
 |.next=>∃c6 Y,Inv X J c6 Y s'/\D.nx c6 Y
 |.brk=>∃c6 Y,Inv X J c6 Y s'/\D.bk c6 Y
 |.cont=>∃c6 Y,Inv X J c6 Y s'/\D.ct c6 Y
 |.ret u=>∃v c6 Y,Inv X J c6 Y s'/\RelV v u/\D.rt v Y
def PE(X:Cx)(e:QD)(t:TE):Prop:=
 ∀J s σ H (Q:VK),Inv X J σ H s->t σ H Q->wA X (eval e X.env) (EP X J σ Q) X.xe s
def PT(X:Cx)(e:QD)(t:TT):Prop:=
 ∀J s σ H (Q:Bool->Hp->Prop),Inv X J σ H s->t σ H Q->wA X (isTrue e X.env (eval e X.env)) (TP X J σ Q) X.xe s
def PW(X:Cx)(e:QD)(t:TT):Prop:=
 ∀(II:UB CS) J s σ H (Q:Bool->Hp->Prop),Inv X J σ H s->t σ H Q->wA X (isTrue e X.env II) (TP X J σ Q) X.xe s
theorem PW.pt{t:TT}(h:PW X e t):PT X e t:=h _
def PA(X:Cx)(es:List QD)(t:TA):Prop:=
 ∀(pos:VT) J s σ H (Q:List V->Hp->Prop),Inv X J σ H s->t σ H Q->wA X (spliced (backTo pos (SQ es X.env))) (AP X J σ Q) X.xe s
def PS(X:Cx)(st:QB)(t:TS):Prop:=
 ∀J s σ H (D:Ends),Inv X J σ H s->t D σ H->wA X (exec st X.env) (SP X J D) X.xe s
def eJ(X:Cx)(st:List QB)(t:TS):Prop:=
 ∀J s σ H (D:Ends),Inv X J σ H s->t D σ H->wA X (execs st X.env) (SP X J D) X.xe s
theorem ay{α:Type}{t:UB α}{Q b:α->Pn->Prop}{M:VJ}(h:Px M A t Q E s)(c:∀a s,Q a s->b a s):Px M A t b E s:=i0 h c λ_ _ x=>x
end L2
namespace L2
open Spec PyProof.Rows
section
def d8(i:Nat):TE:=λσ H Q=>∃v,σ[i]?=ih (ih v)/\Q v H
def tC(v:V):TE:=λ_ H Q=>Q v H
theorem Hh(j:X.N[i]?=ih x)(k:sJ X.env.scope x)(b:(x==("__debug__" : Pd))=false:=by decide)(g:(x==("__classdict__" : Pd))=false:=by decide):PE X (.Name x pos) (d8 i):=by
 rintro J s σ H Q I ⟨v,e,h⟩;obtain⟨m,n,o⟩:=I.loc;obtain⟨u,r,l⟩:=o i x v j e k;have a:EP X J σ Q u s:=⟨v,H,I,r,h⟩;rcases l with⟨hk,p⟩|⟨hk,c,f,d⟩
 ·exact wpAny_Name (wpAny_loadName_local I.ok.kind hk n p a) b
 ·rcases hk with hk|hk
  ·exact wpAny_Name (wpAny_loadName_cell I.ok.kind hk f d a) b
  ·exact wpAny_Name (wpAny_loadName_free I.ok.kind hk f d a g) b
theorem ak{i j pos}:PE X (.Constant (.int i) j pos) (tC (.int i)):=λ_ _ _ H _ I h=>wpAny_Constant_int ⟨.int i,H,I.tok _,⟨_,rfl⟩,h⟩
theorem gZ{b j pos}:PE X (.Constant (.bool b) j pos) (tC (.bl b)):=λ_ _ _ H _ I h=>Constant_bool ⟨.bl b,H,I,rfl,h⟩
theorem gF{j pos}:PE X (.Constant .none j pos) (tC .aJ):=λ_ _ _ H _ I h=>Constant_none ⟨.aJ,H,I,rfl,h⟩
theorem aY{x j pos}:PE X (.Constant (.str x) j pos) (tC (.str x)):=λ_ _ _ H _ I h=>Calls.Constant_str ⟨.str x,H,I.tok _,⟨_,rfl⟩,h⟩
def Gl(X:Cx)(x:Pd):Prop:=X.env.kindOf x=ih .globalImplicit
theorem nT{Q:CS->Pn->Prop}(I:Inv X J σ H s)(a:Gl X x)(b:X.mg x=ih u)(h:Q u s)
  (c:(x==("__debug__" : Pd))=false:=by decide):wA X (eval (.Name x pos) X.env) Q E s:=
 Pg I.ok.kind a (Calls.loadGlobal_global (by rw[I.ok.glob];exact I.mod.glob.keeps I.bk) b h) c
theorem j7{Q:CS->Pn->Prop}(I:Inv X J σ H s)(a:Gl X x)(b:X.mg x=none)(c:SR x=ih u)(h:Q u s)
  (d:x ≠ "__name__" :=by decide) (e:(x==("__debug__" : Pd))=false:=by decide):wA X (eval (.Name x pos) X.env) Q E s:=by
 obtain⟨f,h1,h2⟩:=I.mod.blt;exact Pg I.ok.kind a (Calls.loadGlobal_builtin (by rw[I.ok.glob];exact I.mod.glob.keeps I.bk) b (by rw[I.ok.blt];exact h1.keeps I.bk) ((h2 x d).trans c) h) e
theorem qZ(a:Gl X x)(b:X.mg x=ih u)(r:RelV v u)(c:(x==("__debug__" : Pd))=false:=by decide):PE X (.Name x pos) (tC v):=
 λ_ _ _ H _ I h=>nT I a b ⟨v,H,I,r,h⟩ c
theorem gD(a:Gl X x)(b:X.mg x=none)(c:SR x=ih u)(r:RelV v u)(d:x ≠ "__name__" :=by decide)(e:(x==("__debug__" : Pd))=false:=by decide):PE X (.Name x pos) (tC v):=
 λ_ _ _ H _ I h=>j7 I a b c ⟨v,H,I,r,h⟩ d e
variable{a b:QD}
def PC(X:Cx)(op:U1)(a b:QD)(t:TE):Prop:=
 ∀J s σ H (Q:VK),Inv X J σ H s->t σ H Q ->
  wA X (eval a X.env) (λv JY=>wA X (eval b X.env) (λu JZ=>wA X (SU op v u) (EP X J σ Q) X.xe JZ) X.xe JY) X.xe s
def tB(t:TE):TT:=λσ H Q=>t σ H λx O=>∃c,x=.bl c/\Q c O
theorem Aj{c:U1}{t:TE}(h:PC X c a b t)(h1:behindInMarks c b=false:=by first|exact e _ (by decide) (by decide)|rfl):PE X (.Compare a [c] [b] pos) t:=λJ s σ H Q I d=>wpAny_Compare1 (h J s σ H Q I d) h1
theorem jc{e:U1}{t:TE}(h:PC X e a b t)(h1:behindInMarks e b=false:=by first|exact k _ (by decide) (by decide)|rfl):PT X (.Compare a [e] [b] pos) (tB t):=by
 intro J s σ H Q I f;refine wpAny_isTrue_Compare1 (ay (h J s σ H _ I f) λv l h1=>ay h1 λu s2 h2=>ay h2 λc m n=>?_) h1;obtain⟨x,O,g,i,j⟩:=n;obtain⟨d,rfl,q⟩:=j;cases i
 exact gS ⟨O,g,q⟩
theorem eT{t:TE}(h:PE X e t)(b:∀a,isTrue e X.env a=(do let v <- a;standAt e.pos;holding [v] (truthy v)):=by intro _;rfl):PT X e (tB t):=by
 intro J s σ H Q I c;refine isTrue_plain (ay (h J s σ H _ I c) λv j k=>?_) (b _);obtain⟨x,O,f,g,i⟩:=k;obtain⟨d,rfl,q⟩:=i;cases g
 exact gS ⟨O,f,q⟩
variable{tA Qq:TT}{rest:al QD}
def J0(t u:TT):TT:=λσ H Q=>t σ H λc O=>if c=true then u σ O Q else Q false O
def Lf(t u:TT):TT:=λσ H Q=>t σ H λc O=>if c=true then Q true O else u σ O Q
def J1(t:TT):TT:=λσ H Q=>t σ H λc O=>Q (!c) O
theorem pw_and1(b:PT X a tA):PW X (.BoolOp .And [a] pos) tA:=by
 intro d J s σ H Q I h;refine isTrue_and (ay (b J s σ H Q I h) λc f e=>?_);cases c with
 |true=>exact isTrue_and_nil e
 |false=>exact e
theorem pw_or1(b:PT X a tA):PW X (.BoolOp .Or [a] pos) tA:=by
 intro d J s σ H Q I h;refine isTrue_or (ay (b J s σ H Q I h) λc f e=>?_);cases c with
 |false=>exact isTrue_or_nil e
 |true=>exact e
theorem pw_and(f:PT X a tA)(g:PW X (.BoolOp .And (b::rest) pos) Qq):PW X (.BoolOp .And (a::b::rest) pos) (J0 tA Qq):=by
 intro i J s σ H Q I h;refine isTrue_and (ay (f J s σ H _ I h) λc j k=>?_);obtain⟨O,d,e⟩:=k;cases c with
 |true=>exact g i J j σ O Q d e
 |false=>exact⟨O,d,e⟩
theorem pw_or(f:PT X a tA)(g:PW X (.BoolOp .Or (b::rest) pos) Qq):PW X (.BoolOp .Or (a::b::rest) pos) (Lf tA Qq):=by
 intro i J s σ H Q I h;refine isTrue_or (ay (f J s σ H _ I h) λc j k=>?_);obtain⟨O,d,e⟩:=k;cases c with
 |true=>exact⟨O,d,e⟩
 |false=>exact g i J j σ O Q d e
theorem eU(b:PT X a tA):PT X (.UnaryOp .Not a pos) (J1 tA):=by
 intro J s σ H Q I h;exact isTrue_not (b J s σ H (λc O=>Q (!c) O) I h)
def IJ(ta tb:TE):TE:=λσ H Q=>ta σ H λx O=>∃c,x=.bl c/\if c=true then tb σ O Q else Q (.bl false) O
def IK(ta:TE):TE:=λσ H Q=>ta σ H λx O=>∃c,x=.bl c/\Q (.bl (!c)) O
theorem gG{b}{t:TE}(h:PE X a t):PE X (.BoolOp b [a] pos) t:=λJ s σ H Q I c=>BoolOp_one (h J s σ H Q I c)
theorem ff(f:PE X a ta)(g:PE X (.BoolOp .And (b::rest) pos) tb):PE X (.BoolOp .And (a::b::rest) pos) (IJ ta tb):=by
 intro J s σ H Q I h;refine BoolOp_and (ay (f J s σ H _ I h) λv i k=>?_);obtain⟨x,O,e,j,d⟩:=k;obtain⟨c,rfl,d⟩:=d;cases j
 refine gS ?_;cases c with
 |true=>exact g J i σ O Q e d
 |false=>exact⟨.bl false,O,e,rfl,d⟩
theorem Ak(d:PE X a ta):PE X (.UnaryOp .Not a pos) (IK ta):=by
 intro J s σ H Q I h;refine UnaryOp_ (ay (d J s σ H _ I h) λv g i=>?_);obtain⟨x,O,e,f,b⟩:=i;obtain⟨c,rfl,b⟩:=b;cases f
 exact not_of (gS ⟨.bl (!c),O,e,rfl,b⟩)
def BU(t:TT)(ta tb:TE):TE:=λσ H Q=>t σ H λc O=>if c=true then ta σ O Q else tb σ O Q
theorem vG(i:PT X c tA)(j:PE X a ta)(k:PE X b tb):PE X (.IfExp c a b pos) (BU tA ta tb):=by
 intro J s σ H Q I h;refine wpAny_IfExp (ay (i J s σ H _ I h) λd e l=>?_);obtain⟨O,f,g⟩:=l;cases d with
 |true=>exact j J e σ O Q f g
 |false=>exact k J e σ O Q f g
end
def aj(K:Pw)(H:Hp)(a:Ph)(xs:List V):Prop:=
 Rd H a (.lst xs) \/
  ∃(o:Ue) (its:Array CS) (n:Nat),K.lookup a=ih o/\o.cls=.type "list" /\ o.dict=none/\o.data=.seq its n/\its.size<=Pk/\Vals xs its.toList
def aO(K:Pw)(H:Hp)(a:Ph)(xs:List V):Prop:=
 Rd H a (.tup xs) \/
  ∃(o:Ue) (its:Array CS) (n:Nat),K.lookup a=ih o/\o.cls=.type "tuple" /\ o.data=.seq its n/\its.size<=Pk/\Vals xs its.toList
def J2:CS->Option V
 |.none=>ih .aJ
 |.bool b=>ih (.bl b)
 |.int i _=>ih (.int i)
 |.str x _=>ih (.str x)
 |.bytes b _=>ih (.fJ b)
 |.float b _=>ih (.jx b)
 |.ref a=>ih (.ref a)
 |.type n=>ih (.ty n)
 |_=>none
theorem RelV.abs{x:V}(r:RelV x u):J2 u=ih x:=by
 cases x with
 |aJ=>cases r;rfl
 |bl _=>cases r;rfl
 |int _=>obtain⟨t,rfl⟩:=r;rfl
 |str _=>obtain⟨t,rfl⟩:=r;rfl
 |fJ _=>obtain⟨t,rfl⟩:=r;rfl
 |jx _=>obtain⟨t,rfl⟩:=r;rfl
 |ref _=>cases r;rfl
 |ty _=>cases r;rfl
theorem RelV.inj{x:V}(r:RelV x u)(q:RelV y u):x=y:=c7 (r.abs.symm.trans q.abs)
theorem Vals.inj:∀{xs ys:al V}{us:al CS},Vals xs us->Vals ys us->xs=ys
 |_,_,_,.nil,.nil=>rfl
 |_,_,_,.cons r t,.cons a t'=>by rw[r.inj a,Vals.inj t t']
theorem aj.of(h:H a=bi xs):aj K H a xs:=.inl (.inl h)
theorem aO.of(h:H a=bd xs):aO K H a xs:=.inl (.inl h)
theorem Inv.list(I:Inv X J σ H s)(h:aj X.K H a xs):∃its:al CS,Vals xs its/\PlainL s.heap a its.toArray/\xs.length<=Pk:=by
 rcases h with h|⟨o,its,n,b,c,d,f,g,r⟩
 ·obtain⟨z,its,n,r,e⟩:=h.ok I.aB
  exact⟨its,r,⟨_,n,e,rfl,rfl,rfl⟩,z⟩
 ·refine⟨its.toList,r,⟨o,n,I.cN a o b,c,d,by simpa using f⟩,?_⟩
  have e:=r.length;simp only[mW]at e;omega
theorem Inv.tuple(I:Inv X J σ H s)(h:aO X.K H a xs):∃its:al CS,Vals xs its/\Tt s.heap a its.toArray/\xs.length<=Pk:=by
 rcases h with h|⟨o,its,n,b,c,d,f,r⟩
 ·obtain⟨z,its,r,p⟩:=h.ok I.aB
  exact⟨its,r,p.is,z⟩
 ·refine⟨its.toList,r,⟨o,I.cN a o b,c,n,by simpa using d⟩,?_⟩
  have e:=r.length;simp only[mW]at e;omega
theorem Inv.vH(I:Inv X J σ H s)(h:aj X.K H a xs)(h':aj X.K H a ys):xs=ys:=by
 obtain⟨its,r,⟨o,n,e,_,_,d⟩,_⟩:=I.list h;obtain⟨f,g,⟨o',j,b,_,_,c⟩,_⟩:=I.list h';rw[e]at b;cases b;rw[d]at c;injection c with i _;have:its=f:=by simpa using dc VF i
 subst this;exact r.inj g
theorem Inv.D5(I:Inv X J σ H s)(h:aO X.K H a xs)(h':aO X.K H a ys):xs=ys:=by
 obtain⟨its,r,⟨o,e,_,n,d⟩,_⟩:=I.tuple h;obtain⟨f,g,⟨o',b,_,j,c⟩,_⟩:=I.tuple h';rw[e]at b;cases b;rw[d]at c;injection c with i _;have:its=f:=by simpa using dc VF i
 subst this;exact r.inj g
abbrev Cx.hg(X:Cx)(E:CS->Pn->Prop):Cx:={ X with xe:=E }
abbrev Cx.jA(X:Cx):Cx:=X.hg λ_ _=>False
theorem Cx.Ok.hg(ok:X.Ok)(E:CS->Pn->Prop):(X.hg E).Ok:=
 ⟨ok.mod,ok.kind,ok.glob,ok.blt,ok.above,ok.inj,ok.has,ok.mH,ok.hd,ok.frames,ok.pB,ok.pC,ok.bs,ok.iN,ok.mj,ok.ml,ok.gs,ok.jy⟩
theorem Cx.Ok.iB(ok:(X.hg E).Ok):X.Ok:=
 ⟨ok.mod,ok.kind,ok.glob,ok.blt,ok.above,ok.inj,ok.has,ok.mH,ok.hd,ok.frames,ok.pB,ok.pC,ok.bs,ok.iN,ok.mj,ok.ml,ok.gs,ok.jy⟩
theorem Inv.hg(I:Inv X J σ H s)(E:CS->Pn->Prop):Inv (X.hg E) J σ H s:=⟨I.ok.hg E,I.os,I.bare,I.base,I.loc,I.cell,I.free,I.gq,I.pin,I.aB,I.len⟩
theorem Inv.iB(I:Inv (X.hg E) J σ H s):Inv X J σ H s:=⟨I.ok.iB,I.os,I.bare,I.base,I.loc,I.cell,I.free,I.gq,I.pin,I.aB,I.len⟩
theorem SP.iB{D:Ends}{f:Flow}(h:SP (X.hg E) J D f s'):SP X J D f s':=by
 cases f with
 |next=>obtain⟨a,Y,I,q⟩:=h;exact⟨a,Y,I.iB,q⟩
 |brk=>obtain⟨a,Y,I,q⟩:=h;exact⟨a,Y,I.iB,q⟩
 |cont=>obtain⟨a,Y,I,q⟩:=h;exact⟨a,Y,I.iB,q⟩
 |ret u=>obtain⟨v,a,Y,I,r,q⟩:=h;exact⟨v,a,Y,I.iB,r,q⟩
theorem eJ.jA{st:al QB}{t:TS}(h:eJ X.jA st t):eJ X st t:=λJ s σ H D I a =>
 i0 (h J s σ H D (I.hg _) a) (λ_ _ q=>q.iB) λ_ _ z=>Tf z
section
variable{rest:al QB}{t u:TS}
def IL:TS:=λD σ H=>D.nx σ H
def J3(t u:TS):TS:=λD σ H=>t { D with nx:=u D } σ H
theorem bZ:eJ X [] IL:=λ_ _ σ H _ I h=>pX ⟨σ,H,I,h⟩
theorem aq(h1:PS X st t)(h2:eJ X rest u):eJ X (st::rest) (J3 t u):=by
 intro J s σ H D I h;refine wpAny_execs_cons (ay (h1 J s σ H { D with nx:=u D } I h) λf b q=>?_);cases f with
 |next =>
  obtain⟨a,Y,c,q⟩:=q;exact h2 J b a Y D c q
 |ret v=>exact q
 |brk=>exact q
 |cont=>exact q
theorem aE(h1:PS X st t):eJ X [st] t:=by
 intro J s σ H D I h;refine wpAny_execs_cons (ay (h1 J s σ H D I h) λf a q=>?_);cases f with
 |next=>exact pX q
 |ret v=>exact q
 |brk=>exact q
 |cont=>exact q
def Hi:TS:=λD σ H=>D.bk σ H
theorem ET:PS X (.Break pos) Hi:=λ_ _ σ H _ I h=>wpAny_Break ⟨σ,H,I,h⟩
theorem Inv.quiet(I:Inv X J σ H s):interactive X.env=false:=by simp[interactive,I.ok.kind]
def IM(te:TE):TS:=λD σ H=>te σ H λ_ O=>D.nx σ O
theorem cB(a:PE X e te)(b:swapsWith e none pos.line X.env=pure false:=by rfl):PS X (.Expr e pos) (IM te):=by
 intro J s σ H D I h;exact wpAny_Expr_any (ay (a J s σ H _ I h) λv f ⟨x,O,c,g,d⟩=>⟨σ,O,c,d⟩) I.quiet b
def A8(te:TE):TS:=λD σ H=>te σ H D.rt
theorem aU(a:PE X e te):PS X (.Return (ih e) pos) (A8 te):=by
 intro J s σ H D I h;exact wpAny_Return_some (ay (a J s σ H _ I h) λv f ⟨x,O,b,c,d⟩=>⟨x,σ,O,b,c,d⟩)
def J4(c:TT)(t u:TS):TS:=λD σ H=>c σ H λb O=>if b=true then t D σ O else u D σ O
theorem bQ{a b:al QB}{tc:TT}(i:PT X c tc)(j:eJ X a t)(k:eJ X b u):PS X (.If c a b pos) (J4 tc t u):=by
 intro J s σ H D I h;refine wpAny_If (ay (i J s σ H _ I h) λd e l=>?_);obtain⟨O,f,g⟩:=l;cases d with
 |true=>exact j J e σ O D f g
 |false=>exact k J e σ O D f g
def Al:TS:=λ_ _ _=>False
theorem EU:PS X st Al:=λ_ _ _ _ _ _ h=>h.elim
theorem jU{a:al QB}:eJ X a Al:=λ_ _ _ _ _ _ h=>h.elim
end
abbrev TG:=V->St->Hp->(St->Hp->Prop)->Prop
abbrev iO:=List V->St->Hp->(St->Hp->Prop)->Prop
def PG(X:Cx)(Hj:QD)(t:TG):Prop:=
 ∀J s σ H (v:V) (u:CS) (Q:St->Hp->Prop),Inv X J σ H s->RelV v u->t v σ H Q ->
  wA X (assign Hj X.env u) (λ_ s'=>∃c6 Y,Inv X J c6 Y s'/\Q c6 Y) X.xe s
def mI(X:Cx)(ts:List QD)(t:iO):Prop:=
 ∀J s σ H (vs:List V) (us:List CS) (Q:St->Hp->Prop),Inv X J σ H s->Vals vs us->t vs σ H Q ->
  wA X (assignInOrder ((assignEach ts X.env).map (·.2)) us) (λ_ s'=>∃c6 Y,Inv X J c6 Y s'/\Q c6 Y) X.xe s
abbrev r8:=V->V->V->Hp->(Hp->Prop)->Prop
def A9(X:Cx)(t:r8):Prop:=
 ∀J s σ H (o i v:V) (ov iv u:CS) (Q:Hp->Prop),Inv X J σ H s->RelV o ov->RelV i iv->RelV v u->t o i v H Q ->
  wA X (setItem ov iv u) (λ_ s'=>∃Y,Inv X J σ Y s'/\Q Y) X.xe s
def hX(i:Nat):TG:=λv σ H Q=>Q (σ.set i (ih v)) H
theorem wO(a:X.N.Nodup)(hi:X.N[i]?=ih x)(b:Loc X.env.scope x)(c:X.fn x=true\/X.env.scope.names.lookup x=ih .local:=by first|exact .inl rfl|exact .inr rfl|assumption):PG X (.Name x pos) (hX i):=by
 intro J s σ H v u Q I r h;exact wpAny_assign_Name (nK I a hi b r (λs' d=>⟨_,H,d,h⟩) c)
theorem a4(i:Nat)(a:X.N.Nodup)(hi:X.N[i]?=ih x:=by exact rfl)(b:Loc X.env.scope x:=by exact VL rfl)(c:X.fn x=true\/X.env.scope.names.lookup x=ih .local:=by first|exact .inl rfl|exact .inr rfl|assumption):PG X (.Name x pos) (hX i):=wO a hi b c
def J5:iO:=λvs σ H Q=>vs=[]/\Q σ H
def IP(t:TG)(u:iO):iO:=λvs σ H Q=>∃v r,vs=v::r/\t v σ H λc6 Y=>u r c6 Y Q
theorem hQ:mI X [] J5:=by
 rintro J s σ H vs us Q I r ⟨e,h⟩;subst e;cases r
 exact assignInOrder_nil ⟨σ,H,I,h⟩
theorem dd{t:TG}{u:iO}(h1:PG X e t)(h2:mI X es u)
  (b:(assignEach (e::es) X.env).map (·.2)=assign e X.env::(assignEach es X.env).map (·.2):=by rfl):mI X (e::es) (IP t u):=by
 rintro J s σ H vs us Q I r ⟨v,j,c,h⟩;subst c;cases r with
 |cons r d =>
  rw[b];refine Co (ay (h1 J s σ H _ _ _ I r h) λ_ f k=>?_);obtain⟨a,O,g,i⟩:=k;exact h2 J f a O _ _ Q g d i
def A'(K:Pw)(n:Nat)(t:iO):TG:=λv σ H Q=>∃a xs,v=.ref a/\aO K H a xs/\xs.length=n/\t xs σ H Q
theorem j8{k:Nat}{t:iO}{n:Nat}(g:X.calm=true)(h:mI X es t)
  (i:(assignEach es X.env).length=n:=by rfl) (f:(assignEach es X.env).findIdx? (·.1)=none:=by rfl):PG X (.Tuple es k pos) (A' X.K n t):=by
 rintro J s σ H v u Q I r ⟨a,xs,j,l,m,c⟩;subst j;cases r
 obtain⟨its,d,p,x⟩:=I.tuple l;refine assign_Tuple_tuple (I.ok.hd g) p (by simp[i,<-m,d.length]) f λh' q=>?_
 have w:Inv X J σ H { s with heap:=h' }:=I.kept (t':=s.toks) λb o e=>q b o (cn (bF e)) e;exact h J _ σ H xs _ Q w (by simpa using d) c
def J6(to ti:TE)(t:r8):TG:=λv σ H Q=>to σ H λo O=>ti σ O λi H2=>t o i v H2 λH3=>Q σ H3
theorem Am{o i:QD}{to ti:TE}{t:r8}(c:PE X o to)(hi:PE X i ti)(d:A9 X t)
  (e:∀v,assign (.Subscript o i pos) X.env v=(do
   let a <- holding [v] (eval o X.env)
   let b <- holding [v,a] (eval i X.env)
   standAt pos
   holding [v,a,b] (setItem a b v)
   release [v,a,b] []):=by intro _;rfl):PG X (.Subscript o i pos) (J6 to ti t):=by
 intro J s σ H v u Q I r h;rw[e];refine ah (eM (ay (c J s σ H _ I h) λa f A=>?_));obtain⟨x,O,g,j,k⟩:=A;refine ah (eM (ay (hi J f σ O _ g k) λb s2 A=>?_));obtain⟨y,H2,l,m,n⟩:=A;refine ah (kY (ah (eM (ay (d J s2 σ H2 x y v a b u _ l j m r n) λ_ z A=>?_))));obtain⟨p,q,w⟩:=A;exact wpAny_release ⟨σ,p,q,w⟩
def oP(te:TE)(g:TG):TS:=λD σ H=>te σ H λx O=>g x σ O D.nx
theorem lY{g:TG}(a:PE X e te)(b:PG X tg g)(c:swapsWithSole [tg] e pos.line X.env=pure false:=by rfl)(d:swappedStores [tg] e X.env=pure none:=by rfl)
  (h1:(assignEach [tg] X.env).map (·.2)=[assign tg X.env]:=by rfl):PS X (.Assign [tg] e pos) (oP te g):=by
 intro J s σ H D I h;refine wpAny_Assign_stores (ay (a J s σ H _ I h) λv f l=>?_) c d;obtain⟨x,O,i,j,k⟩:=l;rw[h1];exact ay (b J f σ O x v _ i j k) λ_ s2 q=>q
theorem fg(a:X.N.Nodup)(hi:X.N[i]?=ih x)(b:Loc X.env.scope x)(c:PE X e te)(d:swapsWith e (ih (.Name x Qg)) pos.line X.env=pure false:=by rfl)(f:X.fn x=true\/X.env.scope.names.lookup x=ih .local:=by first|exact .inl rfl|exact .inr rfl|assumption) :
  PS X (.Assign [.Name x Qg] e pos) (oP te (hX i)):=by
 intro J s σ H D I h;refine wpAny_Assign_Name (ay (c J s σ H _ I h) λv m n=>?_) d;obtain⟨y,O,g,j,k⟩:=n;exact nK g a hi b j (λs2 l=>⟨_,O,l,k⟩) f
theorem bf(i:Nat)(a:X.N.Nodup)(b:PE X e te)(hi:X.N[i]?=ih x:=by exact rfl)(c:Loc X.env.scope x:=by exact VL rfl)(d:swapsWith e (ih (.Name x Qg)) pos.line X.env=pure false:=by rfl)(f:X.fn x=true\/X.env.scope.names.lookup x=ih .local:=by first|exact .inl rfl|exact .inr rfl|assumption):PS X (.Assign [.Name x Qg] e pos) (oP te (hX i)):=fg a hi c b d f
def J7(i j:Nat)(ta:TA):TS:=λD σ H=>ta σ H λvs O=>∃v w,vs=[v,w]/\D.nx ((σ.set i (ih v)).set j (ih w)) O
theorem Hk{y:Pd}{a b:QD}{ta:TA}{k l pt:VT}{m n g}(F:X.calm=true)(t:X.N.Nodup)(hi:X.N[i]?=ih x)(G:X.N[j]?=ih y)(B:i≠j)
  (u:X.env.scope.names.lookup x=ih .local) (z:X.env.scope.names.lookup y=ih .local) (K:PA X [a,b] ta)
  (L:swappedStores [.Tuple [.Name x k,.Name y l] m pt] (.Tuple [a,b] n g) X.env=pure (ih [x,y]))
  (M:swapsWithSole [.Tuple [.Name x k,.Name y l] m pt] (.Tuple [a,b] n g) pos.line X.env=pure false:=by rfl) :
  PS X (.Assign [.Tuple [.Name x k,.Name y l] m pt] (.Tuple [a,b] n g) pos) (J7 i j ta):=by
 intro J s σ H D I h;rw[exec_Assign_arm];refine ah (kY ?_);rw[M];refine ah (au ?_);rw[ax (by decide)]
 refine ah (Tuple_ (ay (K _ J s σ H _ I h) λus c aa=>?_));obtain⟨vs,O,P,Q,r⟩:=aa;obtain⟨v,w,R,r⟩:=r;subst R;obtain⟨d,f,rfl,S,C⟩:∃d f,us=[d,f]/\RelV v d/\RelV w f:=by
  cases Q with
  |cons p q =>
   cases q with
   |cons T U =>
    cases U
    exact⟨_,_,rfl,p,T⟩
 refine gc ?_ (by show 2<=Pk;decide)
 have V:Inv X J σ O { c with heap:=c.heap.push { cls:=.type "tuple",data:=.seq [d,f].toArray } }:=P.kept (t':=c.toks) λb o e=>bu _ e;rw[L];refine ah (au ?_);show wA X (do rule "assign.swapped-stores"; let items <- unpackItems (.ref c.ai) 2 none;assignInOrder [λv=>bindName X.env y v,λv=>bindName X.env x v] items.reverse;pure WK) _ _ _;refine ah (kZ (ah (unpackItems_tuple (items:= #[d,f]) (I.ok.hd F) (IsTup.new c.heap _) λh' E=>?_)));have W:=V.kept (h':=h') (t':=c.toks) λb o e=>E b o (cn (bF e)) e;show Px _ _ (assignInOrder [λv=>bindName X.env y v,λv=>bindName X.env x v] [f,d] >>= λ_=>pure WK) _ _ _;refine ah (Co (wpAny_bindName (nK W t G (.inl z) C (λs2 Y=>?_) (.inr z))));refine Co (wpAny_bindName (nK Y t hi (.inl u) S (λxa A=>assignInOrder_nil (au ?_)) (.inr u)));rw[List.set_comm _ _ (aQ B)]at A;exact⟨_,O,A,r⟩
def Hl(c:TT)(tb:TS):TS:=λD σ H=>∃W:Nat->St->Hp->Prop,(∃m,W m σ H) /\∀m σ H,W m σ H ->
 c σ H λb O=>if b=true then ∃N:St->Hp->Prop,(∀c6 Y,N c6 Y ->∃m',m'<m/\W m' c6 Y)/\tb { D with nx:=N,ct:=N,bk:=D.nx } σ O else D.nx σ O
theorem qF{tc:TT}{tb:TS}(q:PassesOwn X.dY X.A X.env X.xe)(w:PT X c tc)(x:eJ X body tb):PS X (.While c body [] pos) (Hl tc tb):=by
 rintro J s σ H D I ⟨W,⟨y,z⟩,u⟩;refine wpAny_While (codeAny_whileLoop (λn s'=>∃p Y,Inv X J p Y s'/\W n p Y) ?_ y ⟨σ,H,I,z⟩);rintro n B ⟨e,O,C,E⟩;refine k0 q (ay (w J B e O _ C (u n e O E)) λb s2 G=>?_);obtain⟨H2,r,g⟩:=G;cases b with
 |true =>
  obtain⟨N,t,g⟩:=g;rw[aI rfl];refine k0 q (ay (x J s2 e H2 _ r g) λf F i=>?_);cases f with
  |next =>
   obtain⟨a,d,j,k⟩:=i;obtain⟨l,m,o⟩:=t a d k;exact⟨l,m,a,d,j,o⟩
  |cont =>
   obtain⟨a,d,j,k⟩:=i;obtain⟨l,m,o⟩:=t a d k;exact⟨l,m,a,d,j,o⟩
  |brk=>exact i
  |ret v=>exact i
 |false =>
  rw[ax bM];exact pX ⟨e,H2,r,g⟩
structure It where
 go:Nat->Hp->Prop
 ic:Nat->Hp->V->Hp->Prop
 stop:Nat->Hp->Prop
def fw(X:Cx)(J:List (Ph×Ue))(H:Hp)(b:Ph):Prop:=
 H b=none/\b≠X.env.locals/\b ∉ X.fs/\(b∈X.ex\/X.eo.heap.objs.size<=b)/\(∀x c,X.env.cells.lookup x=ih c->c≠b) /\∀p∈X.pn++J,p.1≠b
theorem Inv.gI(I:Inv X J σ H s)(a:s.ai<=b)(d:Y b=none):fw X J Y b:=by
 refine⟨d,jJ (eX I.lt a),I.JX a,.inr (ed I.sz a),λx c e z=>?_,λp f z=>?_⟩
 ·obtain⟨v,q⟩:=I.cell x c e
  exact absurd (eX q.lt (by rw[z];exact a)) (iY _)
 ·exact absurd (eX (bF (I.pin p f).1) (by rw[z];exact a)) (iY _)
structure Turn(P:Tj)(w:Tw)(K:Pw)(tg:QD)(J9:It)(fp:List Ph)(it:Ph)(tn:Nat->To->Prop):Prop where
 mem:it∈fp
 obj:∀i h,tn i h ->∀b∈fp,∃o,h.get? b=ih o /\∀v,o.data ≠ .cell v
 keep:∀i h h',tn i h->(∀b∈fp,∀o,h.get? b=ih o->h'.get? b=ih o)->tn i h'
 item:∀(X:Cx),X.prog=P->X.w=w->X.K=K->X.calm=true ->∀(i:Nat) J s σ H (E:CS->Pn->Prop),Inv X J σ H s->(∀b∈fp,fw X J H b)->tn i s.heap->J9.go i H ->
  Px (Qu P w) X.A (pyNext (.ref it)) (λr s1=>∃u,r=ih u /\
   Px (Qu P w) X.A (letOwnedTupleGo tg (.ref it) u) (λ_ s2=>∃x Y,Inv X J σ Y s2/\RelV x u/\J9.ic i H x Y/\tn (i+1) s2.heap /\∀b∈fp,Y b=none) E s1) E s
 done:∀(X:Cx),X.prog=P->X.w=w->X.K=K->X.calm=true ->∀(i:Nat) J s σ H (E:CS->Pn->Prop),Inv X J σ H s->(∀b∈fp,fw X J H b)->tn i s.heap->J9.stop i H ->
  Px (Qu P w) X.A (pyNext (.ref it)) (λr s1=>r=none/\Inv X J σ H s1) E s
 self:∀(A:TJ) (i:Nat) (s:Pn) (Q:CS->Pn->Prop) (E:CS->Pn->Prop),tn i s.heap->Q (.ref it) s->Px (Qu P w) A (pyIter (.ref it)) Q E s
abbrev TI:=St->Hp->(It->Hp->Prop)->Prop
def sL(X:Cx)(J:List (Ph×Ue))(σ:St)(tg:QD)(R:It->Hp->Prop)(Lg:CS)(s2:Pn):Prop:=
 ∃(it:Ph) (fp:List Ph) (tn:Nat->To->Prop) (J9:It) (Y:Hp),Lg=.ref it/\Inv X J σ Y s2/\Turn X.prog X.w X.K tg J9 fp it tn/\tn 0 s2.heap/\(∀b∈fp,fw X J Y b)/\R J9 Y
def PI(X:Cx)(tg iter:QD)(wi:TI):Prop:=
 ∀J s σ H (R:It->Hp->Prop),Inv X J σ H s->wi σ H R ->
  wA X (eval iter X.env) (λv s1=>wA X (pyIter v) (sL X J σ tg R) X.xe s1) X.xe s
theorem kz{M:VJ}{n:String}{vs:Array CS}{Q:Unit->Pn->Prop}(b:s.heap.get? it=ih o)(c:o.cls=.type n)(d:o.data=.fields vs)
  (e : ["enumerate","zip","dict_itemiterator","dict_reverseitemiterator","odict_iterator","itertools.zip_longest","itertools.pairwise"].contains n=false) (a:Q () s):Px M A (letOwnedTupleGo tg (.ref it) u) Q E s:=by
 unfold letOwnedTupleGo;cases tg <;> first
  |exact au a
  |(cases u <;> first
    |exact au a
    |(refine ah (wpAny_load b ?_);rw[c,d];show Px M A (if (["enumerate","zip","dict_itemiterator","dict_reverseitemiterator","odict_iterator","itertools.zip_longest","itertools.pairwise"].contains n&&vs[0]? == ih (rawInt _))=true then _ else _) Q E s;rw[ax (by intro h;rw[e,Cp]at h;cases h)];exact au a))
def jB(K:Pw)(a:Ph):It:=
 ⟨λi H=>∃xs x,aj K H a xs/\xs[i]?=ih x,λi H x Y=>Y=H /\∀xs,aj K H a xs->xs[i]?=ih x,λi H=>∃xs,aj K H a xs/\xs.length<=i⟩
def hB(K:Pw)(a:Ph):It:=
 ⟨λi H=>∃xs x,aO K H a xs/\xs[i]?=ih x,λi H x Y=>Y=H /\∀xs,aO K H a xs->xs[i]?=ih x,λi H=>∃xs,aO K H a xs/\xs.length<=i⟩
def iP(lo:Int)(n:Nat):It:=⟨λi _=>i<n,λi H x Y=>Y=H/\x=.int (lo+i),λi _=>n<=i⟩
theorem D6(a it:Ph):Turn P w K tg (jB K a) [it] it (λi h=>h.IsListIter it a i) where
 mem:=by simp
 obj:=λi h st b f=>by
  have e:b=it:=by simpa using f
  subst e;obtain⟨o,e,c,d⟩:=st;exact⟨o,e,λv z=>by rw[d]at z;cases z⟩
 keep:=λi h h' st k=>st.at λo e=>k it (by simp) o e
 item:=by
  intro X l m hK F i J s σ H E I g st n;subst l m hK;obtain⟨xs,x,j,q⟩:=n;obtain⟨its,r,p,G⟩:=I.list j;obtain⟨u,L,M⟩:=r.get q;obtain⟨t,y,N,A,B,C⟩:=g it (by simp)
  refine wpAny_pyNext_list_item st p.isList (x:=u) (by simpa using L) λh' D O=>?_
  have Q:Inv X J σ H { s with heap:=h' }:=I.turned (t':=s.toks) (λb o f e=>(O.2 b f).trans e) t y A B C;obtain⟨o,e,c,d⟩:=id D;exact⟨u,rfl,kz (s:={ s with heap:=h' }) e c d (by decide) ⟨x,H,Q,M,⟨rfl,λys R=>by rw[I.vH R j];exact q⟩,D,λb f=>(g b f).1⟩⟩
 done:=by
  intro X l m hK F i J s σ H E I g st n;subst l m hK;obtain⟨xs,j,q⟩:=n;obtain⟨its,r,p,G⟩:=I.list j;obtain⟨t,y,N,A,B,C⟩:=g it (by simp)
  have T:=r.length;exact wpAny_pyNext_list_end (I.ok.hd F) st p.isList (by simp;omega) λh' S=>⟨rfl,I.turned (t':=s.toks) (λb o f e=>S b o f e) t y A B C⟩
 self:=λ_ _ _ _ _ st h=>wpAny_pyIter_listiter st h
theorem DJ(a it:Ph):Turn P w K tg (hB K a) [it] it (λi h=>h.IsTupleIter it a i) where
 mem:=by simp
 obj:=λi h st b f=>by
  have e:b=it:=by simpa using f
  subst e;obtain⟨o,e,c,d⟩:=st;exact⟨o,e,λv z=>by rw[d]at z;cases z⟩
 keep:=λi h h' st k=>st.at λo e=>k it (by simp) o e
 item:=by
  intro X l m hK F i J s σ H E I g st n;subst l m hK;obtain⟨xs,x,j,q⟩:=n;obtain⟨its,r,p,G⟩:=I.tuple j;obtain⟨u,L,M⟩:=r.get q;obtain⟨t,y,N,A,B,C⟩:=g it (by simp)
  refine wpAny_pyNext_tuple_item st (show s.heap.IsTuple a its.toArray from p) (x:=u) (by simpa using L) λh' D O=>?_
  have Q:Inv X J σ H { s with heap:=h' }:=I.turned (t':=s.toks) (λb o f e=>(O.2 b f).trans e) t y A B C;obtain⟨o,e,c,d⟩:=id D;exact⟨u,rfl,kz (s:={ s with heap:=h' }) e c d (by decide) ⟨x,H,Q,M,⟨rfl,λys R=>by rw[I.D5 R j];exact q⟩,D,λb f=>(g b f).1⟩⟩
 done:=by
  intro X l m hK F i J s σ H E I g st n;subst l m hK;obtain⟨xs,j,q⟩:=n;obtain⟨its,r,p,G⟩:=I.tuple j;obtain⟨t,y,N,A,B,C⟩:=g it (by simp)
  have T:=r.length;exact wpAny_pyNext_tuple_end (I.ok.hd F) st (show s.heap.IsTuple a its.toArray from p) (by simp;omega) λh' S=>⟨rfl,I.turned (t':=s.toks) (λb o f e=>S b o f e) t y A B C⟩
 self:=λ_ _ _ _ _ st h=>wpAny_pyIter_tupleiter st h
theorem DK(it:Ph)(lo:Int)(n:Nat):Turn P w K tg (iP lo n) [it] it (λi h=>Xh h it (lo+(i:Nat) * 1) ((n:Int) - (i:Nat)) 1) where
 mem:=by simp
 obj:=λi h st b a=>by
  have e:b=it:=by simpa using a
  subst e;exact⟨_,st,λv z=>by
   have x:Data.fields _=Data.cell v:=z;cases x⟩
 keep:=λi h h' st k=>k it (by simp) _ st
 item:=by
  intro X d f hK g i J s σ H E I c st j;subst d f hK;obtain⟨l,m,y,p,q,r⟩:=c it (by simp)
  have W:=Walks.range (prog:=X.prog) (w:=X.w) (I.ok.hd g) it lo 1 n;refine W.item i s _ _ j st λv h' tk A u B=>?_;obtain⟨t,rfl⟩:=A;have C:Inv X J σ H { s with heap:=h',toks:=tk }:=I.turned (λb o a e=>B b o (by simpa using a) e) l m p q r
  refine⟨_,rfl,kz (s:={ s with heap:=h',toks:=tk }) (n:= "range_iterator") u rfl rfl (by decide) ⟨.int (lo+i),H,C,⟨t,?_⟩,⟨rfl,rfl⟩,u,λb a=>(c b a).1⟩⟩
  rw[Int.mul_one]
 done:=by
  intro X d f hK g i J s σ H E I c st j;subst d f hK;obtain⟨l,m,y,p,q,r⟩:=c it (by simp)
  exact wpAny_pyNext_range_end (I.ok.hd g) st (by have:n<=i:=j;omega) λh' D=>⟨rfl,I.turned (t':=s.toks) (λb o a e=>D b o a e) l m p q r⟩
 self:=λ_ _ _ _ _ st h=>wpAny_pyIter_rangeiter st h
def AJ(K:Pw)(tl:TE):TI:=λσ H R=>tl σ H λx O=>∃a,x=.ref a/\(∃xs,aj K O a xs)/\R (jB K a) O
def Ba(K:Pw)(tl:TE):TI:=λσ H R=>tl σ H λx O=>∃a,x=.ref a/\(∃xs,aO K O a xs)/\R (hB K a) O
theorem d4{l:QD}(f:PE X l tl):PI X tg l (AJ X.K tl):=by
 intro J s σ H R I h;refine ay (f J s σ H _ I h) λv c r=>?_;obtain⟨x,O,d,g,i⟩:=r;obtain⟨a,e,⟨xs,j⟩,q⟩:=i;subst e;cases g
 obtain⟨its,m,p,n⟩:=d.list j;refine tE p.isList ?_;refine⟨c.ai,[c.ai],_,_,O,rfl,d.kept (t':=c.toks) λb o e=>bu _ e,D6 a _,⟨_,cm _ rfl,rfl,rfl⟩,λb k=>?_,q⟩;have e:b=c.ai:=by simpa using k
 subst e;exact d.gI (aN _) (d.aB.fresh (aN _))
theorem jd{l:QD}(f:PE X l tl):PI X tg l (Ba X.K tl):=by
 intro J s σ H R I h;refine ay (f J s σ H _ I h) λv c r=>?_;obtain⟨x,O,d,g,i⟩:=r;obtain⟨a,e,⟨xs,j⟩,q⟩:=i;subst e;cases g
 obtain⟨its,m,p,n⟩:=d.tuple j;refine wpAny_pyIter_tuple (show c.heap.IsTuple a its.toArray from p) ?_;refine⟨c.ai,[c.ai],_,_,O,rfl,d.kept (t':=c.toks) λb o e=>bu _ e,DJ a _,⟨_,cm _ rfl,rfl,rfl⟩,λb k=>?_,q⟩;have e:b=c.ai:=by simpa using k
 subst e;exact d.gI (aN _) (d.aB.fresh (aN _))
theorem vI{R:It->Hp->Prop}{hi:Int}{t u v:VI}{tk:Nat}(I:Inv X J σ H s)(h1 : -(2 ^ 62)<=lo)(h2:lo<2 ^ 62)(c : -(2 ^ 62)<=hi)(d:hi<2 ^ 62)
  (q:R (iP lo (hi - lo).toNat) H):wA X (pyIter (.ref s.heap.objs.size)) (sL X J σ tg R) E { s with heap:=s.heap.push { cls:=.type "range",data:=.fields #[.int lo t,.int hi u,.int 1 v] },toks:=tk }:=by
 refine wpAny_pyIter_range (IsRange.new ..) (small_one h1 h2 c d) ?_;have a:Inv X J σ H { s with heap:=s.heap.push { cls:=.type "range",data:=.fields #[.int lo t,.int hi u,.int 1 v] },toks:=tk }:=I.kept λb o e=>bu _ e;refine⟨(s.heap.push { cls:=.type "range",data:=.fields #[.int lo t,.int hi u,.int 1 v] }).objs.size,[(s.heap.push { cls:=.type "range",data:=.fields #[.int lo t,.int hi u,.int 1 v] }).objs.size],_,_,H,rfl,
  a.kept (t':=tk) λb o e=>bu _ e,DK _ lo (hi - lo).toNat,?_,λb f=>?_,q⟩
 ·have g:lo+((0:Nat):Int) * 1=lo:=by simp
  have h:(((hi - lo).toNat:Nat):Int) - ((0:Nat):Int)=Wf lo hi 1:=by rw[rangeSize_one];split <;> omega
  show Xh _ _ (lo+((0:Nat):Int) * 1) ((((hi - lo).toNat:Nat):Int) - ((0:Nat):Int)) 1;rw[g,h];exact cm _ rfl
 ·have e:b=(s.heap.push { cls:=.type "range",data:=.fields #[.int lo t,.int hi u,.int 1 v] }).objs.size:=by simpa using f
  subst e;exact a.gI (aN _) (a.aB.fresh (aN _))
def IQ(ta:TA):TI:=λσ H R=>ta σ H λvs O=>∃j:Int,vs=[.int j] /\ -(2 ^ 62)<=j/\j<2 ^ 62/\R (iP 0 j.toNat) O
def IS(ta:TA):TI:=λσ H R=>ta σ H λvs O=>∃i j:Int,vs=[.int i,.int j]/\(-(2 ^ 62)<=i/\i<2 ^ 62 /\ -(2 ^ 62)<=j/\j<2 ^ 62)/\R (iP i (j - i).toNat) O
theorem ir{a:QD}{ta:TA}{p:VT}(c:Gl X "range")(d:X.mg "range" = none)(f:PA X [a] ta)(g:SQ [a] X.env=[(false,eval a X.env)]:=by rfl):PI X tg (.Call (.Name "range" p) [a] [] pos) (IQ ta):=by
 intro J s σ H R I h;refine Call_ (j7 I c d boot_range (tF (ay (f pos J s σ H _ I h) λus n o=>?_) g rfl));obtain⟨vs,O,i,k,b⟩:=o;obtain⟨j,e,b,l,q⟩:=b;subst e;cases k with
 |cons r m =>
  cases m
  obtain⟨t,rfl⟩:=r;exact call_range_1 (vI i (by omega) (by omega) b l (by simpa using q))
theorem D7{a b:QD}{ta:TA}{p:VT}(g:Gl X "range")(k:X.mg "range" = none)(l:PA X [a,b] ta)(m:SQ [a,b] X.env=[(false,eval a X.env),(false,eval b X.env)]:=by rfl)(f:SQ [b] X.env=[(false,eval b X.env)]:=by rfl) :
  PI X tg (.Call (.Name "range" p) [a,b] [] pos) (IS ta):=by
 intro J s σ H R I h;refine Call_ (j7 I g k boot_range (tF (ay (l pos J s σ H _ I h) λus y ⟨vs,O,n,o,c⟩=>?_) (by rw[m,f]) (by rw[f];rfl)))
 obtain⟨i,j,e,⟨c,u,v,w⟩,q⟩:=c;subst e;cases o with
 |cons r d =>
  cases d with
  |cons x d =>
   cases d
   obtain⟨t,rfl⟩:=r;obtain⟨t',rfl⟩:=x;exact call_range_2 (vI n c u v w q)
def J8(wi:TI)(g:TG)(tb:TS):TS:=λD σ H=>wi σ H λJ9 O=>∃W:Nat->Nat->St->Hp->Prop,(∃m,W 0 m σ O) /\∀i m σ H,W i m σ H ->
 (J9.stop i H/\D.nx σ H)\/(J9.go i H /\∃N:St->Hp->Prop,(∀c6 Y,N c6 Y ->∃m',m'<m/\W (i+1) m' c6 Y) /\∀x Y,J9.ic i H x Y->g x σ Y λLi H2=>tb { D with nx:=N,ct:=N,bk:=D.nx } Li H2)
def lZ(fp:List Ph)(h:To):List (Ph×Ue):=fp.filterMap λb=>(h.get? b).map λo=>(b,o)
theorem nv(a:b∈fp)(e:h.get? b=ih o):(b,o)∈lZ fp h:=pU.mpr ⟨b,a,by rw[e];rfl⟩
theorem D8{p:Ph×Ue}(a:p∈lZ fp h):p.1∈fp/\h.get? p.1=ih p.2:=by
 obtain⟨b,c,e⟩:=pU.mp a;cases q:h.get? b with
 |none=>rw[q]at e;cases e
 |some o =>
  rw[q]at e;have d:(b,o)=p:=c7 e;subst d;exact⟨c,q⟩
theorem Inv.pinned(I:Inv X J σ H s)(f:∀b∈fp,fw X J H b)(g:∀b∈fp,∃o,s.heap.get? b=ih o /\∀v,o.data ≠ .cell v):Inv X (J++lZ fp s.heap) σ H s:=
 I.wN λp h=>(cQ.mp h).elim (λz=>I.pin p (fR _ z)) λz=>by
  obtain⟨a,e⟩:=D8 z;obtain⟨i,j,k,_⟩:=f p.1 a;obtain⟨o,c,d⟩:=g p.1 a;rw[e]at c;cases c;exact⟨e,i,j,k,d⟩
theorem Inv.nL{pl:al (Ph×Ue)}(I:Inv X (J++pl) σ H s):Inv X J σ H s:=I.wN λp a=>I.pin p (fR _ (kX _ a))
theorem e7{wi:TI}{g:TG}{tb:TS}(t:PassesOwn X.dY X.A X.env X.xe)(K:X.calm=true)(hi:PI X tg iter wi)(ya:PG X tg g)(c:eJ X body tb)
  (za:∀x,foldedSetIterable iter X.env x=pure x:=by intro _;rfl):PS X (.For tg iter body [] pos) (J8 wi g tb):=by
 intro J s σ H D I h;refine wpAny_For (ay (hi J s σ H _ I h) λv zi h1=>ay h1 λyi s2 h2=>?_) za;obtain⟨it,fp,tn,xj,H2,e,xb,T,S,L,W,⟨yb,zb⟩,R⟩:=h2;subst e;have z:∀{Y:Hp},(∀b∈fp,Y b=none) ->∀b∈fp,fw X J Y b:=λxc b c=>⟨xc b c,(L b c).2⟩;refine codeAny_forLoop_any (λn s'=>∃i p Y,Inv X J p Y s'/\tn i s'.heap/\(∀b∈fp,Y b=none)/\W i n p Y) ?_ yb ⟨0,σ,H2,xb,S,λb c=>(L b c).1,zb⟩;rintro n M ⟨i,q,y,O,F,G,yc⟩;rcases R i n q y yc with⟨stop,zc⟩|⟨xd,N,yd,step⟩
 ·refine k0 t (ay (T.done X rfl rfl rfl K i J M q y X.xe O (z G) F stop) λr zd ⟨C,ye⟩=>?_)
  subst C;exact pX ⟨q,y,ye,zc⟩
 ·refine k0 t (ay (T.item X rfl rfl rfl K i J M q y X.xe O (z G) F xd) λr zd aa=>?_);obtain⟨u,C,ze⟩:=aa
  subst C;refine k0 t (ay ze λ_ P aa=>?_);obtain⟨x,Q,xf,yf,y5,B,U⟩:=aa;have V:=xf.pinned (z U) (T.obj _ _ B);refine k0 t (ay (ya _ P q Q x u _ V yf (step x Q y5)) λ_ zf aa=>?_);obtain⟨xa,xg,yg,zg⟩:=aa;refine k0 t (ay (c _ zf xa xg _ yg zg) λf E l=>?_);have again:∀{a:St}{j:Hp},Inv X (J++lZ fp P.heap) a j E->N a j ->∃m,m<n /\∃i p Y,Inv X J p Y E/\tn i E.heap/\(∀b∈fp,Y b=none)/\W i m p Y:=λ{a j} k w=>by
   obtain⟨xh,yh,zh⟩:=yd a j w;refine⟨xh,yh,i+1,a,j,k.nL,T.keep _ _ _ B λb c o e=>(k.pin (b,o) (fR _ (fR _ (nv c e)))).1,λb c=>?_,zh⟩;obtain⟨o,e,d⟩:=T.obj _ _ B b c;exact(k.pin (b,o) (fR _ (fR _ (nv c e)))).2.1
  cases f with
  |next=>obtain⟨a,j,k,w⟩:=l;exact again k w
  |cont=>obtain⟨a,j,k,w⟩:=l;exact again k w
  |brk=>obtain⟨a,j,k,l⟩:=l;exact⟨a,j,k.nL,l⟩
  |ret v=>obtain⟨x7,a,j,k,xi,l⟩:=l;exact⟨x7,a,j,k.nL,xi,l⟩
theorem i6{g:TG}{tb:TS}{D:Ends}(b:Nat->St->Hp->Prop)(j:b 0 σ H)(k:∀i σ H,i<=xs.length->b i σ H->aj K H a xs)
  (l:∀i x σ H,xs[i]?=ih x->b i σ H->g x σ H λc H2=>tb { D with nx:=b (i+1),ct:=b (i+1),bk:=D.nx } c H2) (n:∀σ H,b xs.length σ H->D.nx σ H) :
  ∃W:Nat->Nat->St->Hp->Prop,(∃m,W 0 m σ H) /\∀i m σ H,W i m σ H ->
   ((jB K a).stop i H/\D.nx σ H)\/((jB K a).go i H /\∃N:St->Hp->Prop,(∀d Y,N d Y ->∃h,h<m/\W (i+1) h d Y) /\∀x Y,(jB K a).ic i H x Y->g x σ Y λc H2=>tb { D with nx:=N,ct:=N,bk:=D.nx } c H2):=by
 refine⟨λi m σ H=>m=xs.length - i/\i<=xs.length/\b i σ H,⟨xs.length,by simp,bw _,j⟩,?_⟩
 rintro i m σ H ⟨rfl,hi,p⟩;have q:=k i σ H hi p
 by_cases f:i<xs.length
 ·refine .inr ⟨⟨xs,xs[i],q,by simp[f]⟩,b (i+1),λd Y o=>⟨xs.length - (i+1),by omega,rfl,f,o⟩,λx Y y=>?_⟩
  obtain⟨e,y⟩:=y;subst e;exact l i x σ _ (y xs q) p
 ·have e:i=xs.length:=by omega
  subst e;exact .inl ⟨⟨xs,q,aN _⟩,n σ H p⟩
theorem FU{g:TG}{tb:TS}{D:Ends}(b:Nat->St->Hp->Prop)(j:b 0 σ H)(k:∀i σ H,i<=xs.length->b i σ H->aO K H a xs)
  (l:∀i x σ H,xs[i]?=ih x->b i σ H->g x σ H λc H2=>tb { D with nx:=b (i+1),ct:=b (i+1),bk:=D.nx } c H2) (n:∀σ H,b xs.length σ H->D.nx σ H) :
  ∃W:Nat->Nat->St->Hp->Prop,(∃m,W 0 m σ H) /\∀i m σ H,W i m σ H ->
   ((hB K a).stop i H/\D.nx σ H)\/((hB K a).go i H /\∃N:St->Hp->Prop,(∀d Y,N d Y ->∃h,h<m/\W (i+1) h d Y) /\∀x Y,(hB K a).ic i H x Y->g x σ Y λc H2=>tb { D with nx:=N,ct:=N,bk:=D.nx } c H2):=by
 refine⟨λi m σ H=>m=xs.length - i/\i<=xs.length/\b i σ H,⟨xs.length,by simp,bw _,j⟩,?_⟩
 rintro i m σ H ⟨rfl,hi,p⟩;have q:=k i σ H hi p
 by_cases f:i<xs.length
 ·refine .inr ⟨⟨xs,xs[i],q,by simp[f]⟩,b (i+1),λd Y o=>⟨xs.length - (i+1),by omega,rfl,f,o⟩,λx Y y=>?_⟩
  obtain⟨e,y⟩:=y;subst e;exact l i x σ _ (y xs q) p
 ·have e:i=xs.length:=by omega
  subst e;exact .inl ⟨⟨xs,q,aN _⟩,n σ H p⟩
theorem jV{n:Nat}{g:TG}{tb:TS}{D:Ends}(a:Nat->St->Hp->Prop)(h:a 0 σ H)
  (j:∀i σ H,i<n->a i σ H->g (.int (lo+i)) σ H λb H2=>tb { D with nx:=a (i+1),ct:=a (i+1),bk:=D.nx } b H2) (k:∀σ H,a n σ H->D.nx σ H) :
  ∃W:Nat->Nat->St->Hp->Prop,(∃m,W 0 m σ H) /\∀i m σ H,W i m σ H ->
   ((iP lo n).stop i H/\D.nx σ H)\/((iP lo n).go i H /\∃N:St->Hp->Prop,(∀c Y,N c Y ->∃f,f<m/\W (i+1) f c Y) /\∀x Y,(iP lo n).ic i H x Y->g x σ Y λb H2=>tb { D with nx:=N,ct:=N,bk:=D.nx } b H2):=by
 refine⟨λi m σ H=>m=n - i/\i<=n/\a i σ H,⟨n,by simp,bw _,h⟩,?_⟩
 rintro i m σ H ⟨rfl,hi,p⟩
 by_cases d:i<n
 ·refine .inr ⟨d,a (i+1),λc Y l=>⟨n - (i+1),by omega,rfl,d,l⟩,λx Y y=>?_⟩
  obtain⟨e,y⟩:=y;subst e y;exact j i σ _ d p
 ·have e:i=n:=by omega
  subst e;exact .inl ⟨aN _,k σ H p⟩
abbrev R2:=V->V->Hp->VK->Prop
def cg(X:Cx)(f:CS->CS->UB CS)(r:R2):Prop:=
 ∀J s σ H (x y:V) (v u:CS) (Q:VK),Inv X J σ H s->RelV x v->RelV y u->r x y H Q ->
  wA X (f v u) (EP X J σ Q) X.xe s
def sM(X:Cx)(f:CS->UB CS)(r:V->Hp->VK->Prop):Prop:=
 ∀J s σ H (x:V) (v:CS) (Q:VK),Inv X J σ H s->RelV x v->r x H Q ->
  wA X (f v) (EP X J σ Q) X.xe s
def c8(X:Cx)(f:CS)(r:List V->Hp->VK->Prop):Prop:=
 ∀J s σ H (xs:List V) (us:List CS) (Q:VK),Inv X J σ H s->Vals xs us->r xs H Q ->
  wA X (call f us) (EP X J σ Q) X.xe s
def J'(X:Cx)(r:V->Hp->(Bool->Hp->Prop)->Prop):Prop:=
 ∀J s σ H (x:V) (v:CS) (Q:Bool->Hp->Prop),Inv X J σ H s->RelV x v->r x H Q ->
  wA X (truthy v) (TP X J σ Q) X.xe s
def kQ(r:R2)(ta tb:TE):TE:=λσ H Q=>ta σ H λx O=>tb σ O λy H2=>r x y H2 Q
def Lj(r:V->Hp->VK->Prop)(ta:TE):TE:=λσ H Q=>ta σ H λx O=>r x O Q
def rI(C:Int->Int->Prop)(g:Int->Int->V):R2:=λx y H Q=>∃i j,x=.int i/\y=.int j/\C i j/\Q (g i j) H
def jC(g:Int->Int->V):R2:=λx y H Q=>∃i j,x=.int i/\y=.int j/\Q (g i j) H
def rU(g:Int->V):V->Hp->VK->Prop:=λx H Q=>∃i,x=.int i/\Q (g i) H
section
variable{a b:QD}{tc:TE}
theorem r9(e:PE X a ta)(g:PE X b tb){R:V->V->Hp->Prop}(I:Inv X J σ H s)
  (h:ta σ H λx O=>tb σ O λy H2=>R x y H2) {Q:CS->Pn->Prop}{f:CS->CS->UB CS}
  (i:∀v u s2 x y H2,Inv X J σ H2 s2->RelV x v->RelV y u->R x y H2->wA X (f v u) Q X.xe s2) :
  wA X (eval a X.env) (λv c=>wA X (eval b X.env) (λu d=>wA X (f v u) Q X.xe d) X.xe c) X.xe s:=by
 refine ay (e J s σ H _ I h) λv j q=>?_;obtain⟨x,O,k,l,m⟩:=q;refine ay (g J j σ O _ k m) λu s2 q=>?_;obtain⟨y,H2,n,o,p⟩:=q;exact i v u s2 x y H2 n l o p
theorem bE{c:Vg}{r:R2}(d:cg X (Tu c) r)(e:PE X a ta)(f:PE X b tb):PE X (.BinOp a c b pos) (kQ r ta tb):=by
 intro J s σ H Q I h;exact wpAny_BinOp (r9 e f I h λv u s2 x y H2 g i j q=>d J s2 σ H2 x y v u Q g i j q)
theorem AK{b:UnaryOp}{r:V->Hp->VK->Prop}(c:sM X (unaryOp b) r)(d:PE X a ta):PE X (.UnaryOp b a pos) (Lj r ta):=by
 intro J s σ H Q I h;exact UnaryOp_ (ay (d J s σ H _ I h) λv e ⟨x,O,f,g,i⟩=>c J e σ O x v Q f g i)
theorem mJ{f:CS->CS->UB CS}{C:Int->Int->Prop}{g:Int->Int->Int}
  (rule:∀(i j:Int) (t u:VI) (s:Pn) (Q:CS->Pn->Prop) (E:CS->Pn->Prop),C i j->Q (.int (g i j) s.toks) { s with toks:=s.toks+1 }->wA X (f (.int i t) (.int j u)) Q E s) :
  cg X f (rI C λi j=>.int (g i j)):=by
 rintro J s σ H x y v u Q I a b ⟨i,j,rfl,rfl,c,q⟩;obtain⟨t,rfl⟩:=a;obtain⟨t',rfl⟩:=b;exact rule i j t t' s _ _ c ⟨.int (g i j),H,I.tok _,⟨_,rfl⟩,q⟩
theorem Bb{f:CS->CS->UB CS}{g:Int->Int->Int}
  (rule:∀(i j:Int) (t u:VI) (s:Pn) (Q:CS->Pn->Prop) (E:CS->Pn->Prop),Q (.int (g i j) s.toks) { s with toks:=s.toks+1 }->wA X (f (.int i t) (.int j u)) Q E s) :
  cg X f (jC λi j=>.int (g i j)):=by
 rintro J s σ H x y v u Q I a b ⟨i,j,rfl,rfl,q⟩;obtain⟨t,rfl⟩:=a;obtain⟨t',rfl⟩:=b;exact rule i j t t' s _ _ ⟨.int (g i j),H,I.tok _,⟨_,rfl⟩,q⟩
theorem sb{f:CS->CS->UB CS}{g:Int->Int->Bool}
  (rule:∀(i j:Int) (t u:VI) (s:Pn) (Q:CS->Pn->Prop) (E:CS->Pn->Prop),Q (.bool (g i j)) s->wA X (f (.int i t) (.int j u)) Q E s) :
  cg X f (jC λi j=>.bl (g i j)):=by
 rintro J s σ H x y v u Q I a b ⟨i,j,rfl,rfl,q⟩;obtain⟨t,rfl⟩:=a;obtain⟨t',rfl⟩:=b;exact rule i j t t' s _ _ ⟨.bl (g i j),H,I,rfl,q⟩
def Ka(i j:Int):Prop:=0<j/\j<1073741824
def Kb(i j:Int):Prop:=0<=j/\j<=1000000/\i.natAbs<2 ^ 64
def sd(i j:Int):Prop:=(-(2 ^ 64)<i/\i<2 ^ 64)\/(-(2 ^ 64)<j/\j<2 ^ 64)
theorem sd.ok{i j:Int}(h:sd i j):IntMulOk i j:=by
 rcases h with⟨h1,h2⟩|⟨h1,h2⟩
 ·exact .of_left (intBits_le_64 h1 h2)
 ·exact .of_right (intBits_le_64 h1 h2)
theorem fh:cg X (Tu .Add) (jC λi j=>.int (i+j)):=Bb λ_ _ _ _ _ _ _ q=>add_int q
theorem je:cg X (Tu .Sub) (jC λi j=>.int (i - j)):=Bb λ_ _ _ _ _ _ _ q=>sub_int q
theorem n':cg X (Tu .Mult) (rI sd λi j=>.int (i * j)):=mJ λ_ _ _ _ _ _ _ a q=>mul_int q a.ok
theorem FV:cg X (Tu .FloorDiv) (rI Ka λi j=>.int (i / j)):=mJ λi j _ _ _ _ _ a q=>by
 have h1:(0:Int)<j:=a.1;have h2:j<1073741824:=a.2;exact floordiv_int (by omega) (by rw[Pl i (by omega)];exact q) (.inl (PyProof.noPylong_small (by omega)))
theorem j9:cg X (Tu .Mod) (rI (λ_ j=>0<j) λi j=>.int (i % j)):=mJ λi j _ _ _ _ _ a q=>by
 have h1:(0:Int)<j:=a;exact mod_int' (by omega) (by rw[Int.fmod_eq_emod_of_nonneg i (by omega)];exact q)
theorem rq:cg X (Tu .Pow) (rI Kb λi j=>.int (i ^ j.toNat)):=mJ λ_ _ _ _ _ _ _ a q=>pow_int_small a.1 a.2.1 a.2.2 q
theorem Lk{f:CS->UB CS}{g:Int->Int}
  (rule:∀(i:Int) (t:VI) (s:Pn) (Q:CS->Pn->Prop) (E:CS->Pn->Prop),Q (.int (g i) s.toks) { s with toks:=s.toks+1 }->wA X (f (.int i t)) Q E s) :
  sM X f (rU λi=>.int (g i)):=by
 rintro J s σ H x v Q I a ⟨i,rfl,q⟩;obtain⟨t,rfl⟩:=a;exact rule i t s _ _ ⟨.int (g i),H,I.tok _,⟨_,rfl⟩,q⟩
theorem An:sM X (unaryOp .USub) (rU λi=>.int (-i)):=Lk λ_ _ _ _ _ q=>neg_int q
end
def Bc:V->V->Bool
 |.aJ,.aJ=>true|.aJ,.int _=>true|.int _,.aJ=>true|.aJ,.bl _=>true|.bl _,.aJ=>true|.aJ,.str _=>true|.str _,.aJ=>true
 |.int _,.int _=>true|.bl _,.bl _=>true|.str _,.str _=>true|.fJ _,.fJ _=>true
 |.int _,.str _=>true|.str _,.int _=>true|.bl _,.str _=>true|.str _,.bl _=>true
 |_,_=>false
def Lm:R2:=λx y H Q=>Bc x y=true/\Q (.bl (decide (x=y))) H
def Ln:R2:=λx y H Q=>Bc x y=true/\Q (.bl (!decide (x=y))) H
theorem nU{i j:Int}:decide (V.int i=V.int j)=(i==j):=by
 rw[k3];simp
theorem Ao{i j:Bool}:decide (V.bl i=V.bl j)=(i==j):=by
 rw[k3];simp
theorem wQ{i j:Pd}:decide (V.str i=V.str j)=(i==j):=by
 rw[k3];simp
theorem wR{i j:Array UInt8}:decide (V.fJ i=V.fJ j)=(i.toList==j.toList):=by
 rw[k3];cases i
 cases j
 simp
section
variable{a b:QD}{tc:TE}
theorem cp{k a:Bool}(I:Inv X J σ H s)(q:Q (.bl k) H)(e:k=a):EP X J σ Q (.bool a) s:=by
 subst e;exact⟨.bl k,H,I,rfl,q⟩
theorem c9:cg X (SU .Eq) Lm:=by
 rintro J s σ H x y v u Q I c a ⟨b,q⟩;cases x with
 |aJ =>
  cases c
  cases y with
  |aJ=>cases a;exact Wt (cp I q (by simp))
  |bl j=>cases a;exact Wv (cp I q (by simp))
  |int j=>obtain⟨t',rfl⟩:=a;exact Wu (cp I q (by simp))
  |str j=>obtain⟨t',rfl⟩:=a;exact Ws (cp I q (by simp))
  |_=>exact absurd (show false=true from b) bM
 |bl i =>
  cases c
  cases y with
  |aJ=>cases a;exact Wx (cp I q (by simp))
  |bl j=>cases a;exact eq_bool (cp I q Ao)
  |str j=>obtain⟨t',rfl⟩:=a;exact Wa (cp I q (by simp))
  |_=>exact absurd (show false=true from b) bM
 |int i =>
  obtain⟨t,rfl⟩:=c;cases y with
  |aJ=>cases a;exact Ww (cp I q (by simp))
  |int j=>obtain⟨t',rfl⟩:=a;exact eq_int (cp I q nU)
  |str j=>obtain⟨t',rfl⟩:=a;exact V' (cp I q (by simp))
  |_=>exact absurd (show false=true from b) bM
 |str i =>
  obtain⟨t,rfl⟩:=c;cases y with
  |aJ=>cases a;exact Wr (cp I q (by simp))
  |bl j=>cases a;exact V9 (cp I q (by simp))
  |int j=>obtain⟨t',rfl⟩:=a;exact V8 (cp I q (by simp))
  |str j=>obtain⟨t',rfl⟩:=a;exact eq_str (cp I q wQ)
  |_=>exact absurd (show false=true from b) bM
 |fJ i =>
  obtain⟨t,rfl⟩:=c;cases y with
  |fJ j=>obtain⟨t',rfl⟩:=a;exact PySem.W.eq_bytes (cp I q wR)
  |_=>exact absurd (show false=true from b) bM
 |_=>cases y <;> exact absurd (show false=true from b) bM
theorem jk:cg X (SU .NotEq) Ln:=by
 rintro J s σ H x y v u Q I c a ⟨b,q⟩;cases x with
 |aJ =>
  cases c
  cases y with
  |aJ=>cases a;exact Wl (cp I q (by simp))
  |bl j=>cases a;exact Wn (cp I q (by simp))
  |int j=>obtain⟨t',rfl⟩:=a;exact Wm (cp I q (by simp))
  |str j=>obtain⟨t',rfl⟩:=a;exact Wk (cp I q (by simp))
  |_=>exact absurd (show false=true from b) bM
 |bl i =>
  cases c
  cases y with
  |aJ=>cases a;exact Wq (cp I q (by simp))
  |bl j=>cases a;exact ne_bool (cp I q (dc not Ao))
  |str j=>obtain⟨t',rfl⟩:=a;exact V7 (cp I q (by simp))
  |_=>exact absurd (show false=true from b) bM
 |int i =>
  obtain⟨t,rfl⟩:=c;cases y with
  |aJ=>cases a;exact Wo (cp I q (by simp))
  |int j=>obtain⟨t',rfl⟩:=a;exact ne_int (cp I q (dc not nU))
  |str j=>obtain⟨t',rfl⟩:=a;exact V6 (cp I q (by simp))
  |_=>exact absurd (show false=true from b) bM
 |str i =>
  obtain⟨t,rfl⟩:=c;cases y with
  |aJ=>cases a;exact Wj (cp I q (by simp))
  |bl j=>cases a;exact V5 (cp I q (by simp))
  |int j=>obtain⟨t',rfl⟩:=a;exact V4 (cp I q (by simp))
  |str j=>obtain⟨t',rfl⟩:=a;exact ne_str (cp I q (dc not wQ))
  |_=>exact absurd (show false=true from b) bM
 |fJ i =>
  obtain⟨t,rfl⟩:=c;cases y with
  |fJ j=>obtain⟨t',rfl⟩:=a;exact PySem.W.ne_bytes (cp I q (dc not wR))
  |_=>exact absurd (show false=true from b) bM
 |_=>cases y <;> exact absurd (show false=true from b) bM
theorem AL:cg X (SU .Lt) (jC λi j=>.bl (decide (i<j))):=sb λ_ _ _ _ _ _ _ q=>lt_int q
theorem jl:cg X (SU .LtE) (jC λi j=>.bl (decide (i<=j))):=sb λ_ _ _ _ _ _ _ q=>le_int q
theorem rS:cg X (SU .Gt) (jC λi j=>.bl (decide (j<i))):=sb λ_ _ _ _ _ _ _ q=>gt_int q
theorem l0:cg X (SU .Is) (λx y H Q=>y=.aJ/\Q (.bl (decide (x=.aJ))) H):=by
 rintro J s σ H x y v u Q I a b ⟨rfl,q⟩;cases b
 refine is_none_gen (cp I q ?_);cases x <;> first
  |(cases a;rfl)
  |(obtain⟨t,rfl⟩:=a;rfl)
theorem bA(b:QD){a:U1}(h:a ≠ .In:=by decide)(h2:a ≠ .NotIn:=by decide):behindInMarks a b=false:=by
 have c:(a==CmpOp.In)=false:=by cases a <;> first|rfl|exact absurd rfl h
 have d:(a==CmpOp.NotIn)=false:=by cases a <;> first|rfl|exact absurd rfl h2
 cases b <;> simp[behindInMarks,c,d]
theorem fZ{c:U1}{r:R2}(d:cg X (SU c) r)(e:PE X a ta)(f:PE X b tb)(g:behindInMarks c b=false):PE X (.Compare a [c] [b] pos) (kQ r ta tb):=by
 intro J s σ H Q I h;exact wpAny_Compare1 (r9 e f I h λv u s2 x y H2 i j k q=>d J s2 σ H2 x y v u Q i j k q) g
def rT(t:TE):TT:=λσ H Q=>t σ H λx Y=>∃k,x=.bl k/\Q k Y
theorem bx{d:U1}{r:R2}(f:cg X (SU d) r)(g:PE X a ta)(i:PE X b tb)(j:behindInMarks d b=false):PT X (.Compare a [d] [b] pos) (rT (kQ r ta tb)):=by
 intro J s σ H Q I h;refine wpAny_isTrue_Compare1 (ay (g J s σ H _ I h) λv l ⟨x,O,m,n,o⟩=>ay (i J l σ O _ m o) λu s2 ⟨y,H2,p,q,t⟩ =>
  ay (f J s2 σ H2 x y v u _ p n q t) λc D ⟨z,w,A,B,k,e,C⟩=>?_) j
 subst e;cases B
 exact gS ⟨w,A,C⟩
def Ap(r r':R2)(ta tb tc:TE):TE:=λσ H Q=>ta σ H λx O=>tb σ O λy H2=>r x y H2 λz H3=>∃k,z=.bl k /\
 (if k=true then tc σ H3 λw' H4=>r' y w' H4 Q else Q (.bl false) H3)
theorem qG{g f:U1}{r i:R2}(p:cg X (SU g) r)(o:cg X (SU f) i)(q:PE X a ta)(t:PE X b tb)(w:PE X c tc)
  (A:lastMarks [g,f] [b,c]=false:=by with_unfolding_all rfl):PE X (.Compare a [g,f] [b,c] pos) (Ap r i ta tb tc):=by
 intro J s σ H Q I h;refine Compare_chain (ay (q J s σ H _ I h) λv B ⟨x,O,C,D,E⟩=>chain_link (ay (t J B σ O _ C E) λu s2 ⟨y,H2,F,j,G⟩ =>
  ay (p J s2 σ H2 x y v u _ F D j G) λd K ⟨z,l,m,L,k,e,n⟩=>?_)) A
 subst e;cases L
 refine gS ?_;cases k with
 |false=>exact ite_ff ⟨.bl false,l,m,rfl,n⟩
 |true=>exact ite_tt (chain_last (ay (w J K σ l _ m n) λM N ⟨P,R,S,T,U⟩=>o J N σ R y P u M Q S j T U))
theorem vJ{g f:U1}{r i:R2}(p:cg X (SU g) r)(o:cg X (SU f) i)(q:PE X a ta)(t:PE X b tb)(w:PE X c tc)
  (A:lastMarks [g,f] [b,c]=false:=by with_unfolding_all rfl):PT X (.Compare a [g,f] [b,c] pos) (rT (Ap r i ta tb tc)):=by
 intro J s σ H Q I h;refine isTrue_chain (ay (q J s σ H _ I h) λv B ⟨x,O,C,D,E⟩=>test_link (ay (t J B σ O _ C E) λu s2 ⟨y,H2,F,j,G⟩ =>
  ay (p J s2 σ H2 x y v u _ F D j G) λd K ⟨z,l,m,L,k,e,n⟩=>?_)) A
 subst e;cases L
 refine gS ?_;cases k with
 |false =>
  obtain⟨yb,M,N⟩:=n;cases M
  exact ite_ff ⟨l,m,N⟩
 |true =>
  refine ite_tt (test_last (ay (w J K σ l _ m n) λP R ⟨S,T,U,V,W⟩=>ay (o J R σ T y S u P _ U j V W) λzb xc aa=>?_));obtain⟨z2,Y,xa,ya,yc,za,xb⟩:=aa;subst za;cases ya
  exact gS ⟨Y,xa,xb⟩
def se(K:Pw)(x:V)(H:Hp)(k:Bool):Prop:=
 match x with
 |.aJ=>k=false
 |.bl b=>k=b
 |.int i=>k=(i != 0)
 |.str y=>y.length<=Pk/\k=((y.length:Int) != 0)
 |.fJ y=>y.size<=Pk/\k=((y.size:Int) != 0)
 |.ref p=>(∃xs,aj K H p xs/\k = !xs.isEmpty)\/(∃xs,aO K H p xs/\k = !xs.isEmpty) \/∃kvs,H p=ih (.dK kvs)/\k = !kvs.isEmpty
 |_=>False
theorem DL{κ:Type}{kvs:al (κ×V)}{vs:al (κ×CS)}(r:KV kvs vs):(!vs.isEmpty) = !kvs.isEmpty:=by
 cases r <;> rfl
theorem qk(r:Vals xs its):(!its.toArray.isEmpty) = !xs.isEmpty:=by
 cases r <;> simp
theorem jf:(Pk:Nat)<2 ^ 63:=by rw[aR];decide
theorem Aq:J' X (λx H Q=>∃k,se X.K x H k/\Q k H):=by
 rintro J s σ H x v Q I c ⟨k,e,q⟩;have o:=jf;have u:Pk=16777216:=aR;cases x with
 |aJ =>
  cases c
  have a:k=false:=e;subst a;exact truthy_none ⟨H,I,q⟩
 |bl b =>
  cases c
  have a:k=b:=e;subst a;exact gS ⟨H,I,q⟩
 |int i =>
  obtain⟨t,rfl⟩:=c;have a:k=(i != 0):=e;subst a;exact PySem.P.truthy_int ⟨H,I,q⟩
 |str y =>
  obtain⟨t,rfl⟩:=c;obtain⟨l,a⟩:y.length<=Pk/\k=((y.length:Int) != 0):=e;subst a;exact PySem.P.truthy_str (by omega) ⟨H,I.tok _,q⟩
 |fJ y =>
  obtain⟨t,rfl⟩:=c;obtain⟨l,a⟩:y.size<=Pk/\k=((y.size:Int) != 0):=e;subst a;exact PySem.W.truthy_bytes (by omega) ⟨H,I.tok _,q⟩
 |ref p =>
  cases c
  have a:(∃xs,aj X.K H p xs/\k = !xs.isEmpty)\/(∃xs,aO X.K H p xs/\k = !xs.isEmpty) \/∃kvs,H p=bm kvs/\k = !kvs.isEmpty:=e;rcases a with⟨xs,d,a⟩|⟨xs,d,a⟩|⟨kvs,d,a⟩
  ·subst a
   obtain⟨its,r,f,j⟩:=I.list d;have g:=r.length;exact wpAny_truthy_list f.isList (by simp only[b9];omega) ⟨H,I.tok _,by rw[qk r];exact q⟩
  ·subst a
   obtain⟨its,r,f,j⟩:=I.tuple d;have g:=r.length;exact truthy_tuple f (by simp only[b9];omega) ⟨H,I.tok _,by rw[qk r];exact q⟩
  ·subst a
   obtain⟨j,n,vs,r,m⟩:kvs.length<=Pk/\(p==sysModules)=false /\∃vs,KV kvs vs/\s.heap.DictOf (b8 X.prog X.w) p vs:=I.aB p _ d;have g:kvs.length=vs.length:=cw r;exact wpAny_truthy_dict n m (by omega) ⟨H,I.tok _,by rw[DL r];exact q⟩
 |_=>exact(show False from e).elim
theorem lG(c:PE X a ta)(d:∀b,isTrue a X.env b=(do let v <- b;standAt a.pos;holding [v] (truthy v))) :
  PT X a (λσ H Q=>ta σ H λx Y=>∃k,se X.K x Y k/\Q k Y):=by
 intro J s σ H Q I h;exact isTrue_plain (ay (c J s σ H _ I h) λv e ⟨x,O,f,g,i⟩=>Aq J e σ O x v Q f g i) (d _)
theorem uG:cg X (Tu .Add) (λx y H Q=>∃i j,x=.str i/\y=.str j/\i.length+j.length<=Pk/\Q (.str (i++j)) H):=by
 rintro J s σ H x y v u Q I a b ⟨i,j,rfl,rfl,c,q⟩;obtain⟨t,rfl⟩:=a;obtain⟨t',rfl⟩:=b;exact add_str (λt' tk=>⟨.str (i++j),H,I.tok _,⟨_,rfl⟩,q⟩) c
theorem vals1{x:V}(r:Vals [x] us):∃u,us=[u]/\RelV x u:=by
 cases r with
 |cons a b=>cases b;exact⟨_,rfl,a⟩
theorem vals2{x:V}(r:Vals [x,y] us):∃u a,us=[u,a]/\RelV x u/\RelV y a:=by
 cases r with
 |cons b c =>
  cases c with
  |cons d e=>cases e;exact⟨_,_,rfl,b,d⟩
theorem vK:c8 X (.builtin "abs") (λxs H Q=>∃i,xs=[.int i]/\Q (.int (if i<0 then -i else i)) H):=by
 rintro J s σ H xs us Q I r ⟨i,rfl,q⟩;obtain⟨u,rfl,t,rfl⟩:=vals1 r;exact call_abs_int λu tk=>⟨.int (if i<0 then -i else i),H,I.tok _,⟨_,rfl⟩,q⟩
theorem D9(b:X.calm=true):c8 X (.builtin "max") (λxs H Q=>∃i j,xs=[.int i,.int j]/\Q (.int (if j>i then j else i)) H):=by
 rintro J s σ H xs us Q I r ⟨i,j,rfl,q⟩;obtain⟨u,c,rfl,⟨t,rfl⟩,⟨t',rfl⟩⟩:=vals2 r;refine max_two_ints (I.ok.hd b) λh' tk k=>⟨_,H,I.kept k,?_,q⟩
 by_cases a:j>i
 ·rw[aI a,aI a];exact⟨_,rfl⟩
 ·rw[ax a,ax a];exact⟨_,rfl⟩
theorem qu(b:X.calm=true):c8 X (.builtin "min") (λxs H Q=>∃i j,xs=[.int i,.int j]/\Q (.int (if j<i then j else i)) H):=by
 rintro J s σ H xs us Q I r ⟨i,j,rfl,q⟩;obtain⟨u,c,rfl,⟨t,rfl⟩,⟨t',rfl⟩⟩:=vals2 r;refine min_two_ints (I.ok.hd b) λh' tk k=>⟨_,H,I.kept k,?_,q⟩
 by_cases a:j<i
 ·rw[aI a,aI a];exact⟨_,rfl⟩
 ·rw[ax a,ax a];exact⟨_,rfl⟩
end
structure jt(h:To)(x dx C:Ph)(mA:Pd->Option CS):Prop where
 obj:h.get? x=ih (Th C dx)
 ns:h.Ns1 dx mA
 ne:dx≠x
theorem u4(n:h.Ns1 dx mA):∃od,h.get? dx=ih od /\∀name,Uh name od=ih (mA name):=by
 obtain⟨o,es,ep,c,d,f,_,g⟩:=n;refine⟨o,c,λname=>?_⟩;have e:=g name;unfold nsFind findBy at e;rw[<-Array.find?_toList]at e;unfold Uh;rw[d]
 dsimp only
 split
 ·rename_i y q
  rw[q]at e;exact dc ih e
 ·rename_i q
  rw[q]at e;have a:es.toList.any (·.refKey)=false:=by
   rw[Cq];intro y i;obtain⟨z,t,b⟩:=f y (Array.mem_toList_iff.mp i);simp[Xe,b]
  have j : ¬ es.toList.any (·.refKey)=true:=by rw[a];exact bM
  rw[ax j];exact dc ih e
theorem jt.look{x:Ph}(I:jt h x dx C mA):∃od,PySem.W.InstAt h x (Th C dx) C (ih od) /\∀name,Uh name od=ih (mA name):=
 let ⟨od,a,b⟩:=u4 I.ns
 ⟨od,⟨I.obj,rfl,rfl,a⟩,b⟩
section
variable{x:Ph}{v:CS}
theorem get_map{a:Bool}{Q:CS->Pn->Prop}(X:K.In s.heap)(I:jt s.heap x dx C mA)(c:T8 K C name=true)(d:Uq K C=true)
  (e:Td K (.ref C) name=ih none) (f:mA name=ih v) (b:UX v=true) (h:Q v { s with toks:=s.toks+1 }) :
  Px (Qu prog w) A (getAttr (.ref x) name a) Q E s:=by
 obtain⟨od,g,i⟩:=I.look;exact PySem.W.get_value X g (Cr c).1 (PySem.W.findObj_own d e rfl (by rw[i,f])) b h
theorem EV{pl:UB Bool}{Q:CS×List CS->Pn->Prop}(X:K.In s.heap)(I:jt s.heap x dx C mA)(a:T8 K C name=true)
  (b:Td K (.ref C) name=ih (ih (.ref f))) (c:UG K (.ref f)=true) (d:mA name=none) (h:Q (.ref f,[.ref x]) s) :
  Px (Qu prog w) A (getMethod (.ref x) name pl) Q E s:=by
 obtain⟨od,e,g⟩:=I.look;exact PySem.W.method_fn X e (Cr a).1 (Cr a).2 b (i1.mp c) (by show(Uh name od).map (·.isSome)=ih false;rw[g,d];rfl) h
theorem FW{Q:Unit->Pn->Prop}(X:K.In s.heap)(I:jt s.heap x dx C mA)
  (k:Td K (.ref C) "__setattr__" = ih (ih (.builtin "object.__setattr__"))) (l:US K C=true) (m:Uw K C name=ih none) (n:Uq K C=true)
  (o:Uc mA ns) (hsz:ns.length<=Pk)
  (h:∀h',jt h' x dx C (λy=>if y=name then ih v else mA y)->S8 dx s.heap h'->Q () { s with heap:=h',toks:=s.toks+2 }) :
  Px (Qu prog w) A (setAttr (.ref x) name v) Q E s:=by
 obtain⟨od,e,z⟩:=I.look;refine PySem.W.set_plain X e k (PySem.W.osa_open (s:={ s with toks:=s.toks+1 }) (r:=none) X e l m λb=>?_);obtain⟨B,p,f⟩:=PySem.W.any_some n;have q:s.heap.get? x=ih ⟨.ref C,ih dx,.plain,#[]⟩:=I.obj;refine ah (au (ah (ah (wpAny_loadPart q (ah (V3 (s:={ s with toks:=s.toks+1 }) (PySem.W.looks_clsIn X p) ?_))))));rw[f];refine au (a:=ih dx) (ah (au (ah ?_)));refine wpAny_nsSet1 (s:={ s with toks:=s.toks+1 }) I.ns λh' c d=>?_;obtain⟨D,t,u,g,i,j⟩:=c.count (Wi name v o);refine ah (wpAny_lookBehind g (by rw[i];exact pastItsLine_dict (ed j (by rw[cf];omega))) ?_)
 exact au (h _ ⟨(d.2 _ (aQ I.ne)).trans I.obj,c,I.ne⟩ d)
theorem EW{vs:al CS}(X:K.In s.heap)(a:U3 K C=true)
  (hi:Td K (.ref C) "__init__" = ih (ih (.ref f))) (b:PySem.W.typeIn K (.ref f)=ih (.type "function"))
  (h:codeAny (Qu prog w) (A.under (.builtin "type.__call__" ⟨.ref C::vs,kw⟩)) (.call (.ref f) ⟨.ref (s.ai+1)::vs,kw⟩) (PySem.W.InitBack (s.ai+1) R)
   { s with heap:=(s.heap.push S3).push (Th C s.ai) }) :
  codeAny (Qu prog w) A (.call (.ref C) ⟨vs,kw⟩) R s:=by
 obtain⟨c,g,d,t,os⟩:=s;exact PySem.W.make_core (PySem.W.makes_of X a) (PySem.W.looks_findIn X hi) (λself=>PySem.W.bind_fn X self b) (.inl rfl) h
end
def bc(f:Pd)(v:V):List (Pd×V)->List (Pd×V)
 |[]=>[(f,v)]
 |(g,x)::r=>if g=f then (g,v)::r else (g,x)::bc f v r
theorem uA(f g:Pd)(v:V):∀fs:al (Pd×V),(bc f v fs).lookup g=if g=f then ih v else fs.lookup g
 |[]=>by
  show S' g [(f,v)]=_
  by_cases h:g=f
  ·have a:(g==f)=true:=i1.mpr h
   simp only[S',a,aI h]
  ·have a:(g==f)=false:=hC.mpr h
   simp only[S',a,ax h]
 |(k,x)::r=>by
  have c:=uA f g v r;rw[show bc f v ((k,x)::r)=(if k=f then (k,v)::r else (k,x)::bc f v r) from rfl]
  by_cases b:k=f
  ·rw[aI b]
   by_cases h:g=k
   ·have a:(g==k)=true:=i1.mpr h
    simp only[S',a,aI (h.trans b)]
   ·have a:(g==k)=false:=hC.mpr h
    simp only[S',a,ax (λe:g=f=>h (e.trans b.symm))]
  ·rw[ax b]
   by_cases h:g=k
   ·have a:(g==k)=true:=i1.mpr h
    simp only[S',a,ax (λe:g=f=>b (h.symm.trans e))]
   ·have a:(g==k)=false:=hC.mpr h
    simp only[S',a];exact c
theorem qv(f:Pd)(v:V):∀fs:al (Pd×V),f∈(bc f v fs).map (·.1) /\∀g,g∈fs.map (·.1)->g∈(bc f v fs).map (·.1)
 |[]=>⟨by simp[bc],λg h=>by simp at h⟩
 |(k,x)::r=>by
  obtain⟨b,c⟩:=qv f v r;rw[show bc f v ((k,x)::r)=(if k=f then (k,v)::r else (k,x)::bc f v r) from rfl]
  by_cases a:k=f
  ·rw[aI a]
   subst a;exact⟨by simp,λg h=>by simpa using h⟩
  ·rw[ax a]
   refine⟨?_,λg h=>?_⟩
   ·rw[bV]
    exact bL _ b
   ·rw[bV]at h⊢
    rcases bU.mp h with e|e
    ·exact bU.mpr (.inl e)
    ·exact bL _ (c g e)
theorem uB(f:Pd)(v:V):∀fs:al (Pd×V),(bc f v fs).length<=fs.length+1
 |[]=>by simp[bc]
 |(k,x)::r=>by
  have b:=uB f v r;rw[show bc f v ((k,x)::r)=(if k=f then (k,v)::r else (k,x)::bc f v r) from rfl]
  by_cases a:k=f
  ·rw[aI a,cf,cf];omega
  ·rw[ax a,cf,cf];omega
theorem d7.some_of{o:am CS}(r:d7 (ih v) o):∃u,o=ih u/\RelV v u:=by
 cases o with
 |none=>exact(show False from r).elim
 |some u=>exact⟨u,rfl,r⟩
theorem d7.none_of{o:am CS}(r:d7 none o):o=none:=by
 cases o with
 |none=>rfl
 |some u=>exact(show False from r).elim
theorem D'(r:RelV v u):UX u=true:=by
 cases v with
 |aJ=>cases (show u=SV from r);rfl
 |bl b=>cases (show u=TL b from r);rfl
 |int i=>obtain⟨t,e⟩:=(show ∃t,u=Ua i t from r);cases e;rfl
 |str x=>obtain⟨t,e⟩:=(show ∃t,u=Uj x t from r);cases e;rfl
 |fJ b=>obtain⟨t,e⟩:=(show ∃t,u=VN b t from r);cases e;rfl
 |jx b=>obtain⟨t,e⟩:=(show ∃t,u=UO b t from r);cases e;rfl
 |ref a=>cases (show u=PU a from r);rfl
 |ty n=>cases (show u=UC n from r);rfl
section
variable{fs Qo:al (Pd×V)}
theorem nV(b:cF P w H h)(e:H a=ih (.ins C dx fs)):∃mA,jt h a dx C mA/\(∀f,d7 (fs.lookup f) (mA f))/\Uc mA (fs.map (·.1))/\fs.length<=1000/\H dx=ih (.own a):=by
 obtain⟨d,z,ne,c,mA,n,r,q⟩:=(show bB P w H h a (.ins C dx fs) from b a _ e);exact⟨mA,⟨c,n,ne⟩,r,q,z,d⟩
end
structure f9(K:Pw)(C:Ph):Prop where
 pg:T8 K C WM=true
 hd:Uq K C=true
 po:US K C=true
 sa:Td K (.ref C) "__setattr__" = ih (ih (.builtin "object.__setattr__"))
theorem f9.get(c:f9 K C)(f:Pd):T8 K C f=true:=c.pg
def eH(K:Pw)(C:Ph)(f:Pd):Prop:=Td K (.ref C) f=ih none
theorem eH.IT{f:Pd}(n:eH K C f):Uw K C f=ih none:=by
 unfold Uw;rw[show Td K (.ref C) f=ih none from n]
 rfl
structure Meth(K:Pw)(C:Ph)(m:Pd)(f:Ph):Prop where
 at_:Td K (.ref C) m=ih (ih (.ref f))
 fn:UG K (.ref f)=true
 kp:Tr K (.ref f)=true
section
variable{fs:al (Pd×V)}{f:Pd}
theorem uH{b:Bool}{Q:CS->Pn->Prop}(I:Inv X J σ H s)(e:H a=ih (.ins C dx fs))(c:f9 X.K C)(n:eH X.K C f)(l:fs.lookup f=ih v)
  (h:∀u s',Inv X J σ H s'->RelV v u->Q u s'):Px X.dY A (getAttr (.ref a) f b) Q E s:=by
 obtain⟨mA,g,r,_,_,_⟩:=nV I.aB e;obtain⟨u,i,d⟩:=d7.some_of (v:=v) (o:=mA f) (by rw[<-l];exact r f)
 exact get_map I.cN g (c.get f) c.hd n i (D' d) (h u _ (I.tok _) d)
theorem uI{m:Pd}{g:Ph}{pl:UB Bool}{Q:CS×List CS->Pn->Prop}(I:Inv X J σ H s)(e:H a=ih (.ins C dx fs))(c:f9 X.K C)(k:Meth X.K C m g)(l:fs.lookup m=none)
  (h:Q (.ref g,[.ref a]) s):Px X.dY A (getMethod (.ref a) m pl) Q E s:=by
 obtain⟨mA,b,r,_,_,_⟩:=nV I.aB e;have d:mA m=none:=d7.none_of (by rw[<-l];exact r m)
 exact EV I.cN b (c.get m) k.at_ k.fn d h
theorem uJ{Q:Unit->Pn->Prop}(I:Inv X J σ H s)(e:H a=ih (.ins C dx fs))(c:f9 X.K C)(n:eH X.K C f)(B:fs.length<1000)(k:RelV y u)
  (h:∀s',Inv X J σ (upd H a (.ins C dx (bc f y fs))) s'->Q () s'):Px X.dY A (setAttr (.ref a) f u) Q E s:=by
 obtain⟨mA,d,r,wi,_,j⟩:=nV I.aB e;have l:(fs.map (·.1)).length<=Pk:=by rw[aK,aR];omega
 refine FW I.cN d c.sa c.po n.IT c.hd wi l λh' i m=>h _ ?_;have p:∃o,h'.get? dx=ih o:=let ⟨o,_,_,t,_⟩:=i.ns;⟨o,t⟩;refine I.write (x:=a) (e:=dx) (by rw[e];exact Tb) (.inr j) (λb q v z=>(m.2 b v).trans z) p ?_
 refine⟨by rw[ab d.ne];exact j,?_,d.ne,i.obj,_,i.ns,λg=>?_,λg w=>?_⟩
 ·have:=uB f y fs;omega
 ·show d7 ((bc f y fs).lookup g) (if g=f then ih u else mA g)
  rw[uA]
  by_cases q:g=f
  ·rw[aI q,aI q];exact k
  ·rw[ax q,ax q];exact r g
 ·by_cases q:g=f
  ·rw[q];exact(qv f y fs).1
  ·refine(qv f y fs).2 g (wi g λz=>w ?_)
   show(if g=f then ih u else mA g)=none;rw[ax q];exact z
theorem Inv.made(I:Inv X J σ H s):Inv X J σ (upd (upd H s.ai (.own (s.ai+1))) (s.ai+1) (.ins C s.ai []))
  { s with heap:=(s.heap.push S3).push (Th C s.ai) }:=by
 have c:(s.heap.push S3).get? s.ai=ih S3:=cm s.heap rfl;have d:((s.heap.push S3).push (Th C s.ai)).get? (s.ai+1)=ih (Th C s.ai):=by
  have:=cm (s.heap.push S3) (o:=Th C s.ai) rfl
  rwa [k4]at this
 have f:(s.heap.push S3).Ns s.ai (λ_=>none):=⟨S3,#[],_,c,rfl,(λe g=>absurd g (by simp)),λ_=>rfl⟩
 have h:=I.laid (a:=s.ai) (o:=.own (s.ai+1)) (h':=s.heap.push S3) (t':=s.toks) (λb u q=>bu _ q) (aN _) ⟨_,c⟩;refine h.laid (a:=s.ai+1) (o:=.ins C s.ai []) (t':=s.toks) (λb u q=>bu _ q) (VY (k4 _ _)) ?_;have ne:s.ai≠s.ai+1:=cn (Vk _);refine⟨by rw[ab ne,ae],bw _,ne,d,λ_=>none,(Xk f).at λo q=>bu _ q,λ_=>Tb,λy i=>absurd rfl i⟩
theorem FY{f:Pd}{Q:CS->Pn->Prop}(b:attributeBase e f env (eval e env)=eval e env)
  (h:Px (Qu prog w) A (eval e env) (λo a=>Px (Qu prog w) A (getAttr o f true) Q E a) E s):Px (Qu prog w) A (eval (.Attribute e f pos) env) Q E s:=
 Attribute_any_ h (by rw[arm_eval_Attribute,b])
end
def Kc(K:Pw)(ta:TE)(f:Pd):TE:=λσ H Q=>ta σ H λx O=>∃a C dx fs v,x=.ref a/\O a=ih (.ins C dx fs)/\f9 K C/\eH K C f/\fs.lookup f=ih v/\Q v O
def Kd(K:Pw)(ta tv:TE)(f:Pd):TS:=λD σ H=>tv σ H λy O=>ta σ O λx H2=>∃a C dx fs,x=.ref a/\H2 a=ih (.ins C dx fs)/\f9 K C/\eH K C f/\fs.length<1000 /\
 D.nx σ (upd H2 a (.ins C dx (bc f y fs)))
def sf(X:Cx)(op:Vg)(rd:V->V->Hp->VK->Prop):Prop:=
 ∀J s σ H (x y:V) (u v:CS) (Q:VK),Inv X J σ H s->RelV x u->RelV y v->rd x y H Q->wA X (inplaceOp op u v) (EP X J σ Q) X.xe s
def FZ(K:Pw)(ta tv:TE)(rd:V->V->Hp->VK->Prop)(f:Pd):TS:=λD σ H=>ta σ H λx O=>∃a C dx fs v,x=.ref a/\O a=ih (.ins C dx fs)/\f9 K C/\eH K C f/\fs.lookup f=ih v /\
 tv σ O λy H2=>rd v y H2 λz H3=>∃BV Qo,H3 a=ih (.ins C BV Qo)/\Qo.length<1000/\D.nx σ (upd H3 a (.ins C BV (bc f z Qo)))
section
variable{o:QD}{f:Pd}{Qp:VT}
theorem cV(b:PE X e ta)(d:attributeBase e f X.env (eval e X.env)=eval e X.env):PE X (.Attribute e f pos) (Kc X.K ta f):=by
 intro J s σ H Q I h;refine FY d (ay (b J s σ H _ I h) λu o r=>?_);obtain⟨x,O,g,i,a,C,dx,fs,v,ex,j,c,n,l,q⟩:=r;subst ex;obtain rfl:u=PU a:=i;exact uH g j c n l λp s2 k m=>⟨v,O,k,m,q⟩
theorem fj(b:PE X o ta)(d:PE X value tv)(e:swapsWith value (ih (.Attribute o f Qg)) pos.line X.env=pure false):PS X (.Assign [.Attribute o f Qg] value pos) (Kd X.K ta tv f):=by
 intro J s σ H D I h;refine plainObj_wpAny_Assign_Attribute (ay (d J s σ H _ I h) λu g ⟨y,O,i,j,q⟩=>ay (b J g σ O _ i q) λk s2 z=>?_) e;obtain⟨x,H2,m,p,a,C,dx,fs,ex,r,c,n,l,t⟩:=z;subst ex;obtain rfl:k=PU a:=p;exact uJ m r c n l j λw v=>⟨σ,_,v,t⟩
theorem u5{b:Vg}{d:V->V->Hp->VK->Prop}(i:PE X o ta)(j:PE X value tv)(e:sf X b d):PS X (.AugAssign (.Attribute o f Qp) b value pos) (FZ X.K ta tv d f):=by
 intro J s σ H D I h;refine wpAny_AugAssign_AttributeAny (ay (i J s σ H _ I h) λk S aa=>?_);obtain⟨x,O,m,p,a,C,dx,fs,v,ex,r,c,n,l,q⟩:=aa;subst ex;obtain rfl:k=PU a:=p;refine uH m r c n l λu s2 t w=>ay (j J s2 σ O _ t q) λA B ⟨y,H2,E,F,G⟩=>ay (e J B σ H2 v y u A _ E w F G) λT U aa=>?_;obtain⟨z,W,L,M,R,Qo,g,N,P⟩:=aa;exact uJ L g c n N M λY Q=>⟨σ,_,Q,P⟩
def Ke:V->V->Hp->VK->Prop:=λx y H Q=>∃i j,x=.int i/\y=.int j/\Q (.int (i+j)) H
theorem ru:sf X .Add Ke:=by
 rintro J s σ H x y u v Q I a b ⟨i,j,rfl,rfl,q⟩;obtain⟨t,rfl⟩:=(show ∃t,u=Ua i t from a);obtain⟨t',rfl⟩:=(show ∃t',v=Ua j t' from b);exact Wz ⟨.int (i+j),H,I.tok _,⟨_,rfl⟩,q⟩
end
section
variable{Q:CS->Pn->Prop}{c:CS}{b:Bool}
inductive fy(K:Pw)(H:Hp):V->CS->Prop where
 |aJ:fy K H .aJ (.type "NoneType")
 |bl (x:Bool):fy K H (.bl x) (.type "bool")
 |int (i:Int):fy K H (.int i) (.type "int")
 |str (x:Pd):fy K H (.str x) (.type "str")
 |jx (x:UInt64):fy K H (.jx x) (.type "float")
 |lst {a:Ph}{xs:List V} (e:H a=ih (.lst xs)):fy K H (.ref a) (.type "list")
 |aG {a:Ph}{o:Ue}{xs:List V} (e:H a=ih (.aG o (.lst xs))):fy K H (.ref a) (.type "list")
 |tup {a:Ph}{xs:List V} (e:H a=ih (.tup xs)):fy K H (.ref a) (.type "tuple")
 |dK {a:Ph}{kvs:List (Key×V)} (e:H a=ih (.dK kvs)):fy K H (.ref a) (.type "dict")
 |dT {a:Ph}{kvs:List (List Key×V)} (e:H a=ih (.dT kvs)):fy K H (.ref a) (.type "dict")
 |ins {a C dx:Ph}{fs:List (Pd×V)} (e:H a=ih (.ins C dx fs)) (cl:f9 K C) (ha:Td K (.ref C) "__class__" = ih (ih (.builtin "object.__class__")))
   (hn:PySem.W.specialIn K (.builtin "object.__class__") "__get__" = ih (ih (.builtin "getset_descriptor.__get__"))) (QI:PySem.W.takesIn K (.builtin "object.__class__")=ih true)
   (hm:PySem.W.mroIn K C (.type "object")=ih true):fy K H (.ref a) (.ref C)
theorem Ea{x:V}{t:CS}(I:Inv X J σ H s)(d:RelV x u)(ty:fy X.K H x t)(e:PySem.W.kitOne X.K t c=ih b)(h:∀tk,Q (.bool b) { s with toks:=tk }) :
  Px X.dY A (call (.builtin "isinstance") [u,c]) Q E s:=by
 cases ty with
 |aJ=>cases (show u=SV from d);exact hE PySem.W.kitx_none I.cN Tb e (λz=>nomatch z) h
 |bl y=>cases (show u=TL y from d);exact hE PySem.W.kitx_bool I.cN Tb e (λz=>nomatch z) h
 |int i=>obtain⟨t,q⟩:=(show ∃t,u=Ua i t from d);cases q;exact hE PySem.W.kitx_int I.cN Tb e (λz=>nomatch z) h
 |str y=>obtain⟨t,q⟩:=(show ∃t,u=Uj y t from d);cases q;exact hE PySem.W.kitx_str I.cN Tb e (λz=>nomatch z) h
 |jx y=>obtain⟨t,q⟩:=(show ∃t,u=UO y t from d);cases q;exact hE PySem.W.kitx_float I.cN Tb e (λz=>nomatch z) h
 |@lst a xs f =>
  cases (show u=PU a from d)
  obtain⟨_,_,n,_,h1⟩:=(show bB X.prog X.w H s.heap a (.lst xs) from I.aB a _ f);exact hE Po I.cN ⟨_,h1,rfl⟩ e (λz=>nomatch z) h
 |@aG a k xs f =>
  cases (show u=PU a from d)
  obtain⟨_,_,_,n,_,h1⟩:=(show bB X.prog X.w H s.heap a (.aG k (.lst xs)) from I.aB a _ f);exact hE Po I.cN ⟨_,h1,rfl⟩ e (λz=>nomatch z) h
 |@tup a xs f =>
  cases (show u=PU a from d)
  obtain⟨_,_,_,p⟩:=(show bB X.prog X.w H s.heap a (.tup xs) from I.aB a _ f);obtain⟨o,h1,h2,_⟩:=p;exact hE PySem.W.kitx_tuple I.cN ⟨o,h1,h2⟩ e (λz=>nomatch z) h
 |@dK a kvs f =>
  cases (show u=PU a from d)
  obtain⟨_,_,vs,_,p⟩:=(show bB X.prog X.w H s.heap a (.dK kvs) from I.aB a _ f);obtain⟨o,es,ep,h1,h2,_⟩:=p;exact hE Pp I.cN ⟨o,h1,h2.1⟩ e (λz=>nomatch z) h
 |@dT a kvs f =>
  cases (show u=PU a from d)
  obtain⟨_,_,xs,_,o,es,ep,h1,h2,_⟩:=(show bB X.prog X.w H s.heap a (.dT kvs) from I.aB a _ f);exact hE Pp I.cN ⟨o,h1,h2.1⟩ e (λz=>nomatch z) h
 |@ins a C dx fs f g l m j r =>
  cases (show u=PU a from d)
  obtain⟨mA,v,_⟩:=nV I.aB f;obtain⟨od,B,_⟩:=v.look;exact hE (PySem.W.kitx_own (g.get _) g.hd l m j r) I.cN B e (λz=>nomatch z) h
end
structure aS(k:Nat)(A:TJ):Prop where
 hd:A.handled=none
 dp:A.depth+3 * k+5<recursionLimit
 un:A.units+16 * k+200<T6
 gd:A.guards=ih []
theorem aS.mono{k:Nat}(r:aS k A)(h:j<=k):aS j A:=⟨r.hd,by have:=r.dp;omega,by have:=r.un;omega,r.gd⟩
theorem aS.deeper{k:Nat}(r:aS (k+1) A)(env:Uy):aS k (A.deeper env):=
 ⟨r.hd,by have:=r.dp;show A.depth+1+3 * k+5<_;omega,by have:=r.un;show A.units+3+16 * k+200<_;omega,by first|exact r.gd|simp[Around.deeper,r.gd]⟩
theorem DM:(A.under (.builtin "type.__call__" ⟨.ref C::us,kw⟩)).depth=A.depth+1:=by
 first|rfl|simp[Ut,Code.weight,Code.isCreation,VQ,Code.isCaller,V2,UL,guardIds]
theorem DN:(A.under (.builtin "type.__call__" ⟨.ref C::us,kw⟩)).units=A.units+1:=by
 first|rfl|simp[Ut,Code.cUnits,V2,UL]
theorem Dw(h:A.guards=ih []):(A.under (.builtin "type.__call__" ⟨.ref C::us,kw⟩)).guards=ih []:=by
 first|exact h|(simp[Ut,Code.guards,VQ,guardIds,pushGuards,h])
theorem aS.make{k:Nat}(r:aS (k+1) A)(C:Ph)(us:al CS)(kw:al (Pd×CS)):aS k (A.under (.builtin "type.__call__" ⟨.ref C::us,kw⟩)):=
 ⟨r.hd,by have:=r.dp;rw[DM];omega,by have:=r.un;rw[DN];omega,Dw r.gd⟩
theorem aS.depth{k:Nat}(r:aS k A):A.depth<recursionLimit:=by have:=r.dp;omega
theorem aS.units{k:Nat}(r:aS k A):A.units+64<T6:=by have:=r.un;omega
def mn:TA:=λ_ H Q=>Q [] H
def rV(ta:TE)(tr:TA):TA:=λσ H Q=>ta σ H λx O=>tr σ O λxs H2=>Q (x::xs) H2
section
variable{t:TA}
theorem ag:PA X [] mn:=λ_ _ _ _ H Q I h=>Calls.spliced_nil ⟨[],H,I,.nil,h⟩
theorem aa(a:PE X e te)(b:PA X es t)(c:SQ (e::es) X.env=(false,eval e X.env)::SQ es X.env:=by rfl):PA X (e::es) (rV te t):=by
 intro pos J s σ H Q I h;rw[c];show Px _ _ (spliced ((false,eval e X.env)::backTo pos (SQ es X.env))) _ _ s;refine Calls.spliced_cons (ay (a J s σ H _ I h) λu d m=>?_);obtain⟨x,O,f,g,i⟩:=m;exact ay (b pos J d σ O _ f i) λus s2 ⟨xs,H2,j,k,l⟩=>⟨x::xs,H2,j,.cons g k,l⟩
def Kf(t:TA):TE:=λσ H Q=>t σ H λxs O=>xs.length<=Pk /\∀p,O p=none->Q (.ref p) (upd O p (.tup xs))
def Kg(t:TA):TE:=λσ H Q=>t σ H λxs O=>xs.length<=Pk /\∀p,O p=none->Q (.ref p) (upd O p (.lst xs))
theorem cz{d}(h:PA X es t):PE X (.Tuple es d pos) (Kf t):=by
 intro J s σ H Q I f;refine wpAny_Tuple_spliced (ay (h pos J s σ H _ I f) λus a ⟨xs,O,c,r,z,q⟩=>⟨by rw[<-r.length];exact z,?_⟩)
 have g:O a.ai=none:=c.aB.fresh (aN _);refine⟨.ref a.ai,upd O a.ai (.tup xs),c.laid (t':=a.toks) (λb u e=>bu _ e) (aN _) ?_,rfl,q _ g⟩;exact⟨z,us,r,⟨_,cm _ rfl,rfl,_,rfl,rfl⟩⟩
theorem d5(h:PA X es t):PE X (.List es pos) (Kg t):=by
 intro J s σ H Q I d;refine wpAny_List_spliced (ay (h pos J s σ H _ I d) λus a ⟨xs,O,c,r,z,q⟩=>⟨by rw[<-r.length];exact z,?_⟩)
 have f:O a.ai=none:=c.aB.fresh (aN _);refine⟨.ref a.ai,upd O a.ai (.lst xs),c.laid (t':=a.toks) (λb u e=>bu _ e) (aN _) ?_,rfl,q _ f⟩;exact⟨z,us,0,r,cm _ rfl⟩
end
abbrev Sp:=List V->Hp->VK->XK->Prop
end L2
variable{sp:L2.Sp}
namespace L2
open Spec PyProof.Rows
abbrev gN:=List Uy->Hp->Pn->XK->CS->Pn->Prop
structure ju(P:Tj)(w:Tw)(K:Pw)(mg:Pd->Option CS)(base:To)(A:TJ)(outer:List Uy)(s:Pn)(H:Hp):Prop where
 frames:A.frames=ih outer
 mod:Mod K mg base
 bs:∀b o,base.get? b=ih o->s.heap.get? b=ih o/\H b=none
 iN:base.objs.size<=s.ai
 gs:s.heap.FunFrames base outer
 jy:∀b∈gM outer,H b=none
 aB:cF P w H s.heap
 bare:Um s.gens
def CE(outer:List Uy)(P:Tj)(w:Tw)(H:Hp)(s:Pn)(Q:VK)(u:CS)(s':Pn):Prop:=
 ∃v Y,s'.os=s.os/\Um s'.gens/\Un (gM outer) [] H Y s.heap s'.heap/\cF P w Y s'.heap/\RelV v u/\Q v Y
def CR(CX:gN)(outer:List Uy)(P:Tj)(w:Tw)(H:Hp)(s:Pn)(Q:VK)(E:XK)(r:Result)(s':Pn):Prop:=
 match r with
 |.ok (.ret u)=>CE outer P w H s Q u s'
 |.ok _=>False
 |.error e=>CX outer H s E e s'
structure aM(P:Tj)(w:Tw)(K:Pw)(mg:Pd->Option CS)(base:To)(CX:gN)(k:Nat)(f:Ph)(fd:Ta)(ps:List Pd)(sp:Sp):Prop where
 len:∀vs H Q E,sp vs H Q E->vs.length=ps.length
 run:∀(A:TJ) (outer:List Uy) (s:Pn) (H:Hp) (args:Args) (us:List CS) (vs:List V) (Q:VK) (E:XK),aS k A->ju P w K mg base A outer s H->UK s fd args (ps.zip us)->Vals vs us->sp vs H Q E ->
  codeAny (Qu P w) A (.call (.ref f) args) (CR CX outer P w H s Q E) s
theorem ju.make{a:al Uy}(e:ju P w K mg base A a s H)(C:Ph)(us:al CS)(kw:al (Pd×CS)) :
  ju P w K mg base (A.under (.builtin "type.__call__" ⟨.ref C::us,kw⟩)) a s H:=⟨by first|exact e.frames|(simpa [Ut,Code.envs,UL,pushEnvs] using e.frames),e.mod,e.bs,e.iN,e.gs,e.jy,e.aB,e.bare⟩
theorem Inv.Bd(I:Inv X J σ H s):ju X.prog X.w X.K X.mg X.base X.A X.stack s H:=
 ⟨I.ok.frames,I.ok.mod,I.bs,ed I.ok.iN I.sz,I.stack,I.wM,I.aB,I.bare⟩
theorem Inv.after(I:Inv X J σ H s)(h:CE X.stack X.prog X.w H s Q u s'):EP X J σ Q u s':=by
 obtain⟨v,Y,os,a,un,c,r,q⟩:=h;obtain⟨f,g,d,t,e⟩:=s';obtain rfl:e=s.os:=os;exact⟨v,Y,I.call (h':=f) (g':=g) (d':=d) (t':=t) (ch:=[]) un c a (λb z=>absurd z (by simp)),r,q⟩
def AM(sp:Sp)(Qf:List V)(E:XK)(t:TA):TE:=λσ H Q=>t σ H λvs O=>sp (vs++Qf) O Q E
def AN(C:Ph)(m:Pd)(sp:Sp)(Qf:List V)(E:XK)(ta:TE)(t:TA):TE:=λσ H Q=>ta σ H λx O=>∃a dx fs,x=.ref a/\O a=ih (.ins C dx fs)/\fs.lookup m=none /\
 t σ O λvs H2=>sp (x::(vs++Qf)) H2 Q E
def AO(C:Ph)(sp:Sp)(Qf:List V)(E:XK)(t:TA):TE:=λσ H Q=>t σ H λvs O=>∀x dx,O x=none->O dx=none->dx≠x ->
 sp (.ref x::(vs++Qf)) (upd (upd O dx (.own x)) x (.ins C dx [])) (λv H2=>v=.aJ/\Q (.ref x) H2) E
def Binds(K:Pw)(fd:Ta)(ps:List Pd)(ds:List CS):Prop:=
 ∀(s:Pn) (us:List CS),K.In s.heap->(us++ds).length=ps.length->UK s fd ⟨us,[]⟩ (ps.zip (us++ds))
theorem Binds.all(h:∀us:al CS,us.length=ps.length->bindArgs fd ⟨us,[]⟩=pure (ps.zip us)):Binds K fd ps []:=λs us _ a=>by
 rw[eY]at a⊢;exact .of_eq (h us a)
def Passes(CX:gN)(X:Cx)(E:XK):Prop:= ∀(J:List (Ph×Ue)) (σ:St) (H:Hp) (s:Pn) (e:CS) (s':Pn),Inv X J σ H s->CX X.stack H s E e s'->X.xe e s'
section
variable{CX:gN}{k:Nat}{Qf:al V}{ds:al CS}{E:XK}{m:Pd}{p:VT}{o:QD}{t:TA}
theorem rv(F:aM X.prog X.w X.K X.mg X.base CX k f fd ps sp)(c:aS k X.A)(d:Binds X.K fd ps ds)(g:Vals Qf ds)(i:Passes CX X E)
  (I:Inv X J σ H s) (r:Vals vs us) (h:sp (vs++Qf) H Q E):wA X (call (.ref f) us) (EP X J σ Q) X.xe s:=by
 have b:Vals (vs++Qf) (us++ds):=r.append g;have j:(us++ds).length=ps.length:=by rw[<-b.length];exact F.len _ _ _ _ h
 refine tG (tH (F.run X.A X.stack s H ⟨us,[]⟩ (us++ds) (vs++Qf) Q E c I.Bd (d s us I.cN j) b h) λr s' a=>?_);cases r with
 |error e=>exact i J σ H s e s' I a
 |ok l =>
  cases l with
  |ret u=>exact I.after a
  |next=>exact Tf a
  |brk=>exact Tf a
  |cont=>exact Tf a
theorem gX(F:aM X.prog X.w X.K X.mg X.base CX k f fd ps sp)(d:aS k X.A)(g:Gl X x)(i:X.mg x=ih (.ref f))(j:Tr X.K (.ref f)=true)(l:Binds X.K fd ps ds)(m:Vals Qf ds)(n:Passes CX X E)
  (o:PA X (e::es) t) (b:(x==("__debug__" : Pd))=false:=by decide) (u:SQ (e::es) X.env=(false,eval e X.env)::SQ es X.env:=by rfl) (c:(backTo pos (SQ es X.env)).any (·.1)=false:=by rfl) :
  PE X (.Call (.Name x p) (e::es) [] pos) (AM sp Qf E t):=by
 intro J s σ H Q I h;refine pY (nT I g i ?_ b);refine Cs (h₀:=X.base) I.ok.mod.mG j (ay (o pos J s σ H _ I h) λus v ⟨vs,O,a,r,q⟩=>⟨a.cN,?_⟩) u c;exact rv F d l m n a r q
theorem di{pl:UB Bool}(p:PE X o ta)(c:f9 X.K C)(b:Meth X.K C m f)(F:aM X.prog X.w X.K X.mg X.base CX k f fd ps sp)(v:aS k X.A)(y:Binds X.K fd ps ds)(z:Vals Qf ds)(B:Passes CX X E)(D:PA X (e::es) t)
  (j:SQ (e::es) X.env=(false,eval e X.env)::SQ es X.env:=by rfl) (n:(backTo pos (SQ es X.env)).any (·.1)=false:=by rfl)
  (G:eval (.Call (.Attribute o m Qi) (e::es) [] pos) X.env=(do
   let d <- eval o X.env
   standAt Qi.atName
   let (f,first) <- holding [d] (getMethod d m pl)
   callWith pos f first (backTo pos (SQ (e::es) X.env)) (backToKw pos (keywordEach [] X.env))):=by rfl) :
  PE X (.Call (.Attribute o m Qi) (e::es) [] pos) (AN C m sp Qf E ta t):=by
 intro J s σ H Q I h;refine Pq (pl:=pl) (ay (p J s σ H _ I h) λu L R=>?_) G;obtain⟨x,O,g,M,a,dx,fs,ex,N,l,q⟩:=R;subst ex;obtain rfl:u=PU a:=M;refine uI g N c b l ?_;refine Cs (first:=[.ref a]) (h₀:=X.base) I.ok.mod.mG b.kp (ay (D pos J L σ O _ g q) λus s2 ⟨vs,H2,i,r,P⟩=>⟨i.cN,?_⟩) j n;exact rv (us:=.ref a::us) (vs:=.ref a::vs) F v y z B i (.cons rfl r) P
theorem nM{pl:UB Bool}(g:PE X o ta)(c:f9 X.K C)(d:Meth X.K C m f)(F:aM X.prog X.w X.K X.mg X.base CX k f fd ps sp)(i:aS k X.A)(j:Binds X.K fd ps ds)(n:Vals Qf ds)(p:Passes CX X E)
  (r:eval (.Call (.Attribute o m Qi) [] [] pos) X.env=(do
   let e <- eval o X.env
   standAt Qi.atName
   let (f,first) <- holding [e] (getMethod e m pl)
   callWith pos f first (backTo pos (SQ [] X.env)) (backToKw pos (keywordEach [] X.env))):=by rfl) :
  PE X (.Call (.Attribute o m Qi) [] [] pos) (AN C m sp Qf E ta mn):=by
 intro J s σ H Q I h;refine Pq (pl:=pl) (ay (g J s σ H _ I h) λu y z=>?_) r;obtain⟨x,O,b,t,a,dx,fs,ex,v,l,q⟩:=z;subst ex;obtain rfl:u=PU a:=t;refine uI b v c d l ?_;exact Pr (first:=[.ref a]) b.cN d.kp (rv (us:=[.ref a]) (vs:=[.ref a]) F i j n p b (.cons rfl .nil) q)
structure Mk(K:Pw)(C f:Ph):Prop where
 makes:U3 K C=true
 init:Td K (.ref C) "__init__" = ih (ih (.ref f))
 fn:UG K (.ref f)=true
 kp:Tr K (.ref C)=true
theorem vL(M:Mk X.K C f)(F:aM X.prog X.w X.K X.mg X.base CX k f fd ps sp)(g:aS (k+1) X.A)(i:Binds X.K fd ps ds)(j:Vals Qf ds)
  (l:Passes CX X E) (I:Inv X J σ H s) (r:Vals vs us)
  (h:∀x dx,H x=none->H dx=none->dx≠x->sp (.ref x::(vs++Qf)) (upd (upd H dx (.own x)) x (.ins C dx [])) (λv H2=>v=.aJ/\Q (.ref x) H2) E) :
  wA X (call (.ref C) us) (EP X J σ Q) X.xe s:=by
 have c:=h (s.ai+1) s.ai (I.aB.fresh (jK _)) (I.aB.fresh (aN _)) (cn (Vk _));have b:=Inv.made (C:=C) I;have d:Vals (V.ref (s.ai+1)::(vs++Qf)) (PU (s.ai+1)::(us++ds)):=.cons rfl (r.append j);have m:(PU (s.ai+1)::us++ds).length=ps.length:=by
  have e:=d.length;rw[F.len _ _ _ _ c]at e;exact e.symm
 refine tG (EW (f:=f) I.cN M.makes M.init (i1.mp M.fn) (tH (F.run _ X.stack _ _ ⟨PU (s.ai+1)::us,[]⟩ (PU (s.ai+1)::(us++ds)) _ _ E (g.make C us [])
  (b.Bd.make C us []) (i _ (PU (s.ai+1)::us) b.cN m) d c) λr s' a=>?_))
 cases r with
 |error e=>exact l J σ _ _ e s' b a
 |ok n =>
  cases n with
  |ret u =>
   obtain⟨v,Y,o,p,q,t⟩:=b.after a;subst q;exact⟨p,⟨V.ref (s.ai+1),Y,o,rfl,t⟩⟩
  |next=>exact Tf a
  |brk=>exact Tf a
  |cont=>exact Tf a
theorem F0(M:Mk X.K C f)(F:aM X.prog X.w X.K X.mg X.base CX k f fd ps sp)(d:aS (k+1) X.A)(g:Gl X x)(i:X.mg x=ih (.ref C))(j:Binds X.K fd ps ds)(l:Vals Qf ds)(m:Passes CX X E)
  (n:PA X (e::es) t) (b:(x==("__debug__" : Pd))=false:=by decide) (o:SQ (e::es) X.env=(false,eval e X.env)::SQ es X.env:=by rfl) (c:(backTo pos (SQ es X.env)).any (·.1)=false:=by rfl) :
  PE X (.Call (.Name x p) (e::es) [] pos) (AO C sp Qf E t):=by
 intro J s σ H Q I h;refine pY (nT I g i ?_ b);refine Cs (h₀:=X.base) I.ok.mod.mG M.kp (ay (n pos J s σ H _ I h) λus u ⟨vs,O,a,r,q⟩=>⟨a.cN,?_⟩) o c;exact vL M F d j l m a r q
theorem EX(M:Mk X.K C f)(F:aM X.prog X.w X.K X.mg X.base CX k f fd ps sp)(b:aS (k+1) X.A)(c:Gl X x)(d:X.mg x=ih (.ref C))(e:Binds X.K fd ps ds)(g:Vals Qf ds)(i:Passes CX X E)
  (a:(x==("__debug__" : Pd))=false:=by decide):PE X (.Call (.Name x p) [] [] pos) (AO C sp Qf E mn):=by
 intro J s σ H Q I h;refine pY (nT I c d ?_ a);exact Pr I.cN M.kp (vL (us:=[]) M F b e g i I .nil h)
end
structure aZ(N P:List Pd)(sc:TY):Prop where
 kind:sc.kind=.function
 co:sc.isCoroutine=false
 gen:sc.isGenerator=false
 nd:N.Nodup
 pre:N.take P.length=P
 par:∀x∈P,sc.names.lookup x=ih .local\/sc.names.lookup x=ih .cell
 Hm:∀y∈sc.names,y.2 ≠ .free
theorem u6{kindOf:Pd->Option Tp}{x:Pd}:∀{binds:al (Pd×CS)}{m:Pd->Option CS},(∀v,(x,v)∉ binds)->bindL kindOf binds m x=m x
 |[],_,_=>rfl
 |(n,v)::r,m,h=>by
  unfold bindL;rw[u6 λw a=>h w (bL _ a)];split
  ·have:x≠n:=by rintro rfl;exact h v bJ
   simp[this]
  ·rfl
theorem u7{kindOf:Pd->Option Tp}{x:Pd}:∀{binds:al (Pd×CS)}{m:Pd->Option CS},(∀v,(x,v)∉ binds)->bindC kindOf binds m x=m x
 |[],_,_=>rfl
 |(n,v)::r,m,h=>by
  unfold bindC;rw[u7 λw a=>h w (bL _ a)];split
  ·rfl
  ·have:x≠n:=by rintro rfl;exact h v bJ
   simp[this]
theorem u9{kindOf:Pd->Option Tp}{x:Pd}{v:CS}:∀{P:al Pd}{vs:al CS}{i:Nat}{m:Pd->Option CS},P.Nodup->P[i]?=ih x->vs[i]?=ih v->kindOf x=ih .local ->
  bindL kindOf (P.zip vs) m x=ih v
 |[],_,_,_,_,h,_,_=>by simp at h
 |_::_,[],_,_,_,_,h,_=>by simp at h
 |p::P,w::vs,0,m,nd,h1,h2,a=>by
  simp at h1 h2;subst h1;subst h2;show bindL kindOf ((p,w)::P.zip vs) m p=_;unfold bindL;rw[u6 λv b=>(d0.mp nd).1 (Ct b).1,aI a];simp
 |p::P,w::vs,i+1,m,nd,h1,h2,a=>by
  show bindL kindOf ((p,w)::P.zip vs) m x=_;unfold bindL;exact u9 (i:=i) (d0.mp nd).2 (by simpa using h1) (by simpa using h2) a
theorem va{kindOf:Pd->Option Tp}{x:Pd}{v:CS}:∀{P:al Pd}{vs:al CS}{i:Nat}{m:Pd->Option CS},P.Nodup->P[i]?=ih x->vs[i]?=ih v->kindOf x≠ih .local ->
  bindC kindOf (P.zip vs) m x=ih v
 |[],_,_,_,_,h,_,_=>by simp at h
 |_::_,[],_,_,_,_,h,_=>by simp at h
 |p::P,w::vs,0,m,nd,h1,h2,a=>by
  simp at h1 h2;subst h1;subst h2;show bindC kindOf ((p,w)::P.zip vs) m p=_;unfold bindC;rw[u7 λv b=>(d0.mp nd).1 (Ct b).1,ax a];simp
 |p::P,w::vs,i+1,m,nd,h1,h2,a=>by
  show bindC kindOf ((p,w)::P.zip vs) m x=_;unfold bindC;exact va (i:=i) (d0.mp nd).2 (by simpa using h1) (by simpa using h2) a
def start(N:List Pd)(vs:List V):St:=vs.map ih++TH (N.length - vs.length) none
def iG(CX:gN)(P:Tj)(w:Tw)(K:Pw)(mg:Pd->Option CS)(base:To)(N:List Pd)(qual:Pd)(scope:TY)(f:Ph)(cd:CS)(A:TJ)(outer:List Uy)(s:Pn)(H:Hp)(E:XK):Cx where
 prog:=P
 w:=w
 K:=K
 mg:=mg
 base:=base
 A:=A.deeper (envOfC qual scope s.ai f cd)
 N:=N
 eo:=s
 h9:=H
 env:=envOfC qual scope s.ai f cd
 outer:=outer
 stack:=envOfC qual scope s.ai f cd::outer
 ex:=[]
 calm:=true
 fn:=λ_=>true
 pn:=[]
 xe:=λe s'=>Px (Qu P w) (A.deeper (envOfC qual scope s.ai f cd)) (leaving (envOfC qual scope s.ai f cd) e) (λ_ sN=>CX outer H s E e sN) (λe' sN=>CX outer H s E e' sN) s'
theorem qH{n:Nat}(h:sc.names.lookup x=ih .cell):∃c,(cellsFrom n sc.names []).lookup x=ih c:=by
 have q:=Pt sc.names n [] (.inl h);exact Pu.mp q
theorem Eb{CX:gN}{j:CS}{l:al Uy}{t:Pn}{E:XK}
  (S:aZ N ps scope) (D:A.handled=none) (d:ju P w K mg base A l s H) (J:vs.length=ps.length) (r:Vals vs us)
  (x:InCallC s s.heap.objs.size (bindL (envOfC qual scope s.heap.objs.size f j).kindOf (ps.zip us) λ_=>none) (cellsFrom (s.heap.objs.size+1) scope.names []) (bindC (envOfC qual scope s.heap.objs.size f j).kindOf (ps.zip us) λ_=>none) t) :
  Inv (iG CX P w K mg base N qual scope f j A l s H E) [] (start N vs) H t:=by
 have I:ps.length<=N.length:=by have:=dc TV S.pre;rw[cj]at this;omega
 obtain⟨h1,tk,rfl,B⟩:=x.done;have m:∀b:Ph,b ∉ (iG CX P w K mg base N qual scope f j A l s H E).ex:=λb z=>absurd (show b∈([]:al Ph) from z) (by simp)
 refine⟨⟨d.mod,S.kind,rfl,rfl,aN _,λy z c h1 h2=>?_,λy hy=>?_,λy c _ h=>?_,λ_=>D,Around.frames_deeper d.frames,.inr ⟨rfl,rfl⟩,λb z=>absurd z (m b),d.bs,d.iN,λb _ _=>m b,λb z=>absurd z (m b),d.gs,d.jy⟩,
  rfl,d.bare,Un.kept B,⟨_,x.toInCall.ns,λi y v h1 h2 L=>?_⟩,λy c h=>⟨_,x.cell y c h⟩,d.aB.fresh (aN _),λy c h=>?_,λp g=>absurd (show p∈([]:al (Ph×Ue)) from g) (by simp),d.aB.kept B,?_⟩
 ·exact name_of_addr x.apart (ij h1) (ij h2)
 ·have hy:scope.names.lookup y=ih .cell\/scope.names.lookup y=ih .free:=hy
  rcases hy with hy|hy
  ·exact qH hy
  ·exact absurd rfl (S.Hm _ (ij hy))
 ·exact pW (x.above y c (ij h))
 ·have hi:i<vs.length:=by
   unfold start at h2
   by_cases hi:i<vs.length
   ·exact hi
   ·rw[List.getElem?_append_right (by simpa using hi)]at h2
    rw[List.getElem?_replicate]at h2;split at h2 <;> cases h2
  have F:vs[i]?=ih v:=by
   unfold start at h2;rw[List.getElem?_append_left (by simpa using hi),cR]at h2
   cases e:vs[i]? with
   |none=>rw[e]at h2;cases h2
   |some a=>rw[e]at h2;cases h2;rfl
  obtain⟨u,C,G⟩:=r.get F;have g:ps[i]?=ih y:=by
   rw[<-S.pre,List.getElem?_take_of_lt (by omega)];exact h1
  have o:ps.Nodup:=by rw[<-S.pre];exact S.nd.sublist (k5 _ _)
  refine⟨u,G,?_⟩;rcases S.par y (eF g) with k|k
  ·exact .inl ⟨k,u9 o g C k⟩
  ·obtain⟨c,e⟩:=qH (n:=s.heap.objs.size+1) k
   refine .inr ⟨.inl k,c,e,?_⟩;have q:=x.cell y c e;rw[va o g C (by show scope.names.lookup y≠_;rw[k];decide)]at q
   exact q
 ·exact d.aB.fresh (pW (x.above y c (ij h)))
 ·unfold start
  show _=N.length;rw[dA,aK,Cu];omega
theorem AQ{CX:gN}{k:Nat}{l:Arguments}{B kV:CS}(lk:K.lookup f=ih ⟨oc,od,.func (Ti name qual l body scope B kV Qb pm an Qa ct),Qk⟩)(J:TX K Qa qual=true)(S:aZ N ps scope)
  (m:∀vs H Q E,sp vs H Q E->vs.length=ps.length)
  (F:∀(A:TJ) (c:al Uy) (s:Pn) (H:Hp) (vs:al V) (Q:VK) (E:XK),aS k (A.deeper (envOfC qual scope s.ai f Qa))->sp vs H Q E ->
   ∃t,eJ (iG CX P w K mg base N qual scope f Qa A c s H E) body t/\t { nx:=λ_ Y=>Q .aJ Y,rt:=Q } (start N vs) H) :
  aM P w K mg base CX (k+1) f (Ti name qual l body scope B kV Qb pm an Qa ct) ps sp:=by
 refine⟨m,λA c s H args us vs Q E i g M r p=>?_⟩;have O:=m _ _ _ _ p;have C:K.In s.heap:=g.mod.mG.keeps λb o e=>(g.bs b o e).1;have L:s.heap.NoLimit:=g.mod.nolimit.keeps λb o e=>(g.bs b o e).1;have G:∀y∈ps.zip us,scope.names.lookup y.1=ih .local\/(scope.names.lookup y.1=ih .cell/\((cellsFrom (s.ai+1) scope.names []).lookup y.1).isSome=true):=λ⟨n,v⟩ R=>by
  rcases S.par n (Ct R).1 with q|q
  ·exact .inl q
  ·exact .inr ⟨q,Pt _ _ _ (.inl q)⟩
 refine codeAny_call_function i.depth (C _ _ lk) rfl S.co S.gen rfl (PySem.W.codeRec_of C J) (M _ _ _ _ ?_);refine wpAny_newFunctionEnv_cells S.kind G λenv T D x=>?_;subst T;refine⟨L.keeps x.toInCall.keep,codeAny_func ?_⟩;obtain⟨t,U,X⟩:=F A c s H vs Q E (i.deeper _) p;have I:Inv (iG CX P w K mg base N qual scope f Qa A c s H E) [] (start N vs) H D:=Eb S i.hd g O r x;refine i0 (U [] D (start N vs) H _ I X) (λxa s' d=>?_) λe s' d=>d;have z:∀{h:St}{Y:Hp}{v:V}{u:CS},Inv (iG CX P w K mg base N qual scope f Qa A c s H E) [] h Y s'->RelV v u->Q v Y->CE c P w H s Q u s':=
  λ{h Y v u} a j q=>⟨v,Y,a.os,a.bare,a.base,a.aB,j,q⟩
 cases xa with
 |ret u =>
  obtain⟨v,h,Y,a,j,q⟩:=d;exact z a j q
 |next =>
  obtain⟨h,Y,a,q⟩:=d;exact z (v:=V.aJ) (u:=SV) a rfl q
 |brk =>
  obtain⟨_,_,_,q⟩:=d;exact Tf q
 |cont =>
  obtain⟨_,_,_,q⟩:=d;exact Tf q
section
variable{p:VT}{t:TA}{id:String}{r:al V->Hp->VK->Prop}
def BW(r:List V->Hp->VK->Prop)(t:TA):TE:=λσ H Q=>t σ H λvs O=>r vs O Q
theorem bp(c:c8 X (.builtin id) r)(d:Gl X x)(f:X.mg x=none)(g:SR x=ih (.builtin id))(i:PA X (e::es) t)(j:x ≠ "__name__" :=by decide)(a:(x==("__debug__" : Pd))=false:=by decide)
  (k:SQ (e::es) X.env=(false,eval e X.env)::SQ es X.env:=by rfl) (b:(backTo pos (SQ es X.env)).any (·.1)=false:=by rfl):PE X (.Call (.Name x p) (e::es) [] pos) (BW r t):=by
 intro J s σ H Q I h;refine pY (j7 I d f g ?_ j a);exact WB (ay (i pos J s σ H _ I h) λus l ⟨vs,O,m,n,o⟩=>c J l σ O vs us Q m n o) k b
theorem dU(c:c8 X (.type T) r)(d:Gl X x)(f:X.mg x=none)(g:SR x=ih (.type T))(i:PA X (e::es) t)(j:x ≠ "__name__" :=by decide)(a:(x==("__debug__" : Pd))=false:=by decide)
  (k:SQ (e::es) X.env=(false,eval e X.env)::SQ es X.env:=by rfl) (b:(backTo pos (SQ es X.env)).any (·.1)=false:=by rfl):PE X (.Call (.Name x p) (e::es) [] pos) (BW r t):=by
 intro J s σ H Q I h;refine pY (j7 I d f g ?_ j a);exact tF (ay (i pos J s σ H _ I h) λus l ⟨vs,O,m,n,o⟩=>c J l σ O vs us Q m n o) k b
end
end L2
namespace HT
open PyProof.Rows
section
open SeqAt
open AutoSeq1 (wpAny_loadPart')
open MeetsSeq MeetsSeq2 MeetsSeq3
end
theorem F1{t:Ph}{vs ws:al CS}{Q:CS->Pn->Prop}(p:Tt s.heap t vs.toArray)(q:Tt s.heap b ws.toArray)(j:vs ≠ [])
  (h1:ws=[]->Q (.ref t) s) (h2:ws ≠ []->Q (.ref s.ai) { s with heap:=s.heap.push { cls:=.type "tuple",data:=.seq (vs++ws).toArray } })
  (hsz:vs.length+ws.length<=Pk):Px (Qu prog w) A (Tu .Add (.ref t) (.ref b)) Q E s:=by
 obtain⟨⟨cls,k,data,sl⟩,c,l,n,m⟩:=id p;obtain⟨⟨r,f,data2,g⟩,a,h,o,i⟩:=id q;simp only at l m h i;subst l m h i;have e:vs.toArray++ws.toArray=(vs++ws).toArray:=by simp
 by_cases d:ws=[]
 ·exact concat_meets ⟨_,c,rfl⟩ ⟨_,a,rfl⟩ Cw Cy Cz CA (CB _ _)
   (tuple_addW1 t b vs.toArray ws.toArray n o k f sl g (by simpa using j) (by simp[d])) ⟨c,a,h1 d⟩
 ·refine concat_meets ⟨_,c,rfl⟩ ⟨_,a,rfl⟩ Cw Cy Cz CA (CB _ _)
   (tuple_addW2 t b vs.toArray ws.toArray n o k f sl g (by simpa using j) (by simpa using d) (by rw[b9,b9];exact hsz)) ⟨c,a,?_⟩
  rw[e];exact h2 d
def a5(n d:Nat):Option Int->Nat
 |none=>d
 |some v=>if v<0 then (v+(n:Int)).toNat else min v.toNat n
theorem EY(n d:Nat):a5 n d none=d:=rfl
theorem F2(n d k:Nat):a5 n d (ih (k:Int))=min k n:=by
 show(if (k:Int)<0 then ((k:Int)+(n:Int)).toNat else min (k:Int).toNat n)=min k n;rw[ax (by omega),mX]
theorem Hn(n d:Nat)(b:d<=n)(o:am Int):a5 n d o<=n:=by
 cases o with
 |none=>exact b
 |some v =>
  show(if v<0 then (v+(n:Int)).toNat else min v.toNat n)<=n
  by_cases a:v<0
  ·rw[aI a];omega
  ·rw[ax a];exact Nat.min_le_right _ _
theorem wU(v:Int)(n d:Nat):(if v<0 then max (v+(n:Int)) 0 else min v (n:Int))=((a5 n d (ih v):Nat):Int):=by
 show(if v<0 then max (v+(n:Int)) 0 else min v (n:Int))=(((if v<0 then (v+(n:Int)).toNat else min v.toNat n):Nat):Int)
 by_cases a:v<0
 ·simp only[aI a];omega
 ·simp only[ax a];omega
theorem DO(lo hi:am Int)(n:Nat):TU lo hi 1 (n:Int)=(((a5 n 0 lo:Nat):Int),((a5 n n hi:Nat):Int)):=by
 have h1 : ¬ ((1:Int)<0):=by omega
 unfold TU;simp only[h1,gf];refine pZ ?_ ?_
 ·cases lo with
  |none=>rfl
  |some v=>exact wU v n 0
 ·cases hi with
  |none=>rfl
  |some v=>exact wU v n n
theorem DP(i j:Nat):Tq (i:Int) (j:Int) 1=j - i:=by
 unfold Tq;have h1:(1:Int)>0:=by omega
 simp only[h1,gg,Int.ediv_one];split <;> omega
theorem uK{v:CS}{o:am Int}{Q:am Int->Pn->Prop}(p:Uu v o)(h:Q o s):Px (Qu prog w) A (Wd v) Q E s:=by
 cases p with
 |none=>exact slicePart_none h
 |int i t=>exact slicePart_int h
theorem uq{lo:am Int}{n:Nat}{Q:Int×Int×Nat->Pn->Prop}(c:s.heap.IsSliceOf sl vl vu .none)(pl:Uu vl lo)(d:Uu vu hi)
  (h:Q (((a5 n 0 lo:Nat):Int),1,a5 n n hi - a5 n 0 lo) s):Px (Qu prog w) A (Ur (.ref sl) (pure (n:Int))) Q E s:=by
 obtain⟨os,a,e,b⟩:=id c;unfold Ur We;refine ah (ah (k6 a b (x:=vl) rfl (ah (k6 a b (x:=vu) rfl (ah (k6 a b (x:=.none) rfl (au ?_)))))));refine ah (slicePart_none ?_);show Px _ _ (if ((1:Int)==0)=true then _ else _) _ _ s;rw[ax (by decide)]
 refine ah (uK pl (ah (uK d (ah (au ?_)))));show Px _ _ (match TU lo hi 1 (n:Int) with|(lo,hi)=>pure (lo,(1:Int),Tq lo hi 1)) _ _ s;rw[DO lo hi n];show Px _ _ (pure (((a5 n 0 lo:Nat):Int),(1:Int),Tq ((a5 n 0 lo:Nat):Int) ((a5 n n hi:Nat):Int) 1)) _ _ s;rw[DP];exact au h
theorem EZ(xs:Array CS)(i k:Nat):((SY k).filterMap λ(m:Nat)=>xs[((i:Int)+(m:Int) * 1).toNat]?).toArray=((xs.toList.drop i).take k).toArray:=by
 have e:(λ(m:Nat)=>xs[((i:Int)+(m:Int) * 1).toNat]?)=λm=>xs[i+m]?:=by
  funext m
  have:((i:Int)+(m:Int) * 1).toNat=i+m:=by omega
  rw[this]
 rw[e];have:=pick_run xs i k;rw[List.filterMap_map]at this;have a:((λx=>xs[x]?) ∘ λx=>i+x)=λm=>xs[i+m]?:=rfl;rw[a]at this;rw[this]
theorem C9{t:Ph}{lo:am Int}{Q:CS->Pn->Prop}(b:Tt s.heap t items)(c:s.heap.IsSliceOf sl vl vu .none)(pl:Uu vl lo)(i:Uu vu hi)
  (j : ¬ (a5 items.size 0 lo=0/\a5 items.size items.size hi=items.size))
  (h:Q (.ref s.heap.objs.size) { s with heap:=s.heap.push { cls:=.type "tuple",data:=.seq ((items.toList.drop (a5 items.size 0 lo)).take (a5 items.size items.size hi - a5 items.size 0 lo)).toArray } })
  (hsz:items.size<=Pk):Px (Qu prog w) A (getItem (.ref t) (.ref sl)) Q E s:=by
 have a:sizeOk (.seq ((items.toList.drop (a5 items.size 0 lo)).take (a5 items.size items.size hi - a5 items.size 0 lo)).toArray):=by
  show((items.toList.drop (a5 items.size 0 lo)).take (a5 items.size items.size hi - a5 items.size 0 lo)).toArray.size<=Pk;rw[b9,cj,tI,mW];omega
 have l:a5 items.size items.size hi<=items.size:=Hn _ _ (aN _) hi;obtain⟨os,d,e,k⟩:=id c;have f:s.TypeIs (.ref sl) "slice" :=⟨os,d,e⟩;unfold getItem
 try with_reducible refine eM ?_
 first|refine ah (au ?_)|skip
 refine ah (wpAny_sequenceKey b.typeIs (by decide) ?_)
 refine ah (mY (name:=SW "__getitem__") b.typeIs mZ
  (il mZ b.typeIs entry_tuple_getitem ?_ (args_tuple_getitem _ _)))
 show Px _ _ (TM (.ref t) >>= _) _ _ s;refine ah (tupleItemsOf_ b ?_);refine ah (m1 f ?_);rw[aI (by decide)]
 refine ah (uq c pl i ?_);have g : ¬ ((((a5 items.size 0 lo:Nat):Int)==0&&(1:Int)==1&&(a5 items.size items.size hi - a5 items.size 0 lo)==items.size)=true):=by
  intro q;rw[m3,m3]at q;have n:((a5 items.size 0 lo:Nat):Int)=0:=eq_of_beq q.1.1;have o:a5 items.size items.size hi - a5 items.size 0 lo=items.size:=eq_of_beq q.2;exact j ⟨by omega,by omega⟩
 show Px _ _ (if (((a5 items.size 0 lo:Nat):Int)==0&&(1:Int)==1&&(a5 items.size items.size hi - a5 items.size 0 lo)==items.size)=true then _ else _) _ _ s;rw[ax g,EZ]
 first
  |exact ah (m:=Ts _) (gc (au ⟨_,rfl,au h⟩) a)
  |exact ah (m:=Ts _) (gc (ah (au (au ⟨_,rfl,au h⟩))) a)
  |exact ah (ah (m:=Ts _) (gc (au (au ⟨_,rfl,au h⟩)) a))
  |exact ah (ah (m:=Ts _) (gc (au ⟨_,rfl,au h⟩) a))
end HT
namespace L2
open Spec PyProof.Rows
abbrev TO:=St->Hp->(Option Int->Hp->Prop)->Prop
def PO(X:Cx)(e:Option QD)(t:TO):Prop:=
 ∀J s σ H (Q:Option Int->Hp->Prop),Inv X J σ H s->t σ H Q ->
  wA X (evalPart e X.env) (λu s'=>∃o Y,Inv X J σ Y s'/\Uu u o/\Q o Y) X.xe s
def F3:TO:=λ_ H Q=>Q none H
def IU(t:TE):TO:=λσ H Q=>t σ H λx O=>∃i,x=.int i/\Q (ih i) O
section
variable{lo hi:am QD}{tl th:TO}{p2:VT}
theorem gk:PO X none F3:=by
 intro J s σ H Q I h;rw[evalPart_none];exact au ⟨none,H,I,.none,h⟩
theorem gm(h:PE X e te):PO X (ih e) (IU te):=by
 intro J s σ H Q I a;rw[evalPart_some];refine ay (h J s σ H _ I a) λu f g=>?_;obtain⟨x,O,b,c,d⟩:=g;obtain⟨i,rfl,q⟩:=d;obtain⟨t,rfl⟩:=c;exact⟨ih i,O,b,.int i t,q⟩
def kR(X:Cx)(r:V->Option Int->Option Int->Hp->VK->Prop):Prop:=
 ∀J s σ H (x:V) (v vl vu:CS) (lo hi:Option Int) (sl:Ph) (Q:VK),Inv X J σ H s->RelV x v->s.heap.IsSliceOf sl vl vu .none->Uu vl lo->Uu vu hi->r x lo hi H Q ->
  ∃T id,typeLookup (.type T) "__getitem__" = pure (ih (.builtin id))/\s.TypeIs v T/\wA X (getItem v (.ref sl)) (EP X J σ Q) X.xe s
def Lo(r:V->Option Int->Option Int->Hp->VK->Prop)(te:TE)(tl th:TO):TE:=λσ H Q=>te σ H λx O=>tl σ O λl H2=>th σ H2 λu H3=>r x l u H3 Q
theorem gj{r:V->Option Int->Option Int->Hp->VK->Prop}(d:kR X r)(f:PE X e te)(g:PO X lo tl)(i:PO X hi th):PE X (.Subscript e (.Slice lo hi none p2) pos) (Lo r te tl th):=by
 intro J s σ H Q I h;refine Vx (ay (f J s σ H _ I h) λv j F=>?_);obtain⟨x,O,k,m,n⟩:=F;refine wpAny_Slice (ay (g J j σ O _ k n) λvl s2 ⟨l,H2,o,p,t⟩=>ay (i J s2 σ H2 _ o t) λvu a F=>?_);obtain⟨u,c,w,y,z⟩:=F;rw[evalPart_none];refine au ?_;have A:Inv X J σ c { a with heap:=a.heap.push { cls:=.type "slice",data:=.fields #[vl,vu,.none] } }:=w.kept (t':=a.toks) λb E q=>bu _ q;obtain⟨T,id,B,C,D⟩:=d J { a with heap:=a.heap.push { cls:=.type "slice",data:=.fields #[vl,vu,.none] } } σ c x v vl vu l u a.ai Q A m (VS ..) p y z;show wA X (subscriptTail e (.Slice lo hi none p2) v (.ref a.ai)) (EP X J σ Q) X.xe { a with heap:=a.heap.push { cls:=.type "slice",data:=.fields #[vl,vu,.none] } };exact tail_any (ops:=[.ref a.ai,v]) C B D (by with_unfolding_all rfl)
def d9(xs:List V)(lo hi:Option Int):List V:=(xs.drop (HT.a5 xs.length 0 lo)).take (HT.a5 xs.length xs.length hi - HT.a5 xs.length 0 lo)
theorem uC(xs:al V)(lo hi:am Int):(d9 xs lo hi).length<=xs.length:=by
 unfold d9;rw[cj,tI];omega
def Kh(K:Pw):V->Option Int->Option Int->Hp->VK->Prop:=λx lo hi H Q=>∃a xs,x=.ref a/\aO K H a xs /\
 ¬ (HT.a5 xs.length 0 lo=0/\HT.a5 xs.length xs.length hi=xs.length) /\∀p,H p=none->Q (.ref p) (upd H p (.tup (d9 xs lo hi)))
theorem Ho:kR X (Kh X.K):=by
 rintro J s σ H x v vl vu lo hi sl Q I f g i j ⟨a,xs,rfl,k,l,q⟩;cases f
 obtain⟨its,r,d,e⟩:=I.tuple k;have c:its.toArray.size=xs.length:=by rw[b9];exact r.length.symm
 refine⟨"tuple",_,mZ.lookup,d.typeIs,?_⟩;refine HT.C9 d g i j (by rw[c];exact l) ?_ (by rw[c];exact e)
 rw[c];refine⟨.ref s.ai,_,I.laid (t':=s.toks) (o:=.tup (d9 xs lo hi)) (λb m q=>bu _ q) (aN _) ?_,rfl,q _ (I.aB.fresh (aN _))⟩;exact⟨ed (uC xs lo hi) e,_,(r.drop (HT.a5 xs.length 0 lo)).take (HT.a5 xs.length xs.length hi - HT.a5 xs.length 0 lo),h6.new _ _⟩
def IV(K:Pw):R2:=λx y H Q=>∃a b xs ys,x=.ref a/\y=.ref b/\aO K H a xs/\aO K H b ys/\xs ≠ []/\xs.length+ys.length<=Pk /\
 (ys=[]->Q (.ref a) H)/\(ys ≠ [] ->∀p,H p=none->Q (.ref p) (upd H p (.tup (xs++ys))))
theorem Vals.q0(r:Vals xs us):us=[] ↔ xs=[]:=by
 cases r with
 |nil=>simp
 |cons _ _=>simp
theorem F4:cg X (Tu .Add) (IV X.K):=by
 rintro J s σ H x y v u Q I f g ⟨a,b,xs,ys,rfl,rfl,i,j,k,e,l,m⟩;cases f
 cases g
 obtain⟨its,d,n,_⟩:=I.tuple i;obtain⟨p,c,p2,_⟩:=I.tuple j;refine HT.F1 n p2 (λz=>k (d.q0.mp z)) (λz=>⟨.ref a,H,I,rfl,l (c.q0.mp z)⟩) (λz=>?_) (by rw[<-d.length,<-c.length];exact e)
 refine⟨.ref s.ai,_,I.laid (t':=s.toks) (o:=.tup (xs++ys)) (λb r q=>bu _ q) (aN _) ?_,rfl,m (λw=>z (c.q0.mpr w)) _ (I.aB.fresh (aN _))⟩;exact⟨by rw[dA];exact e,_,d.append c,h6.new _ _⟩
end
def jD(n:Nat)(i:Int):Option Nat:=if 0<=i then (if i<n then ih i.toNat else none) else if -(n:Int)<=i then ih (i+n).toNat else none
def cT{α:Type}(xs:List α)(i:Int):Option α:=(jD xs.length i).bind λj=>xs[j]?
theorem wV{n:Nat}{i:Int}(h:jD n i=ih j):seqIndex? i n=ih j/\j<n /\ -(n:Int)<=i/\i<n:=by
 unfold jD at h
 by_cases a:0<=i
 ·rw[aI a]at h
  by_cases h1:i<n
  ·rw[aI h1]at h
   have e:i.toNat=j:=c7 h;exact⟨by rw[tJ a h1,e],by omega,by omega,h1⟩
  ·rw[ax h1]at h;cases h
 ·rw[ax a]at h
  by_cases h1 : -(n:Int)<=i
  ·rw[aI h1]at h
   have e:(i+n).toNat=j:=c7 h;exact⟨by rw[seqIndex_neg (by omega) h1,e],by omega,h1,by omega⟩
  ·rw[ax h1]at h;cases h
theorem q1{α:Type}{xs:al α}{i:Int}{v:α}(h:cT xs i=ih v):∃j,seqIndex? i xs.length=ih j/\xs[j]?=ih v/\j<xs.length /\ -(xs.length:Int)<=i/\i<xs.length:=by
 unfold cT at h;cases e:jD xs.length i with
 |none=>rw[e]at h;cases h
 |some j =>
  rw[e]at h;obtain⟨h1,h2,a,b⟩:=wV e;exact⟨j,h1,h,h2,a,b⟩
theorem b6{α:Type}{xs:al α}{v:α}(h:xs[j]?=ih v):cT xs (j:Int)=ih v:=by
 have a:j<xs.length:=(bT.mp h).1;have e:jD xs.length (j:Int)=ih j:=by
  unfold jD;rw[aI (by omega),aI (by omega)];simp
 unfold cT;rw[e];exact h
def F5(b:QD):Prop:= ∀o i,subscripted b false o i=operate [o,i] (getItem o i)
def kS(X:Cx)(r:R2):Prop:=
 ∀(value slice:QD) J s σ H (x y:V) (v u:CS) (Q:VK),Inv X J σ H s->RelV x v->RelV y u->r x y H Q ->
  subscripted slice false v u=operate [v,u] (getItem v u)->wA X (subscriptTail value slice v u) (EP X J σ Q) X.xe s
def pD(X:Cx)(id:String)(r:V->List V->Hp->VK->Prop):Prop:=
 ∀J s σ H (x:V) (xs:List V) (v:CS) (us:List CS) (Q:VK),Inv X J σ H s->RelV x v->Vals xs us->r x xs H Q ->
  wA X (call (.builtin id) (v::us)) (EP X J σ Q) X.xe s
section
variable{a b:QD}
theorem aV{r:R2}(c:kS X r)(d:PE X a ta)(e:PE X b tb)(f:F5 b:=by exact λ_ _=>rfl):PE X (.Subscript a b pos) (kQ r ta tb):=by
 intro J s σ H Q I h;exact Vx (r9 d e I h λv u s2 x y H2 g i j q=>c a b J s2 σ H2 x y v u Q g i j q (f _ _))
def oQ(K:Pw):R2:=λx y H Q=>∃p xs i v,x=.ref p/\y=.int i/\aj K H p xs/\cT xs i=ih v/\Q v H
def oR(K:Pw):R2:=λx y H Q=>∃p xs i v,x=.ref p/\y=.int i/\aO K H p xs/\cT xs i=ih v/\Q v H
def Ki:R2:=λx y H Q=>∃z i c,x=.str z/\y=.int i/\z.length<=Pk/\cT z.cps.toList i=ih c/\Q (.str ⟨#[c]⟩) H
theorem cX:kS X (oQ X.K):=by
 intro value C J s σ H x y v u Q I k l h d;obtain⟨p,xs,i,z,rfl,rfl,m,n,q⟩:=h;cases k
 obtain⟨t,rfl⟩:=l;obtain⟨its,r,a,D⟩:=I.list m;obtain⟨j,h1,h2,E,o,A⟩:=q1 n;obtain⟨w,e,g⟩:=r.get h2;have B:=r.length;have F:=jf;have c:EP X J σ Q w s:=⟨z,H,I,g,q⟩
 by_cases f:0<=i
 ·have b:i.toNat=j:=by
   rw[tJ f A]at h1;exact c7 h1
  exact item_listR a.isList f (by omega) (by rw[b];simpa using e) c d
 ·have b:(i+(its.toArray.size:Int)).toNat=j:=by
   rw[seqIndex_neg (by omega) o]at h1
   rw[b9,<-B];exact c7 h1
  exact subscriptTail_builtinR (x:=w) a.isList.typeIs slot_list_getitem.lookup
   (wpAny_getItem_list_neg (Q:=λr s'=>r=w/\EP X J σ Q r s') a.isList (by omega) (by rw[b9] <;> omega) (by omega) (by rw[b];simpa using e) ⟨rfl,c⟩) d
theorem cE:kS X (oR X.K):=by
 intro value n J s σ H x y v u Q I d e h f;obtain⟨p,xs,i,z,rfl,rfl,g,k,q⟩:=h;cases d
 obtain⟨t,rfl⟩:=e;obtain⟨its,r,a,o⟩:=I.tuple g;obtain⟨j,h1,h2,A,B,C⟩:=q1 k;obtain⟨w,l,b⟩:=r.get h2;have m:=r.length;have D:=jf;have c:EP X J σ Q w s:=⟨z,H,I,b,q⟩;exact subscriptTail_builtinR (x:=w) a.typeIs slot_tuple_getitem.lookup
  (getItem_tuple (j:=j) (Q:=λr s'=>r=w/\EP X J σ Q r s') a (by omega) (by omega) (by rw[b9,<-m];exact h1) (by simpa using l) ⟨rfl,c⟩) f
theorem Ar:kS X Ki:=by
 intro value n J s σ H x y v u Q I a b h d;obtain⟨z,i,c,rfl,rfl,o,e,q⟩:=h;obtain⟨t,rfl⟩:=a;obtain⟨t',rfl⟩:=b;obtain⟨j,h1,h2,p,f,g⟩:=q1 e;have k:z.cps.toList.length=z.length:=by simp[WJ]
 rw[k]at h1 f g;have r:=jf;exact tail_any (typeIs_str s z t) slot_str_getitem.lookup (getItem_str (c:=c) (by
  have l:decide (i < -(2 ^ 63:Int))=false:=bS (by omega)
  have m:decide (i ≥ 2 ^ 63)=false:=bS (by omega)
  rw[l,m,VD]) (by rw[h1];simpa using h2) ⟨.str ⟨#[c]⟩,H,I.tok _,⟨_,rfl⟩,q⟩) d
theorem DQ(its:al CS)(n j:Nat)(u:CS):Tg (·.setIfInBounds j u) { cls:=.type "list",data:=.seq its.toArray n }={ cls:=.type "list",data:=.seq (its.set j u).toArray n }:=by
 simp[Tg]
theorem Inv.lst{J:al (Ph×Ue)}{σ:St}{H:Hp}{s:Pn}{p:Ph}{xs:al V}(I:Inv X J σ H s)(h:H p=bi xs) :
  ∃(its:al CS) (n:Nat),Vals xs its/\s.heap.get? p=ih { cls:=.type "list",data:=.seq its.toArray n }/\xs.length<=Pk:=by
 obtain⟨z,its,n,r,e⟩:=I.aB p _ h;exact⟨its,n,r,e,z⟩
theorem Inv.Hq{its':al CS}{n a:Nat}{f:Ue->Ue}(I:Inv X J σ H s)(h:H p=bi xs)
  (d:s.heap.get? p=ih { cls:=.type "list",data:=.seq its.toArray n }) (c:f { cls:=.type "list",data:=.seq its.toArray n }={ cls:=.type "list",data:=.seq its'.toArray a }) (r:Vals ys its') (hz:ys.length<=Pk) (t:Nat) :
  Inv X J σ (upd H p (.lst ys)) { s with heap:=s.heap.update p f,toks:=t }:=by
 have e:(s.heap.update p f).get? p=ih { cls:=.type "list",data:=.seq its'.toArray a }:=by
  rw[CC f d (by rw[c] <;> rfl),c]
 refine I.write (x:=p) (e:=p) (by rw[h];trivial) (.inl rfl) (λb u g q=>(tK _ _ (aQ g)).trans q) ⟨_,e⟩ ?_
 exact⟨hz,its',a,r,e⟩
def IW:V->V->V->Hp->(Hp->Prop)->Prop:=λo i v H Q=>∃p xs k j,o=.ref p/\i=.int k/\H p=ih (.lst xs)/\jD xs.length k=ih j/\Q (upd H p (.lst (xs.set j v)))
theorem set_list:A9 X IW:=by
 rintro J s σ H o i v A B u Q I m w x ⟨p,xs,k,j,rfl,rfl,d,y,q⟩;cases m
 obtain⟨t,rfl⟩:=w;obtain⟨its,n,r,a,z⟩:=I.lst d;obtain⟨h1,h2,e,f⟩:=wV y;have b:=r.length;have C:=jf;have g:Inv X J σ (upd H p (.lst (xs.set j v))) { s with heap:=s.heap.update p (Tg (·.setIfInBounds j u)) }:=
  I.Hq d a (DQ its n j u) (r.set x j) (by rw[List.length_set];exact z) s.toks
 by_cases l:0<=k
 ·have c:k.toNat=j:=by
   rw[tJ l f]at h1;exact c7 h1
  exact PySem.W.ki_setAt a l (by omega) (by rw[b9,<-b];exact f) (by rw[c];exact⟨_,g,q⟩)
 ·have c:(k+(its.toArray.size:Int)).toNat=j:=by
   rw[seqIndex_neg (by omega) e]at h1
   rw[b9,<-b];exact c7 h1
  exact PySem.W.ki_setBack a (by omega) (by rw[b9,<-b];exact e) (by omega) (by rw[c];exact⟨_,g,q⟩)
theorem Dm(lo hi:am Int)(n:Nat):(sliceBounds lo hi none n).1=((HT.a5 n 0 lo:Nat):Int)/\(sliceBounds lo hi none n).2.1=((HT.a5 n n hi:Nat):Int)/\(sliceBounds lo hi none n).2.2=1:=by
 refine⟨?_,?_,rfl⟩
 ·cases lo with
  |none=>simp[sliceBounds,HT.a5]
  |some i =>
   simp only[sliceBounds,HT.a5,U4,show(1:Int)>0 by decide,gg]
   by_cases h:i<0
   ·simp only[h,gg] <;> omega
   ·simp only[h,gf] <;> omega
 ·cases hi with
  |none=>simp[sliceBounds,HT.a5]
  |some i =>
   simp only[sliceBounds,HT.a5,U4,show(1:Int)>0 by decide,gg]
   by_cases h:i<0
   ·simp only[h,gg] <;> omega
   ·simp only[h,gf] <;> omega
theorem Dj(its:al CS)(lo hi:am Int):slicePick its.toArray lo hi none=((its.drop (HT.a5 its.length 0 lo)).take (HT.a5 its.length its.length hi - HT.a5 its.length 0 lo)).toArray:=by
 obtain⟨h1,h2,a⟩:=Dm lo hi its.toArray.size;unfold slicePick;rw[h1,h2,a];simp only[sliceRange_one,pick_run,b9] <;> rfl
def Be(K:Pw):V->Option Int->Option Int->Hp->VK->Prop:=λx lo hi H Q=>∃a xs,x=.ref a/\aj K H a xs /\∀p,H p=none->Q (.ref p) (upd H p (.lst (d9 xs lo hi)))
theorem iz:kR X (Be X.K):=by
 rintro J s σ H x v vl vu lo hi sl Q I e f g i ⟨a,xs,rfl,j,q⟩;cases e
 obtain⟨its,r,c,k⟩:=I.list j;have d:=r.length;refine⟨"list",_,slot_list_getitem.lookup,c.isList.typeIs,?_⟩;refine wpAny_getItem_list_slice c.isList f g i .none (by simp) ?_ (by rw[b9] <;> omega)
 rw[Dj,<-d];refine⟨.ref s.heap.objs.size,_,I.laid (t':=s.toks) (o:=.lst (d9 xs lo hi)) (λb l q=>bu _ q) (aN _) ?_,rfl,q _ (I.aB.fresh (aN _))⟩;exact⟨ed (uC xs lo hi) k,_,0,(r.drop (HT.a5 xs.length 0 lo)).take (HT.a5 xs.length xs.length hi - HT.a5 xs.length 0 lo),cm _ rfl⟩
def g0:V->Bool
 |.aJ=>true
 |.bl _=>true
 |.int _=>true
 |.str _=>true
 |_=>false
def iQ:V->V->Bool
 |.aJ,.aJ=>true
 |.bl a,.bl b=>a==b
 |.bl a,.int b=>(if a then 1 else 0)==b
 |.int a,.bl b=>a==(if b then 1 else 0)
 |.int a,.int b=>a==b
 |.str a,.str b=>a==b
 |_,_=>false
theorem Hs{x:V}{v:CS}(d:RelV y u)(c:RelV x v)(f:g0 y=true)(e:g0 x=true):VV A s u v (iQ y x):=by
 cases y with
 |aJ =>
  cases d
  cases x with
  |aJ=>cases c;exact WU _
  |bl b=>cases c;exact WX b
  |int b=>obtain⟨t,rfl⟩:=c;exact WW b t
  |str b=>obtain⟨t,rfl⟩:=c;exact WV b t
  |_=>exact absurd (show false=true from e) bM
 |bl a =>
  cases d
  cases x with
  |aJ=>cases c;exact W3 a
  |bl b=>cases c;exact W5 a b
  |int b=>obtain⟨t,rfl⟩:=c;exact W4 a b t
  |str b=>obtain⟨t,rfl⟩:=c;exact W2 a b t
  |_=>exact absurd (show false=true from e) bM
 |int a =>
  obtain⟨t',rfl⟩:=d;cases x with
  |aJ=>cases c;exact WY a t'
  |bl b=>cases c;exact W0 a t' b
  |int b=>obtain⟨t,rfl⟩:=c;exact WZ a t' b t
  |str b=>obtain⟨t,rfl⟩:=c;exact UI a t' b t
  |_=>exact absurd (show false=true from e) bM
 |str a =>
  obtain⟨t',rfl⟩:=d;cases x with
  |aJ=>cases c;exact WS a t'
  |bl b=>cases c;exact WT a t' b
  |int b=>obtain⟨t,rfl⟩:=c;exact UH a t' b t
  |str b=>obtain⟨t,rfl⟩:=c;exact WR a t' b t
  |_=>exact absurd (show false=true from e) bM
 |_=>exact absurd (show false=true from f) bM
def eu(x:V)(u:CS):Bool:=match u with
 |.none=>iQ .aJ x
 |.bool b=>iQ (.bl b) x
 |.int i _=>iQ (.int i) x
 |.str z _=>iQ (.str z) x
 |_=>false
theorem oe{x:V}(r:RelV y u)(f:g0 y=true):eu x u=iQ y x:=by
 cases y with
 |aJ=>cases r;rfl
 |bl b=>cases r;rfl
 |int i=>obtain⟨t,rfl⟩:=r;rfl
 |str z=>obtain⟨t,rfl⟩:=r;rfl
 |_=>exact absurd (show false=true from f) bM
theorem lQ{x:V}:∀{xs:al V}{us:al CS},Vals xs us->xs.all g0=true->us.any (eu x)=xs.any λy=>iQ y x
 |_,_,.nil,_=>rfl
 |y::xs,u::us,.cons r t,f=>by
  rw[VA,m3]at f;rw[jL,jL,oe r f.1,lQ t f.2]
theorem jY{A:TJ}{s:Pn}{x:V}{v:CS}(a:RelV x v)(b:g0 x=true):∀{xs:al V}{us:al CS},Vals xs us->xs.all g0=true ->∀u∈us,VV A s u v (eu x u)
 |_,_,.nil,_=>λu hu=>by cases hu
 |y::xs,u::us,.cons r t,f=>λc hu=>by
  rw[VA,m3]at f;rcases bU.mp hu with rfl|hu
  ·rw[oe r f.1];exact Hs r a f.1 b
  ·exact jY a b t f.2 c hu
def jE(x:V)(xs:List V):Bool:=xs.any λy=>iQ y x
def pE(K:Pw)(Lp:Bool):R2:=λx y H Q=>∃p xs,y=.ref p/\(aj K H p xs\/aO K H p xs)/\g0 x=true/\xs.all g0=true/\Q (.bl (if Lp then !jE x xs else jE x xs)) H
theorem i5:cg X (SU .In) (pE X.K false):=by
 rintro J s σ H x y v u Q I c e ⟨p,xs,rfl,hq,d,fs,q⟩;cases e
 rcases hq with hq|hq
 ·obtain⟨its,r,a,f⟩:=I.list hq
  refine SeqAt.in_listAt (eu x) a.isList (λw b=>jY c d r fs w (by simpa using b)) ⟨.bl _,H,I,rfl,?_⟩
  rw[show its.toArray.any (eu x)=its.any (eu x) by simp,lQ r fs]
  exact q
 ·obtain⟨its,r,a,f⟩:=I.tuple hq
  refine SeqAt.in_tupleAt (eu x) a (λw b=>jY c d r fs w (by simpa using b)) ⟨.bl _,H,I,rfl,?_⟩
  rw[show its.toArray.any (eu x)=its.any (eu x) by simp,lQ r fs]
  exact q
theorem Dn:cg X (SU .NotIn) (pE X.K true):=by
 rintro J s σ H x y v u Q I c e ⟨p,xs,rfl,hq,d,fs,q⟩;cases e
 rcases hq with hq|hq
 ·obtain⟨its,r,a,f⟩:=I.list hq
  refine SeqAt.notIn_listAt (eu x) a.isList (λw b=>jY c d r fs w (by simpa using b)) ⟨.bl _,H,I,rfl,?_⟩
  rw[show its.toArray.any (eu x)=its.any (eu x) by simp,lQ r fs]
  exact q
 ·obtain⟨its,r,a,f⟩:=I.tuple hq
  refine SeqAt.notIn_tupleAt (eu x) a (λw b=>jY c d r fs w (by simpa using b)) ⟨.bl _,H,I,rfl,?_⟩
  rw[show its.toArray.any (eu x)=its.any (eu x) by simp,lQ r fs]
  exact q
theorem ef:c8 X (.builtin "len") (λxs H Q=>∃p ys,xs=[.ref p]/\(aj X.K H p ys\/aO X.K H p ys)/\Q (.int ys.length) H):=by
 rintro J s σ H xs us Q I r ⟨p,ys,rfl,hq,q⟩;obtain⟨u,rfl,d⟩:=vals1 r;cases d
 have f:=jf;rcases hq with hq|hq
 ·obtain⟨its,b,c,e⟩:=I.list hq
  have a:=b.length;exact Calls.call_len_list c.isList (by simp only[b9] <;> omega) ⟨.int ys.length,H,I.tok _,⟨s.toks+1,by rw[b9,a]⟩,q⟩
 ·obtain⟨its,b,c,e⟩:=I.tuple hq
  have a:=b.length;exact len_tuple c (by simp only[b9] <;> omega) ⟨.int ys.length,H,I.tok _,⟨s.toks+1,by rw[b9,a]⟩,q⟩
theorem uw:c8 X (.builtin "len") (λxs H Q=>∃z,xs=[.str z]/\z.length<=Pk/\Q (.int z.length) H):=by
 rintro J s σ H xs us Q I r ⟨z,rfl,a,q⟩;obtain⟨u,rfl,t,rfl⟩:=vals1 r;have b:=jf;exact len_str (by omega) ⟨.int z.length,H,I.tok _,⟨_,rfl⟩,q⟩
theorem ll:c8 X (.type "list") (λxs H Q=>∃p ys,xs=[.ref p]/\(aj X.K H p ys\/aO X.K H p ys) /\∀l,H l=none->Q (.ref l) (upd H l (.lst ys))):=by
 rintro J s σ H xs us Q I r ⟨p,ys,rfl,hq,q⟩;obtain⟨u,rfl,v⟩:=vals1 r;cases v
 have m:∀(its:al CS),Vals ys its->ys.length<=Pk ->∀(h':To) (a:Nat),(∀b o',s.heap.get? b=ih o'->h'.get? b=ih o') ->
   h'.get? s.heap.objs.size=ih { cls:=.type "list",dict:=none,data:=.seq its.toArray a,slots:= #[] }->EP X J σ Q (.ref s.heap.objs.size) { s with heap:=h' }:=λits c d h' a f e =>
  ⟨.ref s.heap.objs.size,_,I.laid (t':=s.toks) f (aN _) (show bB X.prog X.w _ h' _ (.lst ys) from⟨d,its,a,c,e⟩),rfl,q _ (I.aB.fresh (aN _))⟩
 rcases hq with hq|hq
 ·obtain⟨its,c,g,d⟩:=I.list hq
  have t:=c.length;obtain⟨o,i,j,n,k⟩:=g.isList;exact call_list_seq p (.inl rfl) i j k (λh' a f e=>m its c d h' a f e) (by simp only[b9] <;> omega)
 ·obtain⟨its,c,g,d⟩:=I.tuple hq
  have t:=c.length;obtain⟨o,i,j,n,k⟩:=g;exact call_list_seq p (.inr rfl) i j k (λh' a f e=>m its c d h' a f e) (by simp only[b9] <;> omega)
theorem i3:c8 X (.type "tuple") (λxs H Q=>∃p ys,xs=[.ref p]/\((aj X.K H p ys /\∀l,H l=none->Q (.ref l) (upd H l (.tup ys)))\/(aO X.K H p ys/\Q (.ref p) H))):=by
 rintro J s σ H xs us Q I r ⟨p,ys,rfl,h⟩;obtain⟨u,rfl,i⟩:=vals1 r;cases i
 rcases h with⟨a,q⟩|⟨a,q⟩
 ·obtain⟨its,c,d,f⟩:=I.list a
  have m:=c.length;refine call_tuple_list d.isList (λh' j=>?_) (by simp only[b9] <;> omega)
  have g:Inv X J σ H { s with heap:=h' }:=I.kept (t':=s.toks) j;have k:Inv X J σ (upd H h'.objs.size (.tup ys)) { s with heap:=h'.push { cls:=.type "tuple",data:=.seq its.toArray } }:=
   g.laid (t':=s.toks) (λb o e=>bu _ e) (aN _) (show bB X.prog X.w _ _ _ (.tup ys) from⟨f,its,c,h6.new _ _⟩)
  exact⟨.ref h'.objs.size,_,k,rfl,q _ (g.aB.fresh (aN _))⟩
 ·obtain⟨its,c,d,f⟩:=I.tuple a
  exact call_tuple_same d ⟨.ref p,H,I,rfl,q⟩
def sO(K:Pw)(T:String)(x:V)(H:Hp):Prop:=match x with
 |.str _=>T = "str"
 |.int _=>T = "int"
 |.ref p=>(T = "list" /\∃xs,aj K H p xs)\/(T = "tuple" /\∃o,K.lookup p=ih o/\o.cls=.type "tuple" /\ o.dict=none) \/
   (T = "dict" /\ ((∃kvs,H p=ih (.dK kvs)) \/∃kvs,H p=ih (.dT kvs)))\/(T = "set" /\∃S n,H p=ih (.set S n))\/(T = "tuple" /\∃xs,Rd H p (.tup xs))
 |_=>False
theorem As{x:V}{v:CS}(I:Inv X J σ H s)(r:RelV x v)(ty:sO X.K T x H) :
  s.TypeIs v T /\∀a,v=.ref a ->∃ob,s.heap.get? a=ih ob/\ob.dict=none:=by
 cases x with
 |str z =>
  obtain⟨t,rfl⟩:=r;cases (show T = "str" from ty)
  exact⟨typeIs_str s z t,λ_ e=>nomatch e⟩
 |int i =>
  obtain⟨t,rfl⟩:=r;cases (show T = "int" from ty)
  exact⟨typeIs_int s i t,λ_ e=>nomatch e⟩
 |ref p =>
  cases r
  rcases ty with⟨rfl,xs,g⟩|⟨rfl,o,b,j,d⟩|⟨rfl,b⟩|⟨rfl,S,n,b⟩|⟨rfl,xs,g⟩
  ·obtain⟨its,_,h,_⟩:=I.list g
   refine⟨h.isList.typeIs,λa e=>?_⟩;cases e
   obtain⟨o,n,e,c,d,_⟩:=h;exact⟨o,e,d⟩
  ·refine⟨⟨o,I.cN p o b,j⟩,λa e=>?_⟩
   cases e
   exact⟨o,I.cN _ o b,d⟩
  ·have z:∃o,s.heap.get? p=ih o/\o.ExactDict:=by
    rcases b with⟨kvs,b⟩|⟨kvs,b⟩
    ·obtain⟨_,_,_,_,o,_,_,e,ex,_⟩:=I.aB p _ b
     exact⟨o,e,ex⟩
    ·obtain⟨_,_,_,_,o,_,_,e,ex,_⟩:=I.aB p _ b
     exact⟨o,e,ex⟩
   obtain⟨o,e,ex⟩:=z;refine⟨⟨o,e,ex.1⟩,λa f=>?_⟩;cases f
   exact⟨o,e,ex.2.1⟩
  ·obtain⟨o,_,_,_,e,ex,_⟩:=I.aB p _ b
   refine⟨⟨o,e,ex.1⟩,λa f=>?_⟩;cases f
   exact⟨o,e,ex.2.1⟩
  ·obtain⟨_,_,_,o,e,c,_,_,d⟩:=g.ok I.aB
   refine⟨⟨o,e,c⟩,λa f=>?_⟩;cases f
   exact⟨o,e,d⟩
 |_=>exact Tf ty
def Kj(K:Pw)(T:String)(r:V->List V->Hp->VK->Prop)(to:TE):TE:=λσ H Q=>to σ H λx O=>sO K T x O/\r x [] O Q
def Lq(K:Pw)(T:String)(r:V->List V->Hp->VK->Prop)(to:TE)(t:TA):TE:=λσ H Q=>to σ H λx O=>sO K T x O/\t σ O λxs H2=>r x xs H2 Q
variable{o:QD}{to:TE}{t:TA}{Qj:VT}{id:String}{r:V->List V->Hp->VK->Prop}
theorem Ht(g:PlainAttrs T)(e:Slot T name id)(f:typeOf (.builtin id)=pure (.type "method_descriptor"))(i:pD X id r)(j:PE X o to)
  (c:attributeBase o name X.env (eval o X.env)=eval o X.env:=by rfl) (d:(Qi.endLine==Qj.line)=true:=by rfl):PE X (.Call (.Attribute o name Qi) [] [] Qj) (Kj X.K T r to):=by
 intro J s σ H Q I h;refine wpAny_Call_method0_late c d (ay (j J s σ H _ I h) λv k m=>?_);obtain⟨x,O,a,b,ty,l⟩:=m;obtain⟨h1,h2⟩:=As a b ty;exact⟨T,id,g,e,f,h1,h2,UJ rfl (Py (i J k σ O x [] v [] Q a b .nil l))⟩
theorem gH(l:PlainAttrs T)(i:Slot T name id)(k:typeOf (.builtin id)=pure (.type "method_descriptor"))(m:pD X id r)(n:PE X o to)(p:PA X (e::es) t)
  (f:attributeBase o name X.env (eval o X.env)=eval o X.env:=by rfl)
  (j:((backTo Qj (SQ (e::es) X.env)).all (λx=>!x.1)&&(backToKw Qj (keywordEach [] X.env)).all (λx=>x.1.isSome)
   && decide ((e::es).length+([]:al Keyword).length+(if ([]:al Keyword).isEmpty then 0 else 1)<30))=true:=by rfl)
  (g:(Qi.endLine==Qj.line)=true:=by rfl) (q:SQ (e::es) X.env=(false,eval e X.env)::SQ es X.env:=by rfl) (d:(backTo Qj (SQ es X.env)).any (·.1)=false:=by rfl) :
  PE X (.Call (.Attribute o name Qi) (e::es) [] Qj) (Lq X.K T r to t):=by
 intro J s σ H Q I h;refine wpAny_Call_method_late f j g rfl (ay (n J s σ H _ I h) λv u B=>?_);obtain⟨x,O,a,b,ty,w⟩:=B;obtain⟨h1,h2⟩:=As a b ty;refine⟨T,id,l,i,k,h1,h2,?_⟩;have c:=p Qj J u σ O _ a w;rw[q]at c⊢;refine UJ (by show(false||(backTo Qj (SQ es X.env)).any (·.1))=false;rw[d] <;> rfl) (Calls.evalArgs_plain ?_)
 exact ay c λus s2 ⟨vs,H2,y,z,A⟩=>m J s2 σ H2 x vs v us Q y b z A
end
def mL(X:Cx)(id:String)(r:V->List V->Hp->VK->Prop):Prop:=
 ∀J s σ H (x:V) (xs:List V) (v:CS) (us:List CS) (Q:VK),Inv X J σ H s->RelV x v->Vals xs us->r x xs H Q ->
  wA X (call (.builtin id) (v::us)) (EP X J σ Q) X.xe s
theorem Vals.one:∀{x:V}{us:al CS},Vals [x] us ->∃u,us=[u]/\RelV x u:=by
 intro _ _ h;cases h with|cons r h=>cases h;exact⟨_,rfl,r⟩
theorem Vals.two:∀{x y:V}{us:al CS},Vals [x,y] us ->∃u v,us=[u,v]/\RelV x u/\RelV y v:=by
 intro _ _ _ h;cases h with|cons r h=>cases h with|cons q h=>cases h;exact⟨_,_,rfl,r,q⟩
theorem Vals.zero:∀{us:al CS},Vals [] us->us=[]
 |_,.nil=>rfl
theorem Vals.eraseIdx:∀{xs:al V}{us:al CS} (i:Nat),Vals xs us->Vals (xs.eraseIdx i) (us.eraseIdx i)
 |_,_,_,.nil=>.nil
 |_,_,0,.cons _ t=>t
 |_,_,i+1,.cons r t=>.cons r (Vals.eraseIdx i t)
theorem vb{α:Type}:∀(l:al α) (i:Nat),(l.eraseIdx i).length<=l.length
 |[],_=>aN _
 |_::_,0=>jK _
 |_::r,i+1=>Nat.succ_le_succ (vb r i)
section
variable{zs:al V}
theorem Inv.sg{its':al CS}{n:Nat}{f:Array CS->Array CS}(I:Inv X J σ H s)(a:H l=bi xs)
  (e:s.heap.get? l=ih { cls:=.type "list",data:=.seq its.toArray n }) (b:f its.toArray=its'.toArray) (c:Vals ys its') (hz:ys.length<=Pk) :
  Inv X J σ (upd H l (.lst ys)) { s with heap:=s.heap.update l (Tg f),toks:=t' }:=by
 have q:=W7 e f;rw[b]at q;refine I.write (x:=l) (e:=l) (by rw[a];exact trivial) (.inl rfl) (λh u d g=>(tK s.heap (Tg f) (aQ d)).trans g) ⟨_,q⟩ ?_
 exact⟨hz,its',_,c,q⟩
theorem Inv.Bf(I:Inv X J σ H s)(a:Vals ys its)(hz:ys.length<=Pk) :
  Inv X J σ (upd H s.ai (.lst ys)) { s with heap:=s.heap.push { cls:=.type "list",data:=.seq its.toArray },toks:=t' }:=
 I.laid (λ_ _ q=>bu _ q) (aN _) ⟨hz,its,0,a,cm _ rfl⟩
theorem Inv.fresh(I:Inv X J σ H s):H s.ai=none:=I.aB.fresh (aN _)
theorem Inv.kF(I:Inv X J σ H s)(a:H l=bi xs):xs.length<=Pk /\∃(its:al CS) (n:Nat),Vals xs its/\xs.length=its.length/\s.heap.get? l=ih { cls:=.type "list",data:=.seq its.toArray n }:=by
 obtain⟨z,its,n,r,e⟩:=I.aB l _ a;exact⟨z,its,n,r,r.length,e⟩
end
def F6:V->List V->Hp->VK->Prop:=λx vs H Q=>∃l xs y,x=.ref l/\vs=[y]/\H l=ih (.lst xs)/\xs.length<Pk/\Q .aJ (upd H l (.lst (xs++[y])))
theorem lz:mL X "list.append" F6:=by
 rintro J s σ H x vs v us Q I b c ⟨l,xs,y,rfl,rfl,a,f,q⟩;cases b
 obtain⟨u,rfl,d⟩:=c.one;obtain⟨z,its,n,r,g,e⟩:=I.kF a;refine p0 F.slot_list_append ⟨_,e,rfl⟩ F.entry_list_append (F.args_list_append_2 _ _) (PySem.list_append l its.toArray n u (by rw[b9];omega)) ⟨e,?_⟩
 refine⟨.aJ,_,I.sg (its':=its++[u]) a e (by simp) (r.append (.cons d .nil)) ?_,rfl,q⟩
 rw[dA,ip];omega
def Hu:V->List V->Hp->VK->Prop:=λx vs H Q=>∃l xs i k y,x=.ref l/\vs=[.int i]/\H l=ih (.lst xs) /\ -(2 ^ 63)<=i/\i<2 ^ 63/\seqIndex? i xs.length=ih k/\xs[k]?=ih y/\Q y (upd H l (.lst (xs.eraseIdx k)))
theorem E1:mL X "list.pop" Hu:=by
 rintro J s σ H x vs v us Q I c d ⟨l,xs,i,k,y,rfl,rfl,a,h1,h2,f,g,q⟩;cases c
 obtain⟨u,rfl,j⟩:=d.one;obtain⟨t,rfl⟩:=j;obtain⟨z,its,n,r,m,e⟩:=I.kF a;obtain⟨w,o,b⟩:=r.get g;refine p0 F.slot_list_pop ⟨_,e,rfl⟩ F.entry_list_pop (F.args_list_pop_2 _ _)
  (Xj l its.toArray n i t k w (fitsIndex_both h1 h2) (by rw[b9,<-m];exact f) (by rw[<-tL];exact o) (by rw[b9];omega)) ⟨e,?_⟩
 refine⟨y,_,I.sg (its':=its.eraseIdx k) a e ?_ (r.eraseIdx k) ?_,b,q⟩
 ·show its.toArray.eraseIdxIfInBounds k=(its.eraseIdx k).toArray
  rw[List.eraseIdxIfInBounds_toArray]
 ·have:=vb xs k
  omega
def Hv:V->List V->Hp->VK->Prop:=λx vs H Q=>∃l xs,x=.ref l/\vs=[]/\H l=ih (.lst xs)/\Q .aJ (upd H l (.lst []))
theorem E2:mL X "list.clear" Hv:=by
 rintro J s σ H x vs v us Q I c d ⟨l,xs,rfl,rfl,a,q⟩;cases c
 have b:=d.zero;subst b;obtain⟨z,its,n,r,f,e⟩:=I.kF a;refine p0 F.slot_list_clear ⟨_,e,rfl⟩ F.entry_list_clear (F.args_list_clear_1 _) (Xl l its.toArray n (by rw[b9];omega)) ⟨e,?_⟩
 exact⟨.aJ,_,I.sg (its':=[]) (ys:=[]) a e rfl .nil (bw _),rfl,q⟩
def Kk:R2:=λx y H Q=>∃l b xs zs,x=.ref l/\y=.ref b/\H l=ih (.lst xs)/\H b=ih (.lst zs)/\xs.length+zs.length<=Pk /\∀p,H p=none->Q (.ref p) (upd H p (.lst (xs++zs)))
theorem j':cg X (Tu .Add) Kk:=by
 rintro J s σ H x y v u Q I c d ⟨l,b,xs,zs,rfl,rfl,f,g,o,q⟩;cases c
 cases d
 obtain⟨z,its,n,r,p,e⟩:=I.kF f;obtain⟨t,a,w,i,m,j⟩:=I.kF g;refine PySem.P.add_list e j ?_ (by rw[b9,b9];omega)
 have k:its.toArray++a.toArray=(its++a).toArray:=by simp
 rw[k];exact⟨.ref _,_,I.Bf (t':=s.toks) (r.append i) (by rw[dA];omega),rfl,q _ I.fresh⟩
section
set_option maxRecDepth 100000 in
end
end L2
namespace BX
open W Calls PyProof.Rows
theorem Dd{P:WI}:∀(ns:al Int) (vs:al CS),WellAll P h vs (ns.map Wg)->U6 vs ns:=by
 intro ns
 induction ns with
 |nil =>
  intro vs w;rw[tM]at w;cases w
  exact .nil
 |cons n ns c =>
  intro vs w;rw[bV]at w;cases w with
  |cons a b =>
   cases a
   exact .cons _ _ (c _ b)
theorem Ec{l:U5}{n:Nat}(o:l.most=ih n){P:WI}{args:al WData}{e:al CS}
  (f:l.row.toRowW.claim.pre args=true) (k:WellAll P h e args) :
  ∃a vs ns,e=[PU a]/\args=[WData.list (ns.map Wg)]/\h.get? a=ih { cls:=.type "list",data:=.seq vs.toArray }/\U6 vs ns/\ns.length<=n:=by
 have m:WShape.hasAll [] args [.list .int]=true:=(pre_splitW f).1;have g:l.pre.holds [] { args:=args }=true:=(pre_splitW f).2;obtain⟨d,r,rfl,h1,h2⟩:=hasAllW_cons m;obtain rfl:=hasAllW_nil h2;obtain⟨xs,rfl,p⟩:=hasW_list h1;obtain⟨ns,rfl⟩:=items_int p;have i:ns.length<=n:=by
  unfold OpenLaw.pre at g;have b:(WTm.not (.lt (.lit (.int (n:Int))) (.len (.arg 0)))).holds [] { args:=[.list (ns.map .int)] }=true:=by
   have b:=(holds_andW g).1;rw[o]at b;exact b
  have c:=condW_of b (w_not (w_lt w_lit (w_len_list (w_arg rfl))));rw[aK]at c;refine Nat.le_of_not_lt λq=>?_;have s:(n:Int)<((ns.length:Nat):Int):=by omega
  first
   |(rw[a' s]at c;exact absurd c (by decide))
   |(simp at c;omega)
 cases k with
 |cons t u =>
  cases u
  cases t with
  |list v j=>exact⟨_,_,ns,rfl,rfl,v,Dd ns _ j,i⟩
theorem Ed(l:U5)(args:al WData):l.row.toRowW.claim.post args (.bool true) args=true:=
 postW_of (r:=l.row.toRowW) (X:=(true==true))
  (show VM [] (.bool true) .bool=true by first|rfl|decide|simp[VM,WShape.arms,WShape.armsAll])
  (show(WTm.eq .res (.lit (.bool true))).value [] { args:=args,res:=ih (.bool true),after:=args }=ih (.bool (true==true)) from w_eq_bool (w_res rfl) w_lit) rfl
theorem Dx{l:U5}{n:Nat}{q:Tj}{d:DefRec}
  (x:l.most=ih n) (s:d.params.defaults=[])
  (call:∀(w:Tw) (g b:Pn) (mg h:Pd->Option CS) (c:Ph) (o:Ue) (pm e Qb:CS) (a:Ph) (vs:al CS) (ns:al Int),
   Ground q Qm [] XP w g mg h b.heap->YP w b.heap ->
   b.heap.get? c=ih o->o.data=.func (docDef d.name d.params d.body d.scope pm e Qb)->b.heap.CodeRec e d.name->mg d.name=ih (.ref c) ->
   b.heap.get? a=ih { cls:=.type "list",data:=.seq vs.toArray }->U6 vs ns->ns.length<=n->b.gens = #[] ->
   codeAny (Qu l.prog w) callerA (.call (.ref c) ⟨[.ref a],[]⟩) (λr s'=>r=.ok (.ret (.bool true))/\OldK b.heap s'.heap/\s'.os=b.os/\Um s'.gens) b) :
  WalkO q Qm XP YP l.row.toRowW d [] (λf vs=>UU f vs):=by
 intro w g b mg h G y c o pm e Qb z kV A B t i u C args I M k J K v L;obtain rfl:z=.none:=Dflts.none i s;obtain rfl:kV=.none:=Dflts.noKw i;obtain⟨a,vs,ns,rfl,rfl,m,j,p⟩:=Ec x k v;refine enter_call (tH (call w g b mg h c o pm e Qb a vs ns G y A (fd_plain B) t u m j p C) λr s' D=>?_);obtain⟨rfl,h2,E,F⟩:=D;exact⟨.inl ⟨.bool true,.bool true,[],rfl,λ_=>rfl,.bool true,Ed l _,λ_=>⟨Ui,λ_ H=>(nomatch H)⟩⟩,h2,E,F⟩
end BX
namespace L2
open Spec PyProof.Rows
theorem vc:∀{vs:al CS}{ns:al Int},U6 vs ns->Vals (ns.map V.int) vs
 |_,_,.nil=>.nil
 |_,_,.cons n t h=>.cons ⟨t,rfl⟩ (vc h)
def sh(H:Hp):Prop:= ∀b,H b=none \/∃o xs,H b=ih (.aG o (.lst xs))
theorem E3{l:Pd->Option CS}{CX:gN}{k:Nat}{p:Ph}{c:Pn}{vs:al CS}{ns:al Int}
  (G:K.In c.heap) (C:c.heap.Ns P5 mg) (f:c.heap.Ns builtinsNs l) (U:∀x:Pd,x ≠ "__name__" -> l x=SR x) (Q:c.heap.NoLimit) (ya:c.gens = #[])
  (j:c.heap.get? a=ih { cls:=.type "list",data:=.seq vs.toArray }) (hi:U6 vs ns) (I:ns.length<=Pk) (za:aS k callerA)
  (F:∀base:To,K.In base->base.Ns P5 mg->aM P w K mg base CX k p fd [x] sp) (O:∀(s:Pn) (u:CS),UK s fd ⟨[u],[]⟩ [(x,u)])
  (W:∀H:Hp,sh H->aj K H a (ns.map V.int)->sp [.ref a] H (λv _=>v=.bl true) λ_ _ _=>False)
  (X:∀H e s',CX [] H c (λ_ _ _=>False) e s'->False) :
  codeAny (Qu P w) callerA (.call (.ref p) ⟨[.ref a],[]⟩) (λr s'=>r=.ok (.ret (.bool true))/\OldK c.heap s'.heap/\s'.os=c.os/\Um s'.gens) c:=by
 have J:=vc hi;have R:=hi.length;have B:∀H:Hp,sh H->aj K H a (ns.map V.int)->cF P w H c.heap->(∀b,H b≠none->b=a)->(H a≠none->K.lookup a=none) ->
   codeAny (Qu P w) callerA (.call (.ref p) ⟨[.ref a],[]⟩) (λr s'=>r=.ok (.ret (.bool true))/\OldK c.heap s'.heap/\s'.os=c.os/\Um s'.gens) c:=by
  intro H L xb D M hK;have A:∀{b:Ph}{o:Ue},c.heap.get? b=ih o->H b=none->(h8 c.heap H).get? b=ih o:=λe n=>ER e n;have xa:∀{b:Ph}{o:Ue}{es:Array SX}{ep:Nat},c.heap.get? b=ih o->o.data=.dict es ep->H b=none:=λ{b o es ep} e d=>by
   cases q:H b with
   |none=>rfl
   |some u =>
    have t:b=a:=M b (by rw[q];simp)
    subst t;rw[j]at e;cases e;have yb:Data.seq vs.toArray _=Data.dict es ep:=d;cases yb
  have i:∀{b:Ph}{m:Pd->Option CS},c.heap.Ns b m->(h8 c.heap H).Ns b m:=λ{b m} ⟨o,es,ep,e,d,r⟩=>⟨o,es,ep,A e (xa e d),d,r⟩;have E:K.In (h8 c.heap H):=λb o e=>A (G b o e) (by
   cases q:H b with
   |none=>rfl
   |some u =>
    have t:b=a:=M b (by rw[q];simp)
    subst t;rw[hK (by rw[q];simp)]at e;cases e)
  have zb:Mod K mg (h8 c.heap H):=⟨E,i C,⟨l,i f,U⟩,let ⟨xc,h1,h2⟩:=Q;⟨xc,i h1,h2⟩⟩;have yc:ju P w K mg (h8 c.heap H) callerA [] c H:=⟨rfl,zb,λb o e=>FT e,VY (D4 _ _),trivial,λb f=>absurd (show b∈([]:al Ph) from f) (by simp),D,.of_eq ya⟩
  refine tH ((F _ E (i C)).run callerA [] c H ⟨[.ref a],[]⟩ [.ref a] [.ref a] _ _ za yc (O c (.ref a)) (.cons rfl .nil) (W H L xb)) λr s' h=>?_;cases r with
  |error e=>exact(X H e s' h).elim
  |ok zc =>
   cases zc with
   |next=>exact Tf h
   |brk=>exact Tf h
   |cont=>exact Tf h
   |ret u =>
    obtain⟨v,Y,os,S,un,T,xd,q⟩:=h;have yd:v=.bl true:=q;subst yd;obtain rfl:u=TL true:=xd;refine⟨rfl,OldK.of_keep λb o e=>?_,os,S⟩;cases q:H b with
    |none=>exact un.keep b o e q (by intro z;exact absurd (show b∈([]:al Ph) from z) (by simp)) (by simp)
    |some u =>
     rcases L b with z|⟨zd,xs,z⟩
     ·rw[q]at z;cases z
     ·have z2:=un.h7 b zd _ z
      obtain⟨N,_⟩:=D b _ z;obtain⟨xe,_⟩:=T b _ z2;rw[e]at N;cases N;exact xe
 cases y:K.lookup a with
 |some o =>
  have e:=G a o y;rw[j]at e;cases e
  refine B (λ_=>none) (λ_=>.inl rfl) (.inr ⟨_,vs.toArray,_,y,rfl,rfl,rfl,by rw[b9,R];exact I,by simpa using J⟩) (λb u z=>by have g:(none:am HO)=ih u:=z;cases g) (λb z=>absurd rfl z) λz=>absurd rfl z
 |none =>
  refine B (λb=>if b=a then ih (.aG { cls:=.type "list",data:=.seq vs.toArray } (.lst (ns.map V.int))) else none) (λb=>?_) (.inl (.inr ⟨{ cls:=.type "list",data:=.seq vs.toArray },aI rfl⟩)) (λb u z=>?_) (λb z=>?_) λ_=>y
  ·by_cases f:b=a
   ·exact .inr ⟨_,_,aI f⟩
   ·exact .inl (ax f)
  ·by_cases f:b=a
   ·have g:=(aI f).symm.trans z
    cases g
    subst f;exact⟨j,by rw[aK];exact I,vs,_,J,j⟩
   ·have g:=(ax f).symm.trans z
    cases g
  ·by_cases f:b=a
   ·exact f
   ·exact absurd (ax f) z
theorem F7{l:PySem.W.OpenLaw}{n k:Nat}{q:Tj}{d:DefRec}{K:WI->Pw}{CX:Tw->gN}{sp:Tw->Sp}
  (C:l.most=ih n) (t:n<=Pk) (y:d.params.defaults=[]) (D:aS k callerA)
  (E:∀(w:Tw) (h:To),YP w h->(K w.params).In h)
  (F:∀(w:Tw) (mg:Pd->Option CS) (c:Ph) (h:To),(K w.params).In h->h.Ns P5 mg->mg d.name=ih (.ref c) ->
   ∃fd:Ta,(∀(s:Pn) (u:CS),UK s fd ⟨[u],[]⟩ [(x,u)]) /\
    ∀base:To,(K w.params).In base->base.Ns P5 mg->aM l.prog w (K w.params) mg base (CX w) k c fd [x] (sp w))
  (z:∀(w:Tw) (H:Hp) (a:Ph) (ns:al Int),ns.length<=n->sh H->aj (K w.params) H a (ns.map V.int)->sp w [.ref a] H (λv _=>v=.bl true) λ_ _ _=>False)
  (A:∀(w:Tw) (H:Hp) (s:Pn) (e:CS) (s':Pn),CX w [] H s (λ_ _ _=>False) e s'->False) :
  PySem.W.WalkO q Qm XP YP l.row.toRowW d [] (λf vs=>UU f vs):=by
 refine BX.Dx C y λw P p mg R c o pm S Qb a vs ns G I U X Q B r m i J=>?_;have j:=E w _ I;obtain⟨fd,L,M⟩:=F w mg c _ j G.T.g B;exact E3 j G.T.g G.T.b G.T.builtins G.T.nolimit J r m (ed i t) D M L (λH N O=>z w H a ns i N O) λH e s'=>A w H p e s'
def inClass(s:QB)(j:Nat):QB:=match s with
 |.ClassDef _ _ _ body _ _ _ _ _ _ _=>body.getD j (.Pass ⟨0,0,0,0⟩)
 |_=>.Pass ⟨0,0,0,0⟩
def dj(s:QB):Arguments:=match s with
 |.FunctionDef _ a _ _ _ _ _ _ _ _=>a
 |_=>{ posonlyargs:=[],args:=[],vararg:=none,kwonlyargs:=[],kw_defaults:=[],kwarg:=none,defaults:=[] }
def bD(s:QB):List QB:=match s with
 |.FunctionDef _ _ b _ _ _ _ _ _ _=>b
 |_=>[]
def aF(s:QB):TY:=match s with
 |.FunctionDef _ _ _ _ _ _ sc _ _ _=>sc
 |_=>{ kind:=.function,names:=[],isGenerator:=false,isCoroutine:=false }
abbrev ao:gN:=λ_ _ _ _ _ _=>False
abbrev E0:XK:=λ_ _ _=>False
theorem b7:Passes ao X E0:=λ_ _ _ _ _ _ _ h=>h.elim
structure aP(K:Pw)(x qual:Pd)(st:QB)(f:Ph)(fd:Ta):Prop where
 ex:∃(oc:CS) (od:Option Ph) (kV Qb pm:CS) (an:Option Ph) (Qa ct:CS) (Qk:Array (Option CS)),
  fd=Ti x qual (dj st) (bD st) (aF st) .none kV Qb pm an Qa ct/\K.lookup f=ih ⟨oc,od,.func fd,Qk⟩/\TX K Qa qual=true
 kp:Tr K (.ref f)=true
theorem aP.ok{k:Nat}(F:aP K x qual st f fd)(S:aZ N ps (aF st))(c:∀vs H Q E,sp vs H Q E->vs.length=ps.length)
  (b:∀(Qa:CS) (A:TJ) (a:al Uy) (s:Pn) (H:Hp) (vs:al V) (Q:VK) (E:XK),aS k (A.deeper (envOfC qual (aF st) s.ai f Qa))->sp vs H Q E ->
   ∃t,eJ (iG ao P w K mg base N qual (aF st) f Qa A a s H E).jA (bD st) t/\t { nx:=λ_ Y=>Q .aJ Y,rt:=Q } (start N vs) H):aM P w K mg base ao (k+1) f fd ps sp:=by
 obtain⟨oc,od,kV,Qb,pm,an,Qa,ct,Qk,rfl,lk,d⟩:=F.ex;refine AQ lk d S c λA a s H vs Q E g e=>?_;obtain⟨t,h,q⟩:=b Qa A a s H vs Q E g e;exact⟨t,h.jA,q⟩
theorem aP.binds(F:aP K x qual st f fd)
  (h:∀(kV Qb pm:CS) (an:am Ph) (Qa ct:CS) (us:al CS),us.length=ps.length->bindArgs (Ti x qual (dj st) (bD st) (aF st) .none kV Qb pm an Qa ct) ⟨us,[]⟩=pure (ps.zip us)):Binds K fd ps []:=by
 obtain⟨oc,od,kV,Qb,pm,an,Qa,ct,Qk,rfl,lk,a⟩:=F.ex;exact .all (h kV Qb pm an Qa ct)
theorem Au{kV:CS}(l:K.lookup f=ih ⟨oc,od,.func (Ti x qual (dj st) (bD st) (aF st) .none kV Qb pm an Qa ct),Qk⟩)
  (c:TX K Qa qual=true) (k:Tr K (.ref f)=true):aP K x qual st f (Ti x qual (dj st) (bD st) (aF st) .none kV Qb pm an Qa ct):=⟨⟨oc,od,kV,Qb,pm,an,Qa,ct,Qk,rfl,l,c⟩,k⟩
theorem pv(i:Nat)(b:X.N[i]?=ih x:=by rfl)(c:sJ X.env.scope x:=by first|exact VL rfl|exact TC (VL rfl)|exact TC (TC rfl))(d:(x==("__debug__" : Pd))=false:=by decide)
  (a:(x==("__classdict__" : Pd))=false:=by decide):PE X (.Name x pos) (d8 i):=Hh b c d a
theorem dX{c A:Prop} [Decidable c](h1:c->A)(h2 : ¬ c->B):if c then A else B:=by
 by_cases h:c
 ·rw[aI h]
  exact h1 h
 ·rw[ax h]
  exact h2 h
def aw(H Y:Hp):Prop:= ∀b o,H b=ih o->Y b=ih o
theorem aw.refl(H:Hp):aw H H:=λ_ _ h=>h
theorem aw.trans(a:aw H O)(b:aw O H2):aw H H2:=λc o h=>b c o (a c o h)
theorem aw.free(e:aw H Y)(h:Y l=Vz):H l=Vz:=by
 cases q:H l with
 |none=>rfl
 |some o =>
  rw[e l o q]at h;cases h
end L2
namespace L2
theorem Paired.both{α β γ δ:Type}{F:α->β->Prop}{G:α->γ->Prop}{f:β->δ}{g:γ->δ}{l:al α}{m:al β}(h:S2 F l m)(k:∀a b c,F a b->G a c->g c=f b):∀{n:al γ},S2 G l n->n.map g=m.map f:=by
 induction h with
 |nil=>intro n t;cases t;rfl
 |cons p _ d=>intro n t;cases t with|cons q t=>rw[bV,bV,k _ _ _ p q,d t]
theorem Paired.Bg{α β:Type}{F G:α->β->Prop}{l:al α}{m:al β}(h:S2 F l m):(∀a b,b∈m->F a b->G a b)->S2 G l m:=by
 induction h with
 |nil=>exact λ_=>.nil
 |cons p _ c=>exact λk=>.cons (k _ _ bJ p) (c λa b e=>k a b (bL _ e))
end L2
namespace L2
open Spec PyProof.Rows
def d6(cells:List (Pd×Ph)):List (Pd×Tp)->List (Pd×Ph)->List (Pd×Ph)
 |[],cG=>cG
 |(n,k)::r,cG=>if k == .free then d6 cells r ((n,(cells.lookup n).getD 0)::cG) else d6 cells r cG
theorem qh(h:∀n,(n,P7)∈scope.names ->∃c,env.cells.lookup n=ih c) :
  closureFor scope env=pure (d6 env.cells scope.names []):=by
 have p:∀(b:al (Pd×Tp)) (d:al (Pd×Ph)),(∀n,(n,P7)∈b ->∃c,env.cells.lookup n=ih c) ->
   (forIn (m:=UB) b d λx r=>match x with|(name,f)=>if (f==P7)=true then (do let a <- cellOf env name;pure (S5 ((name,a)::r))) else pure (S5 r))=pure (d6 env.cells b d):=by
  intro b
  induction b with
  |nil=>intro d _;rfl
  |cons x r j =>
   intro d g;obtain⟨n,k⟩:=x;rw[Vl];unfold d6
   by_cases l:k=.free
   ·subst l
    obtain⟨c,o⟩:=g n bJ;simp only[CD,gg];have e:cellOf env n=pure c:=by unfold cellOf;rw[o]
    rw[e,o];exact j _ λm i=>g m (bL _ i)
   ·have q:(k==P7)=false:=by simpa using l
    simp only[q,k7,gf];exact j _ λm i=>g m (bL _ i)
 unfold closureFor;have:=p scope.names [] h;show((forIn (m:=UB) scope.names [] λx r=>match x with|(name,f)=>if (f==P7)=true then (do let a <- cellOf env name;pure (S5 ((name,a)::r))) else pure (S5 r)) >>= λs=>pure s)=_;rw[this]
 rfl
theorem jR:∀(b:al (Pd×Tp)) (n:Nat) (a:al (Pd×Ph)),cellsFrom n b a=cellsFrom n b []++a
 |[],_,_=>rfl
 |(name,c)::r,n,a=>by
  unfold cellsFrom;split
  ·rw[jR r (n+1) ((name,n)::a),jR r (n+1) [(name,n)],CF];rfl
  ·exact jR r n a
theorem nq{cells:al (Pd×Ph)}:∀(d:al (Pd×Tp)) (a:al (Pd×Ph)) (x:Pd) (c:Ph),(d6 cells d a).lookup x=ih c ->
  (a.lookup x=ih c)\/((x,P7)∈d/\c=(cells.lookup x).getD 0)
 |[],a,x,c,h=>.inl h
 |(n,k)::r,a,x,c,h=>by
  unfold d6 at h;split at h
  ·rename_i g
   have f:k=.free:=by simpa using g
   subst f;rcases nq r _ x c h with z|⟨z,e⟩
   ·rw[eN]at z
    cases b:x==n with
    |true=>rw[b]at z;cases z;rw[i1.mp b];exact .inr ⟨bJ,rfl⟩
    |false=>rw[b]at z;exact .inl z
   ·exact .inr ⟨bL _ z,e⟩
  ·rcases nq r _ x c h with z|⟨z,e⟩
   ·exact .inl z
   ·exact .inr ⟨bL _ z,e⟩
theorem qw{cells:al (Pd×Ph)}:∀(b:al (Pd×Tp)) (a:al (Pd×Ph)) (x:Pd),(∃c,a.lookup x=ih c) ->∃c,(d6 cells b a).lookup x=ih c
 |[],a,x,h=>h
 |(n,k)::r,a,x,h=>by
  unfold d6;split
  ·refine qw r _ x ?_
   obtain⟨c,h⟩:=h;rw[eN];cases d:x==n with
   |true=>exact⟨_,rfl⟩
   |false=>exact⟨c,h⟩
  ·exact qw r _ x h
theorem nB{cells:al (Pd×Ph)}:∀(b:al (Pd×Tp)) (a:al (Pd×Ph)) (x:Pd),(x,P7)∈b ->∃c,(d6 cells b a).lookup x=ih c
 |[],a,x,h=>by simp at h
 |(n,k)::r,a,x,h=>by
  unfold d6;rcases bU.mp h with e|h
  ·cases e
   simp only[CD,gg];exact qw r _ _ ⟨(cells.lookup n).getD 0,by rw[eN];simp⟩
  ·split
   ·exact nB r _ x h
   ·exact nB r _ x h
theorem nk:∀(b:al (Pd×Tp)) (n:Nat) (a:al (Pd×Ph)) (x:Pd) (c:Ph),(x,c)∈cellsFrom n b a->(x,c)∈a\/(x,S0)∈b
 |[],_,_,_,_,h=>.inl h
 |(name,d)::r,n,a,x,c,h=>by
  unfold cellsFrom at h;split at h
  ·rename_i g
   have f:d=.cell:=by simpa using g
   subst f;rcases nk r _ _ x c h with z|z
   ·rcases bU.mp z with e|z
    ·cases e;exact .inr bJ
    ·exact .inl z
   ·exact .inr (bL _ z)
  ·rcases nk r _ _ x c h with z|z
   ·exact .inl z
   ·exact .inr (bL _ z)
structure bO(N:List Pd)(BY:TY)(N':List Pd)(Qc:List (Option Nat))(sc:TY):Prop where
 kind:sc.kind=.function
 keys:(sc.names.map (·.1)).Nodup
 nd:N'.Nodup
 len:Qc.length=N'.length
 fv:∀(j i:Nat),Qc[j]?=ih (ih i) ->∃x,N[i]?=ih x/\N'[j]?=ih x/\sc.names.lookup x=ih .free
 free:∀p∈sc.names,p.2=.free->BY.names.lookup p.1=ih .cell\/BY.names.lookup p.1=ih .free
theorem jS{α:Type}:∀{l:al (Pd×α)},(l.map (·.1)).Nodup ->∀{x:Pd}{k:α},(x,k)∈l->l.lookup x=ih k
 |(n,v)::r,a,x,k,h=>by
  obtain⟨h1,h2⟩:=d0.mp a;rw[eN];rcases bU.mp h with e|hm
  ·cases e;simp
  ·have:(x==n)=false:=by
    rw[hC];intro e;exact h1 (ba.mpr ⟨_,hm,e⟩)
   rw[this];exact jS h2 hm
def vM(scope:TY)(L:Ph)(env:Uy):Uy:=
 { scope:=relabel scope env,locals:=L,globals:=env.globals,cells:=cellsFrom (L+1) scope.names (d6 env.cells scope.names []),qual:=env.qual,func:=none,code:=env.code,frame:=env.frame,builtins:=env.builtins }
theorem Dy{M:VJ}{globals:Ph}{d:al (Pd×Ph)}{Q:Uy->Pn->Prop}
  (h:∀h',h'.Ns s.ai (λ_=>none)->(∀b o,s.heap.get? b=ih o->h'.get? b=ih o)->(∀x c,(x,c)∈cellsFrom (s.ai+1) scope.names []->h'.IsCell c none/\s.ai<c) ->
   ((cellsFrom (s.ai+1) scope.names []).Pairwise λx y=>x.2≠y.2) ->
   Q { scope:=scope,locals:=s.ai,globals:=globals,cells:=cellsFrom (s.ai+1) scope.names d,qual:=qual,func:=none,code:=env.code,frame:=env.frame,builtins:=env.builtins } { s with heap:=h' }) :
  Px M A (newFunctionEnv scope globals d [] qual none .none (ih env)) Q E s:=by
 simp only[newFunctionEnv,PB,gg];refine ah (wpAny_alloc ?_);refine ah (wpAny_layCells _ (λname f cells=>by cases g:f==S0 <;> simp[g]) _ _ _ _ ?_)
 have ok:=cellsFrom_ok scope.names (s.heap.push { cls:=.type "dict",data:=.dict #[] }) (s.ai+1) [] ⟨λ_ _ a=>(nomatch a),Ui⟩ (by rw[k4];exact aN _)
 rw[k4]at ok;rw[show({ s with heap:=s.heap.push { cls:=.type "dict",data:=.dict #[] } }:Pn).heap.objs.size=s.ai+1 from k4 ..];rw[List.forIn_nil];refine ah (au (au ?_));exact h _ ((Heap.Ns.new s.heap (.type "dict")).keeps (pushCells_keeps _ _)) (λb o e=>pushCells_keeps _ _ b o (bu _ e)) (λx c a=>⟨(ok.empty x c a).1,(ok.empty x c a).2⟩) ok.apart
def cq(X:Cx)(N':List Pd)(scope:TY)(s2:Pn)(H2:Hp)(fp:List Ph):Cx:=
 { X with N:=N',eo:=s2,h9:=H2,env:=vM scope s2.ai X.env,outer:=X.stack,stack:=X.stack,ex:=fp,fn:=λx=>scope.names.lookup x==ih .cell,pn:=[],xe:=λ_ _=>False }
theorem qg{env:Uy}:∀{d:al (Pd×Tp)}{x:Pd}{k:Tp},
  (d.map λ(n,k)=>if (k==P7&&env.scope.kind == .function&&env.kindOf n==ih .cell) then (n,S0) else (n,k)).lookup x=ih k ->
  ∃a,d.lookup x=ih a/\(k=a\/(a=.free/\k=.cell))
 |[],_,_,h=>by simp at h
 |(n,a)::r,x,k,h=>by
  have e:=@qg env r x k;have h':S' x ((if (a==P7&&env.scope.kind == .function&&env.kindOf n==ih .cell)=true then (n,S0) else (n,a))::_)=ih k:=h;rw[eN]
  by_cases c:(a==P7&&env.scope.kind == .function&&env.kindOf n==ih .cell)=true
  ·rw[aI c,eN]at h'
   cases b:x==n with
   |true =>
    rw[b]at h';cases h';have:a=.free:=by
     have z:=c;rw[m3,m3]at z
     simpa using z.1.1
    exact⟨a,rfl,.inr ⟨this,rfl⟩⟩
   |false=>rw[b]at h';exact e h'
  ·rw[ax c,eN]at h'
   cases b:x==n with
   |true=>rw[b]at h';cases h';exact⟨a,rfl,.inl rfl⟩
   |false=>rw[b]at h';exact e h'
theorem qe{env:Uy}:∀{d:al (Pd×Tp)}{x:Pd},d.lookup x=ih .free ->
  (d.map λ(n,k)=>if (k==P7&&env.scope.kind == .function&&env.kindOf n==ih .cell) then (n,S0) else (n,k)).lookup x=ih .cell \/
  (d.map λ(n,k)=>if (k==P7&&env.scope.kind == .function&&env.kindOf n==ih .cell) then (n,S0) else (n,k)).lookup x=ih .free
 |[],_,h=>by simp at h
 |(n,b)::r,x,h=>by
  have e:=@qe env r x;show S' x ((if (b==P7&&env.scope.kind == .function&&env.kindOf n==ih .cell)=true then (n,S0) else (n,b))::_)=_\/S' x ((if (b==P7&&env.scope.kind == .function&&env.kindOf n==ih .cell)=true then (n,S0) else (n,b))::_)=_;rw[eN]at h;cases a:x==n with
  |true =>
   rw[a]at h;cases h
   by_cases c:(P7==P7&&env.scope.kind == .function&&env.kindOf n==ih .cell)=true
   ·rw[aI c,eN,a];exact .inl rfl
   ·rw[ax c,eN,a];exact .inr rfl
  |false =>
   rw[a]at h
   by_cases c:(b==P7&&env.scope.kind == .function&&env.kindOf n==ih .cell)=true
   ·rw[aI c,eN,a];exact e h
   ·rw[ax c,eN,a];exact e h
def pick(Qc:List (Option Nat))(σ:St):St:=Qc.map λo=>o.bind λi=>(σ[i]?).join
theorem nC(I:Inv X J σ H s2)(S:bO X.N X.env.scope N' Qc scope)(a:(x,P7)∈scope.names):∃c,X.env.cells.lookup x=ih c:=
 I.ok.has x (S.free _ a rfl)
theorem DR(I:Inv X J σ H s2)(S:bO X.N X.env.scope N' Qc scope){n:Nat}{c:Ph}(h:(cellsFrom n scope.names (d6 X.env.cells scope.names [])).lookup x=ih c) :
  ((x,c)∈cellsFrom n scope.names []/\(x,S0)∈scope.names)\/((x,P7)∈scope.names/\X.env.cells.lookup x=ih c):=by
 rw[jR,CG]at h;cases e:(cellsFrom n scope.names []).lookup x with
 |some d =>
  rw[e]at h;have z:d=c:=by simpa using h
  subst z;have m:=ij e;rcases nk _ _ _ _ _ m with z|z
  ·simp at z
  ·exact .inl ⟨m,z⟩
 |none =>
  rw[e]at h;have h':(d6 X.env.cells scope.names []).lookup x=ih c:=by simpa using h
  rcases nq _ _ _ _ h' with z|⟨z,a⟩
  ·simp at z
  ·obtain⟨f,b⟩:=nC I S z
   rw[b]at a;exact .inr ⟨z,by rw[b,a];rfl⟩
theorem E4(I:Inv X J σ H s2)(S:bO X.N X.env.scope N' Qc scope)(B:∀b∈fp,fw X J H b)(Y:∀b∈fp,∃o,s2.heap.get? b=ih o)
  (xc:h'.Ns s2.ai (λ_=>none)) (D:∀b o,s2.heap.get? b=ih o->h'.get? b=ih o)
  (h:∀x c,(x,c)∈cellsFrom (s2.ai+1) scope.names []->h'.IsCell c none/\s2.ai<c) (E:(cellsFrom (s2.ai+1) scope.names []).Pairwise λx y=>x.2≠y.2) :
  Inv (cq X N' scope s2 H fp) [] (pick Qc σ) H { s2 with heap:=h' }:=by
 have K:∀{x:Pd}{c:Ph},X.env.cells.lookup x=ih c->c<s2.ai:=λ{x c} e=>let ⟨_,q⟩:=I.cell x c e;q.lt;have l:∀{x:Pd}{c:Ph},(cq X N' scope s2 H fp).env.cells.lookup x=ih c->((x,c)∈cellsFrom (s2.ai+1) scope.names []/\(x,S0)∈scope.names)\/((x,P7)∈scope.names/\X.env.cells.lookup x=ih c):=
  λ{x c} e=>DR I S e
 have xa:∀{x:Pd}{c:Ph},(cq X N' scope s2 H fp).env.cells.lookup x=ih c ->∃v,h'.IsCell c v:=λ{x c} e=>by
  rcases l e with⟨m,_⟩|⟨_,yc⟩
  ·exact⟨_,(h x c m).1⟩
  ·obtain⟨v,q⟩:=I.cell x c yc
   exact⟨v,q.keeps D⟩
 have L:∀b∈fp,b<s2.ai:=λb a=>let ⟨_,e⟩:=Y b a;bF e;refine⟨⟨I.ok.mod,S.kind,I.ok.glob,I.ok.blt,aN _,λx y c F G=>?_,λx hx=>?_,λx c hx e=>?_,I.ok.hd,I.ok.frames,.inl rfl,λb a=>⟨cn (L b a),λx c e z=>?_⟩,I.bs,?_,λb o e a=>?_,λb a ya=>?_,I.stack,I.wM⟩,
  rfl,I.bare,Un.kept D,⟨_,xc,λj x v F G yf=>?_⟩,λx c e=>xa e,I.aB.fresh (aN _),λx c e=>?_,λp E=>absurd (show p∈([]:al (Ph×Ue)) from E) (by simp),I.aB.kept D,?_⟩
 ·rcases l F with⟨P,_⟩|⟨_,s⟩ <;> rcases l G with⟨Q,_⟩|⟨_,R⟩
  ·exact name_of_addr E P Q
  ·exact absurd (k9 (h _ _ P).2 (K R)) (iY _)
  ·exact absurd (k9 (h _ _ Q).2 (K s)) (iY _)
  ·exact I.ok.inj x y c s R
 ·have za:∃f,scope.names.lookup x=ih f/\(f=.cell\/f=.free):=by
   rcases hx with hx|hx
   ·obtain⟨f,e,z⟩:=qg (env:=X.env) hx
    refine⟨f,e,?_⟩;rcases z with z|z
    ·exact .inl z.symm
    ·exact .inr z.1
   ·obtain⟨f,e,z⟩:=qg (env:=X.env) hx
    refine⟨f,e,?_⟩;rcases z with z|z
    ·exact .inr z.symm
    ·exact .inr z.1
  obtain⟨f,e,z⟩:=za;show ∃c,(cellsFrom (s2.ai+1) scope.names (d6 X.env.cells scope.names [])).lookup x=ih c;rw[jR,CG];rcases z with rfl|rfl
  ·obtain⟨c,g⟩:=qH (n:=s2.ai+1) e
   exact⟨c,by rw[g];rfl⟩
  ·cases q:(cellsFrom (s2.ai+1) scope.names []).lookup x with
   |some d=>exact⟨d,rfl⟩
   |none =>
    obtain⟨c,g⟩:=nB (cells:=X.env.cells) scope.names [] x (ij e);exact⟨c,by rw[g];rfl⟩
 ·have M:scope.names.lookup x=ih .cell:=by simpa [cq] using hx
  rcases l e with⟨m,_⟩|⟨m,_⟩
  ·exact pW (h _ _ m).2
  ·rw[jS S.keys m]at M;cases M
 ·rcases l e with⟨m,_⟩|⟨_,s⟩
  ·have:=L b a
   rw[<-z]at this;exact absurd (k9 (h _ _ m).2 this) (iY _)
  ·exact(B b a).2.2.2.2.1 x c s z
 ·exact ed I.ok.iN I.sz
 ·rcases (B b a).2.2.2.1 with z|z
  ·exact I.ok.mj b o e z
  ·exact absurd (eX (bF (I.ok.bs b o e).1) z) (iY _)
 ·have:=I.rp b ya
  rcases bU.mp this with z|z
  ·exact(B b a).2.1 z
  ·exact(B b a).2.2.1 z
 ·
  have t:(Qc[j]?).bind (λo=>ih (o.bind λi=>(σ[i]?).join))=ih (ih v):=by
   have w:(Qc.map λo=>o.bind λi=>(σ[i]?).join)[j]?=ih (ih v):=G;rw[cR]at w;cases q:Qc[j]? with
   |none=>rw[q]at w;cases w
   |some o=>rw[q]at w;exact w
  cases q:Qc[j]? with
  |none=>rw[q]at t;cases t
  |some o =>
   rw[q]at t;cases o with
   |none=>simp at t
   |some i =>
    have C:(σ[i]?).join=ih v:=by simpa using t
    have zc:σ[i]?=ih (ih v):=by
     cases T:σ[i]? with
     |none=>rw[T]at C;cases C
     |some z=>rw[T]at C;rw[show z=ih v from C]
    obtain⟨y,xb,yb,A⟩:=S.fv j i q;have zb:x=y:=by
     have O:N'[j]?=ih x:=F;rw[yb]at O;exact(c7 O).symm
    subst zb;obtain⟨m,zf,xd⟩:=I.loc;have U:=S.free _ (ij A) rfl;obtain⟨u,r,lk⟩:=xd i x v xb zc (by rcases U with z|z;exact .inr (.inl z);exact .inr (.inr z))
    refine⟨u,r,.inr ⟨qe A,?_⟩⟩;rcases lk with⟨k,_⟩|⟨_,c,yd,zd⟩
    ·have V:X.env.scope.names.lookup x=ih .local:=k
     rcases U with z|z <;> (rw[z]at V;cases V)
    ·refine⟨c,?_,zd.keeps D⟩
     show(cellsFrom (s2.ai+1) scope.names (d6 X.env.cells scope.names [])).lookup x=ih c;rw[jR,CG];cases xe:(cellsFrom (s2.ai+1) scope.names []).lookup x with
     |some d =>
      rcases nk _ _ _ _ _ (ij xe) with z|z
      ·simp at z
      ·rw[jS S.keys z]at A;cases A
     |none =>
      obtain⟨xg,g⟩:=nB (cells:=X.env.cells) scope.names [] x (ij A);rcases nq _ _ _ _ g with z|⟨_,W⟩
      ·simp at z
      ·rw[yd]at W
       rw[g,W];rfl
 ·rcases l e with⟨m,_⟩|⟨_,s⟩
  ·exact I.aB.fresh (pW (h _ _ m).2)
  ·exact I.gq x c s
 ·show(Qc.map _).length=N'.length
  rw[aK,S.len]
def ia(X:Cx)(Qd:List QD)(t:TT):Prop:=
 ∀J s σ H (Q:Bool->Hp->Prop),Inv X J σ H s->t σ H Q ->
  wA X (forIn Qd true λc r=>if r=true then do let ok <- isTrue c X.env (eval c X.env);pure (S5 ok) else pure (S5 r)) (TP X J σ Q) X.xe s
def me:TT:=λ_ H Q=>Q true H
theorem dV:ia X [] me:=λ_ _ _ H _ I h=>wpAny_tests_nil ⟨H,I,h⟩
theorem fY{t:TT}(h:PT X c t):ia X [c] t:=λJ s σ H Q I a=>wpAny_tests_one (h J s σ H Q I a)
structure i7(e tg iter:QD)(Qd:List QD)(Qe:CS->Uy->UB Unit):Prop where
 cl:clausesOf e=[⟨tg,iter,Qd,0⟩]
 turn:∀it cG env,compTurn e 0 it cG env=(do
   standAt iter.pos
   match <- pyNext it with
   |none=>pure (.done .next)
   |some v =>
    letOwnedTupleGo tg it v
    assign tg env v
    let mut ok:=true
    for c in Qd do
     if ok then ok <- isTrue c env (eval c env)
    if ok then Qe cG env
    again (.compLoop e 0 it cG env))
 loop:∀(prog:Tj) (w:Tw) (A:TJ) it cG env,A.under (.compLoop e 0 it cG env)=A/\(Qu prog w).den (.compLoop e 0 it cG env)=(compTurn e 0 it cG env).onRaise (λx=>do noteFrame x env;theTreesLotGoes x)
 begin_:∀(prog:Tj) (w:Tw) (A:TJ) it cG env,A.under (.compStart e 0 it cG env)=A/\(Qu prog w).den (.compStart e 0 it cG env)=(compStart e 0 it cG env).onRaise (λx=>do noteFrame x env;standAt theWindowsPlace)
theorem Df{Qe:CS->Uy->UB Unit}{it a:CS}(F:i7 e tg iter Qd Qe)(I:Nat->Pn->Prop)
  (i:∀n s,I n s->Px (Qu prog w) A (pyNext it) (λr b=>match r with
   |none=>R (.ok .next) b
   |some v=>Px (Qu prog w) A (letOwnedTupleGo tg it v) (λ_ s2=>Px (Qu prog w) A (assign tg env v) (λ_ f =>
     Px (Qu prog w) A (forIn Qd true λc r=>if r=true then do let ok <- isTrue c env (eval c env);pure (S5 ok) else pure (S5 r)) (λok d =>
      if ok=true then Px (Qu prog w) A (Qe a env) (λ_ j=>∃m,m<n/\I m j) (λ_ _=>False) d
      else ∃m,m<n/\I m d) (λ_ _=>False) f) (λ_ _=>False) s2) (λ_ _=>False) b) (λ_ _=>False) s)
  (n:Nat) (h:I n s) :
  codeAny (Qu prog w) A (.compLoop e 0 it a env) R s:=by
 refine codeAny_loop rfl I (λn s k=>?_) n h;rw[(F.loop prog w A it a env).1,(F.loop prog w A it a env).2];refine wpAny_noted (wpAny_noRaise ?_);rw[F.turn];refine ah (kY (ah (ay (i n s k) λr b h1=>?_)));cases r with
 |none=>exact au h1
 |some v =>
  refine ah (ay h1 λ_ s2 h2=>ah (ay h2 λ_ f l=>ah (ay l λok d g=>?_)));cases ok with
  |false=>exact au ⟨rfl,g⟩
  |true=>exact ah (ay g λx p o=>au ⟨rfl,o⟩)
theorem De{Qe:CS->Uy->UB Unit}{it a:CS}(F:i7 e tg iter Qd Qe)
  (c:codeAny (Qu prog w) A (.compLoop e 0 it a env) R s)
  (h:Px (Qu prog w) A (pyIter it) (λb s'=>codeAny (Qu prog w) A (.compLoop e 0 b a env) R s')
   (notedBy (Qu prog w) A env λx s'=>R (.error x) s') s) :
  codeAny (Qu prog w) A (.compStart e 0 it a env) R s:=by
 refine codeAny_of_tree ?_;rw[(F.begin_ prog w A it a env).1,(F.begin_ prog w A it a env).2];refine wpAny_notedAt ?_;unfold compStart;rw[F.cl];show Px _ _ (ask >>= _) _ _ s;refine ah (wpAny_askSetting (wpAny_ite ?_));split
 ·first
   |exact ah (au (au (Uo rfl c)))
   |exact au (Uo rfl c)
 ·first
   |exact ah (kZ (ah (kY (ah (i0 h (λb s' h'=>au (Uo rfl h')) λ_ _ x=>x)))))
   |(refine ah (kZ ?_);show Px _ _ (standAt iter.pos >>= _) _ _ s;exact ah (kY (ah (i0 h (λb s' h'=>au (Uo rfl h')) λ_ _ x=>x))))
def Hw{ι:Type}(J9:It)(g:TG)(ti:TT)(Qh:ι->Ph->St->Hp->(ι->Hp->Prop)->Prop)(y0:ι)(dy:St)(Q:VK)(p:Ph)(O:Hp):Prop:=
 ∃W:Nat->Nat->ι->St->Hp->Prop,(∃m,W 0 m y0 dy O) /\∀i m y τ H2,W i m y τ H2 ->
  ((J9.stop i H2/\Q (.ref p) H2)\/(J9.go i H2 /\∀x H3,J9.ic i H2 x H3->g x τ H3 λfQ H4=>ti fQ H4 λb H5 =>
   if b=true then Qh y p fQ H5 λy' H6=>∃m',m'<m/\W (i+1) m' y' fQ H6
   else ∃m',m'<m/\W (i+1) m' y fQ H5))
def Bh{ι:Type}(X:Cx)(Qe:CS->Uy->UB Unit)(Qh:ι->Ph->St->Hp->(ι->Hp->Prop)->Prop):Prop:=
 ∀J s σ H (p:Ph) (y:ι) (Q:ι->Hp->Prop),Inv X J σ H s->Qh y p σ H Q->wA X (Qe (.ref p) X.env) (λ_ s'=>∃y' Y,Inv X J σ Y s'/\Q y' Y) X.xe s
structure l3(X:Cx)(Hx:UB CS)(start:Ph->HO):Prop where
 run:∀J s σ H (E:CS->Pn->Prop) (Q:CS->Pn->Prop),Inv X J σ H s ->
  (∀s',Inv X J σ (upd H s.ai (start s.ai)) s'->(∀b o,s.heap.get? b=ih o->s'.heap.get? b=ih o)->Q (.ref s.ai) s')->wA X Hx Q E s
def vN(Ql:QD)(cG:CS)(env:Uy):UB Unit:=do
 let v <- eval Ql env
 let _ <- call (.builtin "list.append") [cG,v]
theorem Ee:i7 (.ListComp Ql [⟨tg,iter,Qd,0⟩] scope pos) tg iter Qd (vN Ql):=⟨rfl,λ_ _ _=>rfl,λ_ _ _ _ _ _=>⟨rfl,rfl⟩,λ_ _ _ _ _ _=>⟨rfl,rfl⟩⟩
theorem E5:l3 X (newList []) (λ_=>.lst []):=⟨λJ s σ H E Q I h=>gc (h _ (I.Bf (its:=[]) (t':=s.toks) .nil (bw _)) λb o e=>bu _ e)⟩
def Hy(te:TE)(ys:List V)(p:Ph)(σ:St)(H:Hp)(Q:List V->Hp->Prop):Prop:=te σ H λy H6=>H6 p=ih (.lst ys)/\ys.length<Pk/\Q (ys++[y]) (upd H6 p (.lst (ys++[y])))
theorem F8(j:PE X Ql te):Bh X (vN Ql) (Hy te):=λJ s σ H p ys Q I h=>by
 refine ah (ay (j J s σ H _ I h) λy d n=>?_);obtain⟨z,a,e,f,b,c,k⟩:=n;refine ah (ay (lz _ d σ a (.ref p) [z] (.ref p) [y] (λ_ Y=>Y=upd a p (.lst (ys++[z]))) e rfl (.cons f .nil) ⟨_,_,_,rfl,rfl,b,c,rfl⟩) λ_ l n=>?_);obtain⟨_,m,g,_,i⟩:=n;subst i;exact au ⟨_,_,g,k⟩
def gr(J9:It)(g:TG)(ti:TT)(te:TE)(dy:St)(Q:VK)(p:Ph)(O:Hp):Prop:=
 ∃W:Nat->Nat->List V->St->Hp->Prop,(∃m,W 0 m [] dy (upd O p (.lst []))) /\∀i m ys τ H2,W i m ys τ H2->H2 p=ih (.lst ys) /\
  ((J9.stop i H2/\Q (.ref p) H2)\/(J9.go i H2 /\∀x H3,J9.ic i H2 x H3->g x τ H3 λfQ H4=>ti fQ H4 λb H5 =>
   if b=true then te fQ H5 λy H6=>H6 p=ih (.lst ys)/\ys.length<Pk /\∃m',m'<m/\W (i+1) m' (ys++[y]) fQ (upd H6 p (.lst (ys++[y])))
   else ∃m',m'<m/\W (i+1) m' ys fQ H5))
def AR(wi:TI)(Qc:List (Option Nat))(g:TG)(ti:TT)(te:TE):TE:=λσ H Q=>wi σ H λJ9 O=>∀p,O p=none->gr J9 g ti te (pick Qc σ) Q p O
section
def CompEnd(X:Cx)(J:List (Ph×Ue))(σ:St)(Q:VK)(cG:CS)(C:Ph)(s':Pn):Prop:=
 ∃(p:Ph) (Y:Hp),cG=.ref p/\Inv X J σ Y s'/\fw X J Y C/\(∃m,s'.heap.Ns C m)/\Q (.ref p) Y
variable{Qe:CS->Uy->UB Unit}
theorem uL{D:Type}{y0:D}{temI:D->Ph->St->Hp->(D->Hp->Prop)->Prop}{zd:It}{g:TG}{xb:UB CS}{start:Ph->HO}(F:i7 e tg iter Qd Qe)(xe:X.calm=true)(S:bO X.N X.env.scope N' Qc scope)
  (ye:Inv X J σ H2 s2) (T:Turn X.prog X.w X.K tg zd fp it tn) (st:tn 0 s2.heap) (ze:∀b∈fp,fw X J H2 b) (zh:l3 X xb start)
  (a:∀s H fp,PG (cq X N' scope s H fp) tg g/\ia (cq X N' scope s H fp) Qd ti/\Bh (cq X N' scope s H fp) Qe temI)
  (xl:∀p,H2 p=none->Hw zd g ti temI y0 (pick Qc σ) Q p (upd H2 p (start p))) (yl:∀v C s',CompEnd X J σ Q v C s'->RR v C (.ok .next) s') :
  wA X xb (λv f=>wA X (newFunctionEnv scope X.env.globals (d6 X.env.cells scope.names []) [] X.env.qual none .none (ih X.env)) (λyb zl =>
   codeAny X.dY X.A (.compStart e 0 (.ref it) v { yb with scope:=relabel scope X.env }) (RR v yb.locals) zl) E f) E s2:=by
 refine zh.run J s2 σ H2 E _ ye λf G xi=>?_;have I:=xl s2.ai ye.fresh;generalize xm:upd H2 s2.ai (start s2.ai)=h at G I;have zi:∀b∈fp,b<s2.ai:=λb a=>let ⟨_,e,_⟩:=T.obj _ _ st b a;bF e;have xc:tn 0 f.heap:=T.keep _ _ _ st λb _ o e=>xi b o e;have l:∀b∈fp,fw X J h b:=λb a=>⟨by rw[<-xm,ab (cn (zi b a))];exact(ze b a).1,(ze b a).2⟩
 have xj:∀b∈fp,∃o,f.heap.get? b=ih o:=λb a=>let ⟨o,e,_⟩:=T.obj _ _ xc b a;⟨o,e⟩;refine Dy λR U xf yj zj=>?_;have L:Inv (cq X N' scope f h fp) [] (pick Qc σ) h { f with heap:=R }:=E4 G S l xj U xf yj zj;have yc:tn 0 ({ f with heap:=R }:Pn).heap:=T.keep _ _ _ xc λb _ o e=>xf b o e;obtain⟨ym,zm,xn⟩:=a f h fp;obtain⟨W,⟨yn,zn⟩,yi⟩:=I;have O:∀{Y:Hp},(∀b∈fp,Y b=none) ->∀b∈fp,fw (cq X N' scope f h fp) [] Y b:=λU b a =>
  ⟨U b a,(L.ok.pC b a).1,L.ok.ml b a,.inl a,λx c e=>(L.ok.pC b a).2 x c e,λp I=>absurd (show p∈([]:al (Ph×Ue)) from I) (by simp)⟩
 have zb:codeAny X.dY X.A (.compLoop e 0 (.ref it) (.ref s2.ai) (vM scope f.ai X.env))
   (RR (.ref s2.ai) f.ai) { f with heap:=R }:=by
  refine Df F (λn s'=>∃i y j Y,Inv (cq X N' scope f h fp) [] j Y s'/\tn i s'.heap/\(∀b∈fp,Y b=none)/\W i n y j Y) ?_ yn ⟨0,_,_,h,L,yc,λb a=>(l b a).1,zn⟩;rintro n yf ⟨i,y,j,M,zf,zc,xd,V⟩;have V:=yi i n y j M V;rcases V with⟨stop,xo⟩|⟨yo,step⟩
  ·refine ay (T.done (cq X N' scope f h fp) rfl rfl rfl xe i [] yf j M _ zf (O xd) zc stop) λr xg ⟨xa,q⟩=>?_
   subst xa;refine yl _ _ _ ⟨_,M,rfl,?_,?_,?_,xo⟩
   ·exact G.IH (s':=xg) (ch:=fp) q.os q.base q.aB q.bare λb a=>⟨(l b a).2.2.2.1,(l b a).2.1,(l b a).2.2.2.2.1,(l b a).2.2.2.2.2⟩
   ·exact G.gI (aN _) q.free
   ·obtain⟨m,k,_⟩:=q.loc
    exact⟨m,k⟩
  ·refine ay (T.item (cq X N' scope f h fp) rfl rfl rfl xe i [] yf j M _ zf (O xd) zc yo) λr xg aa=>?_;obtain⟨u,xa,zo⟩:=aa
   subst xa;refine ay zo λ_ yg aa=>?_;obtain⟨x,zg,xp,yp,y7,P,xk⟩:=aa;have yk:=xp.pinned (O xk) (T.obj _ _ P);refine ay (ym _ yg j zg x u _ yk yp (step x zg y7)) λ_ zp aa=>?_;obtain⟨yd,xq,yq,zq⟩:=aa;refine ay (zm _ zp yd xq _ yq zq) λb xr aa=>?_;obtain⟨yr,xh,yh⟩:=aa;have again:∀{ya:D}{B:St}{Y:Hp}{s':Pn}{t:Nat},Inv (cq X N' scope f h fp) ([]++lZ fp yg.heap) B Y s'->t<n->W (i+1) t ya B Y ->
     ∃m,m<n /\∃i y j Y,Inv (cq X N' scope f h fp) [] j Y s'/\tn i s'.heap/\(∀b∈fp,Y b=none)/\W i m y j Y:=λ{ya B Y s' t} za k z=>by
    refine⟨t,k,i+1,ya,B,Y,za.nL,T.keep _ _ _ P λb a o e=>(za.pin (b,o) (fR _ (fR _ (nv a e)))).1,λb a=>?_,z⟩;obtain⟨o,e,d⟩:=T.obj _ _ P b a;exact(za.pin (b,o) (fR _ (fR _ (nv a e)))).2.1
   cases b with
   |false =>
    obtain⟨t,k,z⟩:=yh;exact again xh k z
   |true=>exact ay (xn _ xr yd yr _ y _ xh yh) λ_ zr ⟨xt,yt,zk,t,k,z⟩=>again zk k z
 exact De F zb (T.self X.A 0 _ _ _ yc zb)
theorem vd{e:It}{g:TG}(f:X.calm=true)(S:bO X.N X.env.scope N' Qc scope)
  (h:Inv X J σ H2 s2) (T:Turn X.prog X.w X.K tg e fp it tn) (st:tn 0 s2.heap) (j:∀b∈fp,fw X J H2 b)
  (c:∀s H fp,PG (cq X N' scope s H fp) tg g/\ia (cq X N' scope s H fp) Qd ti/\PE (cq X N' scope s H fp) Ql te)
  (k:∀p,H2 p=none->gr e g ti te (pick Qc σ) Q p H2) (l:∀a C s',CompEnd X J σ Q a C s'->RR a C (.ok .next) s') :
  wA X (newList []) (λa n=>wA X (newFunctionEnv scope X.env.globals (d6 X.env.cells scope.names []) [] X.env.qual none .none (ih X.env)) (λd o =>
   codeAny X.dY X.A (.compStart (.ListComp Ql [⟨tg,iter,Qd,0⟩] scope pos) 0 (.ref it) a { d with scope:=relabel scope X.env }) (RR a d.locals) o) E n) E s2:=by
 refine uL (y0:=[]) Ee f S h T st j E5 (λs H fp=>⟨(c s H fp).1,(c s H fp).2.1,F8 (c s H fp).2.2⟩) (λp q=>?_) l;obtain⟨W,r,st⟩:=k p q;exact⟨W,r,λi m ys t H w=>(st i m ys t H w).2⟩
theorem cY{wi:TI}{g:TG}(i:X.calm=true)(S:bO X.N X.env.scope N' Qc scope)(hi:PI X tg iter wi)
  (a:∀s H fp,PG (cq X N' scope s H fp) tg g/\ia (cq X N' scope s H fp) Qd ti/\PE (cq X N' scope s H fp) Ql te)
  (j:∀x,foldedSetIterable iter X.env x=pure x:=by intro _;rfl):PE X (.ListComp Ql [⟨tg,iter,Qd,0⟩] scope pos) (AR wi Qc g ti te):=by
 intro J s σ H Q I h;rw[eval_ListComp];refine CH (use:=none) rfl j (qh λn k=>nC I S k) S.kind (λx l r=>jS S.keys (by rw[<-r];exact l)) ?_
 refine ay (hi J s σ H _ I h) λv D h1=>ay h1 λB s2 h2=>?_;obtain⟨it,fp,tn,E,H2,e,t,T,d,u,w⟩:=h2;subst e;refine vd (RR:=λc C=>compPost X.dY X.A X.xe none (EP X J σ Q) c C) i S t T d u a w ?_;rintro c C s' ⟨p,Y,rfl,y,fC,⟨m,z⟩,q⟩;refine⟨m,z,λh' f=>⟨.ref p,Y,?_,rfl,q⟩⟩;exact y.turned (it:=C) (t':=s'.toks) (λb o a e=>(f.2 b a).trans e) fC.1 fC.2.1 fC.2.2.2.1 fC.2.2.2.2.1 fC.2.2.2.2.2
theorem jT{wi:TI}{g:TG}{j:VT}(E:X.calm=true)(S:bO X.N X.env.scope N' Qc scope)(F:X.N.Nodup)(d:X.N[i]?=ih x)(c:X.env.scope.names.lookup x=ih .local)(hi:PI X tg iter wi)
  (f:∀s H fp,PG (cq X N' scope s H fp) tg g/\ia (cq X N' scope s H fp) Qd ti/\PE (cq X N' scope s H fp) Ql te)
  (l:swapsWith (.ListComp Ql [⟨tg,iter,Qd,0⟩] scope pos) (ih (.Name x Qg)) j.line X.env=pure true:=by rfl)
  (G:∀x,foldedSetIterable iter X.env x=pure x:=by intro _;rfl):PS X (.Assign [.Name x Qg] (.ListComp Ql [⟨tg,iter,Qd,0⟩] scope pos) j) (oP (AR wi Qc g ti te) (hX i)):=by
 intro J s σ H D I h;rw[exec_Assign_Name_used _ _ _ _ l];refine ah (kY (ah ?_));show Px _ X.A (do let _ <- comprehension (.ListComp Ql [⟨tg,iter,Qd,0⟩] scope pos) scope X.env _ (newList []) false (eval iter X.env) (ih (assign (.Name x Qg) X.env))) _ _ s;refine ah (ay (CH (use:=ih (assign (.Name x Qg) X.env)) (Q:=λ_ s'=>SP X J D .next s') rfl G (qh λn K=>nC I S K) S.kind (λx d c=>jS S.keys (by rw[<-c];exact d)) ?_) λ_ s' L=>au (au L))
 refine ay (hi J s σ H _ I h) λv W h1=>ay h1 λV s2 h2=>?_;obtain⟨it,fp,tn,xa,H2,e,M,T,r,O,P⟩:=h2;subst e;refine vd (Q:=λv Y=>D.nx (σ.set i (ih v)) Y) (RR:=λk C=>compPost X.dY X.A X.xe (ih (assign (.Name x Qg) X.env)) (λ_ s'=>SP X J D .next s') k C) E S M T r O f P ?_;rintro k C s' ⟨p,Y,rfl,R,fC,⟨m,U⟩,q⟩;show wA X (assign (.Name x Qg) X.env (.ref p)) _ _ s';refine wpAny_assign_Name (u3 (v:=.ref p) R F d (.inl c) rfl (λt u aa=>?_) (.inr c));obtain⟨a,w,ha⟩:=aa;have y:C≠a:=by
  rcases ha with ha|ha
  ·rw[ha];exact fC.2.1
  ·exact λz=>fC.2.2.2.2.1 _ _ ha z.symm
 refine⟨m,U.sameBut w y,λh' B=>⟨_,Y,?_,q⟩⟩;exact u.turned (it:=C) (t':=t.toks) (λb o f e=>(B.2 b f).trans e) fC.1 fC.2.1 fC.2.2.2.1 fC.2.2.2.2.1 fC.2.2.2.2.2
end
end L2
namespace L2
open Spec PyProof.Rows W Builtin.ObjectAttr
abbrev BZ:List CS:=[.type "ValueError",.type "Exception",.type "BaseException",.type "object"]
def QE(K:Tx)(C:Ph)(i:Option CS):Bool:=
  match K.lookup C with
  |some ⟨.type "type",_,.cls cls,slots⟩ =>
    (match cls.mro with
     |.ref C'::up=>C'==C&&((slots.toList.length==6&&slots.toList[4]? == ih (ih (.builtin "ValueError.__new__")))&&(!cls.hasDel&&(tailIn K BZ up&&(nsOkIn K cls.ns&&nsIn K cls.ns "__init__" == ih i))))
     |_=>false)
  |_=>false
def AS:List CS->Bool
 |.ref _::r=>AS r
 |l=>l==BZ
structure mq(K:Tx)(C:Ph):Prop where
 ga:Ul K (.ref C) "__getattribute__" = ih (ih (.builtin "BaseException.__getattribute__"))
 gh:Ul K (.ref C) "__getattr__" = ih none
 sa:Ul K (.ref C) "__setattr__" = ih (ih (.builtin "object.__setattr__"))
 hd:hasDictIn K C=true
 ov:((clsIn K C).any λcd=>AS cd.mro)=true
 be:mroIn K C (.type "BaseException")=ih true
 ve:mroIn K C (.type "ValueError")=ih true
 ob:mroIn K C (.type "object")=ih true
 ka:Ul K (.ref C) "__class__" = ih (ih (.builtin "object.__class__"))
 kn:specialIn K (.builtin "object.__class__") "__get__" = ih (ih (.builtin "getset_descriptor.__get__"))
 kt:takesIn K (.builtin "object.__class__")=ih true
section
variable{x:Ph}{ox:Ue}{od:am Ue}
theorem Ef{fill a:Bool}{Q:CS->Pn->Prop}(X:K.In s.heap)(I:InstAt s.heap x ox C od)(c:mq K C)
  (h:Px (Qu prog w) A.in1 (TF.«object.__getattribute__» ⟨[.ref x,.str name tk],[]⟩) (λb s'=>match b with|.done (.ret v)=>Px (Qu prog w) A (handedOut v) Q E s'|_=>False) (λ_ _=>False) s) :
  Px (Qu prog w) A (getAttrBy (.ref x) (.str name tk) fill a) Q E s:=by
 have g:=I.type (M:=Qu prog w);have i:=looks_findIn (M:=Qu prog w) X c.ga;have L2:=looks_findIn (M:=Qu prog w) X c.gh;have sub:Looks (Qu prog w) s.heap (isInstance (.ref x) (.type "BaseException")) true:=I.type.andThen (looks_mroIn X c.be);have e:(TR "BaseException.__getattribute__" == TR "object.__getattribute__")=false:=by decide +kernel
 have f:(onTheHeap (PU C)&&TR "BaseException.__getattribute__" == TR "object.__getattribute__")=false:=by rw[e];rfl
 have j:builtinKind "BaseException.__getattribute__" = ih .slot:=by decide +kernel
 have d:splitId "BaseException.__getattribute__" = ih ("BaseException","__getattribute__"):=by decide +kernel
 unfold getAttrBy;refine eM (ah (g.here (ah (i.here ?_))))
 dsimp only
 rw[f];show Px _ _ (getAttrByItsOwn _ _ _ _ _ _) _ _ _;unfold getAttrByItsOwn hookBefore;refine ah ?_;rw[aI (show onTheHeap (PU C)=true from rfl)];refine L2.here (ah (m4 (eM ?_)));unfold callGetattribute;rw[ax (show ¬ (a&&onTheHeap (TR "BaseException.__getattribute__"))=true by cases a <;> decide)]
 unfold boundAndCalled;rw[PD.ga.bind];refine ah (au (tG (codeAny_call_builtin PD.ga.plain PySem.F.entry_bexc_ga (@check_slot (Qu prog w) _ _ s "BaseException.__getattribute__" "BaseException" "__getattribute__" (.ref x) [.str name tk] [] _ j d sub (PySem.F.args_bexc_ga _ _) ?_))));refine i0 h (λb s' z=>?_) λ_ _ z=>z.elim;rcases b with(_|_|_|_)|_ <;> first|exact z|exact z.elim
theorem Eg{Q:am CS->Pn->Prop}(X:K.In s.heap)(I:InstAt s.heap x ox C od)(c:mq K C)(h:Q (ih (.ref C)) { s with toks:=s.toks+1 }):Px (Qu prog w) A (getAttr? (.ref x) "__class__") Q E s:=by
 have a:findObj K C od "__class__" = ih (.bind (.builtin "getset_descriptor.__get__") (.builtin "object.__class__")):=by
  obtain⟨f,b,_⟩:=any_some c.hd;unfold findObj;rw[b,tN,c.ka,tN]
  dsimp only
  rw[c.kn,tN]
  dsimp only
  rw[c.kt,tN]
 unfold getAttr? getAttrBy?;refine ah (wpAny_mkText (ah (m4 ?_)));have d:=I.type (M:=Qu prog w);have e:=looks_find (M:=Qu prog w) X I a;refine Ef (s:={ s with toks:=s.toks+1 }) X I c ?_;refine ah (au (ah (au (ah (VZ (s:={ s with toks:=s.toks+1 }) d (ah (VZ (s:={ s with toks:=s.toks+1 }) e ?_)))))));show Px _ _ (holding [.builtin "object.__class__"] (call (.builtin "getset_descriptor.__get__") [.builtin "object.__class__",.ref x,.ref C]) >>= ret) _ _ _;refine ah (eM (tG (class_get (s:={ s with toks:=s.toks+1 }) (ox:=ox) (od:=od) X I c.ob ?_)));exact au (handed_on rfl (au h))
theorem DS{M:VJ}(X:K.In h)(c:mq K C):Looks M h (isType (.ref C)) true:=by
 obtain⟨d,a,_⟩:=any_some c.hd;unfold clsIn at a;split at a
 next b =>
  intro e f g s' k q;exact ah (wpAny_loadPart (part:=ih headPart) (k _ _ (X _ _ b)) (au q))
 next=>cases a
theorem vO(c:mq K C):KitX K (.ref x) (.ref C) (λh=>InstAt h x ox C od) where
 ty:=λ_ _ _ I=>I.type
 it:=λ_ _ X _=>DS X c
 ne:=λh tp _ _ _ _ X tup=>by
  obtain⟨d,a,_⟩:=any_some c.hd;cases q:(PU C == .ref tp) with
  |false=>rfl
  |true =>
   have e:C=tp:=W6 (i1.mp q);unfold clsIn at a;split at a
   next b =>
    have two:=(X _ _ b).symm;rw[e,tup]at two;cases two
   next=>cases a
 ca:=λX I k=>Eg X I c k
end
def Bi(C:Ph)(dx:Option Ph)(a:Ph):HO:=.ext λh=>∃t,h.get? a=ih { cls:=.ref C,dict:=dx,data:=.fields #[.ref t,.none,.none,.none,.bool false,.none] }
def Bj(d:Ph)(fs:List (Pd×V)):HO:=.ext λh=>fs.length<=100 /\∃mA,h.Ns1 d mA/\(∀f,d7 (fs.lookup f) (mA f))/\Uc mA (fs.map (·.1))
section
variable{dx:am Ph}{fs:al (Pd×V)}{f:Pd}
theorem Inv.excAt(I:Inv X J σ H s)(e:H a=ih (Bi C dx a)):∃t,s.heap.get? a=ih { cls:=.ref C,dict:=dx,data:=.fields #[.ref t,.none,.none,.none,.bool false,.none] }:=(I.aB a _ e).1
theorem Inv.F9(I:Inv X J σ H s)(e:H d=ih (Bj d fs)):fs.length<=100 /\∃mA,s.heap.Ns1 d mA/\(∀f,d7 (fs.lookup f) (mA f))/\Uc mA (fs.map (·.1)):=(I.aB d _ e).1
end
end L2
namespace L2
open Spec PyProof.Rows W
mutual
inductive Rep(H:Hp):V->Pj->Prop where
 |aJ:Rep H .aJ .none
 |bl (b:Bool):Rep H (.bl b) (.bool b)
 |int (i:Int):Rep H (.int i) (.int i)
 |str (x:Pd):Rep H (.str x) (.str x)
 |lst {a:Ph}{xs:List V}{ds:List Pj}:H a=ih (.lst xs)->b5 H xs ds->Rep H (.ref a) (.list ds)
 |tup {a:Ph}{xs:List V}{ds:List Pj}:H a=ih (.tup xs)->b5 H xs ds->Rep H (.ref a) (.tuple ds)
inductive b5(H:Hp):List V->List Pj->Prop where
 |nil:b5 H [] []
 |cons {x:V}{d:Pj}{xs:List V}{ds:List Pj}:Rep H x d->b5 H xs ds->b5 H (x::xs) (d::ds)
end
section
mutual
theorem Rep.reads(I:Inv X J σ H s):∀{v:V}{d:Pj}{u:CS},Rep H v d->RelV v u ->∃f,Reads s.heap u d f
 |_,_,_,.aJ,r=>by cases r;exact⟨_,.none⟩
 |_,_,_,.bl b,r=>by cases r;exact⟨_,.bool b⟩
 |_,_,_,.int i,r=>by obtain⟨t,rfl⟩:=r;exact⟨_,.int i t⟩
 |_,_,_,.str x,r=>by obtain⟨t,rfl⟩:=r;exact⟨_,.str x t⟩
 |_,_,_,.lst (a:=a) (xs:=xs) e g,r=>by
  cases r
  obtain⟨_,its,n,h,c⟩:=(show bB X.prog X.w H s.heap a (.lst xs) from I.aB a _ e);obtain⟨f,j⟩:=b5.reads I g h;exact⟨_,.list c rfl rfl j⟩
 |_,_,_,.tup (a:=a) (xs:=xs) e g,r=>by
  cases r
  obtain⟨_,its,h,m,c,k,n,l,_⟩:=(show bB X.prog X.w H s.heap a (.tup xs) from I.aB a _ e);obtain⟨f,j⟩:=b5.reads I g h;exact⟨_,.tuple c k l j⟩
theorem b5.reads(I:Inv X J σ H s):∀{vs:al V}{ds:al Pj}{us:al CS},b5 H vs ds->Vals vs us ->∃a,ReadsAll s.heap us ds a
 |_,_,_,.nil,r=>by cases r;exact⟨_,.nil⟩
 |_,_,_,.cons r b,c=>by
  cases c with
  |cons q d =>
   obtain⟨a,h1⟩:=Rep.reads I r q;obtain⟨bs,h2⟩:=b5.reads I b d;exact⟨_,.cons h1 h2⟩
end
mutual
theorem Rep.same:∀{v:V}{d:Pj},Rep H v d->aw H Y->Rep Y v d
 |_,_,.aJ,_=>.aJ
 |_,_,.bl b,_=>.bl b
 |_,_,.int i,_=>.int i
 |_,_,.str x,_=>.str x
 |_,_,.lst e a,k=>.lst (k _ _ e) (b5.same a k)
 |_,_,.tup e a,k=>.tup (k _ _ e) (b5.same a k)
theorem b5.same:∀{vs:al V}{ds:al Pj},b5 H vs ds->aw H Y->b5 Y vs ds
 |_,_,.nil,_=>.nil
 |_,_,.cons r a,k=>.cons (Rep.same r k) (b5.same a k)
end
end
def Bl:R2:=λx y H Q=>∃da db,Rep H x da/\Rep H y db/\da.canLay0=true/\db.canLay0=true/\da.depth<=60/\Q (.bl (Ub da db)) H
def Bm:R2:=λx y H Q=>∃da db,Rep H x da/\Rep H y db/\da.canLay0=true/\db.canLay0=true/\da.depth<=60/\Q (.bl (!Ub da db)) H
theorem rx(g:X.A.units+64<T6):cg X (SU .Eq) Bl:=by
 rintro J s σ H x y v u Q I a b ⟨i,db,c,d,e,f,j,q⟩;obtain⟨k,h1⟩:=c.reads I a;obtain⟨bs,h2⟩:=d.reads I b;exact SeqAt.compareEq_reads h1 h2 e f (by omega) ⟨.bl _,H,I,rfl,q⟩
theorem kc(g:X.A.units+64<T6):cg X (SU .NotEq) Bm:=by
 rintro J s σ H x y v u Q I a b ⟨i,db,c,d,e,f,j,q⟩;obtain⟨k,h1⟩:=c.reads I a;obtain⟨bs,h2⟩:=d.reads I b;exact SeqAt.compareNe_reads h1 h2 e f (by omega) ⟨.bl _,H,I,rfl,q⟩
end L2
namespace L2
open Spec PyProof.Rows W
section
variable{o:QD}{f:Pd}
def Bn(K:Tx):List V->Hp->VK->Prop:=λxs H Q=>∃x c t cv b,xs=[x,c]/\RelV c cv/\(fy K H x t \/∃a C dx,x=.ref a/\t=.ref C/\H a=ih (Bi C dx a)/\mq K C/\(∀d,dx=ih d ->∃fs,H d=ih (Bj d fs)))/\kitOne K t cv=ih b/\Q (.bl b) H
theorem gA:c8 X (.builtin "isinstance") (λxs H Q=>(∃x,(∃C,xs=[x,.ref C])\/(∃T,xs=[x,.ty T]))/\Bn X.K xs H Q):=by
 rintro J s σ H xs us Q I r ⟨o,x,c,t,p,b,rfl,j,ty,e,q⟩;obtain⟨u,v,rfl,k,g⟩:=r.two;have l:v=p:=by
  obtain⟨B,⟨C,z⟩|⟨T,z⟩⟩:=o
  ·cases z;cases j;cases g;rfl
  ·cases z;cases j;cases g;rfl
 subst l;rcases ty with ty|⟨a,C,dx,rfl,rfl,w,c,y⟩
 ·exact Ea I k ty e λtk=>⟨.bl b,H,I.tok _,rfl,q⟩
 ·cases k
  obtain⟨t,i⟩:=I.excAt w;cases dx with
  |none =>
   have f:InstAt s.heap a _ C none:=⟨i,rfl,rfl,Tb⟩;exact kia_one (vO c) I.cN f e (λz=>nomatch z) λtk=>⟨.bl b,H,I.tok _,rfl,q⟩
  |some d =>
   obtain⟨fs,A⟩:=y d rfl;obtain⟨_,mA,n,_⟩:=I.F9 A;obtain⟨od,m,_⟩:=u4 n;have f:InstAt s.heap a _ C (ih od):=⟨i,rfl,rfl,m⟩;exact kia_one (vO c) I.cN f e (λz=>nomatch z) λtk=>⟨.bl b,H,I.tok _,rfl,q⟩
end
def mM(K:Tx)(l:Ph):It:=
 ⟨λi H=>∃xs x,aj K H l xs/\xs[i]?=ih x,λi H x Y=>∃t v,H t=none/\x=.ref t/\(∀xs,aj K H l xs->xs[i]?=ih v)/\Y=upd H t (.tup [.int i,v]),λi H=>∃xs,aj K H l xs/\xs.length<=i⟩
theorem Eh(l e it:Ph)(Q:e≠it) :
  Turn P w K (.Tuple Qn n1 tp) (mM K l) [e,it] e (λi h=>(∃f,IsEnum h e it i f)/\h.IsListIter it l i) where
 mem:=by simp
 obj:=λi h st b a=>by
  obtain⟨⟨f,h1⟩,h2⟩:=st;rcases bU.mp a with z|z
  ·subst z;exact⟨_,h1,λv q=>by cases q⟩
  ·have A:b=it:=by simpa using z
   subst A;obtain⟨o,q,_,d⟩:=h2;exact⟨o,q,λv z=>by rw[d]at z;cases z⟩
 keep:=λi h h' st k=>by
  obtain⟨⟨f,h1⟩,h2⟩:=st;exact⟨⟨f,k e (by simp) _ h1⟩,h2.at λo q=>k it (by simp) o q⟩
 item:=by
  intro X F G hK hc i J s σ H E I B st L;subst F G hK;obtain⟨xs,x,C,M⟩:=L;obtain⟨its,N,p,S⟩:=I.list C;obtain⟨u,T,U⟩:=N.get M;obtain⟨⟨f,h1⟩,h2⟩:=st;have j:=B e (by simp)
  have fi:=B it (by simp)
  refine wpAny_pyNext_enum_item h1 h2 p.isList (x:=u) (by simpa using T) Q λh' V W Y z1 xa=>⟨_,rfl,?_⟩
  refine wpAny_letOwnedTupleGo_enum (s:={ s with heap:=h',toks:=s.toks+1 }) V λD ya O=>?_;have R:e≠s.heap.objs.size:=cn (bF h1);have t:∀b o,b≠e->b≠it->s.heap.get? b=ih o->D.get? b=ih o:=λb o n1 za q=>(O.2 b n1).trans (xa b o n1 za q);have xb:D.get? s.heap.objs.size=ih { cls:=.type "tuple",data:=.seq #[.int i s.toks,u] }:=(O.2 _ (aQ R)).trans Y;have y:H s.heap.objs.size=none:=I.aB.fresh (aN _);have lt:∀b o,s.heap.get? b=ih o->b≠s.heap.objs.size:=λb o q=>cn (bF q);have gw:∀b o,H b=ih o->b≠e/\b≠it:=λb o q=>⟨(λz=>by rw[z,j.1]at q;cases q),(λz=>by rw[z,fi.1]at q;cases q)⟩
  have g:∀b,b ∉ [e,it]->b≠e/\b≠it:=λb a=>⟨λz=>a (by simp[z]),λz=>a (by simp[z])⟩
  have yb:Inv X J σ (upd H s.heap.objs.size (.tup [.int i,x])) { s with heap:=D,toks:=s.toks+1 }:=by
   refine I.step (g':=s.gens) (d':=s.drawn) (t':=s.toks+1) (ch:=[e,it]) (λb a=>?_) (λb o _ _ hc q _=>t b o (g b hc).1 (g b hc).2 q) (λb o _ _ hc q _=>⟨o.slots,t b o (g b hc).1 (g b hc).2 q⟩)
    (λb o _ q n=>by rw[ab (lt b o q)];exact n) (λb o hc q=>⟨o,t b o (g b hc).1 (g b hc).2 q⟩) (λb ys q=>by rw[ab (ar q y)];exact q) (λb o v q=>by rw[ab (ar q y)];exact q)
    (λb ps q=>⟨#[],by rw[ab (ar q y),q];simp⟩) (λm zb=>?_) (λb o q=>?_) I.bare
   ·rcases bU.mp a with z|z
    ·subst z;exact⟨j.2.2.2.1,j.2.1,j.2.2.2.2.1,j.2.2.2.2.2⟩
    ·have A:b=it:=by simpa using z
     subst A;exact⟨fi.2.2.2.1,fi.2.1,fi.2.2.2.2.1,fi.2.2.2.2.2⟩
   ·obtain⟨o,es,ep,xc,r⟩:=zb
    exact⟨o,es,ep,t _ o (aQ j.2.1) (aQ fi.2.1) xc,r⟩
   ·by_cases a:b=s.heap.objs.size
    ·subst a
     rw[ae]at q;cases q;exact⟨by rw[aR];show 2<=_;decide,[.int i s.toks,u],.cons ⟨_,rfl⟩ (.cons U .nil),_,xb,rfl,_,rfl,rfl⟩
    ·rw[ab a]at q
     refine(I.aB b o q).eV (λc v hc z=>?_) (λc z=>by rw[ab (ar z y)];exact z) λc ys z=>by rw[ab (ar z y)];exact z
     rcases hc with hc|hc
     ·subst hc;exact t _ v (gw _ _ q).1 (gw _ _ q).2 z
     ·exact t c v (gw _ _ hc).1 (gw _ _ hc).2 z
  refine⟨.ref s.heap.objs.size,_,yb,rfl,⟨s.heap.objs.size,x,y,rfl,λys yc=>by rw[I.vH yc C];exact M,rfl⟩,⟨⟨u,ya⟩,?_⟩,λb a=>?_⟩
  ·exact W.extBut O.extBut (aQ Q)
  ·have:b≠s.heap.objs.size:=by
    rcases bU.mp a with z|z
    ·rw[z];exact R
    ·have A:b=it:=by simpa using z
     obtain⟨o,q,_⟩:=h2;rw[A];exact lt _ _ q
   rw[ab this];exact(B b a).1
 done:=by
  intro X F G hK hc i J s σ H E I B st L;subst F G hK;obtain⟨xs,C,M⟩:=L;obtain⟨its,N,p,S⟩:=I.list C;obtain⟨⟨f,h1⟩,h2⟩:=st;have fi:=B it (by simp)
  have xd:=N.length;exact wpAny_pyNext_enum_end (I.ok.hd hc) h1 h2 p.isList (by simp;omega) λh' zc=>⟨rfl,I.turned (t':=s.toks) (λb o a q=>zc b o a q) fi.1 fi.2.1 fi.2.2.2.1 fi.2.2.2.2.1 fi.2.2.2.2.2⟩
 self:=λ_ _ _ _ _ st h=>let ⟨⟨_,h1⟩,_⟩:=st;wpAny_pyIter_enum h1 h
def IX(K:Tx)(ta:TA):TI:=λσ H R=>ta σ H λvs O=>∃a,vs=[.ref a]/\(∃xs,aj K O a xs)/\R (mM K a) O
theorem F'{a:QD}{ta:TA}{p:VT}(g:Gl X "enumerate")(i:X.mg "enumerate" = none)(j:PA X [a] ta)(k:SQ [a] X.env=[(false,eval a X.env)]:=by rfl) :
  PI X (.Tuple Qn n1 tp) (.Call (.Name "enumerate" p) [a] [] pos) (IX X.K ta):=by
 intro J s σ H R I h;refine Call_ (j7 I g i (show SR "enumerate" = ih (.type "enumerate") by decide +kernel) (tF (ay (j pos J s σ H _ I h) λus c E=>?_) k rfl));obtain⟨vs,O,d,m,n⟩:=E
 obtain⟨l,e,⟨xs,o⟩,q⟩:=n;subst e;obtain⟨u,rfl,r⟩:=m.one;cases r
 obtain⟨its,B,t,C⟩:=d.list o;refine call_enumerate_list t.isList λh' f v D w=>?_;have x:Inv X J σ O { c with heap:=h' }:=d.kept (t':=c.toks) w;refine wpAny_pyIter_enum (s:={ c with heap:=h' }) f ?_;refine⟨c.ai+1,[c.ai+1,c.ai],_,_,O,rfl,x,Eh l (c.ai+1) c.ai (Nat.succ_ne_self _),⟨⟨.none,f⟩,v⟩,λb y=>?_,q⟩;rcases bU.mp y with z|z
 ·subst z;exact d.gI (jK _) (d.aB.fresh (jK _))
 ·have A:b=c.ai:=by simpa using z
  subst A;exact d.gI (aN _) (d.aB.fresh (aN _))
theorem ql:∀{ys:al Pd}{us:al CS},Vals (ys.map V.str) us->Ug us ys:=by
 intro ys
 induction ys with
 |nil=>intro us r;cases r;exact .nil
 |cons y ys a =>
  intro us r;cases r with
  |cons q b =>
   obtain⟨t,rfl⟩:=q;exact .cons _ _ (a b)
def rJoin(K:Tx):V->List V->Hp->VK->Prop:=λx vs H Q=>∃(z:Pd) (p:Ph) (ys:List Pd),x=.str z/\vs=[.ref p]/\(aj K H p (ys.map V.str)\/aO K H p (ys.map V.str))/\(ys.map (·.length)).sum+ys.length * z.length<=1000000/\Q (.str (Vw z ys)) H
theorem Ga:pD X "str.join" (rJoin X.K):=by
 rintro J s σ H x xs v us Q I b c ⟨z,p,ys,rfl,rfl,hp,e,q⟩;obtain⟨t,rfl⟩:=b;obtain⟨u,rfl,d⟩:=c.one;cases d
 rcases hp with hp|hp
 ·obtain⟨its,r,a,_⟩:=I.list hp
  exact join_list a.isList (by simpa using ql r) (by omega) λt' k=>⟨.str _,H,I.tok _,⟨_,rfl⟩,q⟩
 ·obtain⟨its,r,a,_⟩:=I.tuple hp
  exact join_tuple a (by simpa using ql r) (by omega) λt' k=>⟨.str _,H,I.tok _,⟨_,rfl⟩,q⟩
def Kl:V->Option Int->Option Int->Hp->VK->Prop:=λx lo hi H Q=>∃z:Pd,x=.str z/\z.length<=1000000/\Q (.str (Tc z lo hi)) H
theorem Hz:kR X Kl:=by
 rintro J s σ H x v vl vu lo hi sl Q I e a f d ⟨z,rfl,g,q⟩;obtain⟨t,rfl⟩:=e;have b:(Tc z lo hi).length<=Pk:=ed (Txt.slice_le z _ _) (by rw[aR];omega)
 refine⟨"str",_,PySem.F.slot_str_getitem.lookup,typeIs_str _ _ _,?_⟩;cases f with
 |none =>
  cases d with
  |none=>exact tO (l:=none) (u:=none) (st:=none) a rfl (tP ⟨b,λt' k=>⟨.str _,H,I.tok _,⟨_,rfl⟩,q⟩⟩)
  |int j c=>exact tO (l:=none) (u:=ih (j,c)) (st:=none) a rfl (tP ⟨b,λt' k=>⟨.str _,H,I.tok _,⟨_,rfl⟩,q⟩⟩)
 |int i ti =>
  cases d with
  |none=>exact tO (l:=ih (i,ti)) (u:=none) (st:=none) a rfl (tP ⟨b,λt' k=>⟨.str _,H,I.tok _,⟨_,rfl⟩,q⟩⟩)
  |int j c=>exact tO (l:=ih (i,ti)) (u:=ih (j,c)) (st:=none) a rfl (tP ⟨b,λt' k=>⟨.str _,H,I.tok _,⟨_,rfl⟩,q⟩⟩)
def CW(Pv:Nat->List V->St->Hp->Prop)(n i m:Nat)(ys:List V)(τ:St)(H:Hp):Prop:=m=n - i/\i<=n/\Pv i ys τ H
theorem cw_next{a:Nat->List V->St->Hp->Prop}{n:Nat}{b:St}(h:i<n)(p:a (i+1) ys b H):∃c,c<n - i/\CW a n (i+1) c ys b H:=⟨n - (i+1),by omega,rfl,h,p⟩
theorem qm{n:Nat}{g:TG}(c:Nat->List V->St->Hp->Prop)(l:c 0 [] dy (upd O p (.lst [])))(o:∀i ys a H,c i ys a H->H p=bi ys)
  (q:∀i ys a H,i<n->c i ys a H->g (.int (lo+i)) a H λf r=>ti f r λb j=>if b=true then te f j λy k=>k p=bi ys/\ys.length<Pk /\∃d,d<n - i/\CW c n (i+1) d (ys++[y]) f (upd k p (.lst (ys++[y]))) else ∃d,d<n - i/\CW c n (i+1) d ys f j)
  (s:∀ys a H,c n ys a H->Q (.ref p) H):gr (iP lo n) g ti te dy Q p O:=by
 refine⟨CW c n,⟨n,by simp,bw _,l⟩,?_⟩
 rintro i m ys a H ⟨rfl,hi,pv⟩;refine⟨o i ys a H pv,?_⟩
 by_cases h:i<n
 ·refine .inr ⟨h,λx v t=>?_⟩
  obtain⟨u,ex⟩:=t;subst u ex;exact q i ys a _ h pv
 ·have e:i=n:=by omega
  subst e;exact .inl ⟨aN _,s ys a H pv⟩
theorem fX{g:TG}(d:Nat->List V->St->Hp->Prop)(o:d 0 [] dy (upd O p (.lst [])))(q:∀i ys c H,d i ys c H->H p=bi ys/\aj K H a xs)
  (r:∀i x ys c H,xs[i]?=ih x->d i ys c H->g x c H λh s=>ti h s λb k=>if b=true then te h k λy l=>l p=bi ys/\ys.length<Pk /\∃f,f<xs.length - i/\CW d xs.length (i+1) f (ys++[y]) h (upd l p (.lst (ys++[y]))) else ∃f,f<xs.length - i/\CW d xs.length (i+1) f ys h k)
  (t:∀ys c H,d xs.length ys c H->Q (.ref p) H):gr (jB K a) g ti te dy Q p O:=by
 refine⟨CW d xs.length,⟨xs.length,by simp,bw _,o⟩,?_⟩
 rintro i m ys c H ⟨rfl,hi,pv⟩;obtain⟨u,j⟩:=q i ys c H pv;refine⟨u,?_⟩
 by_cases n:i<xs.length
 ·refine .inr ⟨⟨xs,xs[i],j,by simp[n]⟩,λx z v=>?_⟩
  obtain⟨w,ex⟩:=v;subst w;exact r i x ys c _ (ex xs j) pv
 ·have e:i=xs.length:=by omega
  subst e;exact .inl ⟨⟨xs,j,aN _⟩,t ys c H pv⟩
theorem jZ{g:TG}(d:Nat->List V->St->Hp->Prop)(o:d 0 [] dy (upd O p (.lst [])))(q:∀i ys c H,d i ys c H->H p=bi ys/\aO K H a xs)
  (r:∀i x ys c H,xs[i]?=ih x->d i ys c H->g x c H λh s=>ti h s λb k=>if b=true then te h k λy l=>l p=bi ys/\ys.length<Pk /\∃f,f<xs.length - i/\CW d xs.length (i+1) f (ys++[y]) h (upd l p (.lst (ys++[y]))) else ∃f,f<xs.length - i/\CW d xs.length (i+1) f ys h k)
  (t:∀ys c H,d xs.length ys c H->Q (.ref p) H):gr (hB K a) g ti te dy Q p O:=by
 refine⟨CW d xs.length,⟨xs.length,by simp,bw _,o⟩,?_⟩
 rintro i m ys c H ⟨rfl,hi,pv⟩;obtain⟨u,j⟩:=q i ys c H pv;refine⟨u,?_⟩
 by_cases n:i<xs.length
 ·refine .inr ⟨⟨xs,xs[i],j,by simp[n]⟩,λx z v=>?_⟩
  obtain⟨w,ex⟩:=v;subst w;exact r i x ys c _ (ex xs j) pv
 ·have e:i=xs.length:=by omega
  subst e;exact .inl ⟨⟨xs,j,aN _⟩,t ys c H pv⟩
def si(N N':List Pd)(Qc:List (Option Nat))(sc:TY):Bool:=(SY Qc.length).all λj=>match Qc[j]? with
 |some (ih i)=>(match N[i]? with|some x=>N'[j]? == ih x&&sc.names.lookup x==ih .free|none=>false)
 |_=>true
theorem AU(h:si N N' Qc sc=true)(j i:Nat)(e:Qc[j]?=ih (ih i)):∃x,N[i]?=ih x/\N'[j]?=ih x/\sc.names.lookup x=ih .free:=by
 have a:j<Qc.length:=(bT.mp e).1;have z:=jM.mp h j (iZ.mpr a);rw[e]at z
 dsimp only at z
 split at z
 ·rename_i x q
  obtain⟨b,c⟩:=PF.mp z;exact⟨x,q,i1.mp b,i1.mp c⟩
 ·cases z
structure Nm(x:Pd):Prop where
 lo:1<=x.length
 hi:x.length<=8
 az:∀c∈x.cps.toList,97<=c/\c<=122
def sign(c:Nat):Pd:=⟨#[c]⟩
theorem uM:∀(b:al Nat) (a:Array Nat),(b.map sign).foldl (λa p=>a++("" : Pd).cps++p.cps) a=a++b.toArray
 |[],a=>by simp
 |c::b,a=>by
  rw[bV,List.foldl_cons,uM b];have e:("" : Pd).cps = #[]:=rfl;rw[e]
  apply tQ.mp
  simp[sign]
theorem DT(a:al Nat):Vw ("" : Pd) (a.map sign)=⟨a.toArray⟩:=by
 unfold Vw WL;cases a with
 |nil=>rfl
 |cons c a =>
  rw[bV];show(⟨(a.map sign).foldl _ (sign c).cps⟩:Pd)=_;rw[uM]
  apply dc Str.mk
  apply tQ.mp
  simp[sign]
theorem DU{z:Pd}{c:Nat}(h:c∈(Tc z none (ih 6)).cps.toList):c∈z.cps.toList:=by
 unfold Tc at h;split at h
 ·exact h
 ·simp only[pU]at h
  obtain⟨i,_,e⟩:=h;obtain⟨_,a⟩:=CI.mp e;rw[<-a];simp
theorem uN(z:Pd):(Tc z none (ih 6)).length<=6:=by
 have hi:(TN none (ih 6) 1 z.length).length<=6:=by
  unfold TN sliceRange;simp only[show(1:Int)>0 by decide,gg,aK,CJ]
  split <;> (try split) <;> omega
 unfold Tc;split
 ·rename_i h
  have e:(TN none (ih 6) 1 z.length).length=z.length:=by simpa using h
  omega
 ·show(List.filterMap _ _).toArray.size<=6
  rw[b9];exact ed (List.length_filterMap_le _ _) hi
theorem l4(a b:Pd):(a++b).cps=a.cps++b.cps:=rfl
theorem Gb{z:Pd}{c:Nat}(hz:∀c∈z.cps.toList,97<=c/\c<=122)(g:97<=c/\c<=122):Nm (Tc z none (ih 6)++sign c++("q" : Pd)):=by
 have a:("q" : Pd).cps = #[113]:=by decide +kernel
 have i:=uN z;have e:(Tc z none (ih 6)++sign c++("q" : Pd)).length=(Tc z none (ih 6)).length+2:=by
  show(_:Array Nat).size=_;rw[l4,l4,a];show(_ ++ #[c] ++ #[113]).size=_;rw[tR,tR];rfl
 refine⟨by omega,by omega,λd b=>?_⟩
 rw[l4,l4,a]at b;have f:d∈(Tc z none (ih 6)).cps.toList\/d=c\/d=113:=by
  have:d∈((Tc z none (ih 6)).cps ++ #[c] ++ #[113]).toList:=b;simp at this;rcases this with h|h|h
  ·exact .inl (by simpa using h)
  ·exact .inr (.inl h)
  ·exact .inr (.inr h)
 rcases f with h|h|h
 ·exact hz d (DU h)
 ·rw[h];exact g
 ·rw[h];omega
theorem E6{p:Pd}{c d:Nat}(h:p++sign c++("q" : Pd)=p++sign d++("q" : Pd)):c=d:=by
 have h1:=dc (λs:Pd=>s.cps.toList) h;simp only[l4]at h1;have h2:p.cps.toList++([c]++("q" : Pd).cps.toList)=p.cps.toList++([d]++("q" : Pd).cps.toList):=by
  simpa [sign,Array.toList_append] using h1
 have a:=List.append_cancel_left h2
 simpa using a
theorem ry:∀{ys found:al Pd},ys.Nodup->found.length<ys.length ->∃y∈ys,y ∉ found
 |[],found,_,h=>by simp at h
 |y::ys,found,nd,h=>by
  obtain⟨n1,c⟩:=d0.mp nd
  by_cases a:y∈found
  ·have d:=PH a
   have g:=CK a;obtain⟨z,b,f⟩:=ry (found:=found.erase y) c (by rw[d];rw[cf]at h;omega)
   refine⟨z,bL _ b,λq=>f ?_⟩;have ne:z≠y:=λe=>n1 (by rw[<-e];exact b)
   exact(PJ ne).mpr q
  ·exact⟨y,bJ,a⟩
theorem lR(K:Tx)(h:X.K=K):cg X (SU .In) (pE K false):=by subst h;exact i5
theorem uO(K:Tx)(h:X.K=K):cg X (SU .NotIn) (pE K true):=by subst h;exact Dn
theorem qx(K:Tx)(h:X.K=K):kS X (oQ K):=by subst h;exact cX
theorem gV(K:Tx)(h:X.K=K):kS X (oR K):=by subst h;exact cE
theorem vf{l:QD}(K:Tx)(h:X.K=K)(a:PE X l tl):PI X tg l (AJ K tl):=by subst h;exact d4 a
theorem vP{l:QD}(K:Tx)(h:X.K=K)(a:PE X l tl):PI X tg l (Ba K tl):=by subst h;exact jd a
theorem hO(x:Pd)(ys:al Pd):jE (.str x) (ys.map V.str)=decide (x∈ys):=by
 unfold jE;rw[tS]
 induction ys with
 |nil=>simp
 |cons y ys a =>
  rw[jL,a];show((y==x)||decide (x∈ys))=decide (x∈y::ys)
  by_cases h:y=x
  ·subst h;simp
  ·have h':(y==x)=false:=hC.mpr h
   rw[h',CL];have:x∈y::ys ↔ x∈ys:=by simp[aQ h]
   simp[this]
theorem gz(ys:al Pd):(ys.map V.str).all g0=true:=by
 rw[jM];intro v a;obtain⟨y,_,rfl⟩:=ba.mp a
 rfl
theorem E7{its:Array CS}(tr:Nat->Bool)(E:A.in1.handled=none)(p:l≠it)(q:g.IsList l its)
  (G:∀i v,its[i]?=ih v ->∃a ws,v=.ref a/\a≠it/\Tt g a ws/\ws.size<=Pk/\tr i = !ws.isEmpty):∀(k i:Nat) (s:Pn),its.size - i=k->i<=its.size->(∀b o,b≠it->g.get? b=ih o->s.heap.get? b=ih o)->s.heap.IsListIter it l i ->
  (∀h' tk,(∀b o,b≠it->g.get? b=ih o->h'.get? b=ih o)->R (.ok (.ret (.bool (((SY its.size).drop i).any tr)))) { s with heap:=h',toks:=tk }) ->
  codeAny (Qu P w) A (.builtin "any.loop" ⟨[.ref it],[]⟩) R s:=by
 intro k
 induction k with
 |zero =>
  intro i s H hi c f d;obtain rfl:i=its.size:=by omega
  refine m5 VC (?_:Px _ _ _ _ _ _);rw[show A.under (.builtin "any.loop" ⟨[.ref it],[]⟩)=A.in1 from m6 tT _];show Px _ _ (pyNext (.ref it) >>= _) _ _ s;have h:s.heap.IsList l its:=q.at λo e=>c l o p e;refine ah (wpAny_pyNext_list_end E f h (by simp) λh' ex=>ah (kZ (au ?_)))
  have:=d h' s.toks λb o n e=>ex b o n (c b o n e);rw[PK (by simp)]at this
  exact this
 |succ k I =>
  intro i s H hi c f d;have j:i<its.size:=by omega
  have t:(SY its.size).drop i=i::(SY its.size).drop (i+1):=by rw[gT (by simpa using j),List.getElem_range]
  refine m5 VC (?_:Px _ _ _ _ _ _);rw[show A.under (.builtin "any.loop" ⟨[.ref it],[]⟩)=A.in1 from m6 tT _];show Px _ _ (pyNext (.ref it) >>= _) _ _ s;have h:s.heap.IsList l its:=q.at λo e=>c l o p e;have u:its[i]?=ih its[i]:=by simp[j]
  obtain⟨a,ws,J,K,z,L,C⟩:=G i _ u;refine ah (wpAny_pyNext_list_item f h u λh' B M=>?_);have m:∀b o,b≠it->g.get? b=ih o->h'.get? b=ih o:=λb o n e=>M.extBut b o n (c b o n e);have y:Tt h' a ws:=by
   obtain⟨o,N,r⟩:=z;exact⟨o,m a o K N,r⟩
  rw[J];refine ah (eM (truthy_tuple (s:={ s with heap:=h' }) y (by rw[aR]at L;omega) (ah (wpAny_letGo ?_))))
  rw[<-C];cases x:tr i with
  |false =>
   refine au ⟨p1 tT _,I (i+1) _ (by omega) j m B λh2 D O=>?_⟩
   have:=d h2 D O;rw[t,jL,x,CL]at this;exact this
  |true =>
   refine ah (kZ (au ?_));have:=d h' (s.toks+1+1) m;rw[t,jL,x,VR]at this;exact this
theorem Ei(B:X.calm=true):c8 X (.builtin "any") (λxs H Q=>∃(p:Ph) (ys:al V) (c:al (List V)),xs=[.ref p]/\aj X.K H p ys/\S2 (λy r=>∃a,y=V.ref a/\aO X.K H a r) ys c/\Q (.bl (c.any λr=>!r.isEmpty)) H):=by
 rintro J s σ H xs us Q I r ⟨p,ys,c,rfl,l,pr,q⟩;obtain⟨u,rfl,C⟩:=vals1 r;cases C
 obtain⟨its,t,d,D⟩:=I.list l;have j:=t.length;have all:∀i v,its[i]?=ih v ->∃a ws,v=.ref a/\Tt s.heap a ws/\ws.size<=Pk/\(c.map λr=>!r.isEmpty).getD i false = !ws.isEmpty:=by
  intro i v e;clear q l d D r
  induction t generalizing c i with
  |nil=>simp at e
  |cons E W G =>
   cases pr with
   |cons L pt =>
    cases i with
    |zero =>
     simp at e;subst e;obtain⟨a,rfl,M⟩:=L;cases E
     obtain⟨ws,w,f,k⟩:=I.tuple M;have U:=w.length;exact⟨a,_,rfl,f,by rw[b9];omega,by rw[qk w];rfl⟩
    |succ i=>exact G _ pt (by simpa using j) i (by simpa using e)
 have x:its.toArray.size=c.length:=by rw[b9,<-j];exact cw pr
 have z:(SY its.toArray.size).any (λi=>(c.map λr=>!r.isEmpty).getD i false)=c.any λr=>!r.isEmpty:=by
  rw[x]
  apply k3.mpr
  simp only[m7,iZ]
  constructor
  ·rintro⟨i,hi,e⟩
   refine⟨c[i],eO hi,?_⟩
   simpa [TZ,hi] using e
  ·rintro⟨r,N,e⟩
   obtain⟨i,hi,rfl⟩:=tU N;exact⟨i,hi,by simpa [TZ,hi] using e⟩
 refine call_function_tree F.kind_any F.plain_any F.entry_any (F.args_any1 (.ref p)) (?_:Px _ _ _ _ _ _);unfold TF.«any»;refine ah (m:=oneArg "any" _) (au (ah (tE d.isList ?_)));have new:∀b o,s.heap.get? b=ih o->b≠s.heap.objs.size:=λb o e=>cn (bF e);obtain⟨O,A,_⟩:=id d.isList;refine au ⟨p1 tT _,E7 (g:=s.heap) (λi=>(c.map λr=>!r.isEmpty).getD i false) (I.ok.hd B) (new p O A) d.isList (λi v e=>?_) _ 0 _ rfl (bw _) (λb o n e=>bu _ e) ⟨_,cm _ rfl,rfl,rfl⟩ λh' tk P=>?_⟩
 ·obtain⟨a,ws,R,f,k,S⟩:=all i v (by simpa using e)
  obtain⟨o,T,_⟩:=id f;exact⟨a,ws,R,new a o T,f,k,S⟩
 ·rw[tV,z]
  exact⟨.bl _,H,I.kept (t':=tk) λb o e=>P b o (new b o e) e,rfl,q⟩
theorem nD(t:X.calm=true):c8 X (.builtin "all") (λxs H Q=>∃(p:Ph) (bs:al Bool),xs=[.ref p]/\aj X.K H p (bs.map V.bl)/\Q (.bl (bs.all id)) H):=by
 rintro J s σ H xs us Q I r ⟨p,bs,rfl,g,q⟩;obtain⟨u,rfl,w⟩:=vals1 r;cases w
 obtain⟨its,c,a,x⟩:=I.list g;have k:=c.length;have f:its=bs.map TL:=by
  clear q g a x r k
  induction bs generalizing its with
  |nil=>cases c;rfl
  |cons b bs y =>
   cases c with
   |cons z B=>cases z;rw[y _ B];rfl
 have new:∀b o,s.heap.get? b=ih o->b≠s.ai:=λb o e=>cn (bF e);obtain⟨C,l,_⟩:=id a.isList;refine call_all_walk (tE a.isList ?_);refine⟨s.ai,_,_,_,_,_,λi=>bs.getD i true,rfl,VU (A:=X.A.in1) (I.ok.hd t) s.ai p (new p C l) its.toArray,⟨⟨_,cm _ rfl,rfl,rfl⟩,a.isList.at λo e=>bu _ e⟩,λi v s2 F G j m=>?_,λh' tk D=>?_⟩
 ·rw[f]at j
  have:bs[i]?.map TL=ih v:=by simpa using j
  obtain⟨b,d,rfl⟩:=fU.mp this;refine gS ?_;have e:bs.getD i true=b:=by rw[fV,d];rfl
  exact e ▸ m
 ·have n:(SY its.toArray.size).all (λi=>bs.getD i true)=bs.all id:=by
   have E:its.toArray.size=bs.length:=by rw[f];simp
   rw[E]
   apply k3.mpr
   simp only[jM,iZ]
   constructor
   ·intro h b d
    obtain⟨i,hi,rfl⟩:=tU d
    simpa [TZ,hi] using h i hi
   ·intro h i hi
    simpa [TZ,hi] using h bs[i] (eO hi)
  rw[n];exact⟨.bl _,H,I.kept (t':=tk) λb o e=>D b o (by simpa using new b o e) (bu _ e),rfl,q⟩
def Gd:V->List V->Hp->VK->Prop:=λx vs H Q=>∃(l:Ph) (ys:List Pd) (y:Pd) (j:Nat),x=.ref l/\vs=[.str y]/\H l=ih (.lst (ys.map V.str))/\ys[j]?=ih y/\(∀m,m<j->ys[m]? ≠ ih y)/\Q (.int j) H
theorem E8:mL X "list.index" Gd:=by
 rintro J s σ H x vs v us Q I C D ⟨l,ys,y,j,rfl,rfl,E,p,A,q⟩;cases C
 obtain⟨u,rfl,t,rfl⟩:=D.one;obtain⟨z,its,n,r,f,e⟩:=I.kF E;have k:j<its.length:=by
  have:=(bT.mp p).1;rw[<-f,aK];exact this
 have o:∀m (a:m<its.length),∃(w:Pd) (t':VI),ys[m]?=ih w/\its[m]=.str w t':=λm a=>by
  have b:m<ys.length:=by rw[<-f,aK]at a;exact a
  obtain⟨u,c,t',G⟩:=r.get (i:=m) (x:=.str ys[m]) (by rw[cR,bY b];rfl)
  rw[bY a]at c;exact⟨ys[m],t',bY b,by rw[c7 c];exact G⟩
 have K:(ys.map V.str).all g0=true:=gz ys;refine p0 F.slot_list_index ⟨_,e,rfl⟩ F.entry_list_index (F.args_list_index_2 _ _) (SeqAt.list_indexAt l its.toArray n none #[] (.str y t) (eu (.str y)) j (by simpa using k) ?_ ?_ ?_) ⟨e,?_,?_⟩
 ·rw[aR]at z;have:=f;omega
 ·obtain⟨w,t',d,g⟩:=o j k
  rw[p]at d;cases d;show eu (.str y) (its.toArray[j])=true;rw[PL,g,oe (y:=.str y) ⟨t',rfl⟩ rfl];show decide _=true;exact a' rfl
 ·intro m a B
  have b:m<its.length:=by simpa using a
  obtain⟨w,t',d,g⟩:=o m b;show eu (.str y) (its.toArray[m])=false;rw[PL,g,oe (y:=.str w) ⟨t',rfl⟩ rfl];have ne:=A m B;rw[d]at ne;show decide _=false;exact bS λz=>ne (by rw[z])
 ·intro u c
  exact jY (x:=.str y) ⟨t,rfl⟩ rfl r K u (by simpa using c)
 ·exact⟨.int j,H,I.tok _,⟨_,rfl⟩,q⟩
end L2
namespace L2
section
variable{α β γ δ ε ζ:Type}
theorem af{F P:α->Prop}{a:α}(f:F a)(h:P a):∃x,F x/\P x:=⟨a,f,h⟩
theorem aX{F:α->Prop}{G:α->β->Prop}{P:α->β->Prop}{a:α}{b:β}(f:F a)(g:G a b)(h:P a b):∃x,F x /\∃y,G x y/\P x y:=⟨a,f,b,g,h⟩
theorem dJ{F:α->Prop}{G:α->β->Prop}{I:α->β->γ->Prop}{P:α->β->γ->Prop}{a:α}{b:β}{c:γ}(f:F a)(g:G a b)(i:I a b c)(h:P a b c):∃x,F x /\∃y,G x y /\∃z,I x y z/\P x y z:=⟨a,f,b,g,c,i,h⟩
theorem Bo{F:α->Prop}{G:α->β->Prop}{I:α->β->γ->Prop}{e:α->β->γ->δ->Prop}{P:α->β->γ->δ->Prop}{a:α}{b:β}{c:γ}{d:δ}(f:F a)(g:G a b)(i:I a b c)(j:e a b c d)(h:P a b c d):∃x,F x /\∃y,G x y /\∃z,I x y z /\∃u,e x y z u/\P x y z u:=⟨a,f,b,g,c,i,d,j,h⟩
theorem sj{F:α->Prop}{G:α->β->Prop}{I:α->β->γ->Prop}{l:α->β->γ->δ->Prop}{K:α->β->γ->δ->ε->Prop}{P:α->β->γ->δ->ε->Prop}{a:α}{b:β}{c:γ}{d:δ}{e:ε}(f:F a)(g:G a b)(i:I a b c)(j:l a b c d)(k:K a b c d e)(h:P a b c d e):∃x,F x /\∃y,G x y /\∃z,I x y z /\∃u,l x y z u /\∃v,K x y z u v/\P x y z u v:=⟨a,f,b,g,c,i,d,j,e,k,h⟩
end
end L2
namespace L2
theorem iR{i:Int}(h:H p=bi xs)(e:cT xs i=ih v)(k:Q v H):oQ K (.ref p) (.int i) H Q:=⟨p,xs,i,v,rfl,rfl,aj.of h,e,k⟩
theorem dz{i:Int}(h:H p=bd xs)(e:cT xs i=ih v)(k:Q v H):tC (.int i) σ H (λy H2=>oR K (.ref p) y H2 Q):=⟨p,xs,i,v,rfl,rfl,aO.of h,e,k⟩
theorem jF{i:Int}(h:H p=bi xs)(e:cT xs i=ih v)(k:Q v H):tC (.int i) σ H (λy H2=>oQ K (.ref p) y H2 Q):=⟨p,xs,i,v,rfl,rfl,aj.of h,e,k⟩
end L2
namespace L2
open Spec PyProof.Rows
section
variable{κ:Type} [DecidableEq κ]
def bj(kvs:List (κ×V))(k:κ):Option V:=(kvs.find? λkv=>decide (kv.1=k)).map (·.2)
def putK(kvs:List (κ×V))(k:κ)(v:V):List (κ×V):=
 if (kvs.any λkv=>decide (kv.1=k))=true then kvs.map (λkv=>if kv.1=k then (kv.1,v) else kv) else kvs++[(k,v)]
def ei(kvs:List (κ×V))(k:κ):List (κ×V):=kvs.filter λkv=>decide (kv.1≠k)
theorem e2{p:κ×V}{r:al (κ×V)}{k:κ}(e:p.1=k):bj (p::r) k=ih p.2:=by simp[bj,m8,e]
theorem eG{p:κ×V}{r:al (κ×V)}{k:κ}(e : ¬ p.1=k):bj (p::r) k=bj r k:=by simp[bj,m8,e]
theorem i8(k:κ):∀kvs:al (κ×V),(kvs.any λa=>decide (a.1=k))=(bj kvs k).isSome
 |[]=>rfl
 |p::r=>by
  rw[jL]
  by_cases e:p.1=k
  ·simp only[e2 e,a' e,VR,PB]
  ·rw[eG e,bS e,CL];exact i8 k r
theorem vQ(k j:κ)(y:V):∀kvs:al (κ×V),bj (kvs.map λa=>if a.1=k then (a.1,y) else a) j=(bj kvs j).map λx=>if j=k then y else x
 |[]=>rfl
 |p::r=>by
  have b:=vQ k j y r;rw[bV]
  by_cases h:p.1=k
  ·rw[aI h]
   by_cases e:p.1=j
   ·rw[e2 (p:=(p.1,y)) e,e2 e,pV,aI (e.symm.trans h)]
   ·rw[eG (p:=(p.1,y)) e,eG e,b]
  ·rw[ax h]
   by_cases e:p.1=j
   ·rw[e2 (p:=p) e,e2 e,pV,ax (λz=>h (e.trans z))]
   ·rw[eG (p:=p) e,eG e,b]
theorem vg(k j:κ)(y:V):∀kvs:al (κ×V),bj kvs k=none->bj (kvs++[(k,y)]) j=if j=k then ih y else bj kvs j
 |[],_=>by
  by_cases e:k=j
  ·rw[aI e.symm];exact e2 (p:=(k,y)) e
  ·rw[ax (λz=>e z.symm)];exact eG (p:=(k,y)) e
 |p::r,a=>by
  rw[CM];have b : ¬ p.1=k:=λz=>by rw[e2 z]at a;cases a
  rw[eG b]at a;have c:=vg k j y r a
  by_cases e:p.1=j
  ·rw[e2 e,e2 e,ax (λz=>b (e.trans z))]
  ·rw[eG e,eG e,c]
theorem iu(kvs:al (κ×V))(k j:κ)(y:V):bj (putK kvs k y) j=if j=k then ih y else bj kvs j:=by
 unfold putK
 by_cases a:(kvs.any λb=>decide (b.1=k))=true
 ·rw[aI a,vQ]
  rw[i8]at a
  by_cases e:j=k
  ·obtain⟨x,c⟩:=Pu.mp a
   rw[aI e,e,c,pV,aI rfl]
  ·rw[ax e]
   cases bj kvs j with
   |none=>rfl
   |some x=>rw[pV,ax e]
 ·rw[ax a]
  refine vg k j y kvs ?_;rw[i8]at a;cases q:bj kvs k with
  |none=>rfl
  |some x=>rw[q]at a;exact(a rfl).elim
theorem lr(kvs:al (κ×V))(k:κ)(v:V):(putK kvs k v).length<=kvs.length+1:=by
 unfold putK;split
 ·rw[aK];omega
 ·rw[dA,cf,jN];omega
theorem iw{kvs:al (κ×V)}{k:κ}(v:V)(h:bj kvs k=none):putK kvs k v=kvs++[(k,v)]:=by
 unfold putK;rw[i8,h];exact ax (by decide)
theorem d7.lA{o:am V}{u:am CS}(r:d7 o u):o.isSome=u.isSome:=by
 cases o with
 |none=>cases u with
  |none=>rfl
  |some _=>exact(show False from r).elim
 |some _=>cases u with
  |none=>exact(show False from r).elim
  |some _=>rfl
theorem KV.val{kvs:al (κ×V)}{vs:al (κ×CS)}(r:KV kvs vs)(k:κ):d7 (bj kvs k) (valueAt vs k):=by
 unfold KV at r
 induction r with
 |nil=>exact Tb
 |@cons p q ps a h t d =>
  obtain⟨h1,h2⟩:=h
  by_cases e:p.1=k
  ·have c:q.1=k:=h1.symm.trans e
   have b:valueAt (q::a) k=ih q.2:=by simp[valueAt,m8,c]
   rw[e2 e,b];exact h2
  ·have c : ¬ q.1=k:=λz=>e (h1.trans z)
   have b:valueAt (q::a) k=valueAt a k:=by simp[valueAt,m8,c]
   rw[eG e,b];exact d
theorem KV.any{kvs:al (κ×V)}{vs:al (κ×CS)}(r:KV kvs vs)(k:κ):(kvs.any λa=>decide (a.1=k))=vs.any λa=>decide (a.1=k):=by
 unfold KV at r
 induction r with
 |nil=>rfl
 |cons h t b=>rw[jL,jL,b,h.1]
theorem KV.sk{kvs:al (κ×V)}{vs:al (κ×CS)}(r:KV kvs vs)(k:κ)(b:RelV y u) :
  KV (kvs.map λa=>if a.1=k then (a.1,y) else a) (vs.map λa=>if a.1=k then (a.1,u) else a):=by
 unfold KV at r⊢
 induction r with
 |nil=>exact .nil
 |@cons p q ps d h t c =>
  rw[bV,bV];refine .cons ?_ c;obtain⟨h1,h2⟩:=h
  by_cases e:p.1=k
  ·rw[aI e,aI (h1.symm.trans e)];exact⟨h1,b⟩
  ·rw[ax e,ax (λz=>e (h1.trans z))];exact⟨h1,h2⟩
theorem KV.put{kvs:al (κ×V)}{vs:al (κ×CS)}(r:KV kvs vs)(k:κ)(a:RelV y u):KV (putK kvs k y) (stored vs k u):=by
 unfold putK stored;rw[r.any k]
 by_cases e:(vs.any λb=>decide (b.1=k))=true
 ·rw[aI e,aI e];exact r.sk k a
 ·rw[ax e,ax e];exact gi r ⟨rfl,a⟩
theorem KV.keys{kvs:al (κ×V)}{vs:al (κ×CS)}(r:KV kvs vs):kvs.map (·.1)=vs.map (·.1):=by
 unfold KV at r
 induction r with
 |nil=>rfl
 |cons h t a=>rw[bV,bV,a,h.1]
theorem KV.length{kvs:al (κ×V)}{vs:al (κ×CS)}(r:KV kvs vs):kvs.length=vs.length:=cw r
theorem E9(kvs:al (κ×V))(k:κ):(ei kvs k).length<=kvs.length:=ee _ _
end
theorem jm{k:Key}(r:RelV (kV k) u):(b8 P w).is k u=true:=by
 cases k with
 |inl i=>obtain⟨t,e⟩:=(show ∃t,u=Ua i t from r);subst e;exact Du P w i t
 |inr x=>obtain⟨t,e⟩:=(show ∃t,u=Uj x t from r);subst e;exact Dv P w x t
theorem vh{P:Tj}{w:Tw}:∀{ks:al Key}{us:al CS},Vals (ks.map kV) us->ItemsAre (b8 P w) ks us
 |[],_,r=>by rw[tM]at r;cases r;exact .nil
 |k::ks,_,r=>by
  rw[bV]at r;cases r with
  |cons h t=>exact .cons (jm h) (vh t)
abbrev KT(H:Hp):List (List Key×V)->List (List Key×Ph×CS)->Prop:=S2 λp q=>p.1=q.1/\H q.2.1=ih (.tup (p.1.map kV))/\RelV p.2 q.2.2
theorem KT.val{xs:al (List Key×Ph×CS)}(r:KT H kvs xs)(k:al Key):d7 (bj kvs k) ((atKey xs k).map (·.2)):=by
 induction r with
 |nil=>exact Tb
 |@cons p q ps a h t d =>
  obtain⟨h1,_,h2⟩:=h
  by_cases e:p.1=k
  ·have c:q.1=k:=h1.symm.trans e
   have b:atKey (q::a) k=ih q.2:=by simp[atKey,m8,c]
   rw[e2 e,b];exact h2
  ·have c : ¬ q.1=k:=λz=>e (h1.trans z)
   have b:atKey (q::a) k=atKey a k:=by simp[atKey,m8,c]
   rw[eG e,b];exact d
theorem KT.sk{xs:al (List Key×Ph×CS)}(r:KT H kvs xs)(k:al Key)(b:RelV y u) :
  KT H (kvs.map λa=>if a.1=k then (a.1,y) else a) (xs.map (putAt k u)):=by
 induction r with
 |nil=>exact .nil
 |@cons p q ps f h t c =>
  rw[bV,bV];refine .cons ?_ c;obtain⟨h1,h2,d⟩:=h;unfold putAt
  by_cases e:p.1=k
  ·rw[aI e,aI (h1.symm.trans e)];exact⟨h1,h2,b⟩
  ·rw[ax e,ax (λz=>e (h1.trans z))];exact⟨h1,h2,d⟩
theorem KT.put{xs:al (List Key×Ph×CS)}(r:KT H kvs xs)(k:al Key)(c:H b=bd (k.map kV))(a:RelV y u) :
  KT H (putK kvs k y) (storedH xs k b u):=by
 have e:(kvs.any λd=>decide (d.1=k))=(atKey xs k).isSome:=by
  rw[i8,(r.val k).lA,CN]
 unfold putK storedH;rw[e]
 by_cases q:(atKey xs k).isSome=true
 ·rw[aI q,aI q];exact r.sk k a
 ·rw[ax q,ax q];exact gi r ⟨rfl,c,a⟩
theorem KT.keeps{xs:al (List Key×Ph×CS)}(r:KT H kvs xs)(a:∀b ys,H b=bd ys->Y b=bd ys):KT Y kvs xs:=
 Paired.oO r λ_ _ z=>⟨z.1,a _ _ z.2.1,z.2.2⟩
theorem AV{u:HO}(ok:cF P w H h)(e:Rd H a u):bB P w H h a u:=e.ok ok
theorem jn{kvs:al (Key×V)}(ok:cF P w H h)(e:Rd H a (.dK kvs)):kvs.length<=Pk/\(a==sysModules)=false /\∃vs,KV kvs vs/\h.DictOf (b8 P w) a vs:=
 show bB P w H h a (.dK kvs) from AV ok e
theorem rW{kvs:al (Key×V)}(ok:cF P w H h)(e:H a=bm kvs):kvs.length<=Pk/\(a==sysModules)=false /\∃vs,KV kvs vs/\h.DictOf (b8 P w) a vs:=jn ok (.inl e)
theorem jg{ks:al Key}(ok:cF P w H h)(e:H a=bd (ks.map kV)):(tupleKind (b8 P w)).is h ks a:=by
 obtain⟨_,its,r,o,h1,h2,n,b,_⟩:=(show bB P w H h a (.tup (ks.map kV)) from ok a _ e);exact⟨o,its.toArray,n,h1,h2,b,by simpa using vh r⟩
theorem mf(ok:cF P w H h)(e:Rd H a (.dT kvs)):kvs.length<=Pk/\(a==sysModules)=false /\
  ∃xs,KT H kvs xs/\h.DictOfH (tupleKind (b8 P w)) a xs:=by
 obtain⟨z,y,xs,r,o,es,ep,h1,h2,c,d,f⟩:=(show bB P w H h a (.dT kvs) from AV ok e);refine⟨z,y,xs,r,o,es,ep,h1,h2,c,d,λx hx=>?_,f⟩;have all:∀{l:al (List Key×V)}{m:al (List Key×Ph×CS)},KT H l m ->∀x∈m,(tupleKind (b8 P w)).is h x.1 x.2.1:=by
  intro l m q
  induction q with
  |nil=>intro x hx;exact nomatch hx
  |@cons p q ps i b t g =>
   intro x hx;rcases bU.mp hx with e|hx
   ·subst e
    exact jg ok (by rw[<-b.1];exact b.2.1)
   ·exact g x hx
 exact all r x hx
theorem rX(ok:cF P w H h)(e:H a=bn kvs):kvs.length<=Pk/\(a==sysModules)=false /\
  ∃xs,KT H kvs xs/\h.DictOfH (tupleKind (b8 P w)) a xs:=mf ok (.inl e)
def a6(H:Hp)(a:Ph)(y:V)(r:Option V):Prop:=
 (∃kvs k,Rd H a (.dK kvs)/\y=kV k/\r=bj kvs k) \/∃kvs k b,Rd H a (.dT kvs)/\y=.ref b/\H b=ih (.tup (k.map kV))/\r=bj kvs k
def eI(H:Hp)(a:Ph)(y v:V)(Y:Hp):Prop:=
 (∃kvs k,H a=ih (.dK kvs)/\y=kV k/\kvs.length<Pk/\Y=upd H a (.dK (putK kvs k v))) \/
 ∃kvs k b,H a=ih (.dT kvs)/\y=.ref b/\H b=ih (.tup (k.map kV))/\kvs.length<Pk/\Y=upd H a (.dT (putK kvs k v))
theorem a6.k{kvs:al (Key×V)}{k:Key}(e:H a=bm kvs):a6 H a (kV k) (bj kvs k):=.inl ⟨kvs,k,.inl e,rfl,rfl⟩
theorem a6.t{k:al Key}(e:H a=bn kvs)(c:H b=bd (k.map kV)):a6 H a (.ref b) (bj kvs k):=.inr ⟨kvs,k,b,.inl e,rfl,c,rfl⟩
theorem eI.k{kvs:al (Key×V)}{k:Key}(e:H a=bm kvs)(b:kvs.length<Pk):eI H a (kV k) v (upd H a (.dK (putK kvs k v))):=.inl ⟨kvs,k,e,rfl,b,rfl⟩
theorem eI.t{k:al Key}(e:H a=bn kvs)(c:H b=bd (k.map kV))(d:kvs.length<Pk) :
  eI H a (.ref b) v (upd H a (.dT (putK kvs k v))):=.inr ⟨kvs,k,b,e,rfl,c,d,rfl⟩
section
variable{r:CS}{o:am V}
theorem Inv.big(I:Inv X J σ H s):sysModules<s.ai:=by
 have h:P5<s.ai:=(I.mod.glob.keeps I.bk).lt;exact k9 (by decide) h
theorem vi{Q:CS->Pn->Prop}(r:A.units+1<T6)(I:Inv X J σ H s)(g:a6 H a y (ih v))(n:RelV y u)(h:∀c s',Inv X J σ H s'->RelV v c->Q c s') :
  Px X.dY A (getItem (.ref a) u) Q E s:=by
 rcases g with⟨kvs,k,e,i,l⟩|⟨kvs,k,b,e,i,t,l⟩
 ·subst i
  obtain⟨z,w,vs,d,j⟩:=jn I.aB e;obtain⟨c,m,f⟩:=d7.some_of (v:=v) (o:=valueAt vs k) (by rw[l];exact d.val k)
  exact wpAny_getItem_of (jm n) j.mapOf m (h c _ (I.tok _) f)
 ·subst i
  cases (show u=PU b from n)
  obtain⟨z,w,xs,d,j⟩:=mf I.aB e;obtain⟨c,m,f⟩:=d7.some_of (v:=v) (o:=(atKey xs k).map (·.2)) (by rw[l];exact d.val k)
  obtain⟨p,x,q⟩:=fU.mp m;refine wpAny_getItem_heap (p4 r) (jg I.aB t) j x ?_;rw[q];exact h c _ (I.tok _) f
theorem Km{Q:CS->Pn->Prop}(m:A.units+1<T6)(I:Inv X J σ H s)(g:a6 H a y o)(j:RelV y u)(h:∀s',Inv X J σ H s'->Q (.bool o.isSome) s') :
  Px X.dY A (SU .In u (.ref a)) Q E s:=by
 rcases g with⟨kvs,k,e,d,l⟩|⟨kvs,k,b,e,d,n,l⟩
 ·subst d
  obtain⟨z,f,vs,c,i⟩:=jn I.aB e;refine wpAny_in_of (jm j) f i.mapOf ?_;rw[<-(c.val k).lA,<-l];exact h _ (I.tok _)
 ·subst d
  cases (show u=PU b from j)
  obtain⟨z,f,xs,c,i⟩:=mf I.aB e;refine wpAny_in_heap (p4 m) (jg I.aB n) f i ?_;have q:=(c.val k).lA;rw[CN]at q;rw[<-q,<-l];exact h _ (I.tok _)
theorem Ge{Q:CS->Pn->Prop}(m:A.units+1<T6)(I:Inv X J σ H s)(g:a6 H a y o)(j:RelV y u)(h:∀s',Inv X J σ H s'->Q (.bool (!o.isSome)) s') :
  Px X.dY A (SU .NotIn u (.ref a)) Q E s:=by
 rcases g with⟨kvs,k,e,d,l⟩|⟨kvs,k,b,e,d,n,l⟩
 ·subst d
  obtain⟨z,f,vs,c,i⟩:=jn I.aB e;refine wpAny_notIn_of (jm j) f i.mapOf ?_;rw[<-(c.val k).lA,<-l];exact h _ (I.tok _)
 ·subst d
  cases (show u=PU b from j)
  obtain⟨z,f,xs,c,i⟩:=mf I.aB e;refine wpAny_notIn_heap (p4 m) (jg I.aB n) f i ?_;have q:=(c.val k).lA;rw[CN]at q;rw[<-q,<-l];exact h _ (I.tok _)
theorem lS{ob:HO}(I:Inv X J σ H s)(c:mF (H a))(d:S8 a s.heap h')(f:∃q,h'.get? a=ih q)(new:bB X.prog X.w (upd H a ob) h' a ob) :
  Inv X J σ (upd H a ob) { s with heap:=h',toks:=t' }:=
 I.write (x:=a) (e:=a) c (.inl rfl) (λb q g z=>(d.2 b g).trans z) f new
theorem rz{kvs:al (Key×V)}{vs:al (Key×CS)}(z:kvs.length<=Pk)(c:(a==sysModules)=false)(b:KV kvs vs)(d:h'.DictOf (b8 P w) a vs) :
  bB P w Y h' a (.dK kvs):=⟨z,c,vs,b,d⟩
theorem vj{Q:Unit->Pn->Prop}(F:A.units+1<T6)(I:Inv X J σ H s)(g:eI H a y v Y)(x:RelV y u)(B:RelV v r)(h:∀s',Inv X J σ Y s'->Q () s') :
  Px X.dY A (setItem (.ref a) u r) Q E s:=by
 rcases g with⟨kvs,k,e,j,l,m⟩|⟨kvs,k,b,e,j,C,l,m⟩
 ·subst j m
  obtain⟨z,n,vs,d,o⟩:=rW I.aB e;have p:vs.length<=Pk:=by rw[<-d.length];exact z
  have t:(putK kvs k v).length<=Pk:=by have:=lr kvs k v;omega
  refine wpAny_setItem_pairs (hsz:=p) (jm x) o λh' f w=>h _ ?_;have G:∃q,h'.get? a=ih q:=let ⟨q,_,_,i,_⟩:=f;⟨q,i⟩;exact lS I (by rw[e];exact Tb) w G (rz t n (d.put k B) f)
 ·subst j m
  cases (show u=PU b from x)
  obtain⟨z,n,xs,d,o⟩:=rX I.aB e;have p:xs.length<=Pk:=by rw[<-cw d];exact z
  have t:(putK kvs k v).length<=Pk:=by have:=lr kvs k v;omega
  refine wpAny_setItem_heap (hsz:=p) (p4 F) (jg I.aB C) o λh' f w=>h _ ?_;obtain⟨q,es,ep,i,h2,K,L,_,M⟩:=f;refine lS I (by rw[e];exact Tb) w ⟨q,i⟩ ⟨t,n,_,(d.put k C B).keeps λc ys D=>?_,q,es,ep,i,h2,K,L,M⟩
  rw[ab (aH D e (λz=>nomatch z))];exact D
end
section
variable{kvs:al (Key×V)}{k:Key}
theorem IY{Q:CS->Pn->Prop}(I:Inv X J σ H s)(e:Rd H a (.dK kvs))(h:∀t s',Inv X J σ H s'->Q (.int kvs.length t) s'):Px X.dY A (call (.builtin "len") [.ref a]) Q E s:=by
 obtain⟨z,c,vs,b,d⟩:=jn I.aB e;refine call_len_dict c d (by rw[<-b.length];rw[aR]at z;omega) ?_
 rw[<-b.length];exact h _ _ (I.tok _)
end
def Bp(i:QD):Prop:= ∀ov iv,subscripted i false ov iv=operate [ov,iv] (getItem ov iv)
theorem Gf{a:QD}{id:String}{Q:CS->Pn->Prop}
  (l:typeLookup (.type T) "__getitem__" = pure (ih (.builtin id))) (m:Bp a)
  (h:Px (Qu prog w) A (eval value env) (λo e=>Px (Qu prog w) A (eval a env) (λi b=>b.TypeIs o T/\Px (Qu prog w) A (getItem o i) Q E b) E e) E s) :
  Px (Qu prog w) A (eval (.Subscript value a pos) env) Q E s:=by
 refine Vx (i0 h (λo e j=>i0 j (λi b c=>?_) λ_ _ x=>x) λ_ _ x=>x);obtain⟨g,c⟩:=c;unfold subscriptTail;refine ah ?_;rw[getitemInPython_of_ne g.not_modules];refine ah (wpAny_specialOf g l ?_);have d:Px (Qu prog w) A (subscripted a false o i) (λr f=>Px (Qu prog w) A (letTemporaryGo value o r >>= λ_=>pure r) Q E f) E b:=by
  rw[m o i];exact wpAny_operating (i0 c (λr f k=>ah (wpAny_letTemporaryGo (au k))) λ_ _ x=>x)
 first
  |exact au (ah d)
  |exact ah (au (ah d))
  |exact ah d
theorem Dz{o:am V}(I:Inv X J σ H s)(g:a6 H a y o):s.TypeIs (.ref a) "dict" :=by
 rcases g with⟨kvs,k,e,_,_⟩|⟨kvs,k,b,e,_,_,_⟩
 ·obtain⟨_,_,vs,_,c⟩:=jn I.aB e
  exact c.typeIs
 ·obtain⟨_,_,xs,_,c⟩:=mf I.aB e
  exact c.typeIs
def iD(td ty:TE):TE:=λσ H Q=>td σ H λx O=>ty σ O λy H2=>∃a v,x=.ref a/\a6 H2 a y (ih v)/\Q v H2
def Bq(ty td:TE):TE:=λσ H Q=>ty σ H λy O=>td σ O λx H2=>∃a o,x=.ref a/\a6 H2 a y o/\Q (.bl o.isSome) H2
def Gg(ty td:TE):TE:=λσ H Q=>ty σ H λy O=>td σ O λx H2=>∃a o,x=.ref a/\a6 H2 a y o/\Q (.bl (!o.isSome)) H2
def AW(td ty tv:TE):TS:=λD σ H=>tv σ H λv O=>td σ O λx H2=>ty σ H2 λy H3=>∃a H4,x=.ref a/\eI H3 a y v H4/\D.nx σ H4
def IZ(td ty tv:TE)(rd:V->V->Hp->VK->Prop):TS:=λD σ H=>td σ H λx O=>ty σ O λy H2=>∃a v,x=.ref a/\a6 H2 a y (ih v) /\
 tv σ H2 λy2 H3=>rd v y2 H3 λz H4=>∃H5,eI H4 a y z H5/\D.nx σ H5
section
variable{o i:QD}{Qp:VT}{td ty:TE}
theorem bK(d:X.A.units+1<T6)(e:PE X o td)(hi:PE X i ty)(f:Bp i:=by exact λ_ _=>rfl):PE X (.Subscript o i pos) (iD td ty):=by
 intro J s σ H Q I h;refine Gf PySem.F.slot_dict_getitem.lookup f (ay (e J s σ H _ I h) λu j ⟨x,O,k,l,m⟩=>ay (hi J j σ O _ k m) λr s2 z=>?_);obtain⟨y,H2,b,n,a,v,ex,g,p⟩:=z;subst ex;obtain rfl:u=PU a:=l;exact⟨Dz b g,vi d b g n λt w q c=>⟨v,H2,q,c,p⟩⟩
theorem kd(b:X.A.units+1<T6)(hi:PE X i ty)(c:PE X o td):PC X .In i o (Bq ty td):=by
 intro J s σ H Q I h;refine ay (hi J s σ H _ I h) λq d ⟨y,O,e,f,j⟩=>ay (c J d σ O _ e j) λu s2 t=>?_;obtain⟨x,H2,k,l,a,m,ex,g,n⟩:=t;subst ex;obtain rfl:u=PU a:=l;exact Km b k g f λr p=>⟨.bl m.isSome,H2,p,rfl,n⟩
theorem qy(b:X.A.units+1<T6)(hi:PE X i ty)(c:PE X o td):PC X .NotIn i o (Gg ty td):=by
 intro J s σ H Q I h;refine ay (hi J s σ H _ I h) λq d ⟨y,O,e,f,j⟩=>ay (c J d σ O _ e j) λu s2 t=>?_;obtain⟨x,H2,k,l,a,m,ex,g,n⟩:=t;subst ex;obtain rfl:u=PU a:=l;exact Ge b k g f λr p=>⟨.bl (!m.isSome),H2,p,rfl,n⟩
theorem hR(b:X.A.units+1<T6)(c:PE X o td)(hi:PE X i ty)(d:PE X value tv)(e:swapsWith value (ih (.Subscript o i Qg)) pos.line X.env=pure false) :
  PS X (.Assign [.Subscript o i Qg] value pos) (AW td ty tv):=by
 intro J s σ H D I h;refine wpAny_Assign_Subscript (ay (d J s σ H _ I h) λr f ⟨v,O,j,k,l⟩=>ay (c J f σ O _ j l) λu s2 ⟨x,H2,m,n,p⟩=>ay (hi J s2 σ H2 _ m p) λC E K=>?_) e;obtain⟨y,F,q,t,a,w,ex,g,z⟩:=K;subst ex;obtain rfl:u=PU a:=n;exact vj b q g t k λG B=>⟨σ,w,B,z⟩
theorem Gh{d:Vg}{e:V->V->Hp->VK->Prop}(f:X.A.units+1<T6)(n:PE X o td)(hi:PE X i ty)(p:PE X value tv)(k:sf X d e)
  (q:∀c b new,augStore i c b new=(do holding [new,c,b] (setItem c b new);release [new,c,b] [];pure .next)):PS X (.AugAssign (.Subscript o i Qp) d value pos) (IZ td ty tv e):=by
 intro J s σ H D I h;refine wpAny_AugAssign_SubscriptAny (ay (n J s σ H _ I h) λu r ⟨x,O,t,w,B⟩=>ay (hi J r σ O _ t B) λb s2 aa=>?_) q;obtain⟨y,H2,C,j,a,v,ex,g,E⟩:=aa;subst ex;obtain rfl:u=PU a:=w;refine vi f C g j λF G K l=>ay (p J G σ H2 _ K E) λL M ⟨N,P,Q,m,R⟩=>ay (k J M σ P v N F L _ Q l m R) λya za aa=>?_;obtain⟨z,xb,S,T,U,W,Y⟩:=aa;exact vj f S W j T λyb xa=>⟨σ,U,xa,Y⟩
end
theorem vR(h:To)(a:sysModules<h.objs.size):bB P w H (h.push { cls:=.type "dict",data:=.dict #[] }) h.objs.size (.dK []):=
 ⟨bw _,hC.mpr (aQ (cn a)),[],.nil,UM h⟩
theorem vS(h:To)(a:sysModules<h.objs.size):bB P w H (h.push { cls:=.type "dict",data:=.dict #[] }) h.objs.size (.dT []):=
 ⟨bw _,hC.mpr (aQ (cn a)),[],.nil,_,#[],0,cm _ rfl,⟨rfl,rfl,rfl⟩,rfl,rfl,jO⟩
def HA:TE:=λ_ H Q=>∀p,H p=none->Q (.ref p) (upd H p (.dK []))
def HB:TE:=λ_ H Q=>∀p,H p=none->Q (.ref p) (upd H p (.dT []))
theorem ix:PE X (.Dict [] [] pos) HA:=λJ s σ H Q I h =>
 wpAny_Dict_empty ⟨.ref s.ai,_,I.laid (a:=s.ai) (o:=.dK []) (t':=s.toks) (λ_ _ q=>bu _ q) (aN _) (vR s.heap I.big),rfl,h _ (I.aB.fresh (aN _))⟩
theorem nN:PE X (.Dict [] [] pos) HB:=λJ s σ H Q I h =>
 wpAny_Dict_empty ⟨.ref s.ai,_,I.laid (a:=s.ai) (o:=.dT []) (t':=s.toks) (λ_ _ q=>bu _ q) (aN _) (vS s.heap I.big),rfl,h _ (I.aB.fresh (aN _))⟩
end L2
namespace HT
open PyProof.Rows
theorem Dc{t:Ph}{lo:am Int}{Q:CS->Pn->Prop}(a:Tt s.heap t items)(b:s.heap.IsSliceOf sl vl vu .none)(pl:Uu vl lo)(g:Uu vu hi)
  (i:a5 items.size 0 lo=0) (h1:a5 items.size items.size hi=items.size) (h:Q (.ref t) s):Px (Qu prog w) A (getItem (.ref t) (.ref sl)) Q E s:=by
 obtain⟨os,d,e,j⟩:=id b;have f:s.TypeIs (.ref sl) "slice" :=⟨os,d,e⟩;unfold getItem
 try with_reducible refine eM ?_
 first|refine ah (au ?_)|skip
 refine ah (wpAny_sequenceKey a.typeIs (by decide) ?_)
 refine ah (mY (name:=SW "__getitem__") a.typeIs mZ
  (il mZ a.typeIs entry_tuple_getitem ?_ (args_tuple_getitem _ _)))
 show Px _ _ (TM (.ref t) >>= _) _ _ s;refine ah (tupleItemsOf_ a ?_);refine ah (m1 f ?_);rw[aI (by decide)]
 refine ah (uq b pl g ?_);rw[i,h1];have c:((((0:Nat):Int)==0&&(1:Int)==1&&(items.size - 0)==items.size)=true):=by simp
 show Px _ _ (if ((((0:Nat):Int)==0&&(1:Int)==1&&(items.size - 0)==items.size)=true) then _ else _) _ _ s;rw[aI c];refine ah (ah (m1 a.typeIs (au ?_)));rw[aI (by decide)]
 exact ah (kZ (au ⟨_,rfl,au h⟩))
theorem E'{t:Ph}{ws:al CS}{Q:CS->Pn->Prop}(m:Tt s.heap t ([]:al CS).toArray)(o:Tt s.heap b ws.toArray)(h:Q (.ref b) s):Px (Qu prog w) A (Tu .Add (.ref t) (.ref b)) Q E s:=by
 obtain⟨⟨g,p,e,sl⟩,c,q,n,r⟩:=id m;obtain⟨⟨f,i,data2,j⟩,a,k,d,l⟩:=id o;obtain rfl:g=.type "tuple" :=q;obtain rfl:e=.seq #[] n:=r;obtain rfl:f=.type "tuple" :=k;obtain rfl:data2=.seq ws.toArray d:=l;exact concat_meets ⟨_,c,rfl⟩ ⟨_,a,rfl⟩ Cw Cy Cz CA (CB _ _) (tuple_addW0 t b #[] ws.toArray n d p i sl j rfl) ⟨c,a,h⟩
end HT
namespace L2
open Spec PyProof.Rows W
theorem vT{q:Ph}{o:HO}(a:H q=none):aw H (upd H q o):=λb u e=>by rw[ab (ar e a)];exact e
def Kn:V->Option Int->Option Int->Hp->VK->Prop:=λx lo hi H Q=>∃a xs,x=.ref a/\H a=ih (.tup xs) /\∀p Y,aw H Y->Y p=ih (.tup (d9 xs lo hi))->Q (.ref p) Y
theorem q2:kR X Kn:=by
 intro J s σ H x v vl vu lo hi sl Q I e f g i h;obtain⟨a,xs,rfl,c,q⟩:=h
 by_cases b:HT.a5 xs.length 0 lo=0/\HT.a5 xs.length xs.length hi=xs.length
 ·cases e
  obtain⟨its,r,j,l⟩:=I.tuple (aO.of c);have d:its.toArray.size=xs.length:=by rw[b9];exact r.length.symm
  refine⟨"tuple",_,mZ.lookup,j.typeIs,HT.Dc j f g i (by rw[d];exact b.1) (by rw[d];exact b.2) ?_⟩
  refine⟨.ref a,H,I,rfl,q a H (aw.refl _) ?_⟩;unfold d9;rw[b.1,b.2,tV,CP,cx];exact c
 ·exact Ho J s σ H (.ref a) v vl vu lo hi sl Q I e f g i ⟨a,xs,rfl,aO.of c,b,λp k=>q p _ (vT k) ae⟩
def I0:R2:=λx y H Q=>∃a b xs ys,x=.ref a/\y=.ref b/\H a=ih (.tup xs)/\H b=ih (.tup ys)/\xs.length+ys.length<=Pk /\∀p Y,aw H Y->Y p=ih (.tup (xs++ys))->Q (.ref p) Y
theorem nW:cg X (Tu .Add) I0:=by
 rintro J s σ H x y v u Q I f g ⟨a,b,xs,ys,rfl,rfl,c,d,i,q⟩;cases xs with
 |nil =>
  cases f
  cases g
  obtain⟨its,j,k,_⟩:=I.tuple (aO.of c);obtain⟨m,n,p2,_⟩:=I.tuple (aO.of d);cases j
  exact HT.E' k p2 ⟨.ref b,H,I,rfl,q b H (aw.refl _) d⟩
 |cons z xs=>exact F4 J s σ H (.ref a) (.ref b) v u Q I f g ⟨a,b,_,ys,rfl,rfl,aO.of c,aO.of d,by simp,i,λe=>q a H (aw.refl _) (by rw[e,eY];exact c),λ_ p l=>q p _ (vT l) ae⟩
theorem wW{k:Key}(h:(b8 P w).is k u=true):RelV (kV k) u:=by
 cases k with
 |inl i=>exact U2 (show UN i u=true from h)
 |inr x=>exact UR (show UE x u=true from h)
theorem q4:∀{xs:al V}{us:al CS},xs.length=us.length->(∀(i:Nat) x u,xs[i]?=ih x->us[i]?=ih u->RelV x u)->Vals xs us
 |[],[],_,_=>.nil
 |[],_::_,h,_=>by simp at h
 |_::_,[],h,_=>by simp at h
 |x::xs,u::us,h,f=>.cons (f 0 x u rfl rfl) (q4 (by simpa using h) λi y v a b=>f (i+1) y v (by simpa using a) (by simpa using b))
theorem ny(C:X.calm=true):c8 X (.type "list") (λxs H Q=>∃d kvs,xs=[.ref d]/\H d=bm kvs /\∀l,H l=none->Q (.ref l) (upd H l (.lst (kvs.map λa=>kV a.1)))):=by
 rintro J s σ H xs us Q I r ⟨d,kvs,rfl,m,q⟩;obtain⟨u,rfl,D⟩:=vals1 r;cases D
 obtain⟨g,lo,vs,a,n⟩:=rW I.aB m;obtain⟨ep,o⟩:=n.dictAt;have f:kvs.length=vs.length:=a.length;refine kdl_call (kdl_dict (kvs:=vs) (ep:=ep) lo) (I.ok.hd C) o (by rw[<-f];exact g) λh' tk A c E e it=>?_
 refine⟨.ref s.ai,_,I.laid (t':=tk) E (aN _) (show bB X.prog X.w _ h' _ (.lst (kvs.map λa=>kV a.1)) from⟨by rw[aK];exact g,A.toList,c,?_,by rw[PM];exact e⟩),rfl,q _ (I.aB.fresh (aN _))⟩
 refine q4 (by rw[aK,mW];exact f.trans it.1.symm) λi x v t z=>?_
 obtain⟨k,y,j,hi⟩:=it.2 i v (by rw[<-tL];exact z)
 obtain⟨B,b,rfl⟩:=fU.mp (by rw[<-cR];exact t)
 have e:B.1=k:=by
  clear it t z f o n q g m
  induction a generalizing i with
  |nil=>simp at b
  |cons p _ F =>
   cases i with
   |zero =>
    simp at b j;subst b;rw[p.1,j]
   |succ i=>exact F i (by simpa using j) (by simpa using b)
 rw[e];exact wW hi
end L2
namespace HT
open PyProof.Rows
section
open SeqAt
open AutoSeq1 (wpAny_loadPart')
open MeetsSeq MeetsSeq2 MeetsSeq3
end
end HT
namespace L2
open Spec PyProof.Rows W HT
theorem j1{α β:Type}{F:α->β->Prop}:∀{l:al α}{m:al β}{i:Nat}{x:α},S2 F l m->l[i]?=ih x ->∃y,m[i]?=ih y/\F x y
 |_,_,i,x,.nil,e=>by simp at e
 |_,_,0,x,.cons p _,e=>by simp at e;subst e;exact⟨_,rfl,p⟩
 |_,_,i+1,x,.cons _ t,e=>by simpa using j1 (i:=i) t (by simpa using e)
end L2
namespace HT
open PyProof.Rows
open AutoSeq1 (wpAny_loadPart')
end HT
namespace L2
open Spec PyProof.Rows W HT
end L2
namespace HT
open PyProof.Rows
end HT
namespace HT
open PyProof.Rows W
end HT
namespace HT
open PyProof.Rows W L2
theorem nE:plainId "dict.update.loop" = true:=by decide +kernel
theorem vk:entryFor table "dict.update.loop" = ih TF.«dict.update.loop» :=entryFor_of_fast (by kernel_rfl)
theorem stored_new{K:Type} [DecidableEq K]{kvs:al (K×CS)}{k:K}{v:CS}(h:k ∉ kvs.map (·.1)):stored kvs k v=kvs++[(k,v)]:=by
 unfold stored;rw[ax];intro z;obtain⟨p,a,e⟩:=m7.mp z;exact h (ba.mpr ⟨p,a,by simpa using e⟩)
end HT
namespace HT
open PyProof.Rows
section
open SeqAt
open AutoSeq1 (wpAny_loadPart')
open MeetsSeq MeetsSeq2 MeetsSeq3
end
end HT
namespace L2
open Spec PyProof.Rows W HT
theorem cL{c:TY}(h:(sc.names.map (·.1)).Nodup/\N'.Nodup/\si N N' Qc sc=true /\∀p∈sc.names,p.2=.free->c.names.lookup p.1=ih .cell\/c.names.lookup p.1=ih .free:=by decide +kernel)(a:sc.kind=.function:=by rfl)(b:Qc.length=N'.length:=by rfl):bO N c N' Qc sc:=⟨a,h.1,h.2.1,b,AU h.2.2.1,h.2.2.2⟩
theorem a8{P:al Pd}(h:N.Nodup/\(∀x∈P,sc.names.lookup x=ih .local\/sc.names.lookup x=ih .cell) /\∀y∈sc.names,y.2 ≠ .free:=by decide +kernel)(a:sc.kind=.function:=by rfl)(b:sc.isCoroutine=false:=by rfl)(c:sc.isGenerator=false:=by rfl)(d:N.take P.length=P:=by rfl):aZ N P sc:=⟨a,b,c,h.1,d,h.2.1,h.2.2⟩
theorem rA{xs:al Pd}(h:(xs.map V.str)[i]?=ih v):i<(xs.map V.str).length /\∃a:i<xs.length,V.str xs[i]=v/\xs.take (i+1)=xs.take i++[xs[i]]:=by
 have h1:=(bT.mp h).1;have h2:i<xs.length:=by simpa using h1
 exact⟨h1,h2,by simpa [h2] using h,by rw[cK,bY h2];rfl⟩
theorem dr{n:Nat}(h:n+64<T6):n+1<T6:=by omega
theorem eK:3<=Pk:=by rw[aR];decide
theorem cc:2<=Pk:=PN eK
theorem gO:1<=Pk:=PN cc
end L2
namespace L2
open W
structure bb(P:Tj)(w:Tw)(K:Tx)(mg:Pd->Option CS)(base:To)(CX:gN)(k:Nat)(f:Ph)(fd:Ta)(ps:List Pd)(sp:Sp)(x:Pd):Prop where
 G:aM P w K mg base CX k f fd ps sp
 k:Uk K (.ref f)=true
 b:Binds K fd ps []
 m:mg x=ih (.ref f)
section
variable{k:Nat}{p:VT}{t:TA}
theorem aT(C:bb X.prog X.w X.K X.mg X.base ao k f fd ps sp x)(d:aS k X.A)(g:PA X (e::es) t)(h:Gl X x:=by rfl)(a:(x==("__debug__" : Pd))=false:=by decide)(i:SQ (e::es) X.env=(false,eval e X.env)::SQ es X.env:=by rfl)(c:(backTo pos (SQ es X.env)).any (·.1)=false:=by rfl):PE X (.Call (.Name x p) (e::es) [] pos) (AM sp [] E0 t):=gX C.G d h C.m C.k C.b .nil b7 g a i c
end
end L2
namespace L2
open Spec PyProof.Rows W
end L2
namespace L2
open W
end L2
namespace L2
open Spec PyProof.Rows W HT
def I1(t:TA):TE:=λσ H Q=>t σ H λxs O=>xs.length<=Pk /\∀p Y,aw O Y->O p=none->Y p=ih (.tup xs)->Q (.ref p) Y
def I2(t:TA):TE:=λσ H Q=>t σ H λxs O=>xs.length<=Pk /\∀p Y,aw O Y->O p=none->Y p=ih (.lst xs)->Q (.ref p) Y
theorem vU{o:HO}(a:H p=none):aw H (upd H p o):=λb u e=>by rw[ab (ar e a)];exact e
section
variable{t:TA}{k:Nat}
theorem fq(h:PA X es t):PE X (.Tuple es k pos) (I1 t):=by
 intro J s σ H Q I f;refine wpAny_Tuple_spliced (ay (h pos J s σ H _ I f) λus a ⟨xs,O,c,r,z,q⟩=>⟨by rw[<-r.length];exact z,?_⟩)
 have d:O a.ai=none:=c.aB.fresh (aN _);refine⟨.ref a.ai,upd O a.ai (.tup xs),c.laid (t':=a.toks) (λb u e=>bu _ e) (aN _) ?_,rfl,q _ _ (vU d) d ae⟩;exact⟨z,us,r,⟨_,cm _ rfl,rfl,_,rfl,rfl⟩⟩
theorem oz(h:PA X es t):PE X (.List es pos) (I2 t):=by
 intro J s σ H Q I f;refine wpAny_List_spliced (ay (h pos J s σ H _ I f) λus a ⟨xs,O,c,r,z,q⟩=>⟨by rw[<-r.length];exact z,?_⟩)
 have d:O a.ai=none:=c.aB.fresh (aN _);refine⟨.ref a.ai,upd O a.ai (.lst xs),c.laid (t':=a.toks) (λb u e=>bu _ e) (aN _) ?_,rfl,q _ _ (vU d) d ae⟩;exact⟨z,us,0,r,cm _ rfl⟩
end
theorem aP.bG{k:Nat}(F:aP K x qual st f fd)(S:aZ N ps (aF st))
  (a:∀(Qa:CS) (A:TJ) (b:al Uy) (s:Pn) (H:Hp) (vs:al V) (Q:VK) (E:XK),aS k (A.deeper (envOfC qual (aF st) s.ai f Qa))->sp vs H Q E ->
   let X:=(iG ao P w K mg base N qual (aF st) f Qa A b s H E).jA
   ∃t,eJ X (bD st) t/\t { nx:=λ_ Y=>Q .aJ Y,rt:=Q } (start N vs) H)
  (c:∀vs H Q E,sp vs H Q E->vs.length=ps.length:=by intro _ _ _ _ h;obtain⟨rfl,_⟩:=h;rfl):aM P w K mg base ao (k+1) f fd ps sp:=F.ok S c a
theorem Fb{b:WO}{c:al WO}{t:TS}(h:eJ X body t)(d:X.xe=λ_ _=>False):PS X (.Try body (b::c) [] [] pos) t:=by
 intro J s σ H D I e;have g:∀{α:Type}{a:UB α}{Q:α->Pn->Prop}{E:CS->Pn->Prop}{s':Pn},wA X a Q X.xe s'->wA X a Q E s':=λz=>by rw[d]at z;exact wpAny_noRaise z
 refine wpAny_Try_except (ay (g (h J s σ H D I e)) λf i z=>?_);cases f with
 |next=>exact pX z
 |brk=>exact z
 |cont=>exact z
 |ret u=>exact z
theorem qz(t:X.calm=true):c8 X (.builtin "any") (λxs H Q=>∃(p:Ph) (bs:al Bool),xs=[.ref p]/\aj X.K H p (bs.map V.bl)/\Q (.bl (bs.any id)) H):=by
 rintro J s σ H xs us Q I r ⟨p,bs,rfl,g,q⟩;obtain⟨u,rfl,w⟩:=vals1 r;cases w
 obtain⟨its,c,a,x⟩:=I.list g;have k:=c.length;have f:its=bs.map TL:=by
  clear q g a x r k
  induction bs generalizing its with
  |nil=>cases c;rfl
  |cons b bs y =>
   cases c with
   |cons z B=>cases z;rw[y _ B];rfl
 have new:∀b o,s.heap.get? b=ih o->b≠s.ai:=λb o e=>cn (bF e);obtain⟨C,l,_⟩:=id a.isList;refine call_any_walk (tE a.isList ?_);refine⟨s.ai,_,_,_,_,_,λi=>bs.getD i false,rfl,VU (A:=X.A.in1) (I.ok.hd t) s.ai p (new p C l) its.toArray,⟨⟨_,cm _ rfl,rfl,rfl⟩,a.isList.at λo e=>bu _ e⟩,λi v s2 F G j m=>?_,λh' tk D=>?_⟩
 ·rw[f]at j
  have:bs[i]?.map TL=ih v:=by simpa using j
  obtain⟨b,d,rfl⟩:=fU.mp this;refine gS ?_;have e:bs.getD i false=b:=by rw[fV,d];rfl
  exact e ▸ m
 ·have n:(SY its.toArray.size).any (λi=>bs.getD i false)=bs.any id:=by
   have E:its.toArray.size=bs.length:=by rw[f];simp
   rw[E]
   apply k3.mpr
   simp only[m7,iZ]
   constructor
   ·rintro⟨i,hi,e⟩
    exact⟨bs[i],eO hi,by simpa [TZ,hi] using e⟩
   ·rintro⟨b,d,e⟩
    obtain⟨i,hi,rfl⟩:=tU d;exact⟨i,hi,by simpa [TZ,hi] using e⟩
  rw[n];exact⟨.bl _,H,I.kept (t':=tk) λb o e=>D b o (by simpa using new b o e) (bu _ e),rfl,q⟩
def sP(x:Pd):It:=⟨λi _=>i<x.cps.size,λi H v Y=>Y=H /\∃c,x.cps[i]?=ih c/\v=.str ⟨#[c]⟩,λi _=>x.cps.size<=i⟩
theorem vV(it:Ph)(x:Pd)(t:VI)(T:String)(M : ["enumerate","zip","dict_itemiterator","dict_reverseitemiterator","odict_iterator","itertools.zip_longest","itertools.pairwise"].contains T=false)
  (W:∀G:TJ,G.handled=none->Walks P w G it [it] [it] x.cps.size (SignAt x) (λi h=>h.IsStrIter it T x t i))
  (N:∀(A:TJ) (i:Nat) (s:Pn) (Q:CS->Pn->Prop) (E:CS->Pn->Prop),s.heap.IsStrIter it T x t i->Q (.ref it) s->Px (Qu P w) A (pyIter (.ref it)) Q E s):Turn P w K tg (sP x) [it] it (λi h=>i<=x.cps.size/\h.IsStrIter it T x t i) where
 mem:=by simp
 obj:=λi h st b a=>by
  obtain rfl:b=it:=by simpa using a
  obtain⟨_,o,e,c,d⟩:=st;exact⟨o,e,λv z=>by rw[d]at z;cases z⟩
 keep:=λi h h' st k=>by
  obtain⟨l,o,e,r⟩:=st;exact⟨l,o,k it (by simp) _ e,r⟩
 item:=by
  intro X j m hK n i J s σ H E I f st g;subst j m hK;obtain⟨p,q,O,y,B,C⟩:=f it (by simp)
  refine(W X.A (I.ok.hd n)).item i s _ _ g st.2 λv h' tk R F D=>?_;obtain⟨c,u,L,rfl⟩:=R;have S:Inv X J σ H { s with heap:=h',toks:=tk }:=I.turned (λb o a e=>D b o (by simpa using a) e) p q y B C
  obtain⟨o,e,U,d⟩:=id F;exact⟨_,rfl,kz (s:={ s with heap:=h',toks:=tk }) e U d M ⟨.str ⟨#[c]⟩,H,S,⟨u,rfl⟩,⟨rfl,c,L,rfl⟩,⟨g,F⟩,λb a=>(f b a).1⟩⟩
 done:=by
  intro X j m hK n i J s σ H E I f st g;subst j m hK;obtain⟨p,q,O,y,B,C⟩:=f it (by simp)
  have V:i=x.cps.size:=tW st.1 g;subst V;exact(W X.A (I.ok.hd n)).done s _ _ st.2 λh' tk D=>⟨rfl,I.turned (λb o a e=>D b o (by simpa using a) e) p q y B C⟩
 self:=λA i s Q E st h=>N A i s Q E st.2 h
def Ko(te:TE):TI:=λσ H R=>te σ H λv O=>∃x,v=.str x/\R (sP x) O
theorem Av(i:PE X e te):PI X tg e (Ko te):=by
 intro J s σ H R I h;refine ay (i J s σ H _ I h) λv a p=>?_;obtain⟨y,O,c,j,x,k,q⟩:=p;subst k;obtain⟨t,rfl⟩:=j;have f:∀o:Ue,Inv X J σ O { a with heap:=a.heap.push o }:=λo=>c.kept (t':=a.toks) λb n z=>bu _ z;have fp:∀b ∈ [a.ai],fw X J O b:=λb l=>by
  obtain rfl:b=a.ai:=by simpa using l
  exact c.gI (aN _) (c.aB.fresh (aN _))
 cases g:x.cps.all (· < 128)
 ·refine wpAny_pyIter_wide g ?_
  exact⟨a.ai,[a.ai],_,_,O,rfl,f _,vV a.ai x t "str_iterator" (by decide) (λm d=>Walks.strWide d _ x t) (λ_ _ _ _ _ st h=>wpAny_pyIter_striter_wide st h),⟨bw _,_,cm _ rfl,rfl,rfl⟩,fp,q⟩
 ·refine wpAny_pyIter_ascii g ?_
  exact⟨a.ai,[a.ai],_,_,O,rfl,f _,vV a.ai x t "str_ascii_iterator" (by decide) (λm d=>Walks.strAscii d _ x t) (λ_ _ _ _ _ st h=>wpAny_pyIter_striter_ascii st h),⟨bw _,_,cm _ rfl,rfl,rfl⟩,fp,q⟩
theorem vW{g:TG}(d:Nat->List V->St->Hp->Prop)(n:d 0 [] dy (upd O p (.lst [])))(o:∀i ys a H,d i ys a H->H p=bi ys)
  (q:∀i c ys a H,x.cps[i]?=ih c->d i ys a H->g (.str ⟨#[c]⟩) a H λh r=>ti h r λb j=>if b=true then te h j λy k=>k p=bi ys/\ys.length<Pk /\∃f,f<x.cps.size - i/\CW d x.cps.size (i+1) f (ys++[y]) h (upd k p (.lst (ys++[y]))) else ∃f,f<x.cps.size - i/\CW d x.cps.size (i+1) f ys h j)
  (s:∀ys a H,d x.cps.size ys a H->Q (.ref p) H):gr (sP x) g ti te dy Q p O:=by
 refine⟨CW d x.cps.size,⟨x.cps.size,by simp,bw _,n⟩,?_⟩
 rintro i m ys a H ⟨rfl,hi,pv⟩;refine⟨o i ys a H pv,?_⟩
 by_cases l:i<x.cps.size
 ·refine .inr ⟨l,λv z t=>?_⟩
  obtain⟨u,c,w,rfl⟩:=t;subst u;exact q i c ys a _ w pv
 ·have e:i=x.cps.size:=by omega
  subst e;exact .inl ⟨aN _,s ys a H pv⟩
end L2
namespace HT
open PyProof.Rows W L2
theorem Dg(a:Ph)(vs:Array CS)(n:Nat)(u:VI)(sl:Array (Option CS)) :
  Meets (TF.«object.__getattribute__» ⟨[.ref a,.str "keys" u],[]⟩) (λA R s=>s.heap.get? a=ih { cls:=.type "tuple",dict:=none,data:=.seq vs n,slots:=sl }/\raisesAttr (.ref a) "keys" A R s):=
 meets_getattribute_miss_tuple a vs n sl "keys" u (by rw[typeLookup_type,builtinLookup_eq_fast];kernel_rfl) (by decide +kernel) (by rw[aR];decide +kernel)
theorem Fc{vs:Array CS}{n:Nat}{sl:Array (Option CS)}{Q:am CS->Pn->Prop}(i:s.heap.get? a=ih { cls:=.type "tuple",dict:=none,data:=.seq vs n,slots:=sl })(k:A.handled=none)
  (h:∀h' tk,(∀b o,s.heap.get? b=ih o->h'.get? b=ih o)->Q none { s with heap:=h',toks:=tk }):Px (Qu prog w) A (getAttr? (.ref a) "keys") Q E s:=by
 obtain⟨l,g,d,tk,os⟩:=s;have j:∀c,(⟨l,g,d,c,os⟩:Pn).TypeIs (.ref a) "tuple" :=λ_=>⟨_,i,rfl⟩;have m:=sub_AttributeError;have p:=CQ.lookup;have q:=CQ.bind (.ref a);have r:=am_tuple_getattr_none;unfold getAttr? getAttrBy? getAttrBy
 repeat (any_goals (first|assumption|exact j _|((with_reducible show Px _ _ (call (TR "tuple.__getattribute__") _ _) _ _ _);refine p0 CQ (j _) am_entry_tuple_getattribute (F.args_tuple_getattribute_2 _ _) (Dg a vs n _ sl) ⟨i,k,λh' c e f=>?_⟩)|wp_step))
 obtain⟨t',t,u⟩:=f.there;show Px _ _ (getattributeRaised _ _ _ _ _ _ _) _ _ _;unfold getattributeRaised
 repeat (any_goals (first|assumption|wp_step))
 exact h h' c f.keeps
section
variable{t:Ph}{vs:Array CS}
theorem Fd{Q:Unit->Pn->Prop}{T:Ph}{x y:CS}{k:Key}{kvs:al (Key×CS)}{i:Int}(a:Tt s.heap T #[x,y])(g:(b8 prog w).is k x=true)(h:s.heap.DictOf (b8 prog w) d kvs)(new:k ∉ kvs.map (·.1))(hz:kvs.length<=Pk)
  (q:∀h' tk,h'.DictOf (b8 prog w) d (kvs++[(k,y)])->S8 d s.heap h'->Q () { s with heap:=h',toks:=tk }) :
  Px (Qu prog w) A (holding [PU T] (do
   let c <- (Uz (.ref T)).tryCatch λe=>do
    if !(<- isInstance e (.type "TypeError")) then throw e
    rule "dict.update.element-no-sequence"
    raiseError "TypeError" s!"cannot convert dictionary update sequence element #{i} to a sequence"
   match c with
   |[k,v]=>holding [k,v] (dictSet d k v)
   |l =>
    rule "dict.update.element-length"
    raiseError "ValueError" s!"dictionary update sequence element #{i} has length {l.length}; 2 is required")) Q E s:=by
 refine eM (ah (wpAny_tryCatch ?_));unfold Uz;refine ah (m1 a.typeIs ?_);rw[aI (by decide)]
 obtain⟨o,j,_,n,f⟩:=a;refine ah (wpAny_seqItems j f (au ?_));show Px _ _ (holding [x,y] (dictSet d x y)) _ _ _;refine eM (wpAny_dictSet_pairs (hsz:=hz) g h λh' b m=>?_);rw[stored_new new]at b;exact q h' _ b m
theorem Gi(T:A.in1.handled=none)(n:d≠it)(B:d≠t)(C:t≠it)(ps:al (Key×CS))(nd:(ps.map (·.1)).Nodup)(hz:ps.length<=Pk)(hsz:vs.size=ps.length)(F:Tt g t vs)
  (M:∀(i:Nat) p,ps[i]?=ih p ->∃a x,vs[i]?=ih (.ref a)/\a≠it/\a≠d/\Tt g a #[x,p.2]/\(b8 prog w).is p.1 x=true) :
  ∀(m k:Nat) (s:Pn),ps.length - k=m->k<=ps.length->IsTupIter s.heap it t k->s.heap.DictOf (b8 prog w) d (ps.take k) ->
   (∀b o,b≠it->b≠d->g.get? b=ih o->s.heap.get? b=ih o) ->
   (∀h' tk,h'.DictOf (b8 prog w) d ps->(∀b o,b≠it->b≠d->g.get? b=ih o->h'.get? b=ih o)->R (.ok (.ret .none)) { s with heap:=h',toks:=tk }) ->
   codeAny (Qu prog w) A (.builtin "dict.update.loop" ⟨[.ref d,.ref it,rawInt k,.none],[]⟩) R s:=by
 have u:∀{b:Ph}{us:Array CS}{h:To},b≠it->b≠d->(∀b o,b≠it->b≠d->g.get? b=ih o->h.get? b=ih o)->Tt g b us->Tt h b us:=λn1 U c ⟨o,V,r⟩=>⟨o,c _ _ n1 U V,r⟩;intro m
 induction m with
 |zero =>
  intro k s W X v y c z;have Y:k=ps.length:=by omega
  refine m5 vk (?_:Px _ _ _ _ _ _);rw[m6 nE _];show Px _ A.in1 (pyNext (.ref it) >>= _) _ _ s;refine ah (next_tuple_end T v (u C B.symm c F) (by simp;omega) λh' G=>?_)
  refine ah (m:=WH d []) (au (au ?_));have l:h'.DictOf (b8 prog w) d (ps.take k):=y.at λo e=>G d o n e;rw[Y,cx]at l;exact z h' s.toks l λb o f j e=>G b o f (c b o f j e)
 |succ m xa =>
  intro k s W X v y c z;have q:k<ps.length:=by omega
  have H:ps[k]?=ih ps[k]:=bY q;obtain⟨a,x,N,O,P,J,K⟩:=M k _ H;have Q:ps.take (k+1)=ps.take k++[ps[k]]:=by rw[cK,H];rfl
  have new:ps[k].1 ∉ (ps.take k).map (·.1):=λw=>by
   have e:ps.map (·.1)=(ps.take k).map (·.1)++(ps.drop k).map (·.1):=by rw[<-bC,m9]
   rw[e,gU]at nd;refine nd.2.2 _ w _ ?_ rfl;rw[gT q];exact bJ
  refine m5 vk (?_:Px _ _ _ _ _ _);rw[m6 nE _];show Px _ A.in1 (pyNext (.ref it) >>= _) _ _ s;refine ah (next_tuple_item v (u C B.symm c F) N λh' S I=>?_);have D:∀b o,b≠it->b≠d->g.get? b=ih o->h'.get? b=ih o:=λb o f j e=>I.extBut b o f (c b o f j e);have l:h'.DictOf (b8 prog w) d (ps.take k):=y.at λo e=>I.extBut d o n e;refine ah (Fd (s:={ s with heap:=h' }) (k:=ps[k].1) (u O P D J) K l new (by rw[cj];omega) λya tk L E=>?_)
  rw[show((k:Int)+1)=((k+1:Nat):Int) from rfl];exact au ⟨p1 nE _,xa (k+1) _ (by omega) q (S.extBut E.extBut n.symm) (by rw[Q];exact L) (λb o f j e=>E.extBut b o j (D b o f j e)) z⟩
theorem Dk{Q:CS->Pn->Prop}(y:A.handled=none)(ps:al (Key×CS))(nd:(ps.map (·.1)).Nodup)(hz:ps.length<=Pk)(hsz:vs.size=ps.length){n:Nat}{sl:Array (Option CS)}
  (h:s.heap.get? t=ih { cls:=.type "tuple",dict:=none,data:=.seq vs n,slots:=sl })
  (z:∀(i:Nat) p,ps[i]?=ih p ->∃a x,vs[i]?=ih (.ref a)/\Tt s.heap a #[x,p.2]/\(b8 prog w).is p.1 x=true)
  (q:∀d h' tk,s.ai<=d->h'.DictOf (b8 prog w) d ps->(∀b o,s.heap.get? b=ih o->h'.get? b=ih o)->Q (.ref d) { s with heap:=h',toks:=tk }) :
  Px (Qu prog w) A (call (.type "dict") [.ref t]) Q E s:=by
 refine callType_codes (Q₁:=λu r=>u=.ref s.ai/\r={ s with heap:=s.heap.push { cls:=.type "dict",data:=.dict #[] } }) F.kt_called_dict (F.kt_typeCall_dict_1 _) F.entry_dict_init (kt_code_dict_new _ ⟨rfl,rfl⟩) ?_;rintro u r ⟨rfl,rfl⟩;have dn:(s.heap.push { cls:=.type "dict",data:=.dict #[] }).DictOf (b8 prog w) s.ai []:=UM s.heap;have l:∀b o,s.heap.get? b=ih o->(s.heap.push { cls:=.type "dict",data:=.dict #[] }).get? b=ih o:=λb o e=>bu _ e;generalize s.heap.push { cls:=.type "dict",data:=.dict #[] }=h2 at dn l⊢;refine⟨dn.typeIs,F.args_dict_init_2 _ _,?_⟩;unfold TF.«dict.__init__»;refine ah ?_;unfold WC;refine ah (tX dn.typeIs ?_);refine(au ?_:Px _ _ (pure (s.ai,[PU t])) _ _ _);show Px _ _ (Ux "dict.__init__" s.ai (.ref t) [] .none) _ _ _;unfold Ux;have m:=l _ _ h;refine ah (m1 (T:= "tuple") ⟨_,m,rfl⟩ ?_);rw[aI (by decide)]
 refine ah (Fc m y λc K j=>?_);rw[aI (by decide)]
 have B:Tt c t vs:=⟨_,j _ _ m,rfl,n,rfl⟩;refine ah (kZ (ah (iter_tuple B ?_)));refine au ⟨p1 nE _,?_⟩;have G:∀b o,s.heap.get? b=ih o->c.get? b=ih o:=λb o e=>j b o (l b o e);have f:s.ai<c.objs.size:=by
  obtain⟨o,_,_,k,_⟩:=dn;exact bF (j _ _ k)
 have C:c.DictOf (b8 prog w) s.ai []:=dn.at λo e=>j _ o e;have lt:∀{b:Ph}{o:Ue},s.heap.get? b=ih o->b<s.ai:=λe=>bF e;refine Gi (A:=A.in1) (g:=s.heap) (it:=c.objs.size) y (cn f) (jJ (lt h)) (cn (k9 (lt h) f)) ps nd hz hsz ⟨_,h,rfl,n,rfl⟩ (λi p H=>?_) _ 0 _ rfl (bw _) ⟨_,cm _ rfl,rfl,rfl⟩ (C.at λo e=>bu _ e) (λb o _ _ e=>bu _ (G b o e)) λh' tk I J=>?_
 ·obtain⟨a,x,h1,v,D⟩:=z i p H
  obtain⟨o,k,_⟩:=id v;exact⟨a,x,h1,cn (k9 (lt k) f),cn (lt k),v,D⟩
 ·exact⟨rfl,q _ h' tk (aN _) I λb o e=>J b o (cn (k9 (lt e) f)) (cn (lt e)) e⟩
end
end HT
namespace L2
open Spec PyProof.Rows W HT
theorem nF:cg X (SU .LtE) (λx y H Q=>∃i j,x=.str i/\y=.str j/\Q (.bl (!decide (j.cps.toList<i.cps.toList))) H):=by
 rintro J s σ H x y v u Q I a b ⟨i,j,ex,c,q⟩;subst ex c;obtain⟨t,rfl⟩:=a;obtain⟨t',rfl⟩:=b;exact P.le_str (cp I q rfl)
def kg(H:Hp)(vs:List V)(kvs:List (Pd×V)):Prop:=S2 (λy p=>∃a,y=V.ref a/\H a=ih (.tup [.str p.1,p.2])) vs kvs
theorem kg.same{kvs:al (Pd×V)}(h:kg H vs kvs)(s:aw H Y):kg Y vs kvs:=Paired.imp' (λ_ _ b=>by obtain⟨a,e,q⟩:=b;exact ⟨a,e,s _ _ q⟩) h
def hU(kvs:List (Pd×V)):List (Key×V):=kvs.map λp=>(Cv p.1,p.2)
theorem wX:∀(kvs:al (Pd×V)) (ys:al CS),ys.length=kvs.length->(∀(i:Nat) (hi:i<kvs.length),∃y,ys[i]?=ih y/\RelV kvs[i].2 y)->KV (hU kvs) ((kvs.map λp=>(Cv p.1:Key)).zip ys)
 |[],ys,h,_=>.nil
 |p::kvs,[],h,_=>by simp at h
 |p::kvs,y::ys,h,f=>by
  obtain⟨a,e,r⟩:=f 0 (by simp)
  obtain rfl:y=a:=by simpa using e
  exact .cons ⟨rfl,r⟩ (wX kvs ys (by simpa using h) λi hi=>by
   obtain⟨b,c,d⟩:=f (i+1) (Nat.succ_lt_succ hi);exact⟨b,by simpa using c,d⟩)
theorem Dh:c8 X (.type "tuple") (λxs H Q=>∃p ys,xs=[.ref p]/\aj X.K H p ys /\∀l o,H l=none->o.dict=none->Q (.ref l) (upd H l (.aG o (.tup ys)))):=by
 rintro J s σ H xs us Q I r ⟨p,ys,ex,d,q⟩;subst ex;obtain⟨u,rfl,f⟩:=vals1 r;cases f
 obtain⟨its,a,g,h⟩:=I.list d;have j:=a.length;refine call_tuple_list g.isList (λh' i=>?_) (by simp only[b9] <;> omega)
 have c:Inv X J σ H { s with heap:=h' }:=I.kept (t':=s.toks) i;refine⟨.ref h'.objs.size,_,c.laid (o:=.aG { cls:=.type "tuple",data:=.seq its.toArray } (.tup ys)) (t':=s.toks) (λb o e=>bu _ e) (aN _) ⟨cm _ rfl,h,its,a,h6.new _ _⟩,rfl,q _ _ (c.aB.fresh (aN _)) rfl⟩
theorem DV(L:X.calm=true):c8 X (.type "dict") (λxs H Q=>∃t o vs kvs,xs=[.ref t]/\H t=ih (.aG o (.tup vs))/\o.dict=none/\kg H vs kvs/\(kvs.map (·.1)).Nodup /\∀d,H d=none->Q (.ref d) (upd H d (.dK (hU kvs)))):=by
 rintro J s σ H xs us Q I r ⟨t,o,vs,kvs,rfl,M,C,pr,nd,q⟩;obtain⟨u,rfl,c⟩:=vals1 r;cases c
 obtain⟨v,zc,its,A,o',g,D,n,E,_⟩:=(show bB X.prog X.w H s.heap t (.aG o (.tup vs)) from I.aB t _ M);rw[v]at g;cases g
 obtain⟨N,e,dt,sl⟩:=o;obtain rfl:N=.type "tuple" :=D;obtain rfl:e=none:=C;obtain rfl:dt=.seq its.toArray n:=E;have F:vs.length=kvs.length:=cw pr;have yc:=A.length;have pairs:∀(i:Nat) p,kvs[i]?=ih p ->∃a x y,its.toArray[i]?=ih (.ref a)/\Tt s.heap a #[x,y]/\RelV (.str p.1) x/\RelV p.2 y:=by
  intro i p b;have hi:i<vs.length:=by rw[F];exact(bT.mp b).1
  obtain⟨xd,j,a,O,P⟩:=j1 pr (show vs[i]?=ih vs[i] from bY hi);rw[b]at j;cases j;obtain⟨u,R,c⟩:=A.get (show vs[i]?=ih (V.ref a) by rw[bY hi,O])
  cases c
  obtain⟨yd,S,T,_⟩:=I.tuple (aO.of P);obtain⟨x,y,rfl,U,W⟩:=S.two;exact⟨a,x,y,by simpa using R,T,U,W⟩
 have ch:∀i:Fin kvs.length,∃y,∃a x,its.toArray[i.1]?=ih (.ref a)/\Tt s.heap a #[x,y]/\RelV (.str kvs[i].1) x/\RelV kvs[i].2 y:=λi=>by
  obtain⟨a,x,y,h1,h2,Y,xa⟩:=pairs i.1 kvs[i] (bY i.2);exact⟨y,a,x,h1,h2,Y,xa⟩
 obtain⟨ys,G,l⟩:∃ys:al CS,ys.length=kvs.length /\∀(i:Nat) (hi:i<kvs.length),∃y,ys[i]?=ih y /\∃a x,its.toArray[i]?=ih (.ref a)/\Tt s.heap a #[x,y]/\RelV (.str kvs[i].1) x/\RelV kvs[i].2 y:=
  ⟨List.ofFn λi=>UP (ch i),List.length_ofFn,λi hi=>⟨UP (ch ⟨i,hi⟩),by simp[List.getElem?_ofFn,hi],Xg (ch ⟨i,hi⟩)⟩⟩
 have K:((kvs.map λp=>(Cv p.1:Key)).zip ys).map (·.1)=kvs.map λp=>(Cv p.1:Key):=by
  rw[List.map_fst_zip];rw[aK];omega
 have m:((kvs.map λp=>(Cv p.1:Key)).zip ys).length=kvs.length:=by rw[List.length_zip,aK];omega
 have inj:(kvs.map λp=>(Cv p.1:Key)).Nodup:=by
  have:(kvs.map λp=>(Cv p.1:Key))=(kvs.map (·.1)).map Cv:=by rw[hF];rfl
  rw[this,tY,p5];exact(tY.mp nd).imp λh z=>h (gb z)
 refine Dk (I.ok.hd L) ((kvs.map λp=>(Cv p.1:Key)).zip ys) (by rw[K];exact inj) (by rw[m];omega) (by rw[b9,m];omega) v (λi p b=>?_) λd h' tk dl e ya=>?_
 ·obtain⟨h1,h2⟩:=List.getElem?_zip_eq_some.mp b
  rw[cR]at h1;obtain⟨zd,za,xb⟩:=fU.mp h1;obtain⟨hi,rfl⟩:=bT.mp za;obtain⟨y,f,a,x,yb,zb,xc,B⟩:=l i hi;rw[f]at h2;cases h2
  exact⟨a,x,yb,zb,by rw[<-xb];exact jm (k:=Cv kvs[i].1) xc⟩
 ·have big:=I.big
  refine⟨.ref d,_,I.laid (a:=d) (o:=.dK (hU kvs)) (t':=tk) ya dl (rz (by unfold hU;rw[aK];omega) (hC.mpr (aQ (cn (eX big dl)))) ?_ e),rfl,q d (I.aB.fresh dl)⟩
  exact wX kvs ys G λi hi=>by
   obtain⟨y,f,a,x,_,_,_,B⟩:=l i hi;exact⟨y,f,B⟩
end L2
namespace L2
open W
def I3(_ j:Int):Prop:=0<j/\j<4611686018427387904
theorem Fe:cg X (Tu .FloorDiv) (rI I3 λi j=>.int (i / j)):=mJ λi j _ _ _ _ _ a q=>by
 have h1:(0:Int)<j:=a.1;have h2:j<4611686018427387904:=a.2;refine WA (by omega) (by rw[Pl i (by omega)];exact q) (.inl (PyProof.noPylong_of_log2 ?_))
 have b:j.natAbs<2 ^ 62:=by omega
 have c:j.natAbs.log2<62:=(Nat.log2_lt (by omega)).mpr b
 omega
end L2
namespace L2
open W Calls PyProof.Rows
section
variable{α β:Type}{n:Nat}
def Pm(n:Nat)(p:Array Nat):Prop:=p.toList.Perm (SY n)
theorem Pm.lt{p:Array Nat}(h:Pm n p)(a:0<n)(i:Nat):p.getD i 0<n:=by
 rw[hG];cases e:p[i]? with
 |none=>exact a
 |some x =>
  have:x∈p.toList:=Vt.mp (PQ e);exact iZ.mp (h.mem_iff.mp this)
theorem Pm.rev{p:Array Nat}(h:Pm n p)(i j:Nat):Pm n (kas_rev p i j):=(PR.mp (mirror_perm p i j _)).trans h
theorem Pm.Lr{p:Array Nat}(h:Pm n p)(i j:Nat):Pm n (bubble p i j):=(PR.mp (bubble_perm p i j)).trans h
theorem Aw{γ:Type}{p:Array Nat}{vs:al γ}(d:γ)(h:Pm vs.length p):(p.toList.map λi=>vs.getD i d).Perm vs:=by
 have h1:=Xa (λi=>vs.getD i d) h;refine h1.trans (W' ?_)
 apply Vc
 ·simp
 ·intro i h1 h2
  simp[TZ,h2]
end
theorem nr{α β:Type}{F:α->β->Prop}{l b:al α}(h:b.Perm l):∀{m:al β},S2 F l m ->∃a,a.Perm m/\S2 F b a:=by
 induction h with
 |nil=>intro m p;exact⟨m,.refl _,p⟩
 |cons x _ f =>
  intro m p;cases p with
  |cons q t =>
   obtain⟨a,e,r⟩:=f t;exact⟨_::a,e.cons _,.cons q r⟩
 |swap x y l =>
  intro m p;cases p with
  |cons q t =>
   cases t with
   |cons g t=>exact⟨_,UZ _ _ _,.cons g (.cons q t)⟩
 |trans _ _ c d =>
  intro m p;obtain⟨o,i,p2⟩:=d p;obtain⟨j,k,n⟩:=c p2;exact⟨j,k.trans i,n⟩
theorem HC{o:HO}(x:bB P w H h a o):∃q,h.get? a=ih q:=by
 cases o with
 |lst xs=>obtain⟨_,_,_,_,e⟩:=x;exact⟨_,e⟩
 |tup xs=>obtain⟨_,_,_,q,e,_⟩:=x;exact⟨q,e⟩
 |dK kvs=>obtain⟨_,_,_,_,o,_,_,e,_⟩:=x;exact⟨o,e⟩
 |dT kvs=>obtain⟨_,_,_,_,o,_,_,e,_⟩:=x;exact⟨o,e⟩
 |set S n=>obtain⟨o,_,_,_,e,_⟩:=x;exact⟨o,e⟩
 |ins C dx fs=>obtain⟨_,_,_,e,_⟩:=x;exact⟨_,e⟩
 |own y=>exact x
 |xd fs=>obtain⟨_,⟨o,_,_,e,_⟩,_⟩:=x;exact⟨o,e⟩
 |pA lo hi=>obtain⟨_,_,_,e⟩:=x;exact⟨_,e⟩
 |aG q u=>exact⟨q,x.1⟩
 |iM ps=>exact⟨_,x⟩
 |met f y=>exact⟨_,x⟩
 |ext b=>exact x.2.1
theorem Inv.sorted{σ:al (Option V)}{m:Pd->Option CS}{g:al CS}{c:Nat}(I:Inv X J σ H s)(C:s.heap.Ns X.env.locals m)(j:h'.Ns X.env.locals m)
  (k:∀b o,b≠X.env.locals->s.heap.get? b=ih o->h'.get? b=ih o) (w:∀b o,s.heap.get? b=ih o->b≠D) (new:h'.get? D=ih (listOf g.toArray c)) (r:Vals ys g) (hz:ys.length<=Pk) :
  H D=none/\Inv X J σ (upd H D (.lst ys)) { s with heap:=h',toks:=t' }:=by
 have A:∀b u,H b=ih u ->∃o,s.heap.get? b=ih o:=λb u e=>HC (I.aB b u e);have y:H D=none:=by
  cases q:H D with
  |none=>rfl
  |some u =>
   obtain⟨o,e⟩:=A D u q;exact absurd rfl (w D o e)
 have d:∀b u,H b=ih u->b≠D:=λb u e z=>by rw[z,y]at e;cases e
 have l:∀b u,H b=ih u->b≠X.env.locals:=λb u e z=>by rw[z,I.free]at e;cases e
 refine⟨y,I.step (g':=s.gens) (d':=s.drawn) (ch:=[]) (λ_ z=>nomatch z) (λb o h _ _ e _=>k b o h e) (λb o h _ _ e _=>⟨o.slots,k b o h e⟩) (λb o _ e n=>by rw[ab (w b o e)];exact n) (λb o _ e=>?_)
  (λb xs e=>by rw[ab (d b _ e)];exact e) (λb o u e=>by rw[ab (d b _ e)];exact e) (λb ps e=>⟨#[],by rw[ab (d b _ e),e];simp⟩) (λE q=>?_) (λb u e=>?_) I.bare⟩
 ·by_cases f:b=X.env.locals
  ·obtain⟨o',es,ep,i,_⟩:=j
   exact⟨o',by rw[f];exact i⟩
  ·exact⟨o,k b o f e⟩
 ·obtain⟨o,es,ep,i,F,O,G⟩:=C
  obtain⟨P,L,M,p,t,N,B⟩:=q;rw[i]at p;cases p;rw[F]at t;cases t;have:E=m:=funext λx=>(B x).symm.trans (G x);rw[this];exact j
 ·by_cases f:b=D
  ·subst f
   rw[ae]at e;cases e;exact⟨hz,g,c,r,new⟩
  ·rw[ab f]at e
   refine(I.aB b u e).eV (λa v K q=>k a v ?_ q) (λa q=>by rw[ab (d a _ q)];exact q) λa xs q=>by rw[ab (d a _ q)];exact q
   rcases K with z|z
   ·rw[z];exact l b u e
   ·exact l a _ z
theorem Ej{B:TJ}{n:Nat}{R:U7->Pn->Prop}(h:s.heap.get? a=ih (seqObj "list" us.toArray n))(b3:us.length<2)
  (k:∀c g,(∀b o,b≠a->s.heap.get? b=ih o->g.get? b=ih o)->g.get? a=ih (listOf us.toArray c)->R (.done (.ret .none)) { s with heap:=g }):Px (Qu P w) B (TF.«list.sort» ⟨[.ref a],[]⟩) R E s:=by
 obtain⟨ep,j⟩:∃ep,(s.heap.update a (Tg λ_=>(#[]:Array CS))).get? a=ih (seqObj "list" #[] ep):=⟨_,get?_update_seq h λ_=>#[]⟩;have f:us.toArray.size<=Pk:=by rw[aR,b9];omega
 have small:us.toArray.size<2:=by simpa using b3
 rw[list_sort_plain];refine ah (listItems_at h rfl (ah (listUpdate_at h rfl (ah (seqEpoch_at j rfl (ah (wpAny_newTuple (ah (CT (eM ?_) (bw _))) (by simpa using f))))) f (bw _))))
 have two:∀b o,(s.heap.update a (Tg λ_=>(#[]:Array CS))).get? b=ih o->(((s.heap.update a (Tg λ_=>(#[]:Array CS))).push (seqObj "tuple" us.toArray 0)).push (seqObj "list" #[] 0)).get? b=ih o:=λb o q=>bu _ (bu _ q)
 change Px (Qu P w) B _ R E { s with heap:=((s.heap.update a (Tg λ_=>(#[]:Array CS))).push (seqObj "tuple" us.toArray 0)).push (seqObj "list" #[] 0) }
 have d:=two _ _ j;have i:∀b o,b≠a->s.heap.get? b=ih o->(((s.heap.update a (Tg λ_=>(#[]:Array CS))).push (seqObj "tuple" us.toArray 0)).push (seqObj "list" #[] 0)).get? b=ih o:=λb o e q=>two b o (((k' s.heap a _).2 b e).trans q);generalize (((s.heap.update a (Tg λ_=>(#[]:Array CS))).push (seqObj "tuple" us.toArray 0)).push (seqObj "list" #[] 0))=g at d i⊢
 dsimp only
 rw[aI small,aI small];refine ah (au (ah (au ?_)));have same:(arrOf (SortSt.mk' general' (us.toArray.zip us.toArray) #[] 7 none)).map (·.2)=us.toArray:=tQ.mp (by show((us.toArray.zip us.toArray).map (·.2)).toList=_;simp[List.map_snd_zip])
 dsimp only
 rw[same];refine ah (seqEpoch_at d rfl (ah (listUpdate_at d rfl ?_ (bw _) (PV f))));obtain⟨c,l⟩:∃c,(g.update a (Tg λ_=>us.toArray)).get? a=ih (seqObj "list" us.toArray c):=⟨_,get?_update_seq d λ_=>us.toArray⟩;simp only[bne_self_eq_false,gf,k7];exact au (k c _ (λb o e q=>((k' g a _).2 b e).trans (i b o e q)) l)
theorem vm{γ:Type}{f:γ->V}{g:γ->CS}(h:∀x,RelV (f x) (g x)):∀l:al γ,Vals (l.map f) (l.map g)
 |[]=>.nil
 |x::l=>.cons (h x) (vm h l)
end L2
namespace L2
open W Spec PyProof.Rows
def pF(d:Ph)(o:Ue)(kvs:List (Key×V)):It:=⟨λi H=>H d=ih (.aG o (.dK kvs))/\i<kvs.length,λi H v Y=>Y=H /\∃kv,kvs[i]?=ih kv/\v=kV kv.1,λi H=>H d=ih (.aG o (.dK kvs))/\kvs.length<=i⟩
theorem vn(d it:Ph)(F:d≠it)(o:Ue)(kvs:al (Key×V))(vs:al (Key×CS))(ep:Nat)(j:KV kvs vs)(N:∀h:To,h.get? d=ih o->h.DictAt (b8 P w) d vs ep) :
  Turn P w K tg (pF d o kvs) [it] it (λi h=>i<=kvs.length/\h.IsKeyIter it d i vs.length ep) where
 mem:=by simp
 obj:=λi h st b a=>by
  obtain rfl:b=it:=by simpa using a
  obtain⟨_,o,e,c,d⟩:=st;exact⟨o,e,λv z=>by rw[d]at z;cases z⟩
 keep:=λi h h' st k=>by
  obtain⟨l,o,e,r⟩:=st;exact⟨l,o,k it (by simp) _ e,r⟩
 item:=by
  intro X m n hK p i J s σ H E I g st f;subst m n hK;obtain⟨q,t,S,u,y,B⟩:=g it (by simp)
  have O:kvs.length=vs.length:=j.length;have C:=N s.heap (show bB X.prog X.w H s.heap d (.aG o (.dK kvs)) from I.aB d _ f.1).1;refine(Vh (knd:=b8 X.prog X.w) (I.ok.hd p) it d F vs ep).item i s _ _ (by have:=f.2;omega) ⟨st.2,C⟩ λv h' tk T G D=>?_
  obtain⟨k,x,U,W⟩:=T;have Y:Inv X J σ H { s with heap:=h',toks:=tk }:=I.turned (λb o a e=>D b o (by simpa using a) e) q t u y B
  obtain⟨xb,e,xa,dt⟩:=id G.1;have R:i<kvs.length:=f.2;have L:kvs[i]?=ih kvs[i]:=bY R;have ya:kvs[i].1=k:=by
   have h1:=dc (λl=>l[i]?) j.keys;simp only[cR,L,U]at h1;exact c7 h1
  exact⟨_,rfl,kz (s:={ s with heap:=h',toks:=tk }) e xa dt (by decide) ⟨kV k,H,Y,wW W,⟨rfl,kvs[i],L,by rw[ya]⟩,⟨f.2,G.1⟩,λb a=>(g b a).1⟩⟩
 done:=by
  intro X m n hK p i J s σ H E I g st f;subst m n hK;obtain⟨q,t,S,u,y,B⟩:=g it (by simp)
  have za:i=kvs.length:=tW st.1 f.2;have O:kvs.length=vs.length:=j.length;have C:=N s.heap (show bB X.prog X.w H s.heap d (.aG o (.dK kvs)) from I.aB d _ f.1).1;have M:=st.2;rw[za,O]at M;exact(Vh (knd:=b8 X.prog X.w) (I.ok.hd p) it d F vs ep).done s _ _ ⟨M,C⟩ λh' tk D=>⟨rfl,I.turned (λb o a e=>D b o (by simpa using a) e) q t u y B⟩
 self:=λA i s Q E st h=>CU st.2 h
theorem Inv.freeze{σ:al (Option V)}{kvs:al (Key×V)}(I:Inv X J σ H s)(f:H d=bm kvs)(h:s.heap.get? d=ih o):Inv X J σ (upd H d (.aG o (.dK kvs))) s:=by
 have ok:bB X.prog X.w H s.heap d (.dK kvs):=I.aB d _ f;have nd:∀{b:Ph}{u:HO},H b=ih u->u ≠ .dK kvs->b≠d:=λe n z=>by rw[z,f]at e;exact n (c7 e).symm
 refine I.un (h':=s.heap) (t':=s.toks) ⟨λb a q _ _ _=>q,λb a q _ _ _=>⟨a.slots,q⟩,λb a q n _=>?_,λb a q _=>⟨a,q⟩,λb xs e=>?_,λb a u e=>?_,λb ps e=>⟨#[],?_⟩⟩ λb u e=>?_
 ·rw[ab (λz=>by rw[z,f]at n;cases n)];exact n
 ·rw[ab (nd e (by intro z;cases z))];exact e
 ·rw[ab (nd e (by intro z;cases z))];exact e
 ·rw[ab (nd e (by intro z;cases z)),e];simp
 ·by_cases g:b=d
  ·subst g
   rw[ae]at e;cases e
   exact⟨h,ok.eV (λ_ _ _ q=>q) (λc q=>by rw[ab (nd q (by intro z;cases z))];exact q) λc xs q=>by rw[ab (nd q (by intro z;cases z))];exact q⟩
  ·rw[ab g]at e
   exact(I.aB b u e).eV (λ_ _ _ q=>q) (λc q=>by rw[ab (nd q (by intro z;cases z))];exact q) λc xs q=>by rw[ab (nd q (by intro z;cases z))];exact q
def I4(te:TE):TI:=λσ H R=>te σ H λv O=>∃d kvs,v=.ref d/\((O d=ih (.dK kvs) /\∀o,R (pF d o kvs) (upd O d (.aG o (.dK kvs)))) \/∃o,O d=ih (.aG o (.dK kvs))/\R (pF d o kvs) O)
theorem nX(A:PE X e te):PI X tg e (I4 te):=by
 intro J s σ H R I h;refine ay (A J s σ H _ I h) λv a K=>?_;obtain⟨y,O,c,B,d,kvs,C,q⟩:=K;subst C;cases B
 have D:Rd O d (.dK kvs):=by
  rcases q with⟨e,_⟩|⟨o,e,_⟩
  ·exact .inl e
  ·exact .inr ⟨o,e⟩
 obtain⟨F,E,vs,l,x⟩:=jn c.aB D;obtain⟨o,es,ep,f,m,j,n,p,r⟩:=id x;refine wpAny_pyIter_dict (knd:=b8 X.prog X.w) (kvs:=vs) (ep:=ep) E ⟨o,es,f,m,j,n,p,r⟩ ?_;have g:d≠a.ai:=cn (bF f);have t:∀h:To,h.get? d=ih o->h.DictAt (b8 X.prog X.w) d vs ep:=λh e=>⟨o,es,e,m,j,n,p,r⟩;have u:Inv X J σ O { a with heap:=a.heap.push { cls:=.type "dict_keyiterator",data:=.fields #[.ref d,.int 0 0,.int vs.length 0,.int ep 0] } }:=c.kept (t':=a.toks) λb G z=>bu _ z;have st:0<=kvs.length/\Vq (a.heap.push { cls:=.type "dict_keyiterator",data:=.fields #[.ref d,.int 0 0,.int vs.length 0,.int ep 0] }) a.ai d 0 vs.length ep:=⟨bw _,_,cm _ rfl,rfl,rfl⟩;have k:O a.ai=none:=c.aB.fresh (aN _);rcases q with⟨e,q⟩|⟨o',e,q⟩
 ·refine⟨a.ai,[a.ai],_,_,_,rfl,u.freeze e (bu _ f),vn d a.ai g o kvs vs ep l t,st,λb i=>?_,q o⟩
  obtain rfl:b=a.ai:=by simpa using i
  exact c.gI (aN _) (by rw[ab (aQ g)];exact k)
 ·obtain rfl:o'=o:=by
   have:=(show bB X.prog X.w O a.heap d (.aG o' (.dK kvs)) from c.aB d _ e).1;rw[f]at this;exact(c7 this).symm
  refine⟨a.ai,[a.ai],_,_,O,rfl,u,vn d a.ai g o' kvs vs ep l t,st,λb i=>?_,q⟩;obtain rfl:b=a.ai:=by simpa using i
  exact c.gI (aN _) k
def B0(a b:Pd):Prop:=a.cps.toList<=b.cps.toList
theorem Ff{a b:Pd}(h1:B0 a b)(h2:B0 b a):a=b:=by
 have e:a.cps.toList=b.cps.toList:=List.le_antisymm h1 h2;cases a;cases b
 exact dc Str.mk (tQ.mp e)
theorem nG{kvs:al (Key×V)}{g:TG}(c:Nat->List V->St->Hp->Prop)(s:c 0 [] dy (upd O p (.lst [])))(t:∀i ys a H,c i ys a H->H p=bi ys/\H d=ih (.aG o (.dK kvs)))
  (u:∀i j ys a H,kvs[i]?=ih j->c i ys a H->g (kV j.1) a H λh v=>ti h v λb k=>if b=true then te h k λy l=>l p=bi ys/\ys.length<Pk /\∃f,f<kvs.length - i/\CW c kvs.length (i+1) f (ys++[y]) h (upd l p (.lst (ys++[y]))) else ∃f,f<kvs.length - i/\CW c kvs.length (i+1) f ys h k)
  (w:∀ys a H,c kvs.length ys a H->Q (.ref p) H):gr (pF d o kvs) g ti te dy Q p O:=by
 refine⟨CW c kvs.length,⟨kvs.length,by simp,bw _,s⟩,?_⟩
 rintro i m ys a H ⟨rfl,hi,pv⟩;obtain⟨z,n⟩:=t i ys a H pv;refine⟨z,?_⟩
 by_cases q:i<kvs.length
 ·refine .inr ⟨⟨n,q⟩,λx C A=>?_⟩
  obtain⟨B,j,r,ex⟩:=A;subst B;subst ex;exact u i j ys a _ r pv
 ·have e:i=kvs.length:=by omega
  subst e;exact .inl ⟨⟨n,aN _⟩,w ys a H pv⟩
end L2
namespace HS
open Spec PyProof.Rows
section
variable{xs:al Pd}
theorem vX{vs:al CS}{ys:al Pd}(h:Ug vs ys):vs.length=ys.length:=by
 induction h with
 |nil=>rfl
 |cons _ _ _ a=>rw[cf,cf,a]
end
end HS
namespace HS
open Spec PyProof.Rows W
end HS
namespace L2
open Spec PyProof.Rows W HS
theorem wY:∀{vs:al CS}{ys:al Pd},Ug vs ys ->∀(i:Nat) (v:CS),vs[i]?=ih v ->∃t,v=.str (ys.getD i "") t
 |_,_,.nil,i,v,h=>by simp at h
 |_,_,.cons y t r,0,v,h=>by simp at h;exact⟨t,by rw[<-h];rfl⟩
 |_,_,.cons y t r,i+1,v,h=>by
  obtain⟨t',e⟩:=wY r i v (by simpa using h)
  exact⟨t',by rw[e];rfl⟩
end L2
namespace L2
open W Calls PyProof.Rows
section
variable{α β:Type}{n:Nat}{lt:Nat->Nat->Bool}
def gP(lt:Nat->Nat->Bool)(p:Array Nat)(k:Nat):Prop:= ∀i j,i<j->j<k->lt (p.getD i 0) (p.getD j 0)=true
def iS(lt:Nat->Nat->Bool)(p:Array Nat)(k:Nat):Prop:= ∀i j,i<j->j<k->lt (p.getD j 0) (p.getD i 0)=true
theorem Pm.size{p:Array Nat}(h:Pm n p):p.size=n:=by have:=h.length_eq;simpa using this
theorem Pm.ne{p:Array Nat}(h:Pm n p)(hi:i<n)(b:j<n)(e:i≠j):p.getD i 0≠p.getD j 0:=by
 have c:=h.size;have nd:p.toList.Nodup:=h.nodup_iff.mpr U';intro z;rw[hG,hG,p6 (by omega),p6 (by omega)]at z
 have a:p.toList[i]'(by simp;omega)=p.toList[j]'(by simp;omega):=by simpa using z
 exact e ((Vb nd).mp a)
theorem vY{p:Array Nat}{m:Nat}(a:m<=p.size)(k:Nat)(b:k<m):(kas_rev p 0 m).getD k 0=p.getD (m - 1 - k) 0:=by
 unfold kas_rev;rw[hG,getElem?_mirror_all a,aI ⟨bw _,b⟩,hG,Nat.zero_add]
theorem iS.rev{p:Array Nat}{m:Nat}(b:m<=p.size)(a:iS lt p m):gP lt (kas_rev p 0 m) m:=λi j d c=>by
 rw[vY b i (by omega),vY b j c]
 exact a _ _ (by omega) (by omega)
theorem vZ{p:Array Nat}{k l:Nat}(c:k<p.size)(d:l<=k)(i:Nat):(bubble p k (k - l)).getD i 0=if i=l then p.getD k 0 else if l<i/\i<=k then p.getD (i - 1) 0 else p.getD i 0:=by
 rw[hG,getElem?_bubble c (k - l) (by omega)]
 have:k - (k - l)=l:=by omega
 rw[this]
 by_cases a:i=l
 ·rw[aI a,aI a];exact(hG ..).symm
 ·rw[ax a,ax a]
  by_cases b:l<i/\i<=k
  ·rw[aI b,aI b];exact(hG ..).symm
  ·rw[ax b,ax b];exact(hG ..).symm
end
def iT(p q:Pd):Bool:=decide (p.cps.toList<q.cps.toList)
theorem v7(p:Pd):iT p p=false:=bS (List.lt_irrefl _)
theorem HG{p r:Pd}(h1:iT p q=true)(h2:iT q r=true):iT p r=true:=a' (List.lt_trans (hH h1) (hH h2))
theorem Gj{p:Pd}(h:p≠q)(f:iT p q=false):iT q p=true:=by
 refine a' ?_;have h1 : ¬ p.cps.toList<q.cps.toList:=of_decide_eq_false f;have h2:q.cps.toList<=p.cps.toList:=V0.mp h1
 by_cases z:q.cps.toList<p.cps.toList
 ·exact z
 ·exact absurd (Ff (a:=p) (b:=q) (V0.mp z) h2) h
theorem Ek{α β:Type}{F:α->β->Prop}{l:al α}{m:al β}(h:S2 F l m)(dl:α)(dm:β)(i:Nat)(hi:i<l.length):F (l.getD i dl) (m.getD i dm):=by
 induction h generalizing i with
 |nil=>exact absurd hi (tZ _)
 |cons p _ a =>
  cases i with
  |zero=>exact p
  |succ i=>exact a i (PY hi)
theorem uP{α β γ:Type}{F:α->β->Prop}{f:γ->α}{g:γ->β}:∀{l:al γ},(∀x∈l,F (f x) (g x))->S2 F (l.map f) (l.map g)
 |[],_=>.nil
 |x::l,h=>.cons (h x bJ) (uP λy a=>h y (bL _ a))
theorem HH{lt:Nat->Nat->Bool}{p:Array Nat}{n:Nat}(d:p.size=n)(a:gP lt p n):p.toList.Pairwise λi j=>lt i j=true:=by
 rw[List.pairwise_iff_getElem];intro i j hi c b;have h1:i<p.size:=by simpa using hi
 have h2:j<p.size:=by simpa using c
 have:=a i j b (by omega)
 rw[hG,hG,p6 h1,p6 h2]at this
 simpa using this
end L2
namespace HS
open Spec PyProof.Rows W
theorem DA{vs:al CS}{Q:al CS->Pn->Prop}(c:Tt s.heap l vs.toArray)(hz:vs.length<=Pk)(q:∀h',(∀b o,s.heap.get? b=ih o->h'.get? b=ih o)->Q vs { s with heap:=h' }) :
  Px (Qu P w) A (collect (.ref l)) Q E s:=by
 obtain⟨o,d,f,n,g⟩:=id c;unfold collect;refine ah (wpAny_runValue (m5 PySem.F.entry_proto_collect ?_));rw[m6 PySem.F.plain_proto_collect _];show Px _ A.in1 (newList [] >>= λz=>again (.builtin "list.__iadd__" ⟨[z,.ref l],[]⟩)) _ _ s;refine ah (CT (au ⟨p1 PZ _,m5 PySem.F.entry_list_iadd ?_⟩));rw[m6 PZ _];show Px _ _ (Us (.ref s.heap.objs.size) (.ref l) (.ref s.heap.objs.size)) _ _ { s with heap:=s.heap.push (seqObj "list" #[] 0) };unfold Us;have a:(s.heap.push (seqObj "list" #[] 0)).get? l=ih o:=bu _ d;refine ah (m1 (T:= "tuple") ⟨o,a,f⟩ ?_);have h:(UC "tuple" == UC "tuple")=true:=by rfl
 rw[aI (by rw[h];simp)]
 refine ah (listItems_at a g (ah (listItems_at (xs:= #[]) (n:=0) (cm _ rfl) rfl ?_)));rw[ax (by simp)]
 refine ah (listUpdate_at (xs:= #[]) (n:=0) (cm _ rfl) rfl (au ?_) (bw _) (by show(#[]++vs.toArray).size<=Pk+1;simp only[tR,b9,jN];omega))
 show Px (Qu P w) A (load s.heap.objs.size >>= _) Q E { s with heap:=(s.heap.push (seqObj "list" #[] 0)).update s.heap.objs.size (Tg (· ++ vs.toArray)) };refine ah (wpAny_load (get?_update_seq (cm _ rfl) _) ?_);show Px _ _ (pure ((#[]:Array CS)++vs.toArray).toList) Q E _;rw[show((#[]:Array CS)++vs.toArray).toList=vs by simp]
 refine au (q _ λb i e=>?_);exact(tK _ _ (jJ (bF e))).trans (bu _ e)
end HS
namespace L2
open Spec PyProof.Rows W HS
end L2
namespace HT
open PyProof.Rows W
open AutoSeq1 (wpAny_loadPart')
end HT
namespace L2
open Spec PyProof.Rows W HT
end L2
namespace L2
open W Calls PyProof.Rows
structure gJ(n:Nat)(lt:Nat->Nat->Bool):Prop where
 tr:∀i j k,i<n->j<n->k<n->lt i j=true->lt j k=true->lt i k=true
 Ls:∀i j,i<n->j<n->i≠j->lt i j=false->lt j i=true
def cI{α:Type}(n:Nat)(lt:Nat->Nat->Bool)(φ:α->Prop):KasT α->Prop
 |.ret a=>φ a
 |.ask i j k=>i<n/\j<n/\i≠j/\cI n lt φ (k (lt i j))
section
variable{α β:Type}{n:Nat}{lt:Nat->Nat->Bool}
theorem cI.bind{b:α->Prop}{ψ:β->Prop}{f:α->KasT β}(g:∀a,b a->cI n lt ψ (f a)):∀{t:KasT α},cI n lt b t->cI n lt ψ (t.bind f)
 |.ret a,h=>g a h
 |.ask _ _ _,h=>⟨h.1,h.2.1,h.2.2.1,cI.bind g h.2.2.2⟩
theorem cI.wp{c:α->Prop}{b:Nat->Nat->(Bool->Pn->Prop)->Pn->Prop}{Q:α->Pn->Prop}{s:Pn}(d:∀i j C,i<n->j<n->i≠j->C (lt i j) s->b i j C s):∀{t:KasT α},cI n lt c t->(∀a,c a->Q a s)->t.kasWp b Q s
 |.ret a,h,q=>q a h
 |.ask _ _ _,h,q=>d _ _ _ h.1 h.2.1 h.2.2.1 (cI.wp d h.2.2.2 q)
theorem cI.mono{b ψ:α->Prop}(g:∀a,b a->ψ a):∀{t:KasT α},cI n lt b t->cI n lt ψ t
 |.ret a,h=>g a h
 |.ask _ _ _,h=>⟨h.1,h.2.1,h.2.2.1,cI.mono g h.2.2.2⟩
theorem rY{p:Array Nat}(a:gJ n lt)(h:Pm n p)(hi:i<n)(b:j<n)(e:i≠j)(f:lt (p.getD i 0) (p.getD j 0)=false):lt (p.getD j 0) (p.getD i 0)=true:=
 a.Ls _ _ (h.lt (by omega) i) (h.lt (by omega) j) (h.ne hi b e) f
theorem El{p:Array Nat}(c:gJ n lt)(h:Pm n p){m:Nat}(h1:1<=m)(f:m<n)(a:gP lt p m)(l:lt (p.getD (m - 1) 0) (p.getD m 0)=true):gP lt p (m+1):=λi j b g=>by
 by_cases e:j<m
 ·exact a i j b e
 ·obtain rfl:j=m:=by omega
  by_cases d:i=j - 1
  ·rw[d];exact l
  ·exact c.tr _ _ _ (h.lt (by omega) _) (h.lt (by omega) _) (h.lt (by omega) _) (a i (j - 1) (by omega) (by omega)) l
theorem Em{p:Array Nat}(c:gJ n lt)(h:Pm n p){m:Nat}(h1:1<=m)(f:m<n)(a:iS lt p m)(l:lt (p.getD m 0) (p.getD (m - 1) 0)=true):iS lt p (m+1):=λi j b g=>by
 by_cases e:j<m
 ·exact a i j b e
 ·obtain rfl:j=m:=by omega
  by_cases d:i=j - 1
  ·rw[d];exact l
  ·exact c.tr _ _ _ (h.lt (by omega) _) (h.lt (by omega) _) (h.lt (by omega) _) l (a i (j - 1) (by omega) (by omega))
theorem qI{p:Array Nat}(b:gJ n lt)(h:Pm n p):∀(f m:Nat),1<=m->m+f<=n->gP lt p m->cI n lt (λr=>m<=r/\r<=m+f/\gP lt p r/\(r<m+f->lt (p.getD r 0) (p.getD (r - 1) 0)=true)) (kas_asc p f m)
 |0,m,h1,h2,a=>⟨aN _,aN _,a,λz=>absurd z (by omega)⟩
 |f+1,m,h1,h2,a=>⟨h.lt (by omega) _,h.lt (by omega) _,h.ne (by omega) (by omega) (by omega),by
  cases c:lt (p.getD m 0) (p.getD (m - 1) 0) with
  |true=>exact⟨aN _,by omega,a,λ_=>c⟩
  |false =>
   refine cI.mono (λr d=>?_) (qI b h f (m+1) (by omega) (by omega) (El b h h1 (by omega) a (rY b h (by omega) (by omega) (by omega) c)))
   exact⟨by omega,by omega,d.2.2.1,λz=>d.2.2.2 (by omega)⟩⟩
theorem vo{p:Array Nat}(b:gJ n lt)(h:Pm n p):∀(f m:Nat),1<=m->m+f<=n->iS lt p m->cI n lt (λr:Array Nat×Nat×Nat=>r.1=p/\r.2.2=0/\m<=r.2.1/\r.2.1<=m+f/\iS lt p r.2.1) (kas_desc f p m 0)
 |0,m,h1,h2,a=>⟨rfl,rfl,aN _,aN _,a⟩
 |f+1,m,h1,h2,a=>⟨h.lt (by omega) _,h.lt (by omega) _,h.ne (by omega) (by omega) (by omega),by
  cases c:lt (p.getD m 0) (p.getD (m - 1) 0) with
  |true =>
   show cI n lt _ (if 0>0 then kas_desc f (kas_rev p (m - (0+1)) m) (m+1) 0 else kas_desc f p (m+1) 0);rw[ax (by omega)]
   refine cI.mono (λr d=>?_) (vo b h f (m+1) (by omega) (by omega) (Em b h h1 (by omega) a c))
   exact⟨d.1,d.2.1,by omega,by omega,d.2.2.2.2⟩
  |false =>
   refine⟨h.lt (by omega) _,h.lt (by omega) _,h.ne (by omega) (by omega) (by omega),?_⟩
   rw[rY b h (by omega) (by omega) (by omega) c]
   exact⟨rfl,rfl,aN _,Nat.le_add_right _ _,a⟩⟩
def oS(n:Nat)(lt:Nat->Nat->Bool)(r:Nat×Array Nat):Prop:=Pm n r.2/\gP lt r.2 r.1/\1<=r.1/\r.1<=n
theorem DW{p:Array Nat}(c:gJ n lt)(h:Pm n p){m:Nat}(h1:1<=m)(h2:m<=n)(a:iS lt p m):cI n lt (oS n lt) (kas_tail3 m n p):=
 cI.bind (ψ:=oS n lt) (f:=λk=>.ret (k,kas_rev p 0 m)) (λr b=>(show oS n lt (r,kas_rev p 0 m) from⟨h.rev _ _,b.2.2.1,ed h1 b.1,by have:=b.2.1;show r<=n;omega⟩)) (qI c (h.rev 0 m) (n - m) m h1 (by omega) (a.rev (by rw[h.size];exact h2)))
theorem DX{p:Array Nat}(a:gJ n lt)(v:2<=n)(h:Pm n p):cI n lt (oS n lt) (kas_count n p):=
 (qI a h (n - 1) 1 (aN _) (by omega) (λi j f c=>absurd c (by omega))).bind λm k=>by
  obtain⟨d,w,b,o⟩:=k;show cI n lt _ (if (m==n)=true then _ else if m>1 then _ else _);split
  ·rename_i e
   have:m=n:=by simpa using e
   subst this;exact⟨h,b,d,aN _⟩
  ·rename_i e
   have ne:m≠n:=by simpa using e
   split
   ·rename_i g
    refine⟨h.lt (by omega) _,h.lt (by omega) _,h.ne (by omega) (by omega) (by omega),?_⟩
    rw[b 0 (m - 1) (by omega) (by omega)]
    exact⟨h,b,d,by omega⟩
   ·obtain rfl:m=1:=by omega
    have l:=o (by omega)
    have q:iS lt p 2:=λi j f c=>by
     obtain rfl:j=1:=by omega
     obtain rfl:i=0:=by omega
     exact l
    refine cI.bind (λr s=>?_) (vo a h (n - (1+1)) (1+1) (by omega) (by omega) q)
    obtain⟨t,x,y,z,u⟩:=s;show cI n lt _ (if r.2.2>0 then _ else _);rw[ax (by omega),t]
    exact DW a h (by omega) (by omega) u
theorem qn{p:Array Nat}(b:gJ n lt)(h:Pm n p){k:Nat}(g:k<n)(a:gP lt p k):∀(f l r:Nat),r - l<=f->l<=r->r<=k->(∀i,i<l->lt (p.getD i 0) (p.getD k 0)=true)->(∀i,r<=i->i<k->lt (p.getD k 0) (p.getD i 0)=true) ->
  cI n lt (λm=>m<=k/\(∀i,i<m->lt (p.getD i 0) (p.getD k 0)=true) /\∀i,m<=i->i<k->lt (p.getD k 0) (p.getD i 0)=true) (kas_place p k f l r)
 |0,l,r,t,u,d,lo,hi=>by
  obtain rfl:l=r:=by omega
  exact⟨d,lo,hi⟩
 |f+1,l,r,t,u,d,lo,hi=>by
  show cI n lt _ (if l ≥ r then _ else _);split
  ·obtain rfl:l=r:=by omega
   exact⟨d,lo,hi⟩
  ·refine⟨h.lt (by omega) _,h.lt (by omega) _,h.ne (by omega) (by omega) (by omega),?_⟩
   cases c:lt (p.getD k 0) (p.getD ((l+r) / 2) 0) with
   |true =>
    refine qn b h g a f l ((l+r) / 2) (by omega) (by omega) (by omega) lo λi q s=>?_
    by_cases e:i=(l+r) / 2
    ·rw[e];exact c
    ·exact b.tr _ _ _ (h.lt (by omega) _) (h.lt (by omega) _) (h.lt (by omega) _) c (a _ i (by omega) s)
   |false =>
    have o:=rY b h (i:=k) (j:=(l+r) / 2) g (by omega) (by omega) c
    refine qn b h g a f ((l+r) / 2+1) r (by omega) (by omega) d (λi q=>?_) hi
    by_cases e:i=(l+r) / 2
    ·rw[e];exact o
    ·exact b.tr _ _ _ (h.lt (by omega) _) (h.lt (by omega) _) (h.lt (by omega) _) (a i _ (by omega) (by omega)) o
theorem v8(b:gJ n lt):∀(f:Nat) (p:Array Nat) (k:Nat),k+f=n->Pm n p->gP lt p k->cI n lt (λr=>Pm n r/\gP lt r n) (kas_bin f p k)
 |0,p,k,e,h,a=>by
  obtain rfl:k=n:=by omega
  exact⟨h,a⟩
 |f+1,p,k,e,h,a=>(qn b h (by omega) a k 0 k (by omega) (bw _) (aN _) (λi hi=>absurd hi (tZ _)) (λi h1 h2=>absurd h2 (by omega))).bind λl s=>by
  obtain⟨c,t,u⟩:=s;refine v8 b f _ _ (by omega) (h.Lr _ _) λi j q w=>?_
  have v:=h.size;rw[vZ (by omega) c i,vZ (by omega) c j]
  by_cases d:i=l
  ·rw[aI d,ax (by omega),aI (by omega)]
   exact u _ (by omega) (by omega)
  ·rw[ax d]
   by_cases g:l<i/\i<=k
   ·rw[aI g,ax (by omega),aI (by omega)]
    exact a _ _ (by omega) (by omega)
   ·rw[ax g]
    by_cases m:j=l
    ·rw[aI m];exact t i (by omega)
    ·rw[ax m]
     by_cases o:l<j/\j<=k
     ·rw[aI o]
      exact a _ _ (by omega) (by omega)
     ·rw[ax o]
      exact a _ _ q (by omega)
theorem En(b:gJ n lt)(d:2<=n):cI n lt (λr=>Pm n r/\gP lt r n) (kas_sort n):=
 (DX b d (t2 _)).bind λr f=>by
  obtain⟨c,a,g,h⟩:=f;show cI n lt _ (if r.1<n then _ else _);split
  ·refine v8 b _ _ _ (by omega) c ?_
   rw[show max r.1 1=r.1 by omega];exact a
  ·obtain e:r.1=n:=by omega
   rw[e]at a;exact⟨c,a⟩
end
end L2
namespace L2
open W Calls PyProof.Rows HS
def c2:List Pd->List Pd->Bool
 |a::as,b::bs=>if a=b then c2 as bs else iT a b
 |_,_=>false
theorem rB:∀{a b c:al Pd},a.length=b.length->b.length=c.length->c2 a b=true->c2 b c=true->c2 a c=true
 |[],_,_,h1,_,h,_=>by unfold c2 at h;cases h
 |a::i,[],_,h1,_,_,_=>by simp at h1
 |a::i,b::bs,[],_,h2,_,_=>by simp at h2
 |a::i,b::bs,c::k,h1,h2,e,d=>by
  unfold c2 at e d⊢
  by_cases g:a=b
  ·rw[aI g]at e
   subst g
   by_cases f:a=c
   ·rw[aI f]at d⊢;exact rB (by simpa using h1) (by simpa using h2) e d
   ·rw[ax f]at d⊢;exact d
  ·rw[ax g]at e
   by_cases f:b=c
   ·subst f
    rw[ax g];exact e
   ·rw[ax f]at d
    have t:=HG e d
    by_cases j:a=c
    ·subst j;rw[v7]at t;cases t
    ·rw[ax j];exact t
theorem wZ:∀{a b:al Pd},a.length=b.length->a≠b->c2 a b=false->c2 b a=true
 |[],[],_,h,_=>absurd rfl h
 |[],b::bs,h,_,_=>by simp at h
 |a::d,[],h,_,_=>by simp at h
 |a::d,b::bs,h1,h2,c=>by
  unfold c2 at c⊢
  by_cases e:a=b
  ·subst e
   rw[aI rfl]at c⊢;exact wZ (by simpa using h1) (λz=>h2 (by rw[z])) c
  ·rw[ax e]at c;rw[ax (aQ e)]
   exact Gj e c
theorem Eo{a b:Pd}{t u:VI}{c:Bool}{Q:Bool->Pn->Prop}(h:Q (iT a b) s):Px (Qu P w) A (oneLt' c (.str a t) (.str b u)) Q E s:=by
 cases c with
 |true=>exact oneLt_str h
 |false =>
  rw[oneLt'_eq];simp only[k7,gf];exact ah (Wy (gS h))
theorem vp{b g:Bool}{Q:Bool->Pn->Prop}:∀{c bs:al Pd}{us vs:al CS}{d f:al CS} (i:Nat),Ug us c->Ug vs bs->c.length=bs.length->c≠bs->Q (c2 c bs) s->KatLex P w A b g Q ((us++d).zip (vs++f)) i s
 |[],[],_,_,_,_,_,_,_,_,h,_=>absurd rfl h
 |[],_::_,_,_,_,_,_,_,_,h,_,_=>by simp at h
 |_::_,[],_,_,_,_,_,_,_,h,_,_=>by simp at h
 |a::c,k::bs,_,_,d,f,i,.cons _ t h1,.cons _ u h2,l,j,q=>by
  unfold c2 at q;refine kat_cons (Cm ?_)
  by_cases e:a=k
  ·rw[a' e]
   rw[aI e]at q;exact kat_yes (vp (i+1) h1 h2 (by simpa using l) (λz=>j (by rw[e,z])) q)
  ·rw[bS e]
   rw[ax e]at q;exact kat_no (Eo q)
def gY(H:Hp)(m:Nat)(vs:List V)(kvs:List (List Pd×List V)):Prop:=S2 (λy p=>∃a,y=V.ref a/\H a=ih (.tup (p.1.map V.str++p.2))/\p.1.length=m) vs kvs
theorem uQ{H:Hp}:∀{ks:al Pd}{rest:al V}{its:al CS},Vals (ks.map V.str++rest) its ->∃us a,its=us++a/\Ug us ks
 |[],rest,its,h=>⟨[],its,rfl,.nil⟩
 |k::ks,rest,its,h=>by
  cases h with
  |cons r t =>
   obtain⟨tk,rfl⟩:=r;obtain⟨us,a,e,st⟩:=uQ (H:=H) t;exact⟨.str k tk::us,a,by rw[e];rfl,.cons k tk st⟩
theorem Ep{σ:al (Option V)}
  (yj:∀(A:TJ) (E:CS->Pn->Prop) (yg:al CS->Pn->Prop),(X.A.handled=none->A.handled=none)->(∀(its:al CS) (zg:Pn) (H:Hp) (ys:al V) (kvs:al (List Pd×List V)) (G:Nat),Inv X J σ H zg->Vals ys its->gY H G ys kvs->1<=G->(kvs.map (·.1)).Nodup->ys.length<=63 ->
   (∀D za ya,H D=none->za.Perm ys->gY H G za ya->ya.Perm kvs->(ya.map (·.1)).Pairwise (λa b=>c2 a b=true)->Q (.ref D) (upd H D (.lst za)))->yg its zg)->Px X.dY A (collect (.ref p)) yg E s) :
  wA X (call (.builtin "sorted") [.ref p]) (EP X J σ Q) X.xe s:=by
 refine Calls.call_function_entry kind_sorted plain_sorted entry_sorted (args_sorted1 _) ?_;unfold TF.«sorted»;refine ah (m:=checkCount "sorted" 1 1 _) (au (ah (yj _ _ _ (λh=>by simpa using h) λits s H ys kvs G I yb pr yA nd zA q=>?_)))
 have yq:ys.length<=Pk:=by rw[aR];omega
 have zj:ys.length=kvs.length:=cw pr;have ye:=yb.length;have R:∀(i:Nat),i<its.length ->∃(ks:al Pd) (a:Ph) (w l:al CS),(kvs.map (·.1))[i]?=ih ks/\its[i]?=ih (.ref a)/\a≠X.env.locals/\Tt s.heap a (w++l).toArray/\Ug w ks/\ks.length=G:=by
  intro i hi;have ze:i<ys.length:=by omega
  obtain⟨zq,xk,a,xr,zb,yk⟩:=j1 pr (show ys[i]?=ih ys[i] from bY ze);obtain⟨u,xc,l⟩:=yb.get (show ys[i]?=ih (V.ref a) by rw[bY ze,xr])
  cases l
  obtain⟨xC,yr,xh,_⟩:=I.tuple (aO.of zb);obtain⟨w,l,e,st⟩:=uQ (H:=H) yr;rw[e]at xh;exact⟨zq.1,a,w,l,by rw[cR,xk];rfl,xc,(λz=>by rw[z,I.free]at zb;cases zb),xh,st,yk⟩
 obtain⟨m,U,_⟩:=id I.loc
 let lt:Nat->Nat->Bool:=λi j=>c2 ((kvs.map (·.1)).getD i []) ((kvs.map (·.1)).getD j [])
 have kl:(kvs.map (·.1)).length=its.length:=by rw[aK];omega
 have K:∀i,i<its.length->((kvs.map (·.1)).getD i []).length=G:=λi hi=>by
  obtain⟨ks,_,_,_,h1,_,_,_,_,h2⟩:=R i hi;rw[fV,h1];exact h2
 have xf:∀i j,i<its.length->j<its.length->i≠j->(kvs.map (·.1)).getD i []≠(kvs.map (·.1)).getD j []:=λi j hi y M e=>M ((List.getElem?_inj (by omega) nd).mp (by
  rw[fV,fV,bY (by omega),bY (by omega)]at e
  rw[bY (by omega),bY (by omega)]
  exact dc ih e))
 have zr:gJ its.length lt:=⟨λi j k hi y xt h1 h2=>rB ((K i hi).trans (K j y).symm) ((K j y).trans (K k xt).symm) h1 h2,λi j hi y M f=>wZ ((K i hi).trans (K j y).symm) (xf i j hi y M) f⟩;have yf:∀(h':To) (D:Ph) (c:Nat) (d:Array Nat),(∀b o,b≠X.env.locals->s.heap.get? b=ih o->h'.get? b=ih o)->h'.Ns X.env.locals m->(∀b o,s.heap.get? b=ih o->b≠D)->Pm its.length d->(d.toList.Pairwise λi j=>lt i j=true) ->
   h'.get? D=ih (listOf (d.toList.map λi=>its.getD i SV).toArray c) ->∃v Y,Inv X J σ Y { s with heap:=h' }/\RelV v (.ref D)/\Q v Y:=by
  intro h' D c d k zk B x xl new;have zf:∀i∈d.toList,i<its.length:=λi hi=>iZ.mp (x.mem_iff.mp hi);have yh:(d.toList.map λi=>ys.getD i V.aJ).Perm ys:=Aw V.aJ (by rw[ye];exact x)
  have yl:Pm kvs.length d:=by rw[<-zj,ye];exact x
  have yt:(d.toList.map λi=>kvs.getD i (([],[]):al Pd×List V)).Perm kvs:=Aw _ yl;have zt:gY H G (d.toList.map λi=>ys.getD i V.aJ) (d.toList.map λi=>kvs.getD i ([],[])):=uP λi hi=>Ek pr V.aJ ([],[]) i (by have:=zf i hi;omega)
  have xu:(d.toList.map λi=>kvs.getD i ([],[])).map (·.1)=d.toList.map λi=>(kvs.map (·.1)).getD i []:=by
   rw[hF];refine t4 λi hi=>?_;have:i<kvs.length:=by have:=zf i hi;omega
   show(kvs.getD i ([],[])).1=_;rw[fV,fV,cR,bY this];rfl
  have zl:Vals (d.toList.map λi=>ys.getD i V.aJ) (d.toList.map λi=>its.getD i SV):=vm (λi=>by
   by_cases hi:i<ys.length
   ·obtain⟨u,xc,l⟩:=yb.get (show ys[i]?=ih ys[i] from bY hi)
    rw[fV,fV,xc,bY hi];exact l
   ·rw[fV,fV,P0 (by omega),P0 (by omega)];trivial) d.toList
  obtain⟨yu,zu⟩:=Inv.sorted (t':=s.toks) I U zk k B new zl (by rw[yh.length_eq];exact yq)
  refine⟨.ref D,_,zu,rfl,q D _ _ yu yh zt yt ?_⟩;rw[xu,p5];exact xl
 refine ah (CT ?_ (by rw[aR];omega))
 have xb:(s.heap.push (seqObj "list" its.toArray 0)).get? s.heap.objs.size=ih (seqObj "list" its.toArray 0):=cm _ rfl;have B:∀b o,s.heap.get? b=ih o->b≠s.heap.objs.size:=λb o e=>cn (bF e);refine ah (eM (il slot_list_sort ⟨_,xb,rfl⟩ entry_list_sort ?_ (args_list_sort _)));have keep:∀b o,s.heap.get? b=ih o->(s.heap.push (seqObj "list" its.toArray 0)).get? b=ih o:=λb o e=>bu _ e
 by_cases h2:its.length<2
 ·refine Ej xb h2 λc g zh new=>⟨_,rfl,au ⟨_,rfl,?_⟩⟩
  refine yf g _ c (SY its.length).toArray (λb o _ e=>zh b o (B b o e) (keep b o e)) (U.at' λo e=>zh _ o (B _ o e) (keep _ o e)) B (t2 _) ?_ ?_
  ·show(SY its.length).Pairwise _
   have:its.length=0\/its.length=1:=by omega
   rcases this with z|z <;> rw[z]
   ·exact Ui
   ·exact List.pairwise_singleton _ _
  ·have:(SY its.length).map (λi=>its.getD i SV)=its:=by
    apply Vc
    ·simp
    ·intro i h1 h2;simp[TZ,h2]
   show g.get? s.heap.objs.size=ih (listOf ((SY its.length).map λi=>its.getD i SV).toArray c);rw[this];exact new
 ·have h2:2<=its.length:=by omega
  obtain⟨O,xm,S⟩:∃O:To,O.objs.size=0 /\∀b,O.get? b=none:=⟨{ s.heap with objs:= #[] },rfl,λb=>UT (bw _)⟩;have F:Fr O X.env.locals s.heap m:=⟨U,λb o e=>(by rw[S]at e;cases e),by rw[xm];exact bw _⟩
  have N:=ES (g:=O) (L:=X.env.locals) (h:=s.heap);have ym:∃o,s.heap.get? X.env.locals=ih o:=let ⟨o,_,_,e,_⟩:=U;⟨o,e⟩;obtain⟨yC,xv⟩:=ym;refine kat_list_sort (s:={ s with heap:=s.heap.push (seqObj "list" its.toArray 0) }) (F.kept keep) (N.grown keep) xb (aQ (B _ _ xv)) (S _) (λp x=>B p.1 p.2 (qf x).2.2) h2 (by omega) λzC h' yv N'=>?_
  have zv:∀b o,b≠X.env.locals->s.heap.get? b=ih o->h'.get? b=ih o:=λb o n e=>(N' (b,o) (bL _ (uz n (S b) e))).1;have tk:∀{a:Ph}{zs:Array CS},a≠X.env.locals->Tt s.heap a zs->Tt h' a zs:=λn ⟨o,yc,r⟩=>⟨o,zv _ o n yc,r⟩;have xw:∀(vs:al CS),(∀v∈vs,∃a w l ks,v=PU a/\Tt h' a (w++l).toArray/\Ug w ks/\ks.length=G) ->∃fs,fs.length=vs.length/\KatTups h' vs fs /\∀f∈fs,∃k t,f=Uj k t:=by
   intro vs
   induction vs with
   |nil=>intro _;exact⟨[],rfl,KatTups.nil,λf P=>(by cases P)⟩
   |cons v vs yw =>
    intro W;obtain⟨fs,zw,xx,yx⟩:=yw λzx h'=>W zx (bL _ h');obtain⟨a,w,l,ks,rfl,⟨o,yc,xy,n,yy⟩,st,zm⟩:=W v bJ;cases st with
    |nil=>simp at zm;omega
    |cons k t r =>
     refine⟨.str k t::fs,by rw[cf,cf,zw],KatTups.cons yc xy yy (by simp) xx,λf P=>?_⟩
     rcases bU.mp P with z|z
     ·exact⟨k,t,z⟩
     ·exact yx f z
  obtain⟨fs,xB,xn,yn⟩:=xw its λv W=>by
   obtain⟨i,hi,rfl⟩:=tU W;obtain⟨ks,a,w,l,_,xa,zc,xd,yd,zd⟩:=R i hi;rw[bY hi]at xa;exact⟨a,w,l,ks,c7 xa,tk zc xd,yd,zd⟩
  refine kat_kind (T:=.type "str") xn (by omega) (λf P=>?_) (by decide) ?_
  ·obtain⟨k,t,rfl⟩:=yn f P
   exact Looks.of_pure rfl
  ·refine(En zr h2).wp (λi j C hi y M xi=>?_) λd x=>?_
   ·obtain⟨k,a,w,l,zy,xa,zc,xd,yd,zd⟩:=R i hi
    obtain⟨yi,xD,yB,zB,zn,xo,yo,zo,xp,yp⟩:=R j y;unfold kas_ask;rw[fV,fV,xa,xo];have zi:(kvs.map (·.1)).getD i []=k:=by rw[fV,zy];rfl
    have xj:(kvs.map (·.1)).getD j []=yi:=by rw[fV,zn];rfl
    have xz:lt i j=c2 k yi:=by show c2 ((kvs.map (·.1)).getD i []) ((kvs.map (·.1)).getD j [])=_;rw[zi,xj]
    have ne:=xf i j hi y M;rw[zi,xj]at ne;rw[xz]at xi;obtain⟨ox,yz,_,yD,dx⟩:=tk zc xd;obtain⟨zD,zz,_,xE,xA⟩:=tk yo zo;exact kat_lt yz dx zz xA (vp 0 yd xp (zd.trans yp.symm) ne xi)
   ·refine KasFin.intro yv N' (UpdF.head λp x=>?_) λzp c xq xg=>?_
    ·exact B p.1 p.2 (qf x).2.2
    ·refine⟨_,rfl,au ⟨_,rfl,?_⟩⟩
     exact yf zp _ c d (λb o n e=>(xg (b,o) (bL _ (uz n (S b) e))).1) xq.ns B x.1 (HH x.1.size x.2) (xg _ bJ).1
theorem lq:c8 X (.builtin "sorted") (λxs H Q=>∃(p:Ph) (ys:al V) (kvs:al (List Pd×List V)) (m:Nat),xs=[.ref p]/\(aj X.K H p ys\/aO X.K H p ys)/\gY H m ys kvs/\1<=m/\(kvs.map (·.1)).Nodup/\ys.length<=63 /\
  ∀D f d,H D=none->f.Perm ys->gY H m f d->d.Perm kvs->(d.map (·.1)).Pairwise (λa b=>c2 a b=true)->Q (.ref D) (upd H D (.lst f))):=by
 rintro J s σ H xs us Q I r ⟨p,ys,kvs,j,ex,hq,pr,h,nd,i,q⟩;subst ex;obtain⟨u,rfl,n⟩:=vals1 r;cases n
 refine Ep λA E v _ l=>?_;rcases hq with hq|hq
 ·obtain⟨its,c,g,t⟩:=I.list hq
  have:=c.length;exact collect_list g.isList (l its _ H ys kvs j (I.kept (t':=s.toks) λb o e=>(tK _ _ (jJ (bF e))).trans (bu _ e)) c pr h nd i q) (by rw[aR];omega)
 ·obtain⟨its,c,g,t⟩:=I.tuple hq
  have:=c.length;exact DA g (by rw[aR];omega) λh' k=>l its _ H ys kvs j (I.kept (t':=s.toks) k) c pr h nd i q
end L2
namespace HS
open Spec PyProof.Rows W
theorem v9{vs:al CS}{ys:al Pd}{y:Pd}{t:VI}{j:Nat}{Q:am U7×Unit->Pn->Prop}(st:Ug vs ys)(a:ys[j]?=ih y)(d:∀m,m<j->ys[m]? ≠ ih y)(q:∀tk,Q (ih (.done (.ret (.int j tk))),()) { s with toks:=s.toks+1 }) :
  ∀(k i:Nat),i<=j->j<i+k->Px (Qu P w) A (forIn (m:=UB) (List.range' i k) ((none,()):am U7×Unit) λ(i:Nat) o=>match vs.toArray[i]? with
      |some f=>do
       let b <- eqBool f (.str y t)
       if b=true then do
         let r <- retInt (i:Int)
         pure (Xd (ih r,()))
        else pure (S5 (none,()))
      |_=>pure (S5 (none,()))) Q E s
 |0,i,h1,h2=>absurd h2 (by omega)
 |k+1,i,h1,h2=>by
  rw[List.range'_succ,Vl];have l:=vX st;have n:j<ys.length:=(bT.mp a).1;have hi:i<vs.length:=by omega
  obtain⟨tk,g⟩:=L2.wY st i vs[i] (bY hi);have c:i<ys.length:=by omega
  have h:vs.toArray[i]?=ih (.str ys[i] tk):=by
   rw[List.getElem?_toArray,bY hi,g];simp[c]
  rw[h]
  dsimp only
  refine ah (ah (Cm ?_))
  by_cases e:ys[i]=y
  ·rw[a' e,aI rfl]
   have:i=j:=by
    by_cases z:i<j
    ·exact absurd (by rw[bY c,e]) (d i z)
    ·omega
   subst this;refine ah ?_;unfold retInt;exact ah (wpAny_mkInt (au (au (au (q _)))))
  ·rw[bS e,ax bM]
   refine au ?_;refine v9 st a d q k (i+1) ?_ (by omega)
   by_cases z:i=j
   ·subst z
    rw[bY c]at a;exact absurd (c7 a) e
   ·omega
theorem Er{vs:al CS}{ys:al Pd}{y:Pd}{t:VI}{Q:CS->Pn->Prop}(d:Tt s.heap l vs.toArray)(st:Ug vs ys)(a:ys[j]?=ih y)(c:∀m,m<j->ys[m]? ≠ ih y)(q:∀tk,Q (.int j tk) { s with toks:=s.toks+1 }) :
  Px (Qu P w) A (call (.builtin "tuple.index") [.ref l,.str y t]) Q E s:=by
 obtain⟨o,b,e,n,f⟩:=d;have i:j<ys.length:=(bT.mp a).1;have h:=vX st;refine il P1 ⟨o,b,e⟩ PySem.F.entry_tuple_index ?_ (PySem.F.args_tuple_index_2 _ _);unfold TF.«tuple.index»;refine ah (au ?_)
 dsimp only
 refine ah ?_;unfold TM seqItems?;refine ah (ah (wpAny_load b ?_));rw[f];refine au (au ?_);refine ah (au (ah (au ?_)));rw[Vv];refine ah ?_;have g:([0:min vs.toArray.size vs.toArray.size]:WQ).size=vs.length:=by simp[Vu]
 rw[g];refine v9 st a c (λtk=>?_) vs.length 0 (bw _) (by omega)
 exact au ⟨_,rfl,q tk⟩
end HS
namespace L2
open Spec PyProof.Rows W HS
def Gk(K:Tx):V->List V->Hp->VK->Prop:=λx vs H Q=>∃(l:Ph) (ys:List Pd) (y:Pd) (j:Nat),x=.ref l/\vs=[.str y]/\aO K H l (ys.map V.str)/\ys[j]?=ih y/\(∀m,m<j->ys[m]? ≠ ih y)/\Q (.int j) H
theorem Es:mL X "tuple.index" (Gk X.K):=by
 rintro J s σ H x vs v us Q I b c ⟨l,ys,y,j,rfl,rfl,d,e,a,q⟩;cases b
 obtain⟨u,rfl,t,rfl⟩:=c.one;obtain⟨its,r,f,g⟩:=I.tuple d;exact Er f (ql r) e a λtk=>⟨.int j,H,I.tok _,⟨tk,rfl⟩,q⟩
end L2
namespace L2
open W Spec PyProof.Rows
end L2
namespace L2
open Spec PyProof.Rows W
mutual
inductive Dt(p:Ph)(H:Hp):V->Pj->Prop where
 |aJ:Dt p H .aJ .none
 |bl (b:Bool):Dt p H (.bl b) (.bool b)
 |int (i:Int):Dt p H (.int i) (.int i)
 |str (x:Pd):Dt p H (.str x) (.str x)
 |lst {a:Ph}{xs:List V}{ds:List Pj}:a≠p->H a=ih (.lst xs)->cO p H xs ds->Dt p H (.ref a) (.list ds)
 |tup {a:Ph}{xs:List V}{ds:List Pj}:a≠p->H a=ih (.tup xs)->cO p H xs ds->Dt p H (.ref a) (.tuple ds)
 |pH {a:Ph}:a≠p->H a=ih (.dK [])->Dt p H (.ref a) (.dict [])
inductive cO(p:Ph)(H:Hp):List V->List Pj->Prop where
 |nil:cO p H [] []
 |cons {x:V}{d:Pj}{xs:List V}{ds:List Pj}:Dt p H x d->cO p H xs ds->cO p H (x::xs) (d::ds)
end
section
mutual
theorem Dt.keep(k:∀b o,H b=ih o->b≠p->Y b=ih o):∀{v:V}{d:Pj},Dt p H v d->Dt p Y v d
 |_,_,.aJ=>.aJ
 |_,_,.bl b=>.bl b
 |_,_,.int i=>.int i
 |_,_,.str x=>.str x
 |_,_,.lst n e a=>.lst n (k _ _ e n) (cO.keep k a)
 |_,_,.tup n e a=>.tup n (k _ _ e n) (cO.keep k a)
 |_,_,.pH n e=>.pH n (k _ _ e n)
theorem cO.keep(k:∀b o,H b=ih o->b≠p->Y b=ih o):∀{vs:al V}{ds:al Pj},cO p H vs ds->cO p Y vs ds
 |_,_,.nil=>.nil
 |_,_,.cons r a=>.cons (Dt.keep k r) (cO.keep k a)
end
theorem cO.length:∀{vs:al V}{ds:al Pj},cO p H vs ds->vs.length=ds.length
 |_,_,.nil=>rfl
 |_,_,.cons _ a=>by rw[cf,cf,cO.length a]
theorem cO.get:∀{vs:al V}{ds:al Pj},cO p H vs ds ->∀{i:Nat}{d:Pj},ds[i]?=ih d ->∃v,vs[i]?=ih v/\Dt p H v d
 |_,_,.nil,i,v,h=>by cases h
 |_,_,.cons r a,0,v,h=>by cases h;exact⟨_,rfl,r⟩
 |_,_,.cons r a,i+1,v,h=>cO.get a (by simpa using h)
end
def ie:Pj->String
 |.none => "NoneType"
 |.bool _ => "bool"
 |.int _ => "int"
 |.str _ => "str"
 |.list _ => "list"
 |.tuple _ => "tuple"
 |.dict _ => "dict"
def ey(T:String)(d:Pj):Bool:=ie d==T||(ie d == "bool" && T == "int")
theorem Dt.ty{d:Pj}(r:Dt p H v d):fy K H v (.type (ie d)):=by
 cases r with
 |aJ=>exact .aJ
 |bl b=>exact .bl b
 |int i=>exact .int i
 |str x=>exact .str x
 |lst n e _=>exact .lst e
 |tup n e _=>exact .tup e
 |pH n e=>exact .dK e
theorem w0(K:Tx)(d:Pj):kitOne K (.type (ie d)) (.type "int")=ih (ey "int" d):=by cases d <;> rfl
theorem v'(K:Tx)(d:Pj):kitOne K (.type (ie d)) (.type "bool")=ih (ey "bool" d):=by cases d <;> rfl
theorem w1(K:Tx)(d:Pj):kitOne K (.type (ie d)) (.type "str")=ih (ey "str" d):=by cases d <;> rfl
theorem kit_tuple(K:Tx)(d:Pj):kitOne K (.type (ie d)) (.type "tuple")=ih (ey "tuple" d):=by cases d <;> rfl
theorem iC{d:Pj}(a:∀(K:Tx) (d:Pj),kitOne K (.type (ie d)) (.type T)=ih (ey T d))(r:Dt p H v d)(q:Q (.bl (ey T d)) H) :
  (∃x,(∃C,[v,V.ty T]=[x,.ref C])\/(∃b,[v,V.ty T]=[x,.ty b]))/\Bn K [v,.ty T] H Q:=⟨⟨v,.inr ⟨T,rfl⟩⟩,v,.ty T,.type (ie d),.type T,_,rfl,rfl,.inl r.ty,a K d,q⟩
end L2
namespace HT
open PyProof.Rows
section
open SeqAt
open AutoSeq1 (wpAny_loadPart')
open MeetsSeq MeetsSeq2 MeetsSeq3
end
end HT
namespace L2
open Spec PyProof.Rows W HT
section
mutual
theorem Dt.reads(I:Inv X J σ H s):∀{v:V}{d:Pj}{u:CS},Dt p H v d->RelV v u ->∃f,Reads s.heap u d f
 |_,_,_,.aJ,r=>by cases r;exact⟨_,.none⟩
 |_,_,_,.bl b,r=>by cases r;exact⟨_,.bool b⟩
 |_,_,_,.int i,r=>by obtain⟨t,rfl⟩:=r;exact⟨_,.int i t⟩
 |_,_,_,.str x,r=>by obtain⟨t,rfl⟩:=r;exact⟨_,.str x t⟩
 |_,_,_,.lst (a:=a) (xs:=xs) _ e g,r=>by
  cases r
  obtain⟨_,its,n,j,c⟩:=(show bB X.prog X.w H s.heap a (.lst xs) from I.aB a _ e);obtain⟨f,k⟩:=cO.reads I g j;exact⟨_,.list c rfl rfl k⟩
 |_,_,_,.tup (a:=a) (xs:=xs) _ e g,r=>by
  cases r
  obtain⟨_,its,j,D,c,q,n,y,_⟩:=(show bB X.prog X.w H s.heap a (.tup xs) from I.aB a _ e);obtain⟨f,k⟩:=cO.reads I g j;exact⟨_,.tuple c q y k⟩
 |_,_,_,.pH (a:=a) _ e,r=>by
  cases r
  obtain⟨_,_,vs,z,o,es,ep,A,B,C,_,l,_⟩:=(show bB X.prog X.w H s.heap a (.dK []) from I.aB a _ e);cases z
  have m:es.toList=[]:=by cases h:es.toList with
   |nil=>rfl
   |cons a b=>rw[h]at l;cases l
  exact⟨_,.dict (kvs:=[]) A B.1 C (by rw[m];exact .nil) (by rw[m];exact .nil)⟩
theorem cO.reads(I:Inv X J σ H s):∀{vs:al V}{ds:al Pj}{us:al CS},cO p H vs ds->Vals vs us ->∃a,ReadsAll s.heap us ds a
 |_,_,_,.nil,r=>by cases r;exact⟨_,.nil⟩
 |_,_,_,.cons r b,c=>by
  cases c with
  |cons q d =>
   obtain⟨a,h1⟩:=Dt.reads I r q;obtain⟨bs,h2⟩:=cO.reads I b d;exact⟨_,.cons h1 h2⟩
end
end
end L2
namespace L2
open W
theorem erase_filter{κ:Type} [DecidableEq κ]{β:Type}{k:κ}:∀{xs:al (κ×β)}{j:Nat}{p:β},(xs.map (·.1)).Nodup->xs[j]?=ih (k,p)->xs.eraseIdx j=xs.filter λx=>!decide (x.1=k)
 |[],j,p,_,h=>by simp at h
 |x::xs,0,p,nd,h=>by
  simp only[List.getElem?_cons_zero,Pc]at h;subst h;rw[bV,d0]at nd;rw[List.eraseIdx_zero,List.tail_cons,hI (by simp)]
  refine(nc.mpr λy b=>?_).symm;have:y.1≠k:=λe=>nd.1 (e ▸ ba.mpr ⟨y,b,rfl⟩)
  simpa using this
 |x::xs,j+1,p,nd,h=>by
  simp only[List.getElem?_cons_succ]at h;rw[bV,d0]at nd;have a:x.1≠k:=λe=>nd.1 (e ▸ ba.mpr ⟨(k,p),eF h,rfl⟩);rw[List.eraseIdx_cons_succ,hJ (by simpa using a),erase_filter nd.2 h]
theorem vq{α β:Type}(f:α->β):∀(xs:al α) (j:Nat),(xs.map f).eraseIdx j=(xs.eraseIdx j).map f
 |[],_=>rfl
 |_::_,0=>rfl
 |x::xs,j+1=>by
  show f x::(xs.map f).eraseIdx j=f x::(xs.eraseIdx j).map f;rw[vq f xs j]
section
variable{κ:Type} [DecidableEq κ]{knd:HeapKind prog w κ}
theorem Dp{xs:al (κ×Ph×CS)}{k:κ}{p:Ph×CS}{Q:am SX->Pn->Prop}(r:knd.room A)(m:knd.is s.heap k a)(y:s.heap.DictOfH knd d xs)(i:atKey xs k=ih p)(hsz:xs.length<=Pk)
  (h:∀h',h'.DictOfH knd d (xs.filter λx=>!decide (x.1=k))->S8 d s.heap h'->Q (ih (entryOfKey knd (k,p))) { s with heap:=h',toks:=s.toks+knd.draws k }) :
  Px (Qu prog w) A (UA d (.ref a)) Q E s:=by
 obtain⟨o,es,ep,c,z,b,f,n,g⟩:=y;unfold UA
 try with_reducible refine eM ?_
 refine ah (knd.pyHash r m (ah (wpAny_dictFind_heap (s:={ s with toks:=s.toks+knd.draws k }) r m c b f n g ?_ ?_)))
 ·intro u
  rw[atKey_none_of_get u]at i;exact nomatch i
 ·intro j q l
  have t:=atKey_of_get g l;rw[i]at t;cases t
  refine ah (jP (s:={ s with toks:=s.toks+knd.draws k }) c b ?_);rw[entry_at f j,l];have v:es.size<=Pk:=by have e:=ng f;omega
  refine ah (wpAny_updateDictKeys (hz:=v) (s:={ s with toks:=s.toks+knd.draws k }) c b (au (h _ ⟨_,_,ep+1,CC _ c (Obj.isFreed_of_dict (UY b _)),z.mapDictKeys _,UY b _,?_,?_,?_⟩ (k' ..))))
  ·have B:(es.eraseIdxIfInBounds j).toList=es.toList.eraseIdx j:=by simp
   rw[B,f,<-erase_filter g l];exact vq _ _ _
  ·intro x C
   exact knd.keeps (n x (cU.mp C).1) c b (k' ..)
  ·exact g.sublist (lb _ p7)
theorem Di{k:κ} :
  MeetsIn prog w (TF.«dict.pop» ⟨[.ref d,.ref a],[]⟩) (λA R s=>∃(xs:al (κ×Ph×CS)) (p:Ph×CS),knd.room A.in1/\knd.is s.heap k a/\s.heap.DictOfH knd d xs/\xs.length<=Pk/\atKey xs k=ih p /\
   ∀h',h'.DictOfH knd d (xs.filter λx=>!decide (x.1=k))->S8 d s.heap h'->R (.ok (.ret p.2)) { s with heap:=h',toks:=s.toks+knd.draws k }):=
 .of_wp λA R s ⟨xs,p,m,f,b,g,c,h⟩=>by
  unfold TF.«dict.pop»;refine ah ?_;unfold WE;refine ah (tX b.typeIs ?_);show Px _ _ (pure (d,PU a,none)) _ _ s;refine au ?_;obtain⟨o,es,ep,n,u,q,r,t,v⟩:=id b;have i:es.isEmpty=false:=by
   have e:=ng r;have:0<xs.length:=by
    cases xs with
    |nil=>exact nomatch c
    |cons _ _=>exact Nat.succ_pos _
   exact bS (by omega)
  refine ah ?_;refine jP n q (ah (au ?_));rw[i];simp only[k7,gf];refine ah (Dp m f b c g λh' j l=>?_);simp only[Option.isNone_some,k7,gf];exact ah (wpAny_letGo (au ⟨_,rfl,h h' j l⟩))
end
theorem KT.drop{xs:al (List Key×Ph×CS)}(r:KT H kvs xs)(k:al Key):KT H (ei kvs k) (xs.filter λx=>!decide (x.1=k)):=by
 unfold ei
 induction r with
 |nil=>exact .nil
 |@cons p q ps f h t c =>
  rw[i2,i2]
  by_cases e:p.1=k
  ·have a : ¬ decide (p.1≠k)=true:=by simp[e]
   have b : ¬ (!decide (q.1=k))=true:=by simp[h.1.symm.trans e]
   rw[ax a,ax b];exact c
  ·have d : ¬ q.1=k:=λz=>e (h.1.trans z)
   have a:decide (p.1≠k)=true:=by simp[e]
   have b:(!decide (q.1=k))=true:=by simp[d]
   rw[aI a,aI b];exact .cons h c
theorem q5(y:X.A.units+1<T6):pD X "dict.pop" (λx xs H Q=>∃a kvs k b v,x=.ref a/\xs=[.ref b]/\H a=bn kvs/\H b=bd (k.map kV)/\bj kvs k=ih v/\Q v (upd H a (.dT (ei kvs k)))):=by
 rintro J s σ H x xs v us Q I B r ⟨a,kvs,k,b,f,rfl,rfl,e,C,l,q⟩;cases B
 obtain⟨u,rfl,D⟩:=vals1 r;cases D
 obtain⟨z,E,ys,d,g⟩:=rX I.aB e;obtain⟨P,G,m⟩:=d7.some_of (v:=f) (o:=(atKey ys k).map (·.2)) (by rw[<-l];exact d.val k)
 obtain⟨p,K,n⟩:=fU.mp G;refine call_meetsIn t5 g.typeIs PySem.F.entry_dict_pop (PySem.F.args_dict_pop_2 _ _) (Di (knd:=tupleKind (b8 X.prog X.w)) (k:=k))
  ⟨ys,p,p4 y,jg I.aB C,g,by rw[<-cw d];exact z,K,λh' t L=>?_⟩
 obtain⟨o',es,ep,i,h2,M,N,_,O⟩:=t;refine⟨f,_,lS (ob:=.dT (ei kvs k)) I (by rw[e];exact Tb) L ⟨o',i⟩ ⟨ed (E9 kvs k) z,E,_,(d.drop k).keeps λc ys j=>?_,o',es,ep,i,h2,M,N,O⟩,by rw[n];exact m,q⟩
 rw[ab (aH j e (λz=>nomatch z))];exact j
end L2
namespace L2
open W Spec PyProof.Rows
def gu(h:To)(d:Ph)(es:Array SX)(ep:Nat):Prop:= ∃o,h.get? d=ih o/\o.ExactDict/\o.data=.dict es ep
theorem gu.ty{es:Array SX}(x:gu s.heap d es ep):s.TypeIs (.ref d) "dict" :=let ⟨o,e,c,_⟩:=x;⟨o,e,c.1⟩
theorem wc{es:Array SX}{Q:CS->Pn->Prop}(e:(d==sysModules)=false)(x:gu s.heap d es ep)
  (q:Q (.ref s.ai) { s with heap:=s.heap.push { cls:=.type "dict_keyiterator",data:=.fields #[.ref d,.int 0 0,.int es.size 0,.int ep 0] } }):Px (Qu P w) A (pyIter (.ref d)) Q E s:=by
 have a:=x.ty;obtain⟨o,c,f,b⟩:=x;refine wpAny_pyIter_slot a VB (il VB a F.entry_dict_iter ?_ (F.args_dict_iter_1 _));unfold TF.«dict.__iter__»;refine ah ?_;unfold WG;refine ah (tX a ?_);show Px _ _ (pure (PU d)) _ _ s;refine au ?_;show Px _ _ (TB d >>= _) _ _ s;unfold TB;rw[ax (by rw[e];exact bM)]
 refine ah (au (ah (jP c b (ah (ni c b ?_)))));exact ah (gc (au ⟨_,rfl,"dict_keyiterator",_,⟨_,cm _ rfl,rfl⟩,p8.lookup,q⟩))
theorem we{es:Array SX}{e:SX}{Q:am CS->Pn->Prop}(a:s.heap.IsKeyIter it d i es.size ep)(x:gu s.heap d es ep)(j:es[i]?=ih e)
  (q:∀h',h'.IsKeyIter it d (i+1) es.size ep->S8 it s.heap h'->Q (ih e.key) { s with heap:=h' }):Px (Qu P w) A (pyNext (.ref it)) Q E s:=by
 obtain⟨o,c,k,b⟩:=id a;obtain⟨od,g,l,h⟩:=id x;unfold pyNext;refine ah (m4 (mY (name:=SW "__next__") a.typeIs p8
  (il p8 a.typeIs P2 ?_ (P4 _))))
 refine ah (au (ah (ah ?_)))
 first|refine ah (t6 a.typeIs (au ?_))|refine ah (t7 a.typeIs (au ?_))
 refine ah (t8 c b ?_);simp only[show S9 "dict_keyiterator" = false by decide,k7,gf]
 show Px _ _ (if (PU d==SV)=true then _ else _) _ _ s;rw[ax (show ¬ ((PU d==SV)=true) from bM)];refine ah (au (ah (jP g h ?_)));rw[ax (by simp)]
 refine ah (au (ah (ni g h ?_)));rw[ax (by simp)]
 refine au ?_;simp only[show ¬ ((i:Int)<0) from by omega,gf,mX,j]
 refine ah ?_
 first|refine ah (t6 a.typeIs (au ?_))|refine ah (t7 a.typeIs (au ?_))
 refine ah (wpAny_isOneOf_keyiter a.typeIs ?_);show Px _ _ (setField (.ref it) 1 (rawInt ((i:Int)+1)) >>= _) _ _ s;refine ah (CV c b (by simp) ?_)
 have f:(s.heap.update it (VP (·.setIfInBounds 1 (rawInt ((i:Int)+1))))).IsKeyIter it d (i+1) es.size ep:=
  ⟨_,CC _ c (Obj.isFreed_of_fields (U8 b _)),(Obj.cls_mapFields ..).trans k,by rw[U8 b];simp[rawInt]⟩
 refine ah (eM (ah (wpAny_isOneOf_keyiter (s:={ s with heap:=s.heap.update it (VP (·.setIfInBounds 1 (rawInt ((i:Int)+1)))) }) f.typeIs ?_)));show Px _ _ (pure e.key) _ _ _;exact au (au ⟨_,rfl,au (q _ f (k' ..))⟩)
theorem wg{es:Array SX}{Q:am CS->Pn->Prop}(i:A.handled=none)(c:s.heap.IsKeyIter it d es.size es.size ep)(x:gu s.heap d es ep)
  (q:∀h',V1 it s.heap h'->Q none { s with heap:=h' }):Px (Qu P w) A (pyNext (.ref it)) Q E s:=by
 obtain⟨o,g,k,h⟩:=id c;obtain⟨od,e,j,f⟩:=id x;unfold pyNext;refine ah (m4 (mY (name:=SW "__next__") c.typeIs p8
  (il p8 c.typeIs P2 ?_ (P4 _))))
 refine ah (au (ah (ah ?_)))
 first|refine ah (t6 c.typeIs (au ?_))|refine ah (t7 c.typeIs (au ?_))
 refine ah (t8 g h ?_);simp only[show S9 "dict_keyiterator" = false by decide,k7,gf]
 show Px _ _ (if (PU d==SV)=true then _ else _) _ _ s;rw[ax (show ¬ ((PU d==SV)=true) from bM)];refine ah (au (ah (jP e f ?_)));rw[ax (by simp)]
 refine ah (au (ah (ni e f ?_)));rw[ax (by simp)]
 refine au ?_;simp only[show ¬ ((es.size:Int)<0) from by omega,gf,mX,P6 (aN es.size)]
 refine ah ?_
 first|refine ah (t6 c.typeIs (au ?_))|refine ah (t7 c.typeIs (au ?_))
 show Px _ _ (setField (.ref it) 0 .none >>= _) _ _ s;refine ah (CV g h (by simp) ?_)
 show Px _ _ (newExc (.type "StopIteration") [] >>= _) _ _ _;refine ah ?_;simp only[newExc,newTuple];refine ah (gc ?_ (by size_fits))
 refine ah (m:=firstArgMember _ _) (wpAny_of_eq (a:=SV) (by first|rfl|(simp only[firstArgMember];rfl)) ?_)
 refine gc ?_ (by size_fits)
 simp only[raiseNew];refine ah (wpAny_handled ?_);rw[show A.in1.handled=none from i];refine ah (au (wpAny_throw ?_));refine ah (wpAny_isInstance (T:= "StopIteration") (b:=true) ⟨_,cm _ rfl,rfl⟩ isSubtype_stop ?_);exact au (q _ (((k' ..).extBut.push _).push _))
def sQ(d:Ph)(o:Ue)(kvs:List (List Key×V)):It:=⟨λi H=>H d=ih (.aG o (.dT kvs))/\i<kvs.length,λi H v Y=>Y=H /\∃kv b,kvs[i]?=ih kv/\v=.ref b/\H b=ih (.tup (kv.1.map kV)),λi H=>H d=ih (.aG o (.dT kvs))/\kvs.length<=i⟩
theorem Paired.get{α β:Type}{F:α->β->Prop}{l:al α}{m:al β}(h:S2 F l m):∀{i:Nat}{a:α},l[i]?=ih a ->∃b,m[i]?=ih b/\F a b:=by
 induction h with
 |nil=>intro i a e;cases e
 |cons r _ c =>
  intro i a e;cases i with
  |zero=>cases e;exact⟨_,rfl,r⟩
  |succ i=>exact c (by simpa using e)
theorem w2{es:Array SX}(I:Inv X J σ H s)(h:H d=ih (.aG o (.dT kvs)))(g:o.data=.dict es ep) :
  s.heap.get? d=ih o/\o.ExactDict/\es.size=kvs.length /\∀(i:Nat) (a:al Key×V),kvs[i]?=ih a ->∃(b:Ph) (e:SX),es[i]?=ih e/\e.key=.ref b/\H b=bd (a.1.map kV):=by
 obtain⟨h1,z,y,xs,r,o',n,p,h2,j,c,f,q⟩:=(show bB X.prog X.w H s.heap d (.aG o (.dT kvs)) from I.aB d _ h);rw[h1]at h2;cases h2
 rw[g]at c;cases c
 refine⟨h1,j,by rw[ng f];exact(cw r).symm,λi a k=>?_⟩
 obtain⟨x,l,t,m,u⟩:=Paired.get r k;exact⟨x.2.1,_,by rw[entry_at f,l];rfl,rfl,m⟩
theorem Gm(d it:Ph)(za:d≠it)(o:Ue)(kvs:al (List Key×V))(es:Array SX)(ep:Nat)(g:o.data=.dict es ep) :
  Turn P w K tg (sQ d o kvs) [it] it (λi h=>i<=kvs.length/\h.IsKeyIter it d i es.size ep) where
 mem:=by simp
 obj:=λi h st b a=>by
  obtain rfl:b=it:=by simpa using a
  obtain⟨_,o,e,c,d⟩:=st;exact⟨o,e,λv z=>by rw[d]at z;cases z⟩
 keep:=λi h h' st k=>by
  obtain⟨l,o,e,r⟩:=st;exact⟨l,o,k it (by simp) _ e,r⟩
 item:=by
  intro X m n hK G i J s σ H E I j st f;subst m n hK;obtain⟨p,q,O,t,u,x⟩:=j it (by simp)
  obtain⟨y,B,L,M⟩:=w2 I f.1 g;have N:i<kvs.length:=f.2;have C:kvs[i]?=ih kvs[i]:=bY N;obtain⟨b,e,R,S,a⟩:=M i _ C;refine we st.2 ⟨o,y,B,g⟩ R λh' D T=>?_;have U:Inv X J σ H { s with heap:=h' }:=I.turned (t':=s.toks) (λb o a e=>T.extBut b o (by simpa using a) e) p q t u x
  obtain⟨xb,W,Y,dt⟩:=id D;exact⟨_,rfl,kz (s:={ s with heap:=h' }) W Y dt (by decide) ⟨.ref b,H,U,S,⟨rfl,kvs[i],b,C,rfl,a⟩,⟨f.2,D⟩,λb a=>(j b a).1⟩⟩
 done:=by
  intro X m n hK G i J s σ H E I j st f;subst m n hK;obtain⟨p,q,O,t,u,x⟩:=j it (by simp)
  obtain⟨y,B,L,M⟩:=w2 I f.1 g;have xa:i=es.size:=by rw[L];exact tW st.1 f.2
  have F:=st.2;rw[xa]at F;exact wg (I.ok.hd G) F ⟨o,y,B,g⟩ λh' ya=>⟨rfl,I.turned (t':=s.toks) (λb o a e=>ya b o (by simpa using a) e) p q t u x⟩
 self:=λA i s Q E st h=>CU st.2 h
theorem Inv.w3{σ:al (Option V)}(I:Inv X J σ H s)(f:H d=bn kvs)(h:s.heap.get? d=ih o):Inv X J σ (upd H d (.aG o (.dT kvs))) s:=by
 have ok:bB X.prog X.w H s.heap d (.dT kvs):=I.aB d _ f;have nd:∀{b:Ph}{u:HO},H b=ih u->u ≠ .dT kvs->b≠d:=λe n z=>by rw[z,f]at e;exact n (c7 e).symm
 refine I.un (h':=s.heap) (t':=s.toks) ⟨λb a q _ _ _=>q,λb a q _ _ _=>⟨a.slots,q⟩,λb a q n _=>?_,λb a q _=>⟨a,q⟩,λb xs e=>?_,λb a u e=>?_,λb ps e=>⟨#[],?_⟩⟩ λb u e=>?_
 ·rw[ab (λz=>by rw[z,f]at n;cases n)];exact n
 ·rw[ab (nd e (by intro z;cases z))];exact e
 ·rw[ab (nd e (by intro z;cases z))];exact e
 ·rw[ab (nd e (by intro z;cases z)),e];simp
 ·by_cases g:b=d
  ·subst g
   rw[ae]at e;cases e
   exact⟨h,ok.eV (λ_ _ _ q=>q) (λc q=>by rw[ab (nd q (by intro z;cases z))];exact q) λc xs q=>by rw[ab (nd q (by intro z;cases z))];exact q⟩
  ·rw[ab g]at e
   exact(I.aB b u e).eV (λ_ _ _ q=>q) (λc q=>by rw[ab (nd q (by intro z;cases z))];exact q) λc xs q=>by rw[ab (nd q (by intro z;cases z))];exact q
def HM(te:TE):TI:=λσ H R=>te σ H λv O=>∃d kvs,v=.ref d/\O d=ih (.dT kvs) /\∀o,R (sQ d o kvs) (upd O d (.aG o (.dT kvs)))
theorem qJ(l:PE X e te):PI X tg e (HM te):=by
 intro J s σ H R I h;refine ay (l J s σ H _ I h) λv a E=>?_;obtain⟨y,O,c,m,d,kvs,n,j,q⟩:=E;subst n;cases m
 obtain⟨z,p,xs,r,o,es,ep,f,t,g,u,C⟩:=(show bB X.prog X.w O a.heap d (.dT kvs) from c.aB d _ j);have B:es.size=kvs.length:=by rw[ng u];exact(cw r).symm
 refine wc p ⟨o,f,t,g⟩ ?_;have i:d≠a.ai:=cn (bF f);have x:Inv X J σ O { a with heap:=a.heap.push { cls:=.type "dict_keyiterator",data:=.fields #[.ref d,.int 0 0,.int es.size 0,.int ep 0] } }:=c.kept (t':=a.toks) λb D z=>bu _ z;have st:0<=kvs.length/\Vq (a.heap.push { cls:=.type "dict_keyiterator",data:=.fields #[.ref d,.int 0 0,.int es.size 0,.int ep 0] }) a.ai d 0 es.size ep:=⟨bw _,_,cm _ rfl,rfl,rfl⟩;have k:O a.ai=none:=c.aB.fresh (aN _);refine⟨a.ai,[a.ai],_,_,_,rfl,x.w3 j (bu _ f),Gm d a.ai i o kvs es ep g,st,λb A=>?_,q o⟩;obtain rfl:b=a.ai:=by simpa using A
 exact c.gI (aN _) (by rw[ab (aQ i)];exact k)
theorem Inv.I5{σ:al (Option V)}(I:Inv X J σ H s)(h:H d=ih (.aG o (.dT kvs)))(k:∀o u,X.h9 d≠ih (.aG o u)):Inv X J σ (upd H d (.dT kvs)) s:=by
 obtain⟨_,ok⟩:=(show bB X.prog X.w H s.heap d (.aG o (.dT kvs)) from I.aB d _ h);have nd:∀{b:Ph}{u:HO},H b=ih u->u ≠ .aG o (.dT kvs)->b≠d:=λe n z=>by rw[z,h]at e;exact n (c7 e).symm
 have a:∀{b:Ph},H b=none->upd H d (.dT kvs) b=none:=λ{b} e=>by rw[ab (λz=>by rw[z,h]at e;cases e)];exact e
 refine⟨I.ok,I.os,I.bare,⟨I.base.keep,I.base.slot,λb f e n l=>a (I.base.free b f e n l),I.base.there,λb xs e=>?_,λb f u e=>?_,λb ps e=>?_⟩,I.loc,I.cell,a I.free,λx c e=>a (I.gq x c e),λp m=>?_,λb u e=>?_,I.len⟩
 ·rw[ab (nd (I.base.g9 b xs e) (by intro z;cases z))];exact I.base.g9 b xs e
 ·have g:b≠d:=λz=>k f u (z ▸ e)
  rw[ab g];exact I.base.h7 b f u e
 ·obtain⟨j,i⟩:=I.base.iF b ps e
  exact⟨j,by rw[ab (nd i (by intro z;cases z))];exact i⟩
 ·obtain⟨r,t,v⟩:=I.pin p m
  exact⟨r,a t,v⟩
 ·by_cases g:b=d
  ·subst g
   rw[ae]at e;cases e
   exact ok.eV (λ_ _ _ q=>q) (λc q=>by rw[ab (nd q (by intro z;cases z))];exact q) λc xs q=>by rw[ab (nd q (by intro z;cases z))];exact q
  ·rw[ab g]at e
   exact(I.aB b u e).eV (λ_ _ _ q=>q) (λc q=>by rw[ab (nd q (by intro z;cases z))];exact q) λc xs q=>by rw[ab (nd q (by intro z;cases z))];exact q
def I6(H0:Hp)(t:TE):TE:=λσ H Q=>t σ H λv Y=>∃d o kvs,Y d=ih (.aG o (.dT kvs))/\(∀o u,H0 d≠ih (.aG o u))/\Q v (upd Y d (.dT kvs))
theorem q6(a:PE X e te):PE X e (I6 X.h9 te):=by
 intro J s σ H Q I h;exact ay (a J s σ H _ I h) λv i ⟨y,O,b,c,d,o,kvs,f,g,q⟩=>⟨y,_,b.I5 f g,c,q⟩
theorem qo{g:TG}(f:Nat->List V->St->Hp->Prop)(t:f 0 [] dy (upd O p (.lst [])))(u:∀i ys a H,f i ys a H->H p=bi ys/\H d=ih (.aG o (.dT kvs)))
  (v:∀i k b ys a H,kvs[i]?=ih k->H b=bd (k.1.map kV)->f i ys a H->g (.ref b) a H λj w=>ti j w λc l=>if c=true then te j l λy n=>n p=bi ys/\ys.length<Pk /\∃h,h<kvs.length - i/\CW f kvs.length (i+1) h (ys++[y]) j (upd n p (.lst (ys++[y]))) else ∃h,h<kvs.length - i/\CW f kvs.length (i+1) h ys j l)
  (z:∀ys a H,f kvs.length ys a H->Q (.ref p) H):gr (sQ d o kvs) g ti te dy Q p O:=by
 refine⟨CW f kvs.length,⟨kvs.length,by simp,bw _,t⟩,?_⟩
 rintro i m ys a H ⟨rfl,hi,pv⟩;obtain⟨A,q⟩:=u i ys a H pv;refine⟨A,?_⟩
 by_cases r:i<kvs.length
 ·refine .inr ⟨⟨q,r⟩,λx E B=>?_⟩
  obtain⟨C,k,b,s,ex,D⟩:=B;subst C;subst ex;exact v i k b ys a _ s D pv
 ·have e:i=kvs.length:=by omega
  subst e;exact .inl ⟨⟨q,aN _⟩,z ys a H pv⟩
theorem Et(n:A.handled=none)(I d:Ph)(l:d≠I)(es:Array SX)(ep:Nat) :
  Walks P w A I [I,d] [I] es.size (λi v=>∃e,es[i]?=ih e/\v=e.key) (λi h=>h.IsKeyIter I d i es.size ep/\gu h d es ep) where
 sub:=λb a=>by simp at a;simp[a]
 frame:=λ_ _ _ st g=>⟨let ⟨o,c,r⟩:=st.1;⟨o,g I (by simp) o c,r⟩,let ⟨o,c,r⟩:=st.2;⟨o,g d (by simp) o c,r⟩⟩
 item:=λi s Q E hi st f=>by
  have j:es[i]?=ih es[i]:=p6 hi;refine we st.1 st.2 j λh' m k=>?_;obtain⟨o,c,r⟩:=st.2;exact f _ h' s.toks ⟨_,j,rfl⟩ ⟨m,o,k.extBut d o l c,r⟩ λb o a e=>k.extBut b o (λh=>a (by simp[h])) e
 done:=λs Q E st f=>wg n st.1 st.2 λh' p=>f h' s.toks λb o a e=>p b o (λh=>a (by simp[h])) e
 self:=λ_ _ _ _ st f=>CU st.1 f
theorem Gn{es:Array SX}(lo:(d==sysModules)=false):KdlSrc P w "dict" d d es.size (λi v=>∃e,es[i]?=ih e/\v=e.key) (λh=>gu h d es ep) where
 type:=λ_ a=>a.ty
 there:=λ_ a=>let ⟨_,b,_⟩:=a;⟨bF b,bF b⟩
 keep:=λ_ _ a f=>let ⟨o,b,r⟩:=a;⟨o,f d (.inl rfl) o b,r⟩
 notList:=by decide
 notTuple:=by decide
 hint:=λ_ _ _ _ a c=>kdl_hint_dict a.ty c
 iter:=λ_ _ g a=>⟨_,_,(λ_ _ c=>wc lo a c),Et g _ d (let ⟨_,b,_⟩:=a;cn (bF b)) es ep,⟨⟨_,cm _ rfl,rfl,rfl⟩,let ⟨o,b,r⟩:=a;⟨o,bu _ b,r⟩⟩⟩
theorem DY(B:X.calm=true):c8 X (.type "list") (λxs H Q=>∃d kvs,xs=[.ref d]/\H d=bn kvs /\∀l (bs:al Ph),H l=none->S2 (λ(g:al Key×V) b=>H b=bd (g.1.map kV)) kvs bs->Q (.ref l) (upd H l (.lst (bs.map V.ref)))):=by
  rintro J s σ H xs us Q I r ⟨d,kvs,rfl,n,q⟩;obtain⟨u,rfl,C⟩:=vals1 r;cases C
  obtain⟨D,lo,ys,k,o,es,ep,E,a,z,j,F⟩:=(show bB X.prog X.w H s.heap d (.dT kvs) from I.aB d _ n);have A:es.size=ys.length:=ng j;have p:kvs.length=ys.length:=cw k;refine kdl_call (Gn (es:=es) (ep:=ep) lo) (I.ok.hd B) ⟨o,E,a,z⟩ (by omega) λh' tk f c G e it=>?_
  have K:S2 (λ(g:al Key×V) b=>H b=bd (g.1.map kV)) kvs (ys.map λy=>y.2.1):=by
    clear j A p it q F n D
    induction k with
    |nil=>exact .nil
    |cons h t L=>exact .cons h.2.1 L
  refine⟨.ref s.heap.objs.size,_,I.laid (t':=tk) G (aN _) (show bB X.prog X.w _ h' _ (.lst ((ys.map λy=>y.2.1).map V.ref)) from⟨by rw[aK,aK];omega,f.toList,c,?_,by rw[PM];exact e⟩),rfl,q _ _ (I.aB.fresh (aN _)) K⟩
  refine q4 (by have M:=it.1;have P:f.toList.length=f.size:=(by simp);simp only[aK];omega) λi x v a N=>?_
  obtain⟨M,m,rfl⟩:=it.2 i v (by rw[<-tL];exact N)
  rw[entry_at j]at m;obtain⟨y,O,rfl⟩:=fU.mp m;rw[cR,cR,O]at a;cases a
  rfl
end L2
namespace L2
open Spec PyProof.Rows W HT
end L2
namespace L2
open W Spec PyProof.Rows
end L2
namespace L2
open Spec PyProof.Rows W HS
def nO(k v:QD)(cG:CS)(env:Uy):UB Unit:=do
 let kv <- eval k env
 let vv <- holding [kv] (eval v env)
 match cG with
 |.ref d=>do
  standAt { k.pos with endLine:=v.pos.endLine,endCol:=v.pos.endCol }
  holding [kv,vv] (dictSet d kv vv)
 |_=>unsupported "internal:dictcomp"
theorem Eu{k v:QD}:i7 (.DictComp k v [⟨tg,iter,Qd,0⟩] scope pos) tg iter Qd (nO k v):=⟨rfl,λ_ _ _=>rfl,λ_ _ _ _ _ _=>⟨rfl,rfl⟩,λ_ _ _ _ _ _=>⟨rfl,rfl⟩⟩
def og(J9:It)(g:TG)(ti:TT)(Qh:Ph->St->Hp->(Hp->Prop)->Prop)(dy:St)(Q:VK)(p:Ph)(O:Hp):Prop:=
 ∃W:Nat->Nat->St->Hp->Prop,(∃m,W 0 m dy O) /\∀i m τ H2,W i m τ H2 ->
  ((J9.stop i H2/\Q (.ref p) H2)\/(J9.go i H2 /\∀x H3,J9.ic i H2 x H3->g x τ H3 λfQ H4=>ti fQ H4 λb H5 =>
   if b=true then Qh p fQ H5 λH6=>∃m',m'<m/\W (i+1) m' fQ H6
   else ∃m',m'<m/\W (i+1) m' fQ H5))
def pI(X:Cx)(Qe:CS->Uy->UB Unit)(Qh:Ph->St->Hp->(Hp->Prop)->Prop):Prop:=
 ∀J s σ H (p:Ph) (Q:Hp->Prop),Inv X J σ H s->Qh p σ H Q->wA X (Qe (.ref p) X.env) (λ_ s'=>∃Y,Inv X J σ Y s'/\Q Y) X.xe s
def Ax(wi:TI)(Qc:List (Option Nat))(g:TG)(ti:TT)(Qh:Ph->St->Hp->(Hp->Prop)->Prop)(start:Ph->HO):TE:=λσ H Q=>wi σ H λJ9 O=>∀p,O p=none->og J9 g ti Qh (pick Qc σ) Q p (upd O p (start p))
section
variable{Qe:CS->Uy->UB Unit}
theorem DZ{k:It}{g:TG}{f:UB CS}{start:Ph->HO}(F:i7 e tg iter Qd Qe)(n:X.calm=true)(S:bO X.N X.env.scope N' Qc scope)
  (o:Inv X J σ H2 s2) (T:Turn X.prog X.w X.K tg k fp it tn) (st:tn 0 s2.heap) (r:∀b∈fp,fw X J H2 b) (l:l3 X f start)
  (c:∀s H fp,PG (cq X N' scope s H fp) tg g/\ia (cq X N' scope s H fp) Qd ti/\pI (cq X N' scope s H fp) Qe Qh)
  (t:∀p,H2 p=none->og k g ti Qh (pick Qc σ) Q p (upd H2 p (start p))) (u:∀a C s',CompEnd X J σ Q a C s'->RR a C (.ok .next) s') :
  wA X f (λa v=>wA X (newFunctionEnv scope X.env.globals (d6 X.env.cells scope.names []) [] X.env.qual none .none (ih X.env)) (λj x =>
   codeAny X.dY X.A (.compStart e 0 (.ref it) a { j with scope:=relabel scope X.env }) (RR a j.locals) x) E v) E s2:=by
 refine uL (y0:=()) (temI:=λ_ p σ H R=>Qh p σ H λY=>R () Y) F n S o T st r l (λs H fp=>⟨(c s H fp).1,(c s H fp).2.1,λJ s σ H p y Q I h=>ay ((c _ _ _).2.2 J s σ H p _ I h) λ_ s' ⟨Y,z,q⟩=>⟨(),Y,z,q⟩⟩) (λp B=>?_) u;obtain⟨W,D,st⟩:=t p B;exact⟨λi m _ d H=>W i m d H,D,λi m _ d H w=>st i m d H w⟩
theorem Fg{wi:TI}{g:TG}{c:UB CS}{start:Ph->HO}(F:i7 e tg iter Qd Qe)(i:eval e X.env=comprehension e scope X.env pos c false (eval iter X.env))(f:l3 X c start)(l:X.calm=true)(S:bO X.N X.env.scope N' Qc scope)(hi:PI X tg iter wi)
  (a:∀s H fp,PG (cq X N' scope s H fp) tg g/\ia (cq X N' scope s H fp) Qd ti/\pI (cq X N' scope s H fp) Qe Qh)
  (r:∀x,foldedSetIterable iter X.env x=pure x:=by intro _;rfl):PE X e (Ax wi Qc g ti Qh start):=by
 intro J s σ H Q I h;rw[i];refine CH (use:=none) F.cl r (qh λn t=>nC I S t) S.kind (λx u w=>jS S.keys (by rw[<-w];exact u)) ?_
 refine ay (hi J s σ H _ I h) λv K h1=>ay h1 λG s2 h2=>?_;obtain⟨it,fp,tn,L,H2,e,y,T,j,z,B⟩:=h2;subst e;refine DZ (RR:=λd C=>compPost X.dY X.A X.xe none (EP X J σ Q) d C) F l S y T j z f a B ?_;rintro d C s' ⟨p,Y,rfl,D,fC,⟨m,E⟩,q⟩;refine⟨m,E,λh' k=>⟨.ref p,Y,?_,rfl,q⟩⟩;exact D.turned (it:=C) (t':=s'.toks) (λb o a e=>(k.2 b a).trans e) fC.1 fC.2.1 fC.2.2.2.1 fC.2.2.2.2.1 fC.2.2.2.2.2
end
section
variable{k v:QD}{tk:TE}
def oT(tk tv:TE)(p:Ph)(σ:St)(H:Hp)(Q:Hp->Prop):Prop:=tk σ H λy O=>tv σ O λz H2=>∃kvs ks b,y=.ref b/\H2 b=ih (.tup (ks.map kV))/\H2 p=ih (.dT kvs)/\kvs.length<Pk/\Q (upd H2 p (.dT (putK kvs ks z)))
theorem AX(T:X.A.units+1<T6)(n:PE X k tk)(o:PE X v tv):pI X (nO k v) (oT tk tv):=by
 intro J s σ H p Q I h;unfold nO;refine ah (ay (n J s σ H _ I h) λu t ⟨y,O,x,B,C⟩=>ah (eM (ay (o J t σ O _ x C) λr s2 U=>?_)));obtain⟨z,H2,a,D,kvs,ks,b,E,f,e,l,q⟩:=U;subst E;cases (show u=PU b from B)
 refine ah (kY (eM ?_));obtain⟨F,G,xs,d,K⟩:=rX a.aB e;have L:xs.length<=Pk:=by rw[<-cw d];exact F
 have M:(putK kvs ks z).length<=Pk:=by have:=lr kvs ks z;omega
 refine wpAny_dictSet_heap (hsz:=L) (knd:=tupleKind (b8 X.prog X.w)) (k:=ks) (show X.A.units<T6 by omega) (jg a.aB f) K λh' m N=>⟨_,?_,q⟩
 obtain⟨g,es,ep,i,h2,P,R,_,S⟩:=m;refine lS a (by rw[e];exact Tb) N ⟨g,i⟩ ⟨M,G,_,(d.put ks f D).keeps λc ys j=>?_,g,es,ep,i,h2,P,R,S⟩
 rw[ab (aH j e (λz=>nomatch z))];exact j
theorem HN:l3 X (newDict) (λ_=>.dT []):=⟨λJ s σ H E Q I h=>by
 refine gc ?_;exact h _ (I.laid (a:=s.ai) (o:=.dT []) (t':=s.toks) (λ_ _ q=>bu _ q) (aN _) (vS s.heap I.big)) λb o e=>bu _ e⟩
variable{wi:TI}{g:TG}
theorem vr(a:X.calm=true)(S:bO X.N X.env.scope N' Qc scope)(hi:PI X tg iter wi)
  (b:∀s H fp,PG (cq X N' scope s H fp) tg g/\ia (cq X N' scope s H fp) Qd ti/\pI (cq X N' scope s H fp) (nO k v) (oT tk tv))
  (c:∀x,foldedSetIterable iter X.env x=pure x:=by intro _;rfl):PE X (.DictComp k v [⟨tg,iter,Qd,0⟩] scope pos) (Ax wi Qc g ti (oT tk tv) λ_=>.dT []):=
 Fg Eu rfl HN a S hi b c
end
def iU(Pv:Nat->St->Hp->Prop)(n i m:Nat)(τ:St)(H:Hp):Prop:=m=n - i/\i<=n/\Pv i τ H
theorem qK{a:Nat->St->Hp->Prop}{n:Nat}{b:St}(h:i<n)(p:a (i+1) b H):∃c,c<n - i/\iU a n (i+1) c b H:=⟨n - (i+1),by omega,rfl,h,p⟩
theorem Ew{g:TG}(d:Nat->St->Hp->Prop)(n:d 0 dy O)(o:∀i c H,d i c H->aO K H a xs)
  (q:∀i x c H,xs[i]?=ih x->d i c H->g x c H λh r=>ti h r λb k=>if b=true then Qh p h k λs=>∃f,f<xs.length - i/\iU d xs.length (i+1) f h s else ∃f,f<xs.length - i/\iU d xs.length (i+1) f h k)
  (t:∀c H,d xs.length c H->Q (.ref p) H):og (hB K a) g ti Qh dy Q p O:=by
 refine⟨iU d xs.length,⟨xs.length,by simp,bw _,n⟩,?_⟩
 rintro i m c H ⟨rfl,hi,pv⟩;have j:=o i c H pv
 by_cases l:i<xs.length
 ·refine .inr ⟨⟨xs,xs[i],j,by simp[l]⟩,λx w u=>?_⟩
  obtain⟨v,ex⟩:=u;subst v;exact q i x c _ (ex xs j) pv
 ·have e:i=xs.length:=by omega
  subst e;exact .inl ⟨⟨xs,j,aN _⟩,t c H pv⟩
end L2
namespace L2
open Spec PyProof.Rows
structure kG(K:Pw)(x qual:Pd)(st:QB)(dv:CS)(f:Ph)(fd:Ta):Prop where
 ex:∃(oc:CS) (od:Option Ph) (kV Qb pm:CS) (an:Option Ph) (Qa ct:CS) (Qk:Array (Option CS)),
  fd=Ti x qual (dj st) (bD st) (aF st) dv kV Qb pm an Qa ct/\K.lookup f=ih ⟨oc,od,.func fd,Qk⟩/\TX K Qa qual=true
 kp:Tr K (.ref f)=true
theorem kG.ok{k:Nat}(F:kG K x qual st dv f fd)(S:aZ N ps (aF st))(c:∀vs H Q E,sp vs H Q E->vs.length=ps.length)
  (b:∀(Qa:CS) (A:TJ) (a:al Uy) (s:Pn) (H:Hp) (vs:al V) (Q:VK) (E:XK),aS k (A.deeper (envOfC qual (aF st) s.ai f Qa))->sp vs H Q E ->
   ∃t,eJ (iG ao P w K mg base N qual (aF st) f Qa A a s H E).jA (bD st) t/\t { nx:=λ_ Y=>Q .aJ Y,rt:=Q } (start N vs) H):aM P w K mg base ao (k+1) f fd ps sp:=by
 obtain⟨oc,od,kV,Qb,pm,an,Qa,ct,Qk,rfl,lk,d⟩:=F.ex;refine AQ lk d S c λA a s H vs Q E g e=>?_;obtain⟨t,h,q⟩:=b Qa A a s H vs Q E g e;exact⟨t,h.jA,q⟩
theorem kG.binds{T:Ph}{ds:al CS}{n:Nat}(F:kG K x qual st (.ref T) f fd)(a:K.lookup T=ih ⟨oc,od,.seq items n,Qk⟩)
  (h:∀(kV Qb pm:CS) (an:am Ph) (Qa ct:CS) (us:al CS),(us++ds).length=ps.length ->∃k:am (Array CS)->UB (List (Pd×CS)),(bindArgs (Ti x qual (dj st) (bD st) (aF st) (.ref T) kV Qb pm an Qa ct) ⟨us,[]⟩=seqItems? (.ref T) >>= k)/\k (ih items)=pure (ps.zip (us++ds))):Binds K fd ps ds:=by
 obtain⟨e,g,kV,Qb,pm,an,Qa,ct,d,rfl,lk,i⟩:=F.ex;intro s us b c;obtain⟨k,h1,h2⟩:=h kV Qb pm an Qa ct us c;exact .of_defaults (T:=T) rfl (b _ _ a) rfl h1 h2
theorem Gp{kV:CS}(l:K.lookup f=ih ⟨oc,od,.func (Ti x qual (dj st) (bD st) (aF st) dv kV Qb pm an Qa ct),Qk⟩)
  (c:TX K Qa qual=true) (k:Tr K (.ref f)=true):kG K x qual st dv f (Ti x qual (dj st) (bD st) (aF st) dv kV Qb pm an Qa ct):=⟨⟨oc,od,kV,Qb,pm,an,Qa,ct,Qk,rfl,l,c⟩,k⟩
end L2
namespace L2
open Spec PyProof.Rows W HT
theorem Ex:c8 X (.builtin "len") (λxs H Q=>∃a kvs,xs=[.ref a]/\H a=bm kvs/\Q (.int kvs.length) H):=by
 rintro J s σ H xs us Q I r ⟨a,kvs,rfl,e,q⟩;obtain⟨u,rfl,b⟩:=vals1 r;cases b
 exact IY I (.inl e) λt s' c=>⟨.int _,H,c,⟨_,rfl⟩,q⟩
theorem Dq(d:Ph)(a:(d==sysModules)=false) :
  MeetsIn P w (TF.«dict.items» ⟨[.ref d],[]⟩) (λ_ R s=>(∃es ep,gu s.heap d es ep)/\R (.ok (.ret (.ref s.ai))) { s with heap:=s.heap.push { cls:=.type "dict_items",data:=.fields #[.ref d] } }):=
 .of_wp λA R s ⟨⟨es,ep,b⟩,h⟩=>by
  unfold TF.«dict.items»;refine ah ?_;unfold WD;refine ah (tX b.ty ?_);show Px _ _ (pure d) _ _ s;refine au ?_;show Px _ _ (TB d >>= _) _ _ s;unfold TB;rw[ax (by rw[a];exact bM)]
  exact ah (au (ah (gc (au ⟨_,rfl,h⟩))))
theorem DB{v:Ph}{es:Array SX}{Q:CS->Pn->Prop}(a:s.heap.IsItemsView v d)(x:gu s.heap d es ep)
  (g:Q (.ref s.heap.objs.size) { s with heap:=s.heap.push { cls:=.type "dict_itemiterator",data:=.fields #[.none,.bool false,.ref d,.int 0 0,.int es.size 0,.int ep 0,.none,.none] } }):Px (Qu P w) A (pyIter (.ref v)) Q E s:=by
 obtain⟨i,e,h,f⟩:=id a;obtain⟨o,c,j,b⟩:=id x;refine wpAny_pyIter_slot a.typeIs U0 (il U0 a.typeIs F.entry_dict_items_iter ?_ (F.args_dict_items_iter_1 _));unfold TF.«dict_items.__iter__»;refine ah (au (ah ?_));unfold Vf;refine ah (k6 e f (x:=.ref d) rfl (au (ah ?_)));unfold Ve;refine ah (jP c b (ah (ni c b ?_)));simp only[show S9 "dict_itemiterator" = true by decide,gg]
 refine gc (au ⟨_,rfl,"dict_itemiterator",_,⟨_,cm _ rfl,rfl⟩,p9.lookup,?_⟩) (by simp only[sizeOk,T5,b9,dA,cf,jN,aR];omega)
 simpa [rawInt,T5] using g
theorem DC{es:Array SX}{e:SX}{ok t:CS}{Q:am CS->Pn->Prop}(B:TK s.heap it d i es.size ep ok t)(x:gu s.heap d es ep)(U:es[i]?=ih e)
  (V:∀h',UW h' it d (i+1) es.size ep e.key e.val s.heap.objs.size->h'.get? s.heap.objs.size=ih { cls:=.type "tuple",data:=.seq #[e.key,e.val] }->h'.objs.size=s.heap.objs.size+1 ->
   (∀b o,b≠it->s.heap.get? b=ih o->h'.get? b=ih o)->Q (ih (.ref s.heap.objs.size)) { s with heap:=h' }):Px (Qu P w) A (pyNext (.ref it)) Q E s:=by
 obtain⟨a,g,u,tk,os⟩:=s;obtain⟨od,N,W,O⟩:=id x;have f:Vi ⟨a,g,u,tk,os⟩ (.ref it) "dict_itemiterator" :=⟨_,B,rfl⟩;unfold pyNext;refine ah (m4 (mY (name:=SW "__next__") f p9
  (il p9 f P8 ?_ (P9 _))))
 refine ah (au (ah (ah ?_)))
 first|refine ah (t9 f (au ?_))|refine ah (ua f (au ?_))
 refine ah (t8 B rfl ?_);simp only[show S9 "dict_itemiterator" = true by decide,gg]
 show Px _ _ (if (PU d==SV)=true then _ else _) _ _ _;rw[ax (show ¬ ((PU d==SV)=true) from bM)];refine ah (au (ah (jP N O ?_)));rw[ax (by simp)]
 refine ah (au (ah (ni N O ?_)));rw[ax (by simp)]
 refine au ?_;simp only[show ¬ ((i:Int)<0) from by omega,gf,mX,U]
 refine ah ?_
 first|refine ah (t9 f (au ?_))|refine ah (ua f (au ?_))
 refine ah (CY f ?_);show Px _ _ (setField (.ref it) 3 (rawInt ((i:Int)+1)) >>= _) _ _ ⟨a,g,u,tk,os⟩;refine ah (p' B (by simp) λc j k=>?_)
 replace k:S8 it a c:=k;replace j:TK c it d (i+1) es.size ep ok t:=by
  have e:((i+1:Nat):Int)=(i:Int)+1:=by omega
  unfold TK;rw[e];simpa [rawInt] using j
 have D:Vi ⟨c,g,u,tk,os⟩ (.ref it) "dict_itemiterator" :=⟨_,j,rfl⟩;refine ah (eM ?_);refine ah (CY D (ah (CY D ?_)));show Px _ _ (T' (.ref it) 6 e.key e.val) _ _ ⟨c,g,u,tk,os⟩;unfold T';refine ah (wpAny_newTuple ?_);have l:TK (c.push { cls:=.type "tuple",data:=.seq #[e.key,e.val] }) it d (i+1) es.size ep ok t:=bu _ j;generalize v:c.push { cls:=.type "tuple",data:=.seq #[e.key,e.val] }=r at l;have y:c.objs.size=a.objs.size:=k.1;have C:it<a.objs.size:=bF B;have R:r.get? a.objs.size=ih { cls:=.type "tuple",data:=.seq #[e.key,e.val] }:=by rw[<-v,<-y];exact cm _ rfl
 have S:r.objs.size=a.objs.size+1:=by rw[<-v,k4,y]
 have T:∀b o,b≠it->a.get? b=ih o->r.get? b=ih o:=λb o h e=>by rw[<-v];exact bu _ (k.extBut b o h e)
 show Px _ _ (T1 (.ref it) >>= _) _ _ ⟨r,g,u,tk,os⟩;rw[y];clear v j k D y c;refine ah ?_;unfold T1;refine ah (k6 l rfl (x:=.none) rfl (au ?_));simp only[gg];refine ah (k6 l rfl (x:=ok) rfl (ah (k6 l rfl (x:=t) rfl ?_)));refine ah (p' l (by simp) λK G m=>?_)
 replace m:S8 it r K:=m;replace G:TK K it d (i+1) es.size ep e.key t:=G;refine ah (p' G (by simp) λL H n=>?_)
 replace n:S8 it K L:=n;replace H:TK L it d (i+1) es.size ep e.key e.val:=H;refine ah (p' H (by simp) λM I p=>?_)
 replace p:S8 it L M:=p;replace I:UW M it d (i+1) es.size ep e.key e.val a.objs.size:=I;refine ah (p' I (by simp) λz J q=>?_)
 replace q:S8 it M z:=q;replace J:UW z it d (i+1) es.size ep e.key e.val a.objs.size:=J;refine ah (wpAny_letGo (au (au ⟨_,rfl,au (V z J ?_ ?_ ?_)⟩)))
 ·exact q.extBut _ _ (jJ C) (p.extBut _ _ (jJ C) (n.extBut _ _ (jJ C) (m.extBut _ _ (jJ C) R)))
 ·show z.objs.size=a.objs.size+1
  rw[q.1,p.1,n.1,m.1,S]
 ·exact λb o h e=>q.extBut b o h (p.extBut b o h (n.extBut b o h (m.extBut b o h (T b o h e))))
theorem DD{es:Array SX}{ok h:CS}{Q:am CS->Pn->Prop}(i:A.handled=none)(e:TK s.heap it d es.size es.size ep ok h)(x:gu s.heap d es ep)
  (j:∀h',V1 it s.heap h'->Q none { s with heap:=h' }):Px (Qu P w) A (pyNext (.ref it)) Q E s:=by
 obtain⟨od,f,k,g⟩:=id x;have c:s.TypeIs (.ref it) "dict_itemiterator" :=⟨_,e,rfl⟩;unfold pyNext;refine ah (m4 (mY (name:=SW "__next__") c p9
  (il p9 c P8 ?_ (P9 _))))
 refine ah (au (ah (ah ?_)))
 first|refine ah (t9 c (au ?_))|refine ah (ua c (au ?_))
 refine ah (t8 e rfl ?_);simp only[show S9 "dict_itemiterator" = true by decide,gg]
 show Px _ _ (if (PU d==SV)=true then _ else _) _ _ s;rw[ax (show ¬ ((PU d==SV)=true) from bM)];refine ah (au (ah (jP f g ?_)));rw[ax (by simp)]
 refine ah (au (ah (ni f g ?_)));rw[ax (by simp)]
 refine au ?_;simp only[show ¬ ((es.size:Int)<0) from by omega,gf,mX,P6 (aN es.size)]
 refine ah ?_
 first|refine ah (t9 c (au ?_))|refine ah (ua c (au ?_))
 show Px _ _ (setField (.ref it) 2 .none >>= _) _ _ s;refine ah (CV e rfl (by simp) ?_)
 show Px _ _ (newExc (.type "StopIteration") [] >>= _) _ _ _;refine ah ?_;simp only[newExc,newTuple];refine ah (gc ?_ (by size_fits))
 refine ah (m:=firstArgMember _ _) (wpAny_of_eq (a:=SV) (by first|rfl|(simp only[firstArgMember];rfl)) ?_)
 refine gc ?_ (by size_fits)
 simp only[raiseNew];refine ah (wpAny_handled ?_);rw[show A.in1.handled=none from i];refine ah (au (wpAny_throw ?_));refine ah (wpAny_isInstance (T:= "StopIteration") (b:=true) ⟨_,cm _ rfl,rfl⟩ isSubtype_stop ?_);exact au (j _ (((k' ..).extBut.push _).push _))
def sR(d:Ph)(o:Ue)(kvs:List (List Key×V)):It:=⟨λi H=>H d=ih (.aG o (.dT kvs))/\i<kvs.length,λi H x Y=>∃t kv b,H t=none/\x=.ref t/\kvs[i]?=ih kv/\H b=ih (.tup (kv.1.map kV))/\Y=upd H t (.tup [.ref b,kv.2]),λi H=>H d=ih (.aG o (.dT kvs))/\kvs.length<=i⟩
theorem wh{es:Array SX}(I:Inv X J σ H s)(h:H d=ih (.aG o (.dT kvs)))(g:o.data=.dict es ep) :
  s.heap.get? d=ih o/\o.ExactDict/\es.size=kvs.length /\∀(i:Nat) (a:al Key×V),kvs[i]?=ih a ->∃(b:Ph) (e:SX),es[i]?=ih e/\e.key=.ref b/\H b=bd (a.1.map kV)/\RelV a.2 e.val:=by
 obtain⟨h1,z,y,xs,r,o',p,q,h2,j,c,f,t⟩:=(show bB X.prog X.w H s.heap d (.aG o (.dT kvs)) from I.aB d _ h);rw[h1]at h2;cases h2
 rw[g]at c;cases c
 refine⟨h1,j,by rw[ng f];exact(cw r).symm,λi a k=>?_⟩
 obtain⟨x,l,u,m,n⟩:=Paired.get r k;exact⟨x.2.1,_,by rw[entry_at f,l];rfl,rfl,m,n⟩
theorem Fh(d it:Ph)(xc:d≠it)(o:Ue)(kvs:al (List Key×V))(es:Array SX)(ep:Nat)(t:o.data=.dict es ep) :
  Turn P w K (.Tuple Qn n1 tp) (sR d o kvs) [it] it (λi h=>i<=kvs.length /\∃ok f,TK h it d i es.size ep ok f) where
 mem:=by simp
 obj:=λi h st b a=>by
  obtain rfl:b=it:=by simpa using a
  obtain⟨_,ok,f,h1⟩:=st;exact⟨_,h1,λv q=>by cases q⟩
 keep:=λi h h' st k=>by
  obtain⟨l,ok,f,h1⟩:=st;exact⟨l,ok,f,k it (by simp) _ h1⟩
 item:=by
  intro X y A hK hc i J s σ H E I B st g;subst y A hK;have fi:=B it (by simp)
  obtain⟨F,ok,f,h1⟩:=st;obtain⟨C,D,L,M⟩:=wh I g.1 t;have yc:i<kvs.length:=g.2;have G:kvs[i]?=ih kvs[i]:=bY g.2;obtain⟨b,e,Q,R,a,S⟩:=M i _ G;refine DC h1 ⟨o,C,D,t⟩ Q λh' T U z1 W=>⟨_,rfl,?_⟩;refine wpAny_letOwnedTupleGo_items (s:={ s with heap:=h' }) T λu Y N=>?_;have O:it≠s.ai:=cn (bF h1);have j:∀b o,b≠it->s.heap.get? b=ih o->u.get? b=ih o:=λb o n1 q=>(N.2 b n1).trans (W b o n1 q);have xa:u.get? s.ai=ih { cls:=.type "tuple",data:=.seq #[e.key,e.val] }:=(N.2 _ (aQ O)).trans U;have p:H s.ai=none:=I.aB.fresh (aN _);have lt:∀b o,s.heap.get? b=ih o->b≠s.ai:=λb o q=>cn (bF q);have gw:∀b o,H b=ih o->b≠it:=λb o q z=>by rw[z,fi.1]at q;cases q
  have x:∀b,b ∉ [it]->b≠it:=λb a z=>a (by simp[z])
  have ya:Inv X J σ (upd H s.ai (.tup [.ref b,kvs[i].2])) { s with heap:=u }:=by
   refine I.step (g':=s.gens) (d':=s.drawn) (t':=s.toks) (ch:=[it]) (λb a=>?_) (λb o _ _ hc q _=>j b o (x b hc) q) (λb o _ _ hc q _=>⟨o.slots,j b o (x b hc) q⟩)
    (λb o _ q n=>by rw[ab (lt b o q)];exact n) (λb o hc q=>⟨o,j b o (x b hc) q⟩) (λb ys q=>by rw[ab (ar q p)];exact q) (λb o v q=>by rw[ab (ar q p)];exact q)
    (λb ps q=>⟨#[],by rw[ab (ar q p),q];simp⟩) (λm za=>?_) (λb o q=>?_) I.bare
   ·obtain rfl:b=it:=by simpa using a
    exact⟨fi.2.2.2.1,fi.2.1,fi.2.2.2.2.1,fi.2.2.2.2.2⟩
   ·obtain⟨o,es,ep,xb,r⟩:=za
    exact⟨o,es,ep,j _ o (aQ fi.2.1) xb,r⟩
   ·by_cases a:b=s.ai
    ·subst a
     rw[ae]at q;cases q;exact⟨by rw[aR];show 2<=_;decide,[e.key,e.val],.cons (by rw[R];rfl) (.cons S .nil),_,xa,rfl,_,rfl,rfl⟩
    ·rw[ab a]at q
     refine(I.aB b o q).eV (λc v hc z=>?_) (λc z=>by rw[ab (ar z p)];exact z) λc ys z=>by rw[ab (ar z p)];exact z
     rcases hc with hc|hc
     ·subst hc;exact j _ v (gw _ _ q) z
     ·exact j c v (gw _ _ hc) z
  refine⟨.ref s.ai,_,ya,rfl,⟨s.ai,kvs[i],b,p,rfl,G,a,rfl⟩,⟨g.2,_,_,Y⟩,λb a=>?_⟩;obtain rfl:b=it:=by simpa using a
  rw[ab O];exact fi.1
 done:=by
  intro X y A hK hc i J s σ H E I B st g;subst y A hK;have fi:=B it (by simp)
  obtain⟨F,ok,f,h1⟩:=st;obtain⟨C,D,L,M⟩:=wh I g.1 t;have yb:i=es.size:=by rw[L];exact tW F g.2
  rw[yb]at h1;exact DD (I.ok.hd hc) h1 ⟨o,C,D,t⟩ λh' zb=>⟨rfl,I.turned (t':=s.toks) (λb o a q=>zb b o a q) fi.1 fi.2.1 fi.2.2.2.1 fi.2.2.2.2.1 fi.2.2.2.2.2⟩
 self:=λ_ _ _ _ _ st h=>by
  obtain⟨_,ok,f,h1⟩:=st;exact kcp_self h1 h
def Gq(te:TE):TI:=λσ H R=>te σ H λv O=>∃d kvs,v=.ref d/\O d=ih (.dT kvs) /\∀o,R (sR d o kvs) (upd O d (.aG o (.dT kvs)))
theorem Ey{Qj:VT}(x:PE X e te)(p:attributeBase e "items" X.env (eval e X.env)=eval e X.env:=by rfl)(t:(Qi.endLine==Qj.line)=true:=by rfl) :
  PI X (.Tuple Qn n1 tp) (.Call (.Attribute e "items" Qi) [] [] Qj) (Gq te):=by
 intro J s σ H R I h;refine wpAny_Call_method (T:= "dict") (id:= "dict.items") p rfl t F.plainAttrs_dict Vr F.type_dict_items (ay (x J s σ H _ I h) λv c N=>?_);obtain⟨y,O,i,A,d,kvs,B,e,q⟩:=N;subst B;cases A
 obtain⟨z,C,xs,r,o,es,ep,f,m,j,K,L⟩:=(show bB X.prog X.w O c.heap d (.dT kvs) from i.aB d _ e);have g:∀h:To,h.get? d=ih o->gu h d es ep:=λh e=>⟨o,e,m,j⟩;refine⟨(g c.heap f).ty,?_,?_⟩
 ·intro a e
  cases e
  exact⟨o,f,m.2.1⟩
 refine method_meetsIn Vr F.entry_dict_items rfl (Py ⟨rfl,(g c.heap f).ty,F.args_dict_items_1 _,_,Dq d C,⟨es,ep,g _ f⟩,?_⟩);have k:d≠c.ai+1:=λz=>absurd (bF f) (by rw[z];exact Nat.not_lt_of_le (jK _))
 have l:=bu { cls:=.type "dict_items",data:=.fields #[.ref d] } f;refine DB (s:={ c with heap:=c.heap.push { cls:=.type "dict_items",data:=.fields #[.ref d] } }) ⟨_,cm _ rfl,rfl,rfl⟩ (g _ l) ?_;have n:(c.heap.push { cls:=.type "dict_items",data:=.fields #[.ref d] }).objs.size=c.ai+1:=k4 ..;have D:Inv X J σ O { c with heap:=(c.heap.push { cls:=.type "dict_items",data:=.fields #[.ref d] }).push { cls:=.type "dict_itemiterator",data:=.fields #[.none,.bool false,.ref d,.int 0 0,.int es.size 0,.int ep 0,.none,.none] } }:=i.kept (t':=c.toks) λb M z=>bu _ (bu _ z);have st:0<=kvs.length /\∃ok E,TK ((c.heap.push { cls:=.type "dict_items",data:=.fields #[.ref d] }).push { cls:=.type "dict_itemiterator",data:=.fields #[.none,.bool false,.ref d,.int 0 0,.int es.size 0,.int ep 0,.none,.none] }) (c.ai+1) d 0 es.size ep ok E:=
  ⟨bw _,.none,.none,by show Heap.get? _ (c.ai+1)=_;rw[<-n];exact cm _ rfl⟩
 have u:O (c.ai+1)=none:=i.aB.fresh (jK _);show sL X J σ _ R (.ref (c.heap.push { cls:=.type "dict_items",data:=.fields #[.ref d] }).objs.size) _;rw[n];refine⟨c.ai+1,[c.ai+1],_,_,_,rfl,D.w3 e (bu _ l),Fh d (c.ai+1) k o kvs es ep j,st,λb G=>?_,q o⟩;obtain rfl:b=c.ai+1:=by simpa using G
 exact i.gI (jK _) (by rw[ab (aQ k)];exact u)
theorem Dr{g:TG}(c:Nat->St->Hp->Prop)(r:c 0 dy O)(s:∀i a H,c i a H->H d=ih (.aG o (.dT kvs)))
  (u:∀i f t b a H,kvs[i]?=ih f->H t=none->H b=bd (f.1.map kV)->c i a H->g (.ref t) a (upd H t (.tup [.ref b,f.2])) λj v=>ti j v λb k=>if b=true then Qh p j k λw=>∃h,h<kvs.length - i/\iU c kvs.length (i+1) h j w else ∃h,h<kvs.length - i/\iU c kvs.length (i+1) h j k)
  (y:∀a H,c kvs.length a H->Q (.ref p) H):og (sR d o kvs) g ti Qh dy Q p O:=by
 refine⟨iU c kvs.length,⟨kvs.length,by simp,bw _,r⟩,?_⟩
 rintro i m a H ⟨rfl,hi,pv⟩;have l:=s i a H pv
 by_cases n:i<kvs.length
 ·refine .inr ⟨⟨l,n⟩,λx D z=>?_⟩
  obtain⟨t,f,b,A,ex,q,B,C⟩:=z;subst C;subst ex;exact u i f t b a _ q A B pv
 ·have e:i=kvs.length:=by omega
  subst e;exact .inl ⟨⟨l,aN _⟩,y a H pv⟩
theorem Inv.I7{σ:al (Option V)}{kvs:al (Key×V)}(I:Inv X J σ H s)(h:H d=ih (.aG o (.dK kvs)))(k:∀o u,X.h9 d≠ih (.aG o u)):Inv X J σ (upd H d (.dK kvs)) s:=by
 obtain⟨_,ok⟩:=(show bB X.prog X.w H s.heap d (.aG o (.dK kvs)) from I.aB d _ h);have nd:∀{b:Ph}{u:HO},H b=ih u->u ≠ .aG o (.dK kvs)->b≠d:=λe n z=>by rw[z,h]at e;exact n (c7 e).symm
 have a:∀{b:Ph},H b=none->upd H d (.dK kvs) b=none:=λ{b} e=>by rw[ab (λz=>by rw[z,h]at e;cases e)];exact e
 refine⟨I.ok,I.os,I.bare,⟨I.base.keep,I.base.slot,λb f e n l=>a (I.base.free b f e n l),I.base.there,λb xs e=>?_,λb f u e=>?_,λb ps e=>?_⟩,I.loc,I.cell,a I.free,λx c e=>a (I.gq x c e),λp m=>?_,λb u e=>?_,I.len⟩
 ·rw[ab (nd (I.base.g9 b xs e) (by intro z;cases z))];exact I.base.g9 b xs e
 ·have g:b≠d:=λz=>k f u (z ▸ e)
  rw[ab g];exact I.base.h7 b f u e
 ·obtain⟨j,i⟩:=I.base.iF b ps e
  exact⟨j,by rw[ab (nd i (by intro z;cases z))];exact i⟩
 ·obtain⟨r,t,v⟩:=I.pin p m
  exact⟨r,a t,v⟩
 ·by_cases g:b=d
  ·subst g
   rw[ae]at e;cases e
   exact ok.eV (λ_ _ _ q=>q) (λc q=>by rw[ab (nd q (by intro z;cases z))];exact q) λc xs q=>by rw[ab (nd q (by intro z;cases z))];exact q
  ·rw[ab g]at e
   exact(I.aB b u e).eV (λ_ _ _ q=>q) (λc q=>by rw[ab (nd q (by intro z;cases z))];exact q) λc xs q=>by rw[ab (nd q (by intro z;cases z))];exact q
def HQ(H0:Hp)(t:TE):TE:=λσ H Q=>t σ H λv Y=>∃d o kvs,Y d=ih (.aG o (.dK kvs))/\(∀o u,H0 d≠ih (.aG o u))/\Q v (upd Y d (.dK kvs))
theorem wj(a:PE X e te):PE X e (HQ X.h9 te):=by
 intro J s σ H Q I h;exact ay (a J s σ H _ I h) λv i ⟨y,O,b,c,d,o,kvs,f,g,q⟩=>⟨y,_,b.I7 f g,c,q⟩
def kH:List (Key×V)->List Pd->List V->List (Key×V)
 |kvs,x::xs,v::vs=>kH (putK kvs (Cv x) v) xs vs
 |kvs,_,_=>kvs
def sS:List (CS×CS)->List Pd->List V->Prop
 |[],[],[]=>True
 |p::ps,x::xs,v::vs=>RelV (V.str x) p.1/\RelV v p.2/\sS ps xs vs
 |_,_,_=>False
def pJ(X:Cx)(ks:List (Option QD))(es:List QD)(xs:List Pd)(t:TA):Prop:= ∀(pos:VT) J s σ H (Q:List V->Hp->Prop),Inv X J σ H s->t σ H Q ->
 wA X (evalPairs (pairTrees ks es X.env pos)) (λLu s1=>∃vs O,Inv X J σ O s1/\sS Lu xs vs/\Q vs O) X.xe s
theorem Gr:pJ X [] [] [] mn:=λpos J s σ H Q I q=>pairTrees_nil_walk ⟨[],H,I,trivial,q⟩
theorem lH{k:QD}{ks:al (Option QD)}{xs:al Pd}{t:TA}(a:PE X k (tC (.str x)))(b:PE X e te)(c:pJ X ks es xs t):pJ X (ih k::ks) (e::es) (x::xs) (rV te t):=by
 intro pos J s σ H Q I q;refine pairTrees_cons_walk (ay (a J s σ H (λv O=>v=.str x/\O=H) I ⟨rfl,rfl⟩) λw d A=>?_);obtain⟨v,O,f,g,h,i⟩:=A;subst h i;refine ay (b J d σ _ _ f q) λvu s2 A=>?_;obtain⟨y,H2,j,l,m⟩:=A;refine ay (c pos J s2 σ H2 _ j m) λu z A=>?_;obtain⟨vs,n,o,p,r⟩:=A;exact⟨y::vs,n,o,⟨g,l,p⟩,r⟩
theorem uD{P:Tj}{w:Tw}:∀{d:al (CS×CS)}{xs:al Pd}{vs:al V}{kvs:al (Key×V)}{b:al (Key×CS)},sS d xs vs->KV kvs b ->∃a,Carries (b8 P w) d a/\KV (kH kvs xs vs) (merged b a)
 |[],[],[],_,_,_,r=>⟨[],trivial,r⟩
 |p::ps,x::xs,v::vs,kvs,b,h,r=>by
  obtain⟨h1,h2,e⟩:=h;obtain⟨a,c,f⟩:=uD (P:=P) (w:=w) e (r.put (Cv x) h2);exact⟨(Cv x,p.2)::a,⟨jm (k:=Cv x) h1,rfl,c⟩,f⟩
 |[],[],_::_,_,_,h,_=>h.elim
 |[],_::_,[],_,_,h,_=>h.elim
 |[],_::_,_::_,_,_,h,_=>h.elim
 |_::_,[],[],_,_,h,_=>h.elim
 |_::_,[],_::_,_,_,h,_=>h.elim
 |_::_,_::_,[],_,_,h,_=>h.elim
def I8(xs:List Pd)(t:TA):TE:=λσ H Q=>∀p,H p=none->t σ (upd H p (.dK [])) λvs O=>O p=ih (.dK [])/\(kH [] xs vs).length<=Pk/\Q (.ref p) (upd O p (.dK (kH [] xs vs)))
theorem Gs{ks:al (Option QD)}{xs:al Pd}{t:TA}(h:pJ X ks es xs t)(g:ks.all (·.isSome)=true)(l:ks.length=es.length)(m:ks ≠ [])(i:ks.length<=15):PE X (.Dict ks es pos) (I8 xs t):=by
 intro J s σ H Q I q;have n:H s.ai=none:=I.aB.fresh (aN _);have p:Inv X J σ (upd H s.ai (.dK [])) { s with heap:=s.heap.push { cls:=.type "dict",data:=.dict #[] } }:=I.laid (a:=s.ai) (o:=.dK []) (t':=s.toks) (λ_ _ q=>bu _ q) (aN _) (vR s.heap I.big);refine wpAny_Dict_walk (knd:=b8 X.prog X.w) g l m i (ay (h pos J _ σ _ _ p (q _ n)) λD E F=>?_);obtain⟨vs,O,e,pr,f,r,u⟩:=F;obtain⟨z,v,k,b,x⟩:=rW e.aB f;obtain rfl:k=[]:=by cases b;rfl
 obtain⟨j,c,y⟩:=uD (P:=X.prog) (w:=X.w) pr b;refine⟨j,c,x,λh' d A=>?_⟩;have B:∃q,h'.get? s.ai=ih q:=let ⟨q,_,_,C,_⟩:=id d;⟨q,C⟩;exact⟨.ref s.ai,_,lS (ob:=.dK (kH [] xs vs)) e (by rw[f];exact Tb) A B (rz r v y d),rfl,u⟩
def Br(K:Tx)(ta tb:TE):TE:=λσ H Q=>ta σ H λx O=>∃k,se K x O k/\if k=true then Q x O else tb σ O Q
theorem HR{a b:QD}{rest:al QD}(g:PE X a ta)(i:PE X (.BoolOp .Or (b::rest) pos) tb):PE X (.BoolOp .Or (a::b::rest) pos) (Br X.K ta tb):=by
 intro J s σ H Q I h;refine BoolOp_or (ay (g J s σ H _ I h) λv j o=>?_);obtain⟨x,O,l,d,k,tk,e⟩:=o;refine ay (Aq J j σ O x v (λc H2=>c=k/\H2=O) l d ⟨k,tk,rfl,rfl⟩) λc s2 o=>?_;obtain⟨H2,f,m,n⟩:=o;subst m n;cases c with
 |true=>exact⟨x,H2,f,d,e⟩
 |false=>exact i J s2 σ H2 Q f e
theorem Fi(K:Tx)(h:X.K=K){a b:QD}{rest:al QD}(c:PE X a ta)(d:PE X (.BoolOp .Or (b::rest) pos) tb):PE X (.BoolOp .Or (a::b::rest) pos) (Br K ta tb):=by subst h;exact HR c d
end L2
namespace L2
open W
abbrev pr(x:Pd)(s:QB):Pd×QB:=(x,s)
def pK(K:Tx):List (Pd×QB)->Prop
 |[]=>True
 |p::r=>(∃f fd,aP K p.1 p.1 p.2 f fd/\nsIn K P5 p.1=ih (ih (.ref f)))/\pK K r
def so(K:Tx):List Pd->Prop
 |[]=>True
 |x::r=>nsIn K P5 x=ih none/\so K r
theorem I9{p:Pd×QB}{r:al (Pd×QB)}{kV:CS}(a:nsIn K P5 p.1=ih (ih (.ref f)))
  (l:K.lookup f=ih ⟨oc,od,.func (fnOf p.1 p.1 (dj p.2) (bD p.2) (aF p.2) .none kV Qb pm an Qa ct),Qk⟩) (c:codeIn K Qa p.1=true) (k:Uk K (.ref f)=true) (g:pK K r):pK K (p::r):=⟨⟨f,_,Au l c k,a⟩,g⟩
theorem l5{p:Pd×QB}(X:K.In h)(G:h.Ns P5 mg)(d:∃f fd,aP K p.1 p.1 p.2 f fd/\nsIn K P5 p.1=ih (ih (.ref f)))(ps:al Pd)
  (b:∀(kV Qb pm:CS) (an:am Ph) (Qa ct:CS) (us:al CS),us.length=ps.length->bindArgs (fnOf p.1 p.1 (dj p.2) (bD p.2) (aF p.2) .none kV Qb pm an Qa ct) ⟨us,[]⟩=pure (ps.zip us)) :
  ∃f fd,aP K p.1 p.1 p.2 f fd/\Uk K (.ref f)=true/\Binds K fd ps []/\mg p.1=ih (.ref f):=by
 obtain⟨f,fd,F,a⟩:=d;exact⟨f,fd,F,F.kp,F.binds b,mg_of X G a⟩
theorem oA{n:Nat}(h:us.length=n+1):∃u r,us=u::r/\r.length=n:=by
 cases us with
 |nil=>cases h
 |cons u r=>exact⟨u,r,rfl,Xi h⟩
theorem sr(h:us.length=2):∃a b,us=[a,b]:=by
 obtain⟨a,r,rfl,h2⟩:=oA h;obtain⟨b,rfl⟩:=qa.mp h2;exact⟨a,b,rfl⟩
theorem su(h:us.length=3):∃a b c,us=[a,b,c]:=by
 obtain⟨a,r,rfl,h2⟩:=oA h;obtain⟨b,c,rfl⟩:=sr h2;exact⟨a,b,c,rfl⟩
theorem sv(h:us.length=4):∃a b c d,us=[a,b,c,d]:=by
 obtain⟨a,r,rfl,h2⟩:=oA h;obtain⟨b,c,d,rfl⟩:=su h2;exact⟨a,b,c,d,rfl⟩
theorem eR{p:Pd×QB}(X:K.In h)(G:h.Ns P5 mg)(d:∃f fd,aP K p.1 p.1 p.2 f fd/\nsIn K P5 p.1=ih (ih (.ref f)))(c:Pd)
  (b:∀(kV Qb pm:CS) (an:am Ph) (Qa ct a:CS),bindArgs (fnOf p.1 p.1 (dj p.2) (bD p.2) (aF p.2) .none kV Qb pm an Qa ct) ⟨[a],[]⟩=pure ([c].zip [a]):=by intros;rfl) :
  ∃f fd,aP K p.1 p.1 p.2 f fd/\Uk K (.ref f)=true/\Binds K fd [c] []/\mg p.1=ih (.ref f):=l5 X G d _ λkV Qb pm an Qa ct us h=>by obtain⟨a,rfl⟩:=qa.mp h;exact b _ _ _ _ _ _ _
theorem gE{p:Pd×QB}(X:K.In h)(G:h.Ns P5 mg)(d:∃f fd,aP K p.1 p.1 p.2 f fd/\nsIn K P5 p.1=ih (ih (.ref f)))(e g:Pd)
  (b:∀(kV Qb pm:CS) (an:am Ph) (Qa ct a c:CS),bindArgs (fnOf p.1 p.1 (dj p.2) (bD p.2) (aF p.2) .none kV Qb pm an Qa ct) ⟨[a,c],[]⟩=pure ([e,g].zip [a,c]):=by intros;rfl) :
  ∃f fd,aP K p.1 p.1 p.2 f fd/\Uk K (.ref f)=true/\Binds K fd [e,g] []/\mg p.1=ih (.ref f):=l5 X G d _ λkV Qb pm an Qa ct us h=>by obtain⟨a,c,rfl⟩:=sr h;exact b _ _ _ _ _ _ _ _
theorem i'{p:Pd×QB}(X:K.In h)(G:h.Ns P5 mg)(d:∃f fd,aP K p.1 p.1 p.2 f fd/\nsIn K P5 p.1=ih (ih (.ref f)))(g i j:Pd)
  (b:∀(kV Qb pm:CS) (an:am Ph) (Qa ct a c e:CS),bindArgs (fnOf p.1 p.1 (dj p.2) (bD p.2) (aF p.2) .none kV Qb pm an Qa ct) ⟨[a,c,e],[]⟩=pure ([g,i,j].zip [a,c,e]):=by intros;rfl) :
  ∃f fd,aP K p.1 p.1 p.2 f fd/\Uk K (.ref f)=true/\Binds K fd [g,i,j] []/\mg p.1=ih (.ref f):=l5 X G d _ λkV Qb pm an Qa ct us h=>by obtain⟨a,c,e,rfl⟩:=su h;exact b _ _ _ _ _ _ _ _ _
theorem w4{p:Pd×QB}(X:K.In h)(G:h.Ns P5 mg)(d:∃f fd,aP K p.1 p.1 p.2 f fd/\nsIn K P5 p.1=ih (ih (.ref f)))(i j k l:Pd)
  (b:∀(kV Qb pm:CS) (an:am Ph) (Qa ct a c e g:CS),bindArgs (fnOf p.1 p.1 (dj p.2) (bD p.2) (aF p.2) .none kV Qb pm an Qa ct) ⟨[a,c,e,g],[]⟩=pure ([i,j,k,l].zip [a,c,e,g]):=by intros;rfl) :
  ∃f fd,aP K p.1 p.1 p.2 f fd/\Uk K (.ref f)=true/\Binds K fd [i,j,k,l] []/\mg p.1=ih (.ref f):=l5 X G d _ λkV Qb pm an Qa ct us h=>by obtain⟨a,c,e,g,rfl⟩:=sv h;exact b _ _ _ _ _ _ _ _ _ _
theorem q7{p:Pd×QB}(X:K.In h)(G:h.Ns P5 mg)(d:∃f fd,aP K p.1 p.1 p.2 f fd/\nsIn K P5 p.1=ih (ih (.ref f)))(j k l m n:Pd)
  (b:∀(kV Qb pm:CS) (an:am Ph) (Qa ct a c e g i:CS),bindArgs (fnOf p.1 p.1 (dj p.2) (bD p.2) (aF p.2) .none kV Qb pm an Qa ct) ⟨[a,c,e,g,i],[]⟩=pure ([j,k,l,m,n].zip [a,c,e,g,i]):=by intros;rfl) :
  ∃f fd,aP K p.1 p.1 p.2 f fd/\Uk K (.ref f)=true/\Binds K fd [j,k,l,m,n] []/\mg p.1=ih (.ref f):=l5 X G d _ λkV Qb pm an Qa ct us h=>by obtain⟨a,r,rfl,h2⟩:=oA h;obtain⟨c,e,g,i,rfl⟩:=sv h2;exact b _ _ _ _ _ _ _ _ _ _ _
theorem w5(X:K.In h)(G:h.Ns P5 mg):∀{xs:al Pd},so K xs ->∀x∈xs,mg x=none
 |y::r,z,x,m=>by
  rcases bU.mp m with rfl|q
  ·exact mg_none_of X G z.1
  ·exact w5 X G z.2 x q
end L2
namespace L2
open Spec PyProof.Rows W
end L2
namespace L2
open W
abbrev tr(x q:Pd)(s:QB):Pd×Pd×QB:=(x,q,s)
def pL(K:Tx)(C:Ph):List (Pd×Pd×QB)->Prop
 |[]=>True
 |p::r=>(∃f fd,aP K p.1 p.2.1 p.2.2 f fd/\Meth K C p.1 f)/\pL K C r
def sT(K:Tx)(C:Ph):List Pd->Prop
 |[]=>True
 |x::r=>Ul K (.ref C) x=ih none/\sT K C r
def CO(K:Tx)(x:Pd)(C:Ph)(fl:List Pd)(ms:List (Pd×Pd×QB)):Prop:=(nsIn K P5 x=ih (ih (.ref C))/\plainGet K C WM=true/\hasDictIn K C=true/\plainOver K C=true/\Ul K (.ref C) "__setattr__" = ih (ih (.builtin "object.__setattr__"))/\makesIn K C=true/\Uk K (.ref C)=true/\sT K C fl)/\pL K C ms
theorem I'{p:Pd×Pd×QB}{r:al (Pd×Pd×QB)}{kV:CS}(a:Ul K (.ref C) p.1=ih (ih (.ref f)))(i:isFn K (.ref f)=true)
  (l:K.lookup f=ih ⟨oc,od,.func (fnOf p.1 p.2.1 (dj p.2.2) (bD p.2.2) (aF p.2.2) .none kV Qb pm an Qa ct),Qk⟩) (c:codeIn K Qa p.2.1=true) (k:Uk K (.ref f)=true) (g:pL K C r):pL K C (p::r):=⟨⟨f,_,Au l c k,a,i,k⟩,g⟩
theorem cm_get(d:∃f fd,aP K x q st f fd/\Meth K C x f)(ps:al Pd)
  (b:∀(kV Qb pm:CS) (an:am Ph) (Qa ct:CS) (us:al CS),us.length=ps.length->bindArgs (fnOf x q (dj st) (bD st) (aF st) .none kV Qb pm an Qa ct) ⟨us,[]⟩=pure (ps.zip us)) :
  ∃f fd,aP K x q st f fd/\Meth K C x f/\Binds K fd ps []:=by
 obtain⟨f,fd,F,a⟩:=d;exact⟨f,fd,F,a,F.binds b⟩
theorem q8(d:∃f fd,aP K x q st f fd/\Meth K C x f)(c:Pd)(b:∀(kV Qb pm:CS) (an:am Ph) (Qa ct a:CS),bindArgs (fnOf x q (dj st) (bD st) (aF st) .none kV Qb pm an Qa ct) ⟨[a],[]⟩=pure ([c].zip [a]):=by intros;rfl):∃f fd,aP K x q st f fd/\Meth K C x f/\Binds K fd [c] []:=cm_get d _ λkV Qb pm an Qa ct us h=>by obtain⟨a,rfl⟩:=qa.mp h;exact b _ _ _ _ _ _ _
theorem j2(d:∃f fd,aP K x q st f fd/\Meth K C x f)(e g:Pd)(b:∀(kV Qb pm:CS) (an:am Ph) (Qa ct a c:CS),bindArgs (fnOf x q (dj st) (bD st) (aF st) .none kV Qb pm an Qa ct) ⟨[a,c],[]⟩=pure ([e,g].zip [a,c]):=by intros;rfl):∃f fd,aP K x q st f fd/\Meth K C x f/\Binds K fd [e,g] []:=cm_get d _ λkV Qb pm an Qa ct us h=>by obtain⟨a,c,rfl⟩:=sr h;exact b _ _ _ _ _ _ _ _
theorem lT(d:∃f fd,aP K x q st f fd/\Meth K C x f)(g i j:Pd)(b:∀(kV Qb pm:CS) (an:am Ph) (Qa ct a c e:CS),bindArgs (fnOf x q (dj st) (bD st) (aF st) .none kV Qb pm an Qa ct) ⟨[a,c,e],[]⟩=pure ([g,i,j].zip [a,c,e]):=by intros;rfl):∃f fd,aP K x q st f fd/\Meth K C x f/\Binds K fd [g,i,j] []:=cm_get d _ λkV Qb pm an Qa ct us h=>by obtain⟨a,c,e,rfl⟩:=su h;exact b _ _ _ _ _ _ _ _ _
theorem q9(d:∃f fd,aP K x q st f fd/\Meth K C x f)(i j k l:Pd)(b:∀(kV Qb pm:CS) (an:am Ph) (Qa ct a c e g:CS),bindArgs (fnOf x q (dj st) (bD st) (aF st) .none kV Qb pm an Qa ct) ⟨[a,c,e,g],[]⟩=pure ([i,j,k,l].zip [a,c,e,g]):=by intros;rfl):∃f fd,aP K x q st f fd/\Meth K C x f/\Binds K fd [i,j,k,l] []:=cm_get d _ λkV Qb pm an Qa ct us h=>by obtain⟨a,c,e,g,rfl⟩:=sv h;exact b _ _ _ _ _ _ _ _ _ _
theorem q':∀{xs:al Pd},sT K C xs ->∀{x},x∈xs->Ul K (.ref C) x=ih none
 |y::r,z,x,m=>by
  rcases bU.mp m with rfl|q
  ·exact z.1
  ·exact q' z.2 q
end L2
namespace L2
def c4(k:Nat):List (List Pd)->Pd->Option (Nat×Pd)
 |[],_=>none
 |[]::rest,n=>c4 (k+1) rest n
 |(x::r)::rest,n=>if n∈x::r/\x≠n then ih (k,x) else c4 (k+1) rest n
theorem uu{k:Nat}(h : ¬ (n∈r/\r.head? ≠ ih n)):c4 k (r::rest) n=c4 (k+1) rest n:=by
 cases r with
 |nil=>rfl
 |cons x r=>exact ax λz=>h ⟨z.1,by simpa using z.2⟩
theorem Ds{k:Nat}(h:n∈x::r/\x≠n):c4 k ((x::r)::rest) n=ih (k,x):=by
 exact aI h
def gB(all:List (List Pd)):List (List Pd)->Option Pd
 |[]=>none
 |[]::rest=>gB all rest
 |(x::_)::rest=>if (c4 0 all x).isNone then ih x else gB all rest
def eQ(rest:List (List Pd)):Option Pd:=gB rest rest
def without(n:Pd)(rest:List (List Pd)):List (List Pd):=rest.map λr=>r.filter λy=>!decide (y=n)
def total(rest:List (List Pd)):Nat:=(rest.map TV).sum
def b':Nat->List (List Pd)->Option (List Pd)
 |0,_=>ih []
 |k+1,rest=>if (rest.any λr=>!r.isEmpty)=true then (match eQ rest with|none=>none|some n=>(b' k (without n rest)).map (n :: ·)) else ih []
theorem qi{all:al (List Pd)}{n:Pd}:∀{rest:al (List Pd)},gB all rest=ih n ->∃r∈rest,r.head?=ih n
 |[],h=>by cases h
 |[]::rest,h=>let ⟨r,a,e⟩:=qi (rest:=rest) h;⟨r,bL _ a,e⟩
 |(x::t)::rest,h=>by
  have h:(if (c4 0 all x).isNone then ih x else gB all rest)=ih n:=h;split at h
  ·cases h;exact⟨n::t,bJ,rfl⟩
  ·obtain⟨r,a,e⟩:=qi (rest:=rest) h
   exact⟨r,bL _ a,e⟩
theorem ur(n:Pd):∀rest:al (List Pd),total (without n rest)<=total rest
 |[]=>aN _
 |r::rest=>by
  have h1:=ur n rest;have h2:=ee (λy=>!decide (y=n)) r;simp only[total,without,bV,ub]at *;omega
theorem jQ{n:Pd}:∀{rest:al (List Pd)},(∃r∈rest,n∈r)->total (without n rest)<total rest
 |[],⟨_,h,_⟩=>by simp at h
 |r::rest,⟨q,hq,a⟩=>by
  have h1:=ur n rest;have h2:=ee (λy=>!decide (y=n)) r;rcases bU.mp hq with rfl|hq
  ·have b:(q.filter λy=>!decide (y=n)).length<q.length:=by
    exact P'.mpr ⟨n,a,by simp⟩
   simp only[total,without,bV,ub]at *;omega
  ·have b:=jQ ⟨q,hq,a⟩
   simp only[total,without,bV,ub]at *;omega
theorem le_total{r:al Pd}:∀{rest:al (List Pd)},r∈rest->r.length<=total rest
 |[],h=>by simp at h
 |q::rest,h=>by
  have e:total (q::rest)=q.length+total rest:=by simp[total]
  rcases bU.mp h with rfl|h
  ·omega
  ·have:=le_total h
   omega
theorem vt(h:(rest.any λr=>!r.isEmpty)=true):0<total rest:=by
 obtain⟨r,a,e⟩:=m7.mp h;have h1:0<r.length:=by cases r with
  |nil=>simp at e
  |cons _ _=>simp
 have h2:r.length<=total rest:=le_total a;omega
def c5(H:Hp)(vs:List V)(rows:List (List Pd)):Prop:=S2 (λy r=>∃a,y=V.ref a/\H a=ih (.tup (r.map V.str))) vs rows
theorem c5.same(h:c5 H vs rows)(s:aw H Y):c5 Y vs rows:=Paired.imp' (λ_ _ b=>by obtain⟨a,e,q⟩:=b;exact ⟨a,e,s _ _ q⟩) h
theorem c5.length(h:c5 H vs rows):vs.length=rows.length:=cw h
theorem c5.get{H:Hp}:∀{vs:al V}{rows:al (List Pd)}{i:Nat}{v:V},c5 H vs rows->vs[i]?=ih v ->∃a r,v=V.ref a/\rows[i]?=ih r/\H a=bd (r.map V.str)
 |_,_,i,v,.nil,e=>by simp at e
 |_,_,0,v,.cons p _,e=>by
  obtain⟨a,rfl,q⟩:=p;simp at e;subst e;exact⟨a,_,rfl,rfl,q⟩
 |_,_,i+1,v,.cons _ t,e=>by
  obtain⟨a,r,b,c,q⟩:=c5.get (i:=i) t (by simpa using e)
  exact⟨a,r,b,by simpa using c,q⟩
theorem c5.append{H:Hp}{vs:al V}{rows:al (List Pd)}{a:Ph}{r:al Pd}:c5 H vs rows->H a=bd (r.map V.str)->c5 H (vs++[.ref a]) (rows++[r])
 |.nil,q=>.cons ⟨a,rfl,q⟩ .nil
 |.cons p t,q=>.cons p (c5.append t q)
end L2
namespace eW
open L2 W
def top(i:Nat):QB:=VH.main.body.getD i (.Pass ⟨0,0,0,0⟩)
noncomputable abbrev j3:QB:=top 15
noncomputable abbrev ra:QB:=top 16
noncomputable abbrev lU:QB:=top 27
noncomputable abbrev oh:QB:=top 28
noncomputable abbrev mh:QB:=top 29
noncomputable abbrev ki:QB:=top 37
noncomputable abbrev lB:QB:=top 38
noncomputable abbrev qA:QB:=top 40
noncomputable abbrev rb:QB:=top 41
noncomputable abbrev lI:QB:=top 42
noncomputable abbrev l6:QB:=top 43
noncomputable abbrev sx:QB:=top 68
noncomputable abbrev l7:QB:=top 69
noncomputable abbrev jh:QB:=top 70
noncomputable abbrev gW:QB:=top 71
noncomputable abbrev l9:QB:=top 72
noncomputable abbrev qB:QB:=top 73
noncomputable abbrev qL:QB:=top 74
noncomputable abbrev rf:QB:=top 76
noncomputable abbrev rZ:QB:=top 77
noncomputable abbrev ma:QB:=top 78
noncomputable abbrev r0:QB:=top 79
noncomputable abbrev mr:QB:=top 86
noncomputable abbrev qM:QB:=top 14
noncomputable abbrev rg:QB:=top 34
noncomputable abbrev rh:QB:=top 36
noncomputable abbrev qN:QB:=top 20
noncomputable abbrev lC:QB:=top 21
noncomputable abbrev ri:QB:=top 22
noncomputable abbrev rj:QB:=top 23
noncomputable abbrev rC:QB:=top 45
noncomputable abbrev rD:QB:=top 46
noncomputable abbrev lD:QB:=top 47
noncomputable abbrev lV:QB:=top 75
noncomputable abbrev lJ:QB:=top 80
noncomputable abbrev r1:QB:=inClass l6 0
noncomputable abbrev r2:QB:=inClass l6 1
noncomputable abbrev r3:QB:=inClass l6 2
noncomputable abbrev qO:QB:=top 65
noncomputable abbrev f3:QB:=top 66
noncomputable abbrev jo:QB:=top 83
noncomputable abbrev rE:QB:=top 81
noncomputable abbrev mc:QB:=top 82
noncomputable abbrev rk:QB:=top 85
noncomputable abbrev rF:QB:=inClass l6 3
noncomputable abbrev lE:QB:=inClass l6 5
noncomputable abbrev rG:QB:=inClass f3 0
noncomputable abbrev rH:QB:=inClass f3 4
noncomputable abbrev rJ:QB:=inClass f3 5
noncomputable abbrev rK:QB:=inClass f3 12
noncomputable abbrev j4:QB:=inClass f3 13
noncomputable abbrev qP:QB:=inClass f3 15
noncomputable abbrev rL:QB:=inClass f3 16
noncomputable abbrev ji:QB:=inClass f3 17
noncomputable abbrev rm:QB:=inClass f3 21
noncomputable abbrev rM:QB:=inClass f3 22
noncomputable abbrev lW:QB:=inClass f3 24
noncomputable abbrev lK:QB:=inClass f3 25
noncomputable abbrev qQ:QB:=inClass f3 27
structure cP(mg:Pd->Option CS):Prop where
 len:mg "len" = none
 max:mg "max" = none
 min:mg "min" = none
 abs:mg "abs" = none
 range:mg "range" = none
 any:mg "any" = none
 all:mg "all" = none
 list:mg "list" = none
 tuple:mg "tuple" = none
 Lv:mg "enumerate" = none
theorem iV{y:Pd}:cT ((y::r).map V.str) 0=ih (V.str y):=(show cT ((y::r).map V.str) ((0:Nat):Int)=ih (V.str y) from b6 rfl)
theorem aA{q:Ph}{o:HO}(a:H q=none):aw H (upd H q o):=λb u e=>by rw[ab (ar e a)];exact e
theorem Fj{g:TG}{tb:TS}{D:Ends}(b:Nat->St->Hp->Prop)(j:b 0 σ H)(k:∀i σ H,i<=xs.length->b i σ H->aj K H a xs)
  (l:∀i x σ H t,xs[i]?=ih x->b i σ H->H t=none->g (.ref t) σ (upd H t (.tup [.int i,x])) λc H2=>tb { D with nx:=b (i+1),ct:=b (i+1),bk:=D.nx } c H2) (n:∀σ H,b xs.length σ H->D.nx σ H) :
  ∃W:Nat->Nat->St->Hp->Prop,(∃m,W 0 m σ H) /\∀i m σ H,W i m σ H ->
   ((mM K a).stop i H/\D.nx σ H)\/((mM K a).go i H /\∃N:St->Hp->Prop,(∀d Y,N d Y ->∃h,h<m/\W (i+1) h d Y) /\∀x Y,(mM K a).ic i H x Y->g x σ Y λc H2=>tb { D with nx:=N,ct:=N,bk:=D.nx } c H2):=by
 refine⟨λi m σ H=>m=xs.length - i/\i<=xs.length/\b i σ H,⟨xs.length,by simp,bw _,j⟩,?_⟩
 rintro i m σ H ⟨rfl,hi,p⟩;have q:=k i σ H hi p
 by_cases f:i<xs.length
 ·refine .inr ⟨⟨xs,xs[i],q,by simp[f]⟩,b (i+1),λd Y o=>⟨xs.length - (i+1),by omega,rfl,f,o⟩,λx Y y=>?_⟩
  obtain⟨t,v,r,rfl,s,rfl⟩:=y;exact l i v σ _ t (s xs q) p r
 ·have e:i=xs.length:=by omega
  subst e;exact .inl ⟨⟨xs,q,aN _⟩,n σ H p⟩
inductive oi(vs:List V)(H:Hp)(Q:VK)(E:XK):Prop
 |mk{l:Ph}{ws:List V}{rows:List (List Pd)}{n:Pd}(_:vs=[.ref l,.str n])(_:H l=ih (.lst ws))(_:c5 H ws rows)(_:(c4 0 rows n=none ->∀Y,aw H Y->Q .aJ Y))(_:(∀i x,c4 0 rows n=ih (i,x) ->∀p Y,H p=none->aw H Y->Y p=ih (.tup [.int i,.str x,.str n])->Q (.ref p) Y)):oi vs H Q E
theorem rN:aZ ["rest","name","at","row"] ["rest","name"] (aF mh):=a8
theorem Gu(F:aP K "wish_against" "wish_against" mh f fd)(B:cP mg):aM P w K mg base ao 1 f fd ["rest","name"] oi:=by
 refine F.bG rN λQa A T s H vs Q E U h=>?_
 ·obtain @⟨l,ws,rows,n,rfl,q,u,L,M⟩:=h
  intro X;refine⟨_,aq (e7 eP rfl (F' rfl B.Lv (aa (pv 0) ag)) (j8 rfl (dd (a4 2 rN.nd) (dd (a4 3 rN.nd) hQ)))
    (aE (bQ (PW.pt (pw_and (bx i5 (pv 1) (pv 3) rfl) (pw_and1 (bx jk (aV cE (pv 3) ak) (pv 1) (bA _)))))
     (aE (aU (cz (aa (pv 2) (aa (aV cE (pv 3) ak) (aa (pv 1) ag)))))) bZ)))
   (aE (aU gF)),?_⟩
  refine af rfl ⟨l,rfl,⟨_,aj.of q⟩,Fj (xs:=ws) (λi σ O=>∃j k:am V,σ=[a2 l,ih (.str n),j,k]/\aw H O/\c4 i (rows.drop i) n=c4 0 rows n) ⟨none,none,rfl,aw.refl _,by simp⟩ (λi σ O _ W=>by obtain⟨_,_,_,z,_⟩:=W;exact aj.of (z _ _ q)) ?_ ?_⟩
  ·rintro i x σ O t N ⟨j,k,rfl,m,b⟩ R
   obtain⟨a,r,rfl,D,G⟩:=u.get N;have c:aw H (upd O t (.tup [.int i,.ref a])):=m.trans (aA R);have d:=c _ _ G;have I:rows.drop i=r::rows.drop (i+1):=by
    have hi:=(bT.mp D);obtain⟨J,rfl⟩:=hi;exact gT J
   rw[I]at b;refine⟨t,_,rfl,aO.of ae,rfl,_,_,rfl,_,_,rfl,rfl,?_⟩;refine aX rfl rfl ⟨a,_,rfl,.inr (aO.of d),rfl,gz _,_,rfl,?_⟩;rw[ax bM,hO];refine dX (λe=>?_) (λe=>?_)
   ·have o:n∈r:=by simpa using e
    cases r with
    |nil=>simp at o
    |cons y r =>
     refine af rfl (dz d iV (af rfl ⟨rfl,_,rfl,?_⟩));refine dX (λg=>?_) (λg=>?_)
     ·have C:y≠n:=λz=>by subst z;simp at g
      refine aX rfl rfl (dz d iV (af rfl ⟨eK,λp v=>?_⟩));rw[Ds ⟨o,C⟩]at b;exact M i y b.symm p _ (c.free v) (c.trans (aA v)) ae
     ·have S:y=n:=by
       by_cases z:y=n
       ·exact z
       ·exact absurd (by simp[z]) g
      refine⟨_,_,rfl,c,?_⟩;rw[<-b,uu λz=>z.2 (by rw[S];rfl)]
   ·refine⟨_,_,rfl,c,?_⟩
    rw[<-b,uu λz=>e (by simpa using z.1)]
  ·rintro σ O ⟨j,k,rfl,m,b⟩
   rw[u.length,uc]at b;exact L b.symm O m
def Bs:Option Pd->V
 |none=>.aJ
 |some n=>.str n
inductive nY(vs:List V)(H:Hp)(Q:VK)(E:XK):Prop
 |mk{l:Ph}{ws:List V}{rows:List (List Pd)}(_:vs=[.ref l])(_:H l=ih (.lst ws))(_:c5 H ws rows)(_:∀Y,aw H Y->Q (Bs (eQ rows)) Y):nY vs H Q E
theorem w6:aZ ["rest","row"] ["rest"] (aF oh):=a8
theorem Fl{g:Ta}(F:aP K "least_free" "least_free" oh f fd)(B:cP mg)(t:aP K "wish_against" "wish_against" mh fW g)(I:Binds K g ["rest","name"] [])(J:mg "wish_against" = ih (.ref fW)) :
  aM P w K mg base ao 2 f fd ["rest"] nY:=by
 have L:aM P w K mg base ao 1 fW g ["rest","name"] oi:=Gu t B;refine F.bG w6 λQa A S s H vs Q E M h=>?_
 ·obtain @⟨l,ws,rows,rfl,m,n,q⟩:=h
  have u:aS 1 _:=M;intro X;refine⟨_,aq (e7 eP rfl (d4 (pv 0)) (a4 1 w6.nd)
    (aE (bQ (PW.pt (pw_and (lG (pv 1) (λ_=>rfl)) (pw_and1 (bx l0 (gX L u rfl J t.kp I .nil b7 (aa (pv 0) (aa (aV cE (pv 1) ak) ag))) gF (bA _)))))
     (aE (aU (aV cE (pv 1) ak))) bZ)))
   (aE (aU gF)),?_⟩
  refine af rfl ⟨l,rfl,⟨_,aj.of m⟩,i6 (xs:=ws) (λi σ O=>∃o:am V,σ=[a2 l,o]/\aw H O/\gB rows (rows.drop i)=eQ rows) ⟨none,rfl,aw.refl _,by simp[eQ]⟩ (λi σ O _ U=>by obtain⟨_,_,z,_⟩:=U;exact aj.of (z _ _ m)) ?_ ?_⟩
  ·rintro i x σ O N ⟨o,rfl,c,b⟩
   obtain⟨a,r,rfl,v,C⟩:=n.get N;have k:=c _ _ C;have D:rows.drop i=r::rows.drop (i+1):=by
    obtain⟨G,rfl⟩:=bT.mp v;exact gT G
   rw[D]at b;refine af rfl ⟨!(r.map V.str).isEmpty,.inr (.inl ⟨_,aO.of k,rfl⟩),?_⟩;cases r with
   |nil=>exact af rfl ⟨c,b⟩
   |cons y r =>
    have b:(if (c4 0 rows y).isNone then ih y else gB rows (rows.drop (i+1)))=eQ rows:=b;refine aX rfl rfl (dz k iV ?_);refine oi.mk rfl (c _ _ m) (n.same c) (λR H2 d=>?_) (λj z es p H2 T d h2=>?_)
    ·refine⟨rfl,_,rfl,?_⟩
     refine af rfl (dz (d _ _ k) iV ?_);rw[R]at b;have e:eQ rows=ih y:=b.symm;have:=q H2 (c.trans d);rw[e]at this;exact this
    ·refine⟨rfl,_,rfl,?_⟩
     rw[es]at b;exact af rfl ⟨c.trans d,b⟩
  ·rintro σ O ⟨o,rfl,c,b⟩
   rw[n.length,uc]at b;have e:eQ rows=none:=b.symm;have:=q O c;rw[e]at this;exact this
def Gv(s:QB):List QB:=match s with|.For _ _ b _ _=>b|_=>[]
def lF(s:QB):List QB:=match s with|.While _ b _ _=>b|_=>[]
def cH(l:List QB)(i:Nat):QB:=l.getD i (.Pass ⟨0,0,0,0⟩)
def e8(s:QB):QD:=match s with|.Assign _ v _=>v|_=>.Constant .none 0 ⟨0,0,0,0⟩
def gK(s:QB):QD:=match s with|.Return (ih v) _=>v|_=>.Constant .none 0 ⟨0,0,0,0⟩
def eb(e:QD):QD:=match e with|.Call _ (a::_) _ _=>a|_=>.Constant .none 0 ⟨0,0,0,0⟩
def Kp(e:QD):QD:=match e with|.Subscript a _ _=>a|_=>.Constant .none 0 ⟨0,0,0,0⟩
def AY(e:QD):QD:=match e with|.ListComp x _ _ _=>x|_=>.Constant .none 0 ⟨0,0,0,0⟩
def ck(e:QD):TY:=match e with|.ListComp _ _ sc _=>sc|_=>{ kind:=.function,names:=[],isGenerator:=false,isCoroutine:=false }
theorem boot_tuple:SR "tuple" = ih (.type "tuple"):=by decide +kernel
theorem boot_list:SR "list" = ih (.type "list"):=by decide +kernel
structure Small(rows:List (List Pd)):Prop where
 b3:rows.length<=10
 short:∀r∈rows,r.length<=20
 nm:∀r∈rows,∀n∈r,Nm n
theorem HU{a:al Pd}(nd:ps.Nodup)(h:∀n∈ps,n∈a):ps.length<=a.length:=by
 by_cases z:ps.length<=a.length
 ·exact z
 ·obtain⟨y,b,c⟩:=ry (found:=a) nd (by omega)
  exact absurd (h y b) c
theorem uR(h:total rest=0):(rest.any λr=>!r.isEmpty)=false:=by
 cases e:rest.any λr=>!r.isEmpty with
 |false=>rfl
 |true=>have:=vt e;omega
theorem jW(h:eQ rest=ih n):∃r∈rest,n∈r:=by
 obtain⟨r,a,e⟩:=qi h;exact⟨r,a,List.mem_of_head? e⟩
theorem uS:∀(k:Nat) (r:al (List Pd)),total r<=k ->∀j,total r<=j->b' k r=b' j r
 |0,r,h,j,_=>by
  have z:=uR (show total r=0 by omega)
  cases j with
  |zero=>rfl
  |succ j=>unfold b';rw[ax (by rw[z];exact bM)]
 |k+1,r,h,0,a=>by
  have z:=uR (show total r=0 by omega)
  unfold b';rw[ax (by rw[z];exact bM)]
 |k+1,r,h,j+1,a=>by
  unfold b';split
  ·cases e:eQ r with
   |none=>rfl
   |some n =>
    have:=jQ (jW e);show UQ _ _=UQ _ _;rw[uS k (without n r) (by omega) j (by omega)]
  ·rfl
theorem qp{r:al (List Pd)}(h:(r.any λr=>!r.isEmpty)=false):b' (total r) r=ih []:=by
 cases total r with
 |zero=>rfl
 |succ k=>unfold b';rw[ax (by rw[h];exact bM)]
theorem qq{r:al (List Pd)}(h:(r.any λr=>!r.isEmpty)=true)(e:eQ r=none):b' (total r) r=none:=by
 have:=vt h;cases q:total r with
 |zero=>omega
 |succ k=>unfold b';rw[aI h,e]
theorem qr{r:al (List Pd)}(h:(r.any λr=>!r.isEmpty)=true)(e:eQ r=ih n):b' (total r) r=(b' (total (without n r)) (without n r)).map (n :: ·):=by
 have:=jQ (jW e);cases q:total r with
 |zero=>omega
 |succ k =>
  show(if (r.any λr=>!r.isEmpty)=true then _ else _)=_;rw[aI h,e];show UQ _ _=_;rw[uS k (without n r) (by omega) _ (aN _)]
theorem ux{env:Uy}:∀{c:al (Pd×Tp)}{x:Pd},c.lookup x=ih .cell ->
  (c.map λ(n,k)=>if (k==P7&&env.scope.kind == .function&&env.kindOf n==ih .cell) then (n,S0) else (n,k)).lookup x=ih .cell
 |[],_,h=>by simp at h
 |(n,b)::r,x,h=>by
  have d:=@ux env r x;show S' x ((if (b==P7&&env.scope.kind == .function&&env.kindOf n==ih .cell)=true then (n,S0) else (n,b))::_)=_;rw[eN]at h;cases a:x==n with
  |true =>
   rw[a]at h;cases h
   rw[ax (by simp),eN,a]
  |false =>
   rw[a]at h
   by_cases e:(b==P7&&env.scope.kind == .function&&env.kindOf n==ih .cell)=true
   ·rw[aI e,eN,a];exact d h
   ·rw[ax e,eN,a];exact d h
theorem nest{kT:TY}(a:sc.kind=.function)(keys:(sc.names.map (·.1)).Nodup)(nd:N'.Nodup)(b:Qc.length=N'.length)(c:si N N' Qc sc=true)
  (free:∀p∈sc.names,p.2=.free->kT.names.lookup p.1=ih .cell\/kT.names.lookup p.1=ih .free):bO N (relabel kT env) N' Qc sc:=
 ⟨a,keys,nd,b,AU c,λp d e=>by
  rcases free p d e with z|z
  ·exact .inl (ux z)
  ·exact qe z⟩
theorem uy(K:Tx)(h:X.K=K):c8 X (.type "tuple") (λxs H Q=>∃p ys,xs=[.ref p]/\((aj K H p ys /\∀l,H l=none->Q (.ref l) (upd H l (.tup ys)))\/(aO K H p ys/\Q (.ref p) H))):=by subst h;exact i3
theorem boot_any:SR "any" = ih (.builtin "any"):=by decide +kernel
noncomputable abbrev w7:List Pd:=["rows","order","rest","name"]
theorem lL:aZ w7 ["rows"] (aF lU):=a8
noncomputable abbrev Bt:QD:=e8 (cH (lF (cH (bD lU) 2)) 3)
abbrev kT:TY:=ck Bt
abbrev Lw:TY:=ck (eb (AY Bt))
theorem B1:bO w7 (aF lU) ["row","name"] [none,ih 3] kT:=cL
theorem Lx:bO ["row","name"] (relabel kT env) ["other","name"] [none,ih 1] Lw:=nest rfl (by decide +kernel) (by decide +kernel) rfl (by decide +kernel) (by decide +kernel)
theorem Ly:(["other","name"]:al Pd).Nodup:=by decide +kernel
theorem vw(h:c5 H vs rows)(s:∀b xs,H b=bd xs->Y b=bd xs):c5 Y vs rows:=Paired.imp' (λ_ _ c=>by obtain⟨a,e,q⟩:=c;exact ⟨a,e,s _ _ q⟩) h
theorem uv(S:Small rest):Small (without n rest):=by
 refine⟨by unfold L2.without;rw[aK];exact S.b3,λr a=>?_,λr a y c=>?_⟩
 ·obtain⟨q,b,rfl⟩:=ba.mp a
  exact ed (ee _ _) (S.short q b)
 ·obtain⟨q,b,rfl⟩:=ba.mp a
  exact S.nm q b y (cU.mp c).1
structure Bu(H:Hp)(rows:List (List Pd))(t oa:Ph)(m:Nat)(σ:St)(O:Hp)(rest:List (List Pd))(ws:List V)(cG:List Pd)(rl:Ph):Prop where
 st:∃v3:Option V,σ=[ih (.ref t),ih (.ref oa),ih (.ref rl),v3]
 mm:m=total rest
 B2:O oa=ih (.lst (cG.map V.str))
 sU:O rl=ih (.lst ws)
 rr:c5 O ws rest
 sm:Small rest
 ne:rl≠oa
 same:aw H O
 lim:cG.length+total rest<=1000
 eq:b' (total rows) rows=(b' (total rest) rest).map (cG ++ ·)
theorem nt:∀{rows:al (List Pd)},(∀r∈rows,r.length<=20)->total rows<=20 * rows.length
 |[],_=>bw _
 |r::rows,h=>by
  have h1:=nt λq a=>h q (bL _ a);have h2:=h r bJ;have e:total (r::rows)=r.length+total rows:=by simp[total]
  rw[e,cf];omega
theorem Fn(h:c5 H ws rows):S2 (λy r=>∃a,y=V.ref a/\aO K H a r) ws (rows.map λr=>r.map V.str):=by
 induction h with
 |nil=>exact .nil
 |cons p _ b=>obtain⟨a,e,q⟩:=p;exact .cons ⟨a,e,aO.of q⟩ b
theorem any_map(rows:al (List Pd)):((rows.map λr=>r.map V.str).any λr=>!r.isEmpty)=rows.any λr=>!r.isEmpty:=by
 rw[tS];congr 1;funext r;cases r <;> rfl
inductive nP(vs:List V)(H:Hp)(Q:VK)(E:XK):Prop
 |mk{t:Ph}{ws:List V}{rows:List (List Pd)}{o:List Pd}(_:vs=[.ref t])(_:H t=ih (.tup ws))(_:c5 H ws rows)(_:Small rows)(_:b' (total rows) rows=ih o)(_:∀p Y,H p=none->aw H Y->Y p=ih (.tup (o.map V.str))->Q (.ref p) Y):nP vs H Q E
theorem Ez{xb xf:Ta}(F:aP K "merged" "merged" lU f fd)(D:cP mg)
  (xn:aP K "wish_against" "wish_against" mh fW xf) (yn:Binds K xf ["rest","name"] []) (zn:mg "wish_against" = ih (.ref fW))
  (xh:aP K "least_free" "least_free" oh fL xb) (xo:Binds K xb ["rest"] []) (yo:mg "least_free" = ih (.ref fL)) :
  aM P w K mg base ao 3 f fd ["rows"] nP:=by
 have zo:aM P w K mg base ao 2 fL xb ["rest"] nY:=Fl xh D xn yn zn;refine F.bG lL λQa A yr s H vs Q E xp h=>?_
 ·obtain @⟨t,ws,rows,o,rfl,yh,yp,xd,U,zp⟩:=h
  have yk:aS 2 _:=xp;intro X;refine⟨_,aq (bf 1 lL.nd (d5 ag))
   (aq (bf 2 lL.nd (dU ll rfl D.list boot_list (aa (pv 0) ag)))
   (aq (qF eP (lG (bp (Ei rfl) rfl D.any boot_any (aa (pv 2) ag)) (λ_=>rfl))
    (aq (fg (i:=3) lL.nd rfl (TC rfl) (gX zo yk rfl yo xh.kp xo .nil b7 (aa (pv 2) ag)))
    (aq (bQ (bx l0 (pv 3) gF (bA _)) (aE EU) bZ)
    (aq (cB (gH lg ud ue lz (pv 1) (aa (pv 3) ag)))
    (aE (jT (i:=2) rfl B1 lL.nd rfl rfl (d4 (pv 2)) (λs H fp=>⟨a4 0 B1.nd,dV,
     dU (uy K rfl) rfl D.tuple boot_tuple (aa (cY rfl Lx (vP K rfl (pv 0)) (λs H fp=>⟨a4 0 Ly,fY (bx jk (pv 0) (pv 1) rfl),pv 0⟩)) ag)⟩)))))))
   (aE (aU (dU i3 rfl D.tuple boot_tuple (aa (pv 1) ag)))))),?_⟩
  refine⟨bw _,λc yb=>af rfl ⟨t,ws,rfl,.inr (aO.of (by rw[ab (ar yh yb)];exact yh)),λd zb=>?_⟩⟩
  have zj:(upd (upd H c (.lst [])) d (.lst ws)) c=bi []:=by rw[ab (ar ae zb)];exact ae
  have zh:aw H (upd (upd H c (.lst [])) d (.lst ws)):=(aA yb).trans (aA zb);refine⟨λm σ O=>∃rest g k d,Bu H rows t c m σ O rest g k d,⟨_,rows,ws,[],d,⟨none,rfl⟩,rfl,zj,ae,yp.same zh,xd,aQ (ar ae zb),zh,by have:=nt xd.short;have:=xd.b3;simp only[jN];omega,by cases b' (total rows) rows <;> rfl⟩,?_⟩
  rintro m σ O ⟨rest,g,k,d,R⟩;obtain⟨zr,rfl⟩:=R.st;refine af rfl ⟨d,g,_,rfl,aj.of R.sU,Fn R.rr,_,rfl,?_⟩;rw[any_map];refine dX (λW=>?_) (λW=>?_)
  ·refine⟨λzk Y=>∃xi,xi<m /\∃rest g k d,Bu H rows t c xi zk Y rest g k d,λ_ _ z=>z,?_⟩
   refine af rfl (nY.mk rfl R.sU R.rr λH2 G=>?_);cases e:eQ rest with
   |none =>
    refine af rfl ⟨rfl,_,rfl,?_⟩;rw[R.eq,qq W e]at U;cases U
   |some n =>
    refine af rfl ⟨rfl,_,rfl,?_⟩;have za:H2 c=bi (k.map V.str):=G _ _ R.B2;refine af rfl ⟨.inl ⟨rfl,_,aj.of za⟩,_,rfl,c,_,_,rfl,rfl,za,by have:=R.lim;rw[aK,aR];omega,?_⟩
    generalize M:upd H2 c (.lst (k.map V.str++[Bs (ih n)]))=I;have xq:aw H I:=λb o yi=>by rw[<-M,ab (ar yi yb)];exact G _ _ (R.same b o yi)
    have xl:d≠c:=R.ne;have ye:I d=bi g:=by rw[<-M,ab xl];exact G _ _ R.sU
    have yf:c5 I g rest:=vw R.rr λb xs u=>by rw[<-M,ab (aH (G _ _ u) za)];exact G _ _ u
    have ze:I c=bi ((k++[n]).map V.str):=by rw[<-M,ae,bC];rfl
    refine af rfl ⟨d,rfl,⟨_,aj.of ye⟩,λJ N=>?_⟩;have yl:J≠c:=λz=>by rw[z,ze]at N;cases N
    refine fX (xs:=g) (λi ys xa q=>∃yd:am V,xa=[yd,ih (.str n)]/\q J=bi ys/\aw I q/\c5 q ys (L2.without n (rest.take i))) ⟨none,rfl,ae,aA N,.nil⟩ (λi ys xa q ac=>by obtain⟨_,_,h1,h2,_⟩:=ac;exact ⟨h1,aj.of (h2 _ _ ye)⟩) ?_ ?_
    ·rintro i x ys xa q zi ⟨yd,rfl,B,v,C⟩
     obtain⟨a,r,rfl,zf,xc⟩:=yf.get zi;have zl:i<g.length:=(bT.mp zi).1;have tk:rest.take (i+1)=rest.take i++[r]:=by rw[cK,zf];rfl
     refine af rfl ⟨a,rfl,⟨_,aO.of (v _ _ xc)⟩,λL yc=>?_⟩;have xm:a≠L:=ar (v _ _ xc) yc;refine jZ (xs:=r.map V.str) (λj zs S ya=>∃zd:am V,S=[zd,ih (.str n)]/\zs=((r.take j).filter λy=>!decide (y=n)).map V.str/\ya=upd q L (.lst zs)) ⟨none,rfl,rfl,rfl⟩ (λj zs S ya ⟨_,_,_,z⟩=>by rw[z];exact⟨ae,aO.of (by rw[ab xm];exact v _ _ xc)⟩) ?_ ?_
     ·rintro j x zs S ya xg ⟨zd,rfl,rfl,rfl⟩
      have zc:j<(r.map V.str).length:=(bT.mp xg).1;have yg:j<r.length:=by simpa using zc
      obtain rfl:V.str r[j]=x:=by simpa [yg] using xg
      have zg:r.take (j+1)=r.take j++[r[j]]:=by rw[cK,bY yg];rfl
      refine aX rfl rfl ⟨rfl,_,rfl,?_⟩;refine dX (λT=>?_) (λT=>?_)
      ·have xk:r[j]≠n:=λz=>by rw[z]at T;simp at T
       refine af rfl ⟨ae,?_,cw_next zc (af rfl ⟨?_,by rw[e5]⟩)⟩
       ·have h1:=ee (λy=>!decide (y=n)) (r.take j)
        have h2:(r.take j).length<=r.length:=by rw[cj];omega
        have yq:=R.sm.short r (eF zf);rw[aK,aR];omega
       ·rw[zg,gy,bC,hJ (by simpa using xk)];rfl
      ·have zq:r[j]=n:=by
        by_cases z:r[j]=n
        ·exact z
        ·exact absurd (by simp[z]) T
       refine cw_next zc (af rfl ⟨?_,rfl⟩);rw[zg];simp[zq]
     ·rintro zs S ya ⟨zd,rfl,rfl,rfl⟩
      rw[aK,cx];refine⟨L,_,rfl,.inl ⟨aj.of ae,λl xj=>?_⟩⟩;have ym:J≠L:=ar B yc;have xe:aw q (upd (upd q L (.lst ((r.filter λy=>!decide (y=n)).map V.str))) l (.tup ((r.filter λy=>!decide (y=n)).map V.str))):=(aA yc).trans (aA xj);have zm:J≠l:=ar (by rw[ab ym];exact B) xj
      refine⟨xe _ _ B,?_,cw_next zl ⟨_,rfl,ae,λb o u=>?_,?_⟩⟩
      ·have h1:=C.length
       have h2:(L2.without n (rest.take i)).length<=rest.length:=by unfold L2.without;rw[aK,cj];omega
       have yq:=R.sm.b3;rw[aR];omega
      ·rw[ab (ar u N)];exact xe _ _ (v b o u)
      ·have xr:L2.without n (rest.take (i+1))=L2.without n (rest.take i)++[r.filter λy=>!decide (y=n)]:=by rw[tk];unfold L2.without;rw[bC];rfl
       rw[xr];refine c5.append (vw C λb xs u=>?_) ?_
       ·rw[ab (aH u B)];exact xe _ _ u
       ·rw[ab (aQ zm)];exact ae
    ·rintro ys xa q ⟨yd,rfl,B,v,C⟩
     rw[yf.length,cx]at C;have lt:=jQ (jW e);refine⟨_,by rw[R.mm];exact lt,L2.without n rest,ys,k++[n],J,⟨_,rfl⟩,rfl,v _ _ ze,B,C,uv R.sm,yl,xq.trans v,?_,?_⟩
     ·have:=R.lim;rw[dA,ip];omega
     ·rw[R.eq,qr W e,U9]
      congr 1
      funext z
      simp
  ·refine af rfl ⟨c,_,rfl,.inl ⟨aj.of R.B2,λp yj=>?_⟩⟩
   rw[R.eq,qp (by simpa using W)]at U
   have e:k++[]=o:=c7 U;rw[eY]at e;subst e;exact zp p _ (R.same.free yj) (R.same.trans (aA yj)) ae
end eW
namespace eW
open L2
theorem boot_max:SR "max" = ih (.builtin "max"):=by decide +kernel
theorem boot_abs:SR "abs" = ih (.builtin "abs"):=by decide +kernel
inductive oB(K:Pw)(vs:List V)(H:Hp)(Q:VK)(E:XK):Prop
 |mk{a:Ph}{ns:List Int}{k:Int}(_:vs=[.ref a,.int k])(_:aj K H a (ns.map V.int))(_:0<=k)(_:k<=100)(_:ns.length<=63)(_:∀(p:Ph) (x y:Int),H p=none->0<=x->0<=y->y<4294967296->Q (.ref p) (upd H p (.lst [.int x,.int y]))):oB K vs H Q E
theorem r4:aZ ["_law_script","_law_k","_law_cell"] ["_law_script","_law_k"] (aF sx):=a8
theorem Gw{ns:al Int}(h:i<ns.length):∃z,(ns.map V.int)[i]?=ih (V.int z):=⟨ns[i],by rw[cR,bY h];rfl⟩
theorem HV(F:aP K "_law_pot" "_law_pot" sx f fd)(B:cP mg):aM P w K mg base ao 1 f fd ["_law_script","_law_k"] (oB K):=by
 refine F.bG r4 λQa A n s H vs Q E o h=>?_
 ·obtain @⟨a,ns,k,rfl,g,r,t,u,q⟩:=h
  intro X;refine⟨_,aq (bf 2 r4.nd ak)
   (aq (bQ (bx AL (pv 1) (bp ef (by rfl) B.len d3 (aa (pv 0) ag)) (bA _))
     (aE (bf 2 r4.nd (aV cX (pv 0) (pv 1)))) bZ)
   (aE (aU (d5 (aa (bp (D9 rfl) (by rfl) B.max boot_max (aa ak (aa (bE je (bp vK (by rfl) B.abs boot_abs (aa (pv 2) ag)) (bE rq ak ak)) ag)))
    (aa (bE fh (bE fh (bE j9 (bp vK (by rfl) B.abs boot_abs (aa (pv 2) ag)) ak) (bE n' ak (pv 1))) ak) ag)))))),?_⟩
  refine aX rfl rfl ⟨a,_,rfl,.inl g,_,_,rfl,rfl,_,rfl,?_⟩;have e:∀c:Int,∀p,H p=none->Q (.ref p) (upd H p (.lst [.int (if (if c<0 then -c else c) - 10 ^ (18:Int).toNat>0 then (if c<0 then -c else c) - 10 ^ (18:Int).toNat else 0),.int ((if c<0 then -c else c) % 2147483587+101 * k+3)])):=λc p b=>by
   refine q p _ _ b ?_ (by omega) (by omega)
   generalize (if c<0 then -c else c) - 10 ^ (18:Int).toNat=d;split <;> omega
  refine dX (λj=>?_) (λj=>?_)
  ·have l:k<((ns.map V.int).length:Int):=hH j
   rw[aK]at l;obtain⟨z,m⟩:=Gw (ns:=ns) (i:=k.toNat) (by omega)
   refine aX rfl rfl ⟨a,_,_,_,rfl,rfl,g,(by rw[show k=((k.toNat:Nat):Int) by omega];exact b6 m),?_⟩
   refine af rfl ⟨z,rfl,_,_,rfl,rfl,⟨by decide,by decide,by decide⟩,_,_,rfl,rfl,_,_,rfl,?_⟩
   refine af rfl ⟨z,rfl,_,_,rfl,rfl,(by show(0:Int)<2147483587;decide),_,rfl,_,_,rfl,rfl,.inl ⟨by decide,by decide⟩,_,_,rfl,rfl,_,_,rfl,rfl,cc,λp b=>e z p b⟩
  ·refine af rfl ⟨0,rfl,_,_,rfl,rfl,⟨by decide,by decide,by decide⟩,_,_,rfl,rfl,_,_,rfl,?_⟩
   refine af rfl ⟨0,rfl,_,_,rfl,rfl,(by show(0:Int)<2147483587;decide),_,rfl,_,_,rfl,rfl,.inl ⟨by decide,by decide⟩,_,_,rfl,rfl,_,_,rfl,rfl,cc,λp b=>e 0 p b⟩
inductive gn(vs:List V)(H:Hp)(Q:VK)(E:XK):Prop
 |mk{p:Ph}{m x y:Int}(_:vs=[.ref p,.int m])(_:H p=ih (.lst [.int x,.int y]))(_:0<=x)(_:0<=y)(_:y<4294967296)(_:0<m)(_:m<4611686018427387904)(_:∀(d x' y':Int),0<=d->d<m->0<=x'->0<=y'->y'<4294967296->Q (.int d) (upd H p (.lst [.int x',.int y']))):gn vs H Q E
theorem w8:aZ ["_law_pot_here","_law_many","_law_digit_here"] ["_law_pot_here","_law_many"] (aF l7):=a8
theorem qR(F:aP K "_law_digit" "_law_digit" l7 f fd):aM P w K mg base ao 1 f fd ["_law_pot_here","_law_many"] gn:=by
 refine F.bG w8 λQa A j s H vs Q E k h=>?_
 ·obtain @⟨p,m,x,y,rfl,c,d,e,g,a,l,q⟩:=h
  intro X;refine⟨_,aq (bQ (bx rS (aV cX (pv 0) ak) ak (bA _))
    (aq (bf 2 w8.nd (bE j9 (aV cX (pv 0) ak) (pv 1)))
    (aq (lY (bE Fe (aV cX (pv 0) ak) (pv 1)) (Am (pv 0) ak set_list))
    (aE (aU (pv 2))))) bZ)
   (aq (lY (bE j9 (bE fh (bE n' (aV cX (pv 0) ak) ak) ak) ak) (Am (pv 0) ak set_list))
   (aE (aU (bE j9 (bE FV (bE j9 (bE n' (aV cX (pv 0) ak) (aV cX (pv 0) ak)) ak) ak) (pv 1))))),?_⟩
  have b:aj K H p [.int x,.int y]:=aj.of c;refine af rfl ⟨p,_,0,_,rfl,rfl,b,rfl,_,_,rfl,rfl,_,rfl,?_⟩;refine dX (λi=>?_) (λi=>?_)
  ·refine af rfl ⟨p,_,0,_,rfl,rfl,b,rfl,_,rfl,_,_,rfl,rfl,a,?_⟩
   refine af rfl ⟨p,_,0,_,rfl,rfl,b,rfl,_,rfl,_,_,rfl,rfl,⟨a,by omega⟩,_,rfl,p,_,0,0,rfl,rfl,c,rfl,?_⟩
   refine af rfl ?_;exact q _ _ _ (uf _ (by omega)) (ug _ a) (Int.ediv_nonneg d (by omega)) e g
  ·refine af rfl ⟨p,_,1,_,rfl,rfl,b,rfl,_,_,rfl,rfl,.inr ⟨by decide,by decide⟩,_,_,rfl,rfl,_,_,rfl,rfl,(by show(0:Int)<2147483647;decide),_,rfl,p,_,1,1,rfl,rfl,c,rfl,?_⟩
   have h1:=uf (y * 39373+20011) (show(2147483647:Int)≠0 by decide)
   have h2:=ug (y * 39373+20011) (show(0:Int)<2147483647 by decide)
   refine af rfl (jF ae rfl (af rfl (jF ae rfl ⟨_,_,rfl,rfl,.inl ⟨Qs (by decide) h1,Qs h2 (by decide)⟩,_,_,rfl,rfl,(by show(0:Int)<2147483563;decide),_,_,rfl,rfl,⟨by decide,by decide⟩,_,rfl,_,_,rfl,rfl,a,?_⟩)))
   exact q _ x _ (uf _ (by omega)) (ug _ a) d h1 (by omega)
def bq(p:Ph)(H:Hp):Prop:= ∃x y:Int,H p=ih (.lst [.int x,.int y])/\0<=x/\0<=y/\y<4294967296
structure bh(p:Ph)(H Y:Hp):Prop where
 ok:bq p Y
 kp:∀b o,H b=ih o->b≠p->Y b=ih o
section
variable{q:Ph}{o:HO}
theorem bh.refl(h:bq p H):bh p H H:=⟨h,λ_ _ e _=>e⟩
theorem bh.trans(a:bh p H O)(b:bh p O H2):bh p H H2:=⟨b.ok,λc o e n=>b.kp c o (a.kp c o e n) n⟩
theorem bq.ne(h:bq p H)(a:H q=none):p≠q:=let ⟨_,_,e,_⟩:=h;ar e a
theorem bh.new(a:bh p H O)(c:O q=none):bh p H (upd O q o):=by
 refine⟨?_,λb u e n=>?_⟩
 ·obtain⟨x,y,e,r⟩:=id a.ok
  exact⟨x,y,by rw[ab (a.ok.ne c)];exact e,r⟩
 ·rw[ab (ar (a.kp b u e n) c)];exact a.kp b u e n
theorem bh.free(a:bh p H O)(b:O q=none):H q=none:=by
 cases e:H q with
 |none=>rfl
 |some u =>
  by_cases h:q=p
  ·subst h;obtain⟨_,_,z,_⟩:=a.ok;rw[z]at b;cases b
  ·rw[a.kp q u e h]at b;cases b
theorem bh.write(a:bh p H O)(c:H q=none)(d:p≠q):bh p H (upd O q o):=by
 refine⟨?_,λb u e n=>?_⟩
 ·obtain⟨x,y,e,r⟩:=id a.ok
  exact⟨x,y,by rw[ab d];exact e,r⟩
 ·rw[ab (ar e c)];exact a.kp b u e n
theorem cy{E:XK}(h:bq p H)(a:0<m)(c:m<4611686018427387904)(k:∀d Y,0<=d->d<m->bh p H Y->Q (.int d) Y):gn [.ref p,.int m] H Q E:=by
 obtain⟨x,y,e,f,g,i⟩:=h;exact⟨rfl,e,f,g,i,a,c,λd j l q r h1 h2 s=>k d _ q r ⟨⟨j,l,ae,h1,h2,s⟩,λb o z n=>by rw[ab n];exact z⟩⟩
end
theorem vx:∀a:al Nat,((a.map sign).map (·.length)).sum=a.length
 |[]=>rfl
 |c::a=>by
  have e:(sign c).length=1:=rfl;simp only[bV,ub,vx a,cf,e];omega
abbrev ja:Pd:= "abcdefghijklmnopqrstuvwxyz"
theorem vy{d:Int}(a:0<=d)(h1:d<26):∃c:Nat,cT ja.cps.toList d=ih c/\97<=c/\c<=122/\c=97+d.toNat:=by
 have all:∀i:Nat,i<26->ja.cps.toList[i]?=ih (97+i):=by decide +kernel
 refine⟨97+d.toNat,?_,by omega,by omega,rfl⟩
 rw[show d=((d.toNat:Nat):Int) by omega]
 exact b6 (all d.toNat (by omega))
inductive nZ(vs:List V)(H:Hp)(Q:VK)(E:XK):Prop
 |mk{p:Ph}{m:Nat}(_:vs=[.ref p,.int m])(_:bq p H)(_:m<=20)(_:∀(l:Ph) (ys:List Pd) (Y:Hp),H l=none->ys.length=m->(∀y∈ys,Nm y)->ys.Nodup->bh p H Y->Y l=ih (.lst (ys.map V.str))->Q (.ref l) Y):nZ vs H Q E
noncomputable abbrev oj:List Pd:=["_law_pot_here","_law_many","_law_letters","_law_found_here","_law_k","_law_size","_law_name","_law_some"]
theorem jb:aZ oj ["_law_pot_here","_law_many"] (aF jh):=a8
def Ja(s:QB):QD:=match s with|.Expr e _=>e|_=>.Constant .none 0 ⟨0,0,0,0⟩
def Kq(e:QD):QD:=match e with|.BinOp _ _ r _=>r|_=>.Constant .none 0 ⟨0,0,0,0⟩
abbrev NB(k:Nat):QB:=cH (Gv (cH (bD jh) 2)) k
abbrev Kr:TY:=ck (eb (e8 (NB 1)))
abbrev Ks:TY:=ck (Kq (e8 (NB 2)))
abbrev Kt:TY:=ck (Kp (eb (Ja (NB 3))))
theorem B4:bO oj (aF jh) ["_law_turn","_law_letters","_law_pot_here"] [none,ih 2,ih 0] Kr:=cL
theorem B5:bO oj (aF jh) ["_law_turn","_law_letters","_law_name"] [none,ih 2,ih 6] Ks:=cL
theorem B6:bO oj (aF jh) ["_law_one","_law_found_here"] [none,ih 3] Kt:=cL
theorem Fo{ye:Ta}(F:aP K "_law_names" "_law_names" jh f fd)(B:cP mg)(xb:aP K "_law_digit" "_law_digit" l7 fD ye)(yj:Binds K ye ["_law_pot_here","_law_many"] [])(zj:mg "_law_digit" = ih (.ref fD)) :
  aM P w K mg base ao 3 f fd ["_law_pot_here","_law_many"] nZ:=by
 have xk:aM P w K mg base ao 1 fD ye ["_law_pot_here","_law_many"] gn:=qR xb;refine F.bG jb λQa A xE s H vs Q E zB h=>?_
 ·obtain @⟨p,m,rfl,xt,zE,q⟩:=h
  have ze:aS 1 _:=zB.mono (by decide)
  intro X;refine⟨_,aq (fg (i:=2) jb.nd rfl (TC rfl) aY)
   (aq (fg (i:=3) jb.nd rfl (TC rfl) (d5 ag))
   (aq (e7 eP rfl (ir rfl B.range (aa (pv 1) ag)) (a4 4 jb.nd)
    (aq (bf 5 jb.nd (bE fh ak (gX xk ze rfl zj xb.kp yj .nil b7 (aa (pv 0) (aa (aV cX (d5 (aa ak (aa ak (aa ak ag))))
      (gX xk ze rfl zj xb.kp yj .nil b7 (aa (pv 0) (aa ak ag)))) ag)))))
    (aq (fg (i:=6) jb.nd rfl (TC rfl) (gH PySem.F.plainAttrs_str PySem.F.slot_str_join PySem.F.type_str_join Ga aY
      (aa (cY rfl B4 (ir rfl B.range (aa (pv 5) ag)) (λs H fp=>⟨a4 0 B4.nd,dV,aV Ar (pv 1) (gX xk ze rfl zj xb.kp yj .nil b7 (aa (pv 2) (aa ak ag))) (λ_ _=>rfl)⟩)) ag)))
    (aq (bf 7 jb.nd (bE j' (d5 (aa (pv 6) ag)) (cY rfl B5 (ir rfl B.range (aa (pv 1) ag)) (λs H fp=>⟨a4 0 B5.nd,dV,
        bE uG (bE uG (gj Hz (pv 2) gk (gm ak)) (aV Ar (pv 1) (pv 0))) aY⟩))))
    (aE (cB (gH lg ud ue lz (pv 3) (aa (aV cX (cY rfl B6 (d4 (pv 7)) (λs H fp=>⟨a4 0 B6.nd,fY (bx (uO K rfl) (pv 0) (pv 1) rfl),pv 0⟩)) ak) ag))))))))
   (aE (aU (pv 3))))),?_⟩
  refine⟨bw _,λl yb=>?_⟩;have xf:p≠l:=xt.ne yb;have S:((m:Int)).toNat=m:=mX m;refine⟨_,rfl,(m:Int),rfl,by omega,by omega,jV (λi σ O=>∃(ys:al Pd) (yk zk xl yl:am V),σ=[a2 p,ih (.int m),ih (.str ja),a2 l,yk,zk,xl,yl]/\ys.length=i/\(∀y∈ys,Nm y)/\ys.Nodup/\bh p H O/\O l=bi (ys.map V.str))
   ⟨[],none,none,none,none,rfl,rfl,(λy t=>by simp at t),jO,(bh.refl xt).new yb,ae⟩ ?_ ?_⟩
  ·rintro i σ O hi ⟨ys,yk,zk,xl,yl,rfl,xa,yf,zf,L,xg⟩
   rw[S]at hi;refine af rfl ⟨eK,λa zl=>af rfl ?_⟩;have xx:a≠p:=aQ (L.ok.ne zl);refine cy (p:=p) (m:=3) ((bh.refl L.ok).new zl).ok (by decide) (by decide) λd H2 yt zt xm=>?_
   obtain⟨T,yx,zx,yE⟩:∃T:Int,cT [V.int 1,V.int 2,V.int 8] d=ih (V.int T)/\0<T/\T<=8:=by
    have:d=0\/d=1\/d=2:=by omega
    rcases this with rfl|rfl|rfl
    ·exact⟨1,rfl,by decide,by decide⟩
    ·exact⟨2,rfl,by decide,by decide⟩
    ·exact⟨8,rfl,by decide,by decide⟩
   refine iR (xm.kp a _ ae xx) yx ?_;refine cy (p:=p) (m:=T) xm.ok zx (by omega) λe ym xF xu zb=>⟨_,_,rfl,rfl,?_⟩
   have yu:bh p O ym:=(((bh.refl L.ok).new zl).trans xm).trans zb;have xy:ym l=bi (ys.map V.str):=yu.kp l _ xg (aQ xf);refine⟨rfl,_,rfl,1+e,rfl,by omega,by omega,λU yg=>?_⟩
   have zo:p≠U:=zb.ok.ne yg;refine qm (λi zs n v=>∃(r:al Nat) (u:am V),zs=(r.map sign).map V.str/\r.length=i/\(∀c∈r,97<=c/\c<=122)/\n=[u,ih (.str ja),a2 p]/\bh p ym v/\v U=bi zs)
    ⟨[],none,rfl,rfl,(λc D=>by simp at D),rfl,(bh.refl zb.ok).new yg,ae⟩ (λi zs n v ac=>by obtain⟨_,_,_,_,_,_,_,z⟩:=ac;exact z) ?_ ?_
   ·rintro j zs n v M ⟨r,u,rfl,ya,zg,rfl,W,zm⟩
    refine aX rfl rfl (cy (p:=p) (m:=26) W.ok (by decide) (by decide) λd G yt zt zu=>?_)
    obtain⟨c,D,xv,yv,_⟩:=vy yt zt;have yy:G U=_:=zu.kp U _ zm (aQ zo);refine⟨ja,d,c,rfl,rfl,(by rw[aR];decide +kernel),D,yy,?_,cw_next M ⟨r++[c],_,?_,?_,?_,rfl,?_,ae⟩⟩
    ·rw[aK,aK,ya,aR];omega
    ·rw[bC,bC];rfl
    ·rw[dA,ya];rfl
    ·intro x xc
     rcases cQ.mp xc with h|h
     ·exact zg x h
     ·have:x=c:=by simpa using h
      rw[this];exact⟨xv,yv⟩
    ·exact(W.trans zu).write ((bh.refl zb.ok).free yg) zo
   ·rintro zs n v ⟨r,u,rfl,ya,zg,rfl,W,zm⟩
    have zy:((r.map sign).map (·.length)).sum=r.length:=by
     exact vx r
    refine⟨("" : Pd),U,r.map sign,rfl,rfl,.inl (aj.of zm),?_,?_⟩
    ·have:(WJ ("" : Pd))=0:=rfl
     rw[zy,this,ya];omega
    rw[DT];generalize yn:(⟨r.toArray⟩:Pd)=g;have xe:Nm g:=by
     have yF:g.length=r.length:=by rw[<-yn];show r.toArray.size=_;simp
     refine⟨by omega,by omega,λc D=>zg c ?_⟩
     rw[<-yn]at D;simpa using D
    have xC:bh p O v:=yu.trans W;have xp:v l=bi (ys.map V.str):=W.kp l _ xy (aQ xf);refine af rfl ⟨gO,λN yp=>?_⟩;have zp:=xC.new (o:=.lst [V.str g]) yp;have xh:upd v N (.lst [V.str g]) l=bi (ys.map V.str):=by rw[ab (ar xp yp)];exact xp
    have yh:upd v N (.lst [V.str g]) N=bi [V.str g]:=ae;generalize upd v N (.lst [V.str g])=G at zp xh yh⊢;refine af rfl ⟨(m:Int),rfl,by omega,by omega,λI zh=>?_⟩
    refine qm (λi zs n yc=>∃u:am V,zs=((SY i).map λj=>Tc g none (ih 6)++sign (97+j)++("q" : Pd)).map V.str/\n=[u,ih (.str ja),ih (.str g)]/\yc=upd G I (.lst zs))
     ⟨none,rfl,rfl,rfl⟩ (λi zs n yc ⟨_,_,_,z⟩=>by rw[z];exact ae) ?_ ?_
    ·rintro j zs n yc M ⟨u,rfl,rfl,rfl⟩
     rw[S]at M;obtain⟨c,D,xv,yv,xz⟩:=vy (d:=0+(j:Int)) (by omega) (by omega)
     have xw:c=97+j:=by rw[xz];omega
     have zF:(Tc g none (ih 6)).length<=6:=uN g;refine aX rfl rfl ⟨g,rfl,by have:=xe.hi;omega,_,rfl,_,rfl,ja,_,c,rfl,rfl,(by rw[aR];decide +kernel),D,_,_,rfl,rfl,?_,_,_,rfl,rfl,?_,ae,?_,cw_next (by rw[S];exact M) ⟨_,?_,rfl,?_⟩⟩
     ·show _+1<=Pk;rw[aR];omega
     ·have xu:(Tc g none (ih 6)++(⟨#[c]⟩:Pd)).length=(Tc g none (ih 6)).length+1:=by
       show(_ ++ #[c]:Array Nat).size=_;rw[tR];rfl
      have yC:(("q" : Pd)).length=1:=by decide +kernel
      show(Tc g none (ih 6)++(⟨#[c]⟩:Pd)).length+_<=Pk;rw[xu,yC,aR];omega
     ·rw[aK,aK,CJ,aR];omega
     ·rw[List.range_succ,bC,bC,xw];rfl
     ·rw[e5]
    ·rintro zs n yc ⟨u,rfl,rfl,rfl⟩
     rw[S];generalize xi:(SY m).map (λj=>Tc g none (ih 6)++sign (97+j)++("q" : Pd))=k;have yz:k.Nodup:=by
      rw[<-xi];refine Wb _ (λa b zz h=>zz ?_) U';have:=E6 h;omega
     have yw:∀y∈k,Nm y:=by
      intro y t;rw[<-xi]at t;obtain⟨j,M,rfl⟩:=ba.mp t;have:=iZ.mp M;exact Gb xe.az ⟨by omega,by omega⟩
     have zw:k.length=m:=by rw[<-xi,aK,CJ]
     have xA:upd G I (.lst (k.map V.str)) N=bi [V.str g]:=by rw[ab (ar yh zh)];exact yh
     have xq:upd G I (.lst (k.map V.str)) l=bi (ys.map V.str):=by rw[ab (ar xh zh)];exact xh
     have yA:=zp.new (o:=.lst (k.map V.str)) zh;refine⟨N,I,_,_,rfl,rfl,xA,ae,by rw[aK];show 1+k.length<=Pk;rw[aR];omega,λY yq=>?_⟩
     have zC : [V.str g]++k.map V.str=(g::k).map V.str:=rfl;rw[zC];have zq:∀y∈g::k,Nm y:=λy t=>by
      rcases bU.mp t with z|z
      ·rw[z];exact xe
      ·exact yw y z
     have xo:∃y∈g::k,y ∉ ys:=by
      obtain⟨y0,yi,zi⟩:=ry (found:=ys) yz (by omega)
      exact⟨y0,bL _ yi,zi⟩
     have xr:=yA.new (o:=.lst ((g::k).map V.str)) yq;have J:upd (upd G I (.lst (k.map V.str))) Y (.lst ((g::k).map V.str)) l=bi (ys.map V.str):=by rw[ab (ar xq yq)];exact xq
     have R:upd (upd G I (.lst (k.map V.str))) Y (.lst ((g::k).map V.str)) Y=bi ((g::k).map V.str):=ae;have zA:(g::k).length=m+1:=by rw[cf,zw]
     generalize upd (upd G I (.lst (k.map V.str))) Y (.lst ((g::k).map V.str))=xd at xr J R⊢;generalize g::k=cands at zq xo R zA⊢;refine af rfl ⟨.inl ⟨rfl,_,aj.of J⟩,af rfl ⟨Y,rfl,⟨_,aj.of R⟩,λyd za=>?_⟩⟩;refine fX (xs:=cands.map V.str) (λi zs n zd=>∃u:am V,zs=((cands.take i).filter (λy=>!decide (y∈ys))).map V.str/\n=[u,a2 l]/\zd=upd xd yd (.lst zs))
      ⟨none,rfl,rfl,rfl⟩ (λi zs n zd ⟨_,_,_,z⟩=>by rw[z];exact⟨ae,aj.of (by rw[ab (ar R za)];exact R)⟩) ?_ ?_
     ·rintro j x zs n zd xc ⟨u,rfl,rfl,rfl⟩
      rw[cR]at xc;obtain⟨y,t,rfl⟩:=fU.mp xc;have yr:j<(cands.map V.str).length:=by rw[aK];exact(bT.mp t).1
      have tk:cands.take (j+1)=cands.take j++[y]:=by rw[cK,t];rfl
      have xj:(upd xd yd (.lst (((cands.take j).filter (λy=>!decide (y∈ys))).map V.str))) l=bi (ys.map V.str):=by rw[ab (ar J za)];exact J
      refine aX rfl rfl ⟨l,_,rfl,.inl (aj.of xj),rfl,gz _,_,rfl,?_⟩;rw[aI rfl,hO];refine dX (λxn=>?_) (λxn=>?_)
      ·refine af rfl ⟨ae,?_,cw_next yr ⟨_,?_,rfl,?_⟩⟩
       ·have h1:=ee (λy=>!decide (y∈ys)) (cands.take j)
        have h2:(cands.take j).length<=cands.length:=by rw[cj];omega
        rw[aK,aR];omega
       ·rw[tk,gy,bC,i2,aI xn];rfl
       ·rw[e5]
      ·refine cw_next yr ⟨_,?_,rfl,rfl⟩
       rw[tk,gy,i2,ax xn,nj,eY]
     ·rintro zs n zd ⟨u,rfl,rfl,rfl⟩
      rw[aK,cx];obtain⟨y0,yi,zi⟩:=xo;have yo:y0∈cands.filter (λy=>!decide (y∈ys)):=cU.mpr ⟨yi,by simpa using zi⟩
      cases zv:cands.filter (λy=>!decide (y∈ys)) with
      |nil=>rw[zv]at yo;simp at yo
      |cons C zr =>
       have xB:C∈cands.filter (λy=>!decide (y∈ys)):=by rw[zv];exact bJ
       obtain⟨zc,zn⟩:=cU.mp xB;have yB:C ∉ ys:=by simpa using zn
       have xj:(upd xd yd (.lst ((C::zr).map V.str))) l=bi (ys.map V.str):=by rw[ab (ar J za)];exact J
       have xD:bh p H (upd xd yd (.lst ((C::zr).map V.str))):=(L.trans xr).new za;refine jF ae (show cT ((C::zr).map V.str) ((0:Nat):Int)=ih (V.str C) from b6 rfl) ?_;refine⟨l,_,_,rfl,rfl,xj,?_,?_⟩
       ·rw[aK,aR];omega
       ·refine⟨ys++[C],_,_,_,_,rfl,by rw[dA,xa];rfl,?_,?_,?_,?_⟩
        ·intro y t
         rcases cQ.mp t with h|h
         ·exact yf y h
         ·have:y=C:=by simpa using h
          rw[this];exact zq C zc
        ·rw[gU]
         exact⟨zf,by simp,λa yD b zD=>(dR.mp zD) ▸ λh=>yB (h ▸ yD)⟩
        ·exact xD.write yb xf
        ·rw[ae,bC];rfl
  ·rintro σ O ⟨ys,yk,zk,xl,yl,rfl,xa,yf,zf,L,xg⟩
   rw[S]at xa;exact af rfl (q l ys O yb xa yf zf L xg)
end eW
namespace eW
open L2 W HT
theorem DE(K:Tx)(h:X.K=K):c8 X (.type "list") (λxs H Q=>∃p ys,xs=[.ref p]/\(aj K H p ys\/aO K H p ys) /\∀l,H l=none->Q (.ref l) (upd H l (.lst ys))):=by subst h;exact ll
theorem DF(K:Tx)(h:X.K=K)(a:X.calm=true):c8 X (.builtin "any") (λxs H Q=>∃(p:Ph) (bs:al Bool),xs=[.ref p]/\aj K H p (bs.map V.bl)/\Q (.bl (bs.any id)) H):=by subst h;exact qz a
theorem EA(K:Tx)(h:X.K=K):kR X (Be K):=by subst h;exact iz
def ft(av:Ph->Prop)(H:Hp)(vs:List V)(rows:List (List Pd)):Prop:=S2 (λy r=>∃a,y=V.ref a/\av a/\H a=ih (.lst (r.map V.str))) vs rows
theorem jX{av:Ph->Prop}{H:Hp}:∀{vs:al V}{rows:al (List Pd)}{i:Nat}{v:V},ft av H vs rows->vs[i]?=ih v ->∃a r,v=V.ref a/\rows[i]?=ih r/\av a/\H a=bi (r.map V.str)
 |_,_,i,v,.nil,e=>by simp at e
 |_,_,0,v,.cons p _,e=>by
  obtain⟨a,rfl,n,q⟩:=p;simp at e;subst e;exact⟨a,_,rfl,rfl,n,q⟩
 |_,_,i+1,v,.cons _ t,e=>by
  obtain⟨a,r,b,c,n,q⟩:=jX (i:=i) t (by simpa using e)
  exact⟨a,r,b,by simpa using c,n,q⟩
theorem iq{b:Ph->Prop}(h:ft av H vs rows)(f:∀a xs,av a->H a=bi xs->b a/\Y a=bi xs):ft b Y vs rows:=
 Paired.imp' (λ_ _ c=>by obtain⟨a,e,n,q⟩:=c;exact ⟨a,e,(f a _ n q).1,(f a _ n q).2⟩) h
theorem qj(h:ft av H vs rows)(n:av a)(q:H a=bi (r.map V.str)):ft av H (vs++[.ref a]) (rows++[r]):=gi h ⟨a,rfl,n,q⟩
theorem i4(h:ft av H vs rows):vs.length=rows.length:=cw h
theorem hY(h:Nm x):PX x=true:=by
 unfold PX;rw[<-Array.all_toList,jM];intro c a;have:=(h.az c a).2;exact a' (by omega)
theorem lM(H:Hp):∀xs:al Pd,b5 H (xs.map V.str) (xs.map S4)
 |[]=>.nil
 |x::xs=>.cons (.str x) (lM H xs)
theorem lN:∀{xs:al Pd},(∀x∈xs,Nm x)->SS (xs.map S4)=true
 |[],_=>rfl
 |x::xs,h=>by
  show(PX x&&SS (xs.map S4))=true;rw[hY (h x bJ),lN λy a=>h y (bL _ a)];rfl
theorem nz:∀xs:al Pd,Pz (xs.map S4)=0
 |[]=>rfl
 |x::xs=>by rw[bV];simp only[Pz,Te,nz xs,Nat.max_self]
theorem ne_nil{xs:al Pd}(c:H a=bi (xs.map V.str))(d:H b=bi [])(e:∀x∈xs,Nm x)(q:Q (.bl (!xs.isEmpty)) H):Bm (.ref a) (.ref b) H Q:=by
 refine⟨.list (xs.map S4),.list [],.lst c (lM _ _),.lst d .nil,lN e,rfl,by show Pz _+1<=60;rw[nz];decide,?_⟩
 cases xs with
 |nil=>exact q
 |cons x xs=>exact q
theorem eq_nil{xs:al Pd}(c:H a=bi (xs.map V.str))(d:H b=bi [])(e:∀x∈xs,Nm x)(q:Q (.bl xs.isEmpty) H):Bl (.ref a) (.ref b) H Q:=by
 refine⟨.list (xs.map S4),.list [],.lst c (lM _ _),.lst d .nil,lN e,rfl,by show Pz _+1<=60;rw[nz];decide,?_⟩
 cases xs with
 |nil=>exact q
 |cons x xs=>exact q
theorem lO(xs:al V)(k:Nat):d9 xs (ih (k:Int)) none=xs.drop k:=by
 unfold d9;rw[HT.EY,HT.F2]
 by_cases h:k<=xs.length
 ·rw[Vp h,uh (by rw[tI];omega)]
 ·rw[Vj (by omega),uc,PK (by omega)];simp
def busy(rest:List (List Pd))(x:Pd):Bool:=rest.any λo=>decide (x∈o.drop 1)
def cJ(all:List (List Pd)):List (List Pd)->List Pd
 |[]=>[]
 |[]::rest=>cJ all rest
 |(x::_)::rest=>if busy all x then cJ all rest else x::cJ all rest
theorem nH{n:Pd}:∀{k:Nat}{rest:al (List Pd)},c4 k rest n=none ↔ ∀r∈rest,n∈r->r.head?=ih n
 |k,[]=>by simp[c4]
 |k,[]::rest=>by
  show c4 (k+1) rest n=none ↔ _;rw[nH (k:=k+1) (rest:=rest)];simp
 |k,(x::r)::rest=>by
  show(if n∈x::r/\x≠n then ih (k,x) else c4 (k+1) rest n)=none ↔ _
  by_cases h:n∈x::r/\x≠n
  ·rw[aI h]
   constructor
   ·intro z;cases z
   ·intro z
    have:=z _ bJ h.1;exact absurd (by simpa using this) h.2
  ·rw[ax h,nH (k:=k+1) (rest:=rest)]
   constructor
   ·intro z q hq a
    rcases bU.mp hq with rfl|hq
    ·by_cases e:x=n
     ·rw[e];rfl
     ·exact absurd ⟨a,e⟩ h
    ·exact z q hq a
   ·exact λz q hq=>z q (bL _ hq)
theorem wm{all:al (List Pd)}(b:∀r∈all,r.Nodup)(x:Pd):busy all x=false ↔ c4 0 all x=none:=by
 rw[nH];unfold busy;rw[Cq]
 constructor
 ·intro h q c hx
  have h1:=h q c;cases q with
  |nil=>simp at hx
  |cons y t =>
   rcases bU.mp hx with rfl|hx
   ·rfl
   ·exact absurd (by simpa using hx) h1
 ·intro h r a
  cases r with
  |nil=>simp
  |cons y t =>
   intro hx;have hx:x∈t:=by simpa using hx
   obtain rfl:y=x:=by simpa using h _ a (bL _ hx)
   exact(d0.mp (b _ a)).1 hx
theorem qs{all:al (List Pd)}(a:∀r∈all,r.Nodup):∀rest:al (List Pd),(cJ all rest).head?=gB all rest
 |[]=>rfl
 |[]::rest=>qs a rest
 |(x::t)::rest=>by
  show(if busy all x then cJ all rest else x::cJ all rest).head?=if (c4 0 all x).isNone then ih x else gB all rest;cases b:busy all x with
  |false=>rw[(wm a x).mp b];rfl
  |true =>
   have c:(c4 0 all x).isNone=false:=by
    cases z:c4 0 all x with
    |none=>rw[(wm a x).mpr z]at b;cases b
    |some _=>rfl
   rw[c];exact qs a rest
theorem lx(all:al (List Pd))(r:al Pd):∀rest:al (List Pd),cJ all (rest++[r])=cJ all rest++cJ all [r]
 |[]=>rfl
 |[]::rest=>lx all r rest
 |(x::t)::rest=>by
  show(if busy all x then cJ all (rest++[r]) else x::cJ all (rest++[r]))=(if busy all x then cJ all rest else x::cJ all rest)++cJ all [r];rw[lx all r rest];split <;> rfl
theorem qC(all:al (List Pd)):∀rest:al (List Pd),(cJ all rest).length<=rest.length
 |[]=>aN _
 |[]::rest=>PV (qC all rest)
 |(x::t)::rest=>by
  have:=qC all rest;show(if busy all x then cJ all rest else x::cJ all rest).length<=rest.length+1;split
  ·omega
  ·rw[cf];omega
theorem nI{all:al (List Pd)}{n:Pd}:∀{rest:al (List Pd)},n∈cJ all rest ->∃r∈rest,n∈r
 |[],h=>by simp[cJ]at h
 |[]::rest,h=>let ⟨r,a,e⟩:=nI (rest:=rest) h;⟨r,bL _ a,e⟩
 |(x::t)::rest,h=>by
  have h:n∈(if busy all x then cJ all rest else x::cJ all rest):=h;split at h
  ·obtain⟨r,a,e⟩:=nI (rest:=rest) h
   exact⟨r,bL _ a,e⟩
  ·rcases bU.mp h with rfl|h
   ·exact⟨_,bJ,bJ⟩
   ·obtain⟨r,a,e⟩:=nI (rest:=rest) h
    exact⟨r,bL _ a,e⟩
theorem uT(h:∀r∈rest,r.Nodup):∀r∈L2.without n rest,r.Nodup:=by
 intro r a;obtain⟨q,b,rfl⟩:=ba.mp a;exact(h q b).filter _
structure Bv(H:Hp)(rows:List (List Pd))(l fa:Ph)(m:Nat)(σ:St)(O:Hp)(rest:List (List Pd))(lv:List V)(cG:List Pd)(la:Ph):Prop where
 st:∃v3:Option V,σ=[ih (.ref l),ih (.ref la),ih (.ref fa),v3]
 mm:m=total rest
 sV:O la=ih (.lst lv)
 rr:ft (λa=>a≠fa) O lv rest
 ne:la≠fa
 Lz:O fa=ih (.lst (cG.map V.str))
 sm:Small rest
 nd:∀r∈rest,r.Nodup
 same:aw H O
 lim:cG.length+total rest<=1000
 eq:b' (total rows) rows=(b' (total rest) rest).map (cG ++ ·)
noncomputable abbrev mO:List Pd:=["_law_rows","_law_left","_law_found_here","_law_free"]
theorem mu:aZ mO ["_law_rows"] (aF gW):=a8
def EB(s:QB):QD:=match s with|.While t _ _ _=>t|_=>.Constant .none 0 ⟨0,0,0,0⟩
def Ay(e:QD):QD:=match e with|.ListComp _ (⟨_,_,i::_,_⟩::_) _ _=>i|_=>.Constant .none 0 ⟨0,0,0,0⟩
def HW(e:QD)(i:Nat):QD:=match e with|.BoolOp _ es _=>es.getD i (.Constant .none 0 ⟨0,0,0,0⟩)|_=>.Constant .none 0 ⟨0,0,0,0⟩
def Bw(e:QD):QD:=match e with|.UnaryOp _ x _=>x|_=>.Constant .none 0 ⟨0,0,0,0⟩
noncomputable abbrev sW:QB:=cH (bD gW) 2
noncomputable abbrev eA:QD:=e8 (cH (bD gW) 0)
abbrev eB:QD:=eb (EB sW)
noncomputable abbrev eC:QD:=e8 (cH (lF sW) 0)
abbrev eD:QD:=eb (Bw (HW (Ay eC) 1))
noncomputable abbrev eE:QD:=e8 (cH (lF sW) 3)
theorem B7:bO mO (aF gW) ["_law_row"] [none] (ck eA):=cL
theorem B8:bO mO (aF gW) ["_law_row"] [none] (ck eB):=cL
theorem B9:bO mO (aF gW) ["_law_row","_law_left"] [none,ih 1] (ck eC):=cL
theorem LA:bO ["_law_row","_law_left"] (relabel (ck eC) env) ["_law_other","_law_row"] [none,ih 0] (ck eD):=nest rfl (by decide +kernel) (by decide +kernel) rfl (by decide +kernel) (by decide +kernel)
theorem LB:(["_law_other","_law_row"]:al Pd).Nodup:=by decide +kernel
theorem B':bO mO (aF gW) ["_law_row","_law_free"] [none,ih 3] (ck eE):=cL
theorem LC:bO ["_law_row","_law_free"] (relabel (ck eE) env) ["_law_name","_law_free"] [none,ih 1] (ck (AY eE)):=nest rfl (by decide +kernel) (by decide +kernel) rfl (by decide +kernel) (by decide +kernel)
theorem LD:(["_law_name","_law_free"]:al Pd).Nodup:=by decide +kernel
inductive oU(vs:List V)(H:Hp)(Q:VK)(E:XK):Prop
 |mk{l:Ph}{ws:List V}{rows:List (List Pd)}(_:vs=[.ref l])(_:H l=ih (.lst ws))(_:ft (λ_=>True) H ws rows)(_:Small rows)(_:(∀r∈rows,r.Nodup))(_:(b' (total rows) rows=none ->∀Y,aw H Y->Q .aJ Y))(_:(∀o,b' (total rows) rows=ih o ->∀p Y,H p=none->aw H Y->Y p=ih (.lst (o.map V.str))->Q (.ref p) Y)):oU vs H Q E
theorem Jb(F:aP K "_law_merged" "_law_merged" gW f fd)(B:cP mg):aM P w K mg base ao 1 f fd ["_law_rows"] oU:=by
 refine F.bG mu λQa A zG s H vs Q E zo h=>?_
 ·obtain @⟨l,ws,rows,rfl,zw,xx,xk,yz,xE,yE⟩:=h
  have xp:=zo.units;intro X;refine⟨_,aq (fg (i:=1) mu.nd rfl (TC rfl) (cY rfl B7 (d4 (pv 0)) (λs H fp=>⟨a4 0 B7.nd,dV,dU (DE K rfl) rfl B.list boot_list (aa (pv 0) ag)⟩)))
   (aq (bf 2 mu.nd (d5 ag))
   (aq (qF eP (lG (bp (qz rfl) rfl B.any boot_any (aa (cY rfl B8 (d4 (pv 1)) (λs H fp=>⟨a4 0 B8.nd,dV,fZ (kc xp) (pv 0) (d5 ag) (bA _)⟩)) ag)) (λ_=>rfl))
    (aq (fg (i:=3) mu.nd rfl (TC rfl) (cY rfl B9 (d4 (pv 1)) (λs H fp=>⟨wO (i:=0) B9.nd rfl (TC rfl),
      fY (PW.pt (pw_and (bx (kc xp) (pv 0) (d5 ag) (bA _)) (pw_and1 (eU (eT (bp (DF K rfl rfl) rfl B.any boot_any (aa (cY rfl LA (vf K rfl (pv 1)) (λs H fp=>⟨a4 0 LB,dV,fZ (lR K rfl) (aV (qx K rfl) (pv 1) ak) (gj (EA K rfl) (pv 0) (gm ak) gk) rfl⟩)) ag))))))),
      aV (qx K rfl) (pv 0) ak (λ_ _=>rfl)⟩)))
    (aq (bQ (bx (rx xp) (pv 3) (d5 ag) (bA _)) (aE (aU gF)) bZ)
    (aq (cB (gH lg ud ue lz (pv 2) (aa (aV cX (pv 3) ak) ag)))
    (aE (fg (i:=1) mu.nd rfl (TC rfl) (cY rfl B' (d4 (pv 1)) (λs H fp=>⟨a4 0 B'.nd,dV,
      cY rfl LC (vf K rfl (pv 0)) (λs H fp=>⟨a4 0 LD,fY (bx jk (pv 0) (aV (qx K rfl) (pv 1) ak) (bA _)),pv 0⟩)⟩))))))))
   (aE (aU (pv 2))))),?_⟩
  refine af rfl ⟨l,rfl,⟨_,aj.of zw⟩,λyi yq=>?_⟩;refine fX (xs:=ws) (λi ys g O=>∃C:am V,g=[C]/\O yi=bi ys/\aw H O/\ft (λa=>a≠yi) O ys (rows.take i)) ⟨none,rfl,ae,aA yq,.nil⟩ (λi ys g O ac=>by obtain⟨_,_,T,U,_⟩:=ac;exact ⟨T,aj.of (U _ _ zw)⟩) ?_ ?_
  ·rintro i x ys g O I ⟨C,rfl,h1,yg,ye⟩
   obtain⟨a,r,rfl,L,_,W⟩:=jX xx I;have S:i<ws.length:=(bT.mp I).1;have tk:rows.take (i+1)=rows.take i++[r]:=by rw[cK,L];rfl
   refine af rfl ⟨a,_,rfl,.inl (aj.of (yg _ _ W)),λc xa=>?_⟩;have yp:=aA (o:=.lst (r.map V.str)) xa;have xt:c≠yi:=aQ (ar h1 xa);refine⟨yp _ _ h1,?_,cw_next S ⟨_,rfl,ae,λb o d=>?_,?_⟩⟩
   ·have h2:=i4 ye
    have xb:=xk.b3;rw[cj]at h2;rw[aR];omega
   ·rw[ab (ar d yq)];exact yp _ _ (yg b o d)
   ·rw[tk]
    refine qj (iq ye λb xs D d=>⟨D,by rw[ab D];exact yp _ _ d⟩) xt ?_
    rw[ab xt];exact ae
  ·rintro zz g O ⟨C,rfl,h1,yg,ye⟩
   rw[i4 xx,cx]at ye;refine⟨bw _,λk zi=>?_⟩;have zp:=aA (o:=.lst []) zi;have zq:H k=none:=yg.free zi;refine⟨λm σ H2=>∃rest q v M,Bv H rows l k m σ H2 rest q v M,⟨_,rows,zz,[],yi,⟨none,rfl⟩,rfl,zp _ _ h1,iq ye λb xs D d=>⟨ar d zi,zp _ _ d⟩,ar h1 zi,ae,xk,yz,yg.trans zp,by have:=nt xk.short;have:=xk.b3;simp only[jN];omega,by cases b' (total rows) rows <;> rfl⟩,?_⟩
   rintro m σ H2 ⟨rest,q,v,M,R⟩;obtain⟨yH,rfl⟩:=R.st;refine af rfl ⟨M,rfl,⟨_,aj.of R.sV⟩,λyx yt=>?_⟩;refine fX (xs:=q) (λi ys g ya=>∃C:am V,g=[C]/\ys=((rest.take i).map λr=>!r.isEmpty).map V.bl/\ya yx=bi ys/\aw H2 ya) ⟨none,rfl,rfl,ae,aA yt⟩ (λi ys g ya ac=>by obtain⟨_,_,_,T,U⟩:=ac;exact ⟨T,aj.of (U _ _ R.sV)⟩) ?_ ?_
   ·rintro i x ys g ya I ⟨C,rfl,rfl,xb,yb⟩
    obtain⟨a,r,rfl,L,_,W⟩:=jX R.rr I;have S:i<q.length:=(bT.mp I).1;have tk:rest.take (i+1)=rest.take i++[r]:=by rw[cK,L];rfl
    have ze:=eF L;refine af rfl ⟨bw _,λz zg=>?_⟩;have p:=aA (o:=.lst []) zg;refine ne_nil (p _ _ (yb _ _ W)) ae (R.sm.nm r ze) ?_;refine⟨p _ _ xb,?_,cw_next S (af rfl ⟨by rw[tk,bC,bC];rfl,ae,λb o d=>by rw[ab (ar d yt)];exact p _ _ (yb b o d)⟩)⟩
    have xd:=R.sm.b3;rw[aK,aK,cj,aR];omega
   ·rintro bs g ya ⟨C,rfl,rfl,xb,yb⟩
    rw[i4 R.rr,cx]at xb;refine⟨yx,_,rfl,aj.of xb,_,rfl,?_⟩;have xA:((rest.map λr=>!r.isEmpty).any id)=rest.any λr=>!r.isEmpty:=by rw[tS];rfl
    rw[xA];have xe:=yb _ _ R.sV;have yl:=yb _ _ R.Lz;have xf:ft (λa=>a≠k) ya q rest:=iq R.rr λb xs D d=>⟨D,yb _ _ d⟩;have zt:=R.same.trans yb;refine dX (λyk=>?_) (λyk=>?_)
    ·refine⟨λyA Y=>∃zx,zx<m /\∃rest q v M,Bv H rows l k zx yA Y rest q v M,λ_ _ z=>z,?_⟩
     refine af rfl ⟨M,rfl,⟨_,aj.of xe⟩,λyd zm=>?_⟩;refine fX (xs:=q) (λi ys g zb=>∃C:am V,g=[C,a2 M]/\ys=(cJ rest (rest.take i)).map V.str/\zb yd=bi ys/\aw ya zb) ⟨none,rfl,rfl,ae,aA zm⟩ (λi ys g zb ac=>by obtain⟨_,_,_,T,U⟩:=ac;exact ⟨T,aj.of (U _ _ xe)⟩) ?_ ?_
     ·rintro i x ys g zb I ⟨C,rfl,rfl,xd,J⟩
      obtain⟨a,r,rfl,L,_,W⟩:=jX xf I;have S:i<q.length:=(bT.mp I).1;have tk:rest.take (i+1)=rest.take i++[r]:=by rw[cK,L];rfl
      have ze:=eF L;have xr:=J _ _ W;refine af rfl ⟨bw _,λz zg=>?_⟩;have p:=aA (o:=.lst []) zg;refine ne_nil (p _ _ xr) ae (R.sm.nm r ze) (af rfl ?_);have za:=p _ _ xd;cases r with
      |nil=>exact cw_next S (af rfl ⟨by rw[tk,lx];show _=(_++[]).map _;rw[eY],za,J.trans p⟩)
      |cons y t =>
       refine af rfl ⟨M,rfl,⟨_,aj.of (p _ _ (J _ _ xe))⟩,λxy xu=>?_⟩;refine fX (xs:=q) (λj ys g xh=>∃xc:am V,g=[xc,a2 a]/\ys=((rest.take j).map λo=>decide (y∈o.drop 1)).map V.bl/\xh xy=bi ys/\aw (upd zb z (.lst [])) xh) ⟨none,rfl,rfl,ae,aA xu⟩ (λj ys g xh ac=>by obtain⟨_,_,_,T,U⟩:=ac;exact ⟨T,aj.of (U _ _ (p _ _ (J _ _ xe)))⟩) ?_ ?_
       ·rintro j x ys g xh yu ⟨xc,rfl,rfl,yc,zd⟩
        obtain⟨b,o,rfl,zA,_,xB⟩:=jX xf yu;have yf:j<q.length:=(bT.mp yu).1;have xj:rest.take (j+1)=rest.take j++[o]:=by rw[cK,zA];rfl
        have zu:=J.trans (p.trans zd);refine af rfl (jF (zu _ _ W) iV ?_);refine aX rfl rfl ⟨b,_,rfl,aj.of (zu _ _ xB),λp2 yB=>?_⟩;have zE:d9 (o.map V.str) (ih 1) none=(o.drop 1).map V.str:=by
         rw[show(1:Int)=((1:Nat):Int) from rfl,lO,qb]
        rw[zE];have N:=aA (o:=.lst ((o.drop 1).map V.str)) yB;refine⟨p2,_,rfl,.inl (aj.of ae),rfl,gz _,?_⟩;rw[ax bM,hO];refine⟨N _ _ yc,?_,cw_next yf (af rfl ⟨by rw[xj,bC,bC];rfl,ae,λc u xa=>by rw[ab (ar xa xu)];exact N _ _ (zd c u xa)⟩)⟩
        have yy:=R.sm.b3;rw[aK,aK,cj,aR];omega
       ·rintro xH g xh ⟨xc,rfl,rfl,yc,zd⟩
        rw[i4 xf,cx]at yc;refine⟨xy,_,rfl,aj.of yc,_,rfl,?_⟩;have xF:((rest.map λo=>decide (y∈o.drop 1)).any id)=busy rest y:=by unfold busy;rw[tS];rfl
        rw[xF];have xn:=p.trans zd;cases d:busy rest y with
        |true =>
         refine cw_next S (af rfl ⟨?_,zd _ _ za,J.trans xn⟩);rw[tk,lx];show _=(_++(if busy rest y then cJ rest [] else y::cJ rest [])).map _;rw[d];show _=(_++[]).map _;rw[eY]
        |false =>
         refine af rfl (jF (xn _ _ xr) iV ⟨zd _ _ za,?_,cw_next S (af rfl ⟨?_,ae,λc u xa=>by rw[ab (ar xa zm)];exact xn _ _ (J c u xa)⟩)⟩)
         ·have yy:=qC rest (rest.take i)
          have zH:=R.sm.b3;rw[cj]at yy;rw[aK,aR];omega
         ·rw[tk,lx]
          show _=(_++(if busy rest y then cJ rest [] else y::cJ rest [])).map _;rw[d,bC];rfl
     ·rintro zy g zb ⟨C,rfl,rfl,xd,J⟩
      rw[i4 xf,cx]at xd;have xv:∀x∈cJ rest rest,Nm x:=λx I=>by
       obtain⟨r,zo,e⟩:=nI I;exact R.sm.nm r zo x e
      have zB:=qs R.nd rest;refine af rfl ⟨bw _,λz zg=>?_⟩;have p:=aA (o:=.lst []) zg;refine eq_nil (p _ _ xd) ae xv (af rfl ?_);have yn:eQ rest=(cJ rest rest).head?:=zB.symm;have zn:=zt.trans (J.trans p);have za:=p _ _ xd;have yr:=p _ _ (J _ _ xe);have zl:=p _ _ (J _ _ yl);generalize cJ rest rest=zy at yn za xv⊢;cases zy with
      |nil =>
       refine xE ?_ _ zn;rw[R.eq,qq yk yn];rfl
      |cons n yF =>
       have e:eQ rest=ih n:=yn;have lt:=jQ (jW e);generalize xI:upd zb z (.lst [])=G at zn za yr zl p⊢;have xC:ft (λa=>a≠k) G q rest:=iq xf λb xs D d=>⟨D,p _ _ (J _ _ d)⟩;refine af rfl ⟨.inl ⟨rfl,_,aj.of zl⟩,_,rfl,jF za iV ⟨k,_,_,rfl,rfl,zl,by have:=R.lim;rw[aK,aR];omega,?_⟩⟩
       have yC:yd≠k:=aQ (ar yl zm);have yc:(upd G k (.lst (v.map V.str++[.str n]))) yd=bi ((n::yF).map V.str):=by rw[ab yC];exact za
       have xm:(upd G k (.lst (v.map V.str++[.str n]))) M=bi q:=by rw[ab R.ne];exact yr
       have xi:(upd G k (.lst (v.map V.str++[.str n]))) k=bi ((v++[n]).map V.str):=by rw[ae,bC];rfl
       have yv:aw H (upd G k (.lst (v.map V.str++[.str n]))):=λb o d=>by rw[ab (ar d zq)];exact zn b o d
       have xo:ft (λa=>a≠k) (upd G k (.lst (v.map V.str++[.str n]))) q rest:=iq xC λb xs D d=>⟨D,by rw[ab D];exact d⟩
       generalize upd G k (.lst (v.map V.str++[.str n]))=zF at yc xm xi yv xo⊢;refine af rfl ⟨M,rfl,⟨_,aj.of xm⟩,λyh yo=>?_⟩;have zC:yh≠k:=aQ (ar xi yo);refine fX (xs:=q) (λi ys g zc=>∃C:am V,g=[C,a2 yd]/\zc yh=bi ys/\aw zF zc/\ft (λa=>a≠k/\a≠yh) zc ys (L2.without n (rest.take i))) ⟨none,rfl,ae,aA yo,.nil⟩ (λi ys g zc ac=>by obtain⟨_,_,T,U,_⟩:=ac;exact ⟨T,aj.of (U _ _ xm)⟩) ?_ ?_
       ·rintro i x ys g zc I ⟨C,rfl,zk,N,zf⟩
        obtain⟨a,r,rfl,L,_,W⟩:=jX xo I;have S:i<q.length:=(bT.mp I).1;have tk:rest.take (i+1)=rest.take i++[r]:=by rw[cK,L];rfl
        have ze:=eF L;have ym:=N _ _ W;have zr:=N _ _ yc;refine af rfl ⟨a,rfl,⟨_,aj.of ym⟩,λzh xg=>?_⟩;have xD:a≠zh:=ar ym xg;have yD:yd≠zh:=ar zr xg;have zv:zh≠yh:=aQ (ar zk xg);have zD:zh≠k:=aQ (ar (N _ _ xi) xg);refine fX (xs:=r.map V.str) (λj zs yj xl=>∃xc:am V,yj=[xc,a2 yd]/\zs=((r.take j).filter λy=>!decide (y=n)).map V.str/\xl=upd zc zh (.lst zs)) ⟨none,rfl,rfl,rfl⟩ (λj zs yj xl ⟨_,_,_,z⟩=>by rw[z];exact⟨ae,aj.of (by rw[ab xD];exact ym)⟩) ?_ ?_
        ·rintro j x zs yj xl xw ⟨xc,rfl,rfl,rfl⟩
         have yf:j<(r.map V.str).length:=(bT.mp xw).1;have yw:j<r.length:=by simpa using yf
         obtain rfl:V.str r[j]=x:=by simpa [yw] using xw
         have xj:r.take (j+1)=r.take j++[r[j]]:=by rw[cK,bY yw];rfl
         refine aX rfl rfl (jF (by rw[ab yD];exact zr) iV ⟨rfl,_,rfl,?_⟩)
         refine dX (λzj=>?_) (λzj=>?_)
         ·have xz:r[j]≠n:=λz=>by rw[z]at zj;simp at zj
          refine af rfl ⟨ae,?_,cw_next yf (af rfl ⟨?_,by rw[e5]⟩)⟩
          ·have h1:=ee (λy=>!decide (y=n)) (r.take j)
           have h2:(r.take j).length<=r.length:=by rw[cj];omega
           have xb:=R.sm.short r ze;rw[aK,aR];omega
          ·rw[xj,gy,bC,hJ (by simpa using xz)];rfl
         ·have xG:r[j]=n:=by
           by_cases z:r[j]=n
           ·exact z
           ·exact absurd (by simp[z]) zj
          refine cw_next yf (af rfl ⟨?_,rfl⟩);rw[xj];simp[xG]
        ·rintro zs yj xl ⟨xc,rfl,rfl,rfl⟩
         rw[aK,cx];have xq:=aA (o:=.lst ((r.filter λy=>!decide (y=n)).map V.str)) xg;refine⟨xq _ _ zk,?_,cw_next S ⟨_,rfl,ae,λb o d=>?_,?_⟩⟩
         ·have h1:=i4 zf
          have h2:(L2.without n (rest.take i)).length<=rest.length:=by unfold L2.without;rw[aK,cj];omega
          have xb:=R.sm.b3;rw[aR];omega
         ·rw[ab (ar d yo)];exact xq _ _ (N b o d)
         ·have yG:L2.without n (rest.take (i+1))=L2.without n (rest.take i)++[r.filter λy=>!decide (y=n)]:=by rw[tk];unfold L2.without;rw[bC];rfl
          rw[yG];refine qj (iq zf λb xs D d=>⟨D,by rw[ab D.2];exact xq _ _ d⟩) ⟨zD,zv⟩ ?_
          rw[ab zv];exact ae
       ·rintro ys g zc ⟨C,rfl,zk,N,zf⟩
        rw[i4 xo,cx]at zf;refine⟨_,by rw[R.mm];exact lt,L2.without n rest,ys,v++[n],yh,⟨_,rfl⟩,rfl,zk,iq zf λb xs D d=>⟨D.1,d⟩,zC,N _ _ xi,uv R.sm,uT R.nd,yv.trans N,?_,?_⟩
        ·have:=R.lim;rw[dA,ip];omega
        ·rw[R.eq,qr yk e,U9]
         congr 1
         funext z
         simp
    ·refine af rfl (yE v ?_ k ya zq zt yl)
     rw[R.eq,qp (by simpa using yk)]
     show ih (v++[])=ih v;rw[eY]
structure e9(mg:Pd->Option CS):Prop where
 gQ:mg "isinstance" = none
 str:mg "str" = none
 dict:mg "dict" = none
 sorted:mg "sorted" = none
theorem gC:SR "isinstance" = ih (.builtin "isinstance"):=by decide +kernel
theorem boot_str:SR "str" = ih (.type "str"):=by decide +kernel
theorem boot_dict:SR "dict" = ih (.type "dict"):=by decide +kernel
theorem boot_sorted:SR "sorted" = ih (.builtin "sorted"):=by decide +kernel
theorem boot_all:SR "all" = ih (.builtin "all"):=by decide +kernel
theorem DG(K:Tx)(h:X.K=K)(a:X.calm=true):c8 X (.builtin "all") (λxs H Q=>∃(p:Ph) (bs:al Bool),xs=[.ref p]/\aj K H p (bs.map V.bl)/\Q (.bl (bs.all id)) H):=by subst h;exact nD a
theorem ite_ff{A:Prop}{k:Bool}(a:k=false)(h:B):if k=true then A else B:=by subst a;exact h
theorem ite_tt{A:Prop}{k:Bool}(a:k=true)(h:A):if k=true then A else B:=by subst a;exact h
inductive kj(vs:List V)(H:Hp)(Q:VK)(E:XK):Prop
 |mk{x:Pd}(_:vs=[.str x])(_:Nm x)(_:∀Y,aw H Y->Q (.bl true) Y):kj vs H Q E
theorem Az:aZ ["thing"] ["thing"] (aF j3):=a8
abbrev Ku:QD:=eb (gK (cH (bD j3) 1))
theorem oC:bO ["thing"] (aF j3) ["sign"] [none] (ck Ku):=cL
theorem Gx(F:aP K "is_name" "is_name" j3 f fd)(B:cP mg)(g:e9 mg):aM P w K mg base ao 1 f fd ["thing"] kj:=by
 refine F.bG Az λQa A r s H vs Q E D h=>?_
 ·obtain @⟨x,rfl,a,q⟩:=h
  intro X;refine⟨_,aq (bQ (PW.pt (pw_or (eU (eT (bp gA rfl g.gQ gC (aa (pv 0) (aa (gD (v:=.ty "str") rfl g.str boot_str rfl) ag)))))
     (pw_or1 (eU (vJ jl jl ak (bp uw rfl B.len d3 (aa (pv 0) ag)) ak))))) (aE (aU gZ)) bZ)
   (aE (aU (bp (nD rfl) rfl B.all boot_all (aa (cY rfl oC (Av (pv 0)) (λs H fp=>⟨a4 0 oC.nd,dV,qG nF nF aY (pv 0) aY⟩)) ag)))),?_⟩
  have t:=a.lo;have u:=a.hi;have y:x.cps.size<=8:=a.hi;refine af rfl ⟨⟨_,.inr ⟨"str",rfl⟩⟩,.str x,.ty "str",.type "str",.type "str",true,rfl,rfl,.inl (.str x),rfl,true,rfl,?_⟩;refine af rfl ⟨x,rfl,by rw[aR];omega,1,x.length,rfl,rfl,_,rfl,?_⟩
  refine ite_tt (a' (by omega)) ?_
  refine⟨x.length,8,rfl,rfl,_,rfl,?_⟩;have l:decide ((x.length:Int)<=8)=true:=a' (by omega)
  rw[l];refine af rfl ⟨x,rfl,λp m=>?_⟩;refine vW (λi ys b O=>∃d:am V,b=[d]/\ys=(TH i true).map V.bl/\O=upd H p (.lst ys)) ⟨none,rfl,rfl,rfl⟩ (λi ys b O ⟨_,_,_,z⟩=>by rw[z];exact ae) ?_ ?_
  ·rintro i c ys b O j ⟨d,rfl,rfl,rfl⟩
   have k:i<x.cps.size:=by
    obtain⟨h,_⟩:=CI.mp j;exact h
   have C:=a.az c (Vt.mp (PQ j));have n:(!decide ((⟨#[c]⟩:Pd).cps.toList<(SW "a").cps.toList))=true:=by
    have : ¬ ([c] < [97]):=by simp[ui];omega
    have e:(SW "a").cps.toList=[97]:=by decide +kernel
    rw[e];simpa using this
   have o:(!decide ((SW "z").cps.toList<(⟨#[c]⟩:Pd).cps.toList))=true:=by
    have : ¬ ([122] < [c]):=by simp[ui];omega
    have e:(SW "z").cps.toList=[122]:=by decide +kernel
    rw[e];simpa using this
   refine af rfl ⟨_,_,rfl,rfl,_,rfl,ite_tt n ⟨_,_,rfl,rfl,ae,by rw[aK,Cu,aR];omega,cw_next k (af rfl ⟨?_,?_⟩)⟩⟩
   ·rw[o,Qv,bC];rfl
   ·rw[e5]
  ·rintro ys b O ⟨d,rfl,rfl,rfl⟩
   refine⟨p,_,rfl,aj.of ae,?_⟩;have:(TH x.cps.size true).all id=true:=by simp
   rw[this];exact q _ (aA m)
theorem wo:∀{kvs:al (Pd×V)}{x:Pd},x∈kvs.map (·.1)->(bj (hU kvs) (Cv x)).isSome=true
 |[],x,h=>by simp at h
 |p::kvs,x,h=>by
  by_cases e:p.1=x
  ·rw[show hU (p::kvs)=(Cv p.1,p.2)::hU kvs from rfl,e2 (by rw[e])];rfl
  ·rw[show hU (p::kvs)=(Cv p.1,p.2)::hU kvs from rfl,eG (λz=>e (gb z))]
   refine wo ?_;rcases bU.mp h with z|z
   ·exact absurd z.symm e
   ·exact z
theorem EC{kvs:al (Key×V)}{g:Pd->V}(e:H a=bd (ps.map V.str))(f:H d=bm kvs)(r:∀x∈ps,bj kvs (Cv x)=ih (g x))(h:H p=none)(t:ps.length<=100)
  (q:Q (.ref p) (upd H p (.lst (ps.map g)))):gr (hB K a) (hX 0) me (iD (d8 1) (d8 0)) [none,a2 d] Q p H:=by
 have i:a≠p:=ar e h;have l:d≠p:=ar f h;refine jZ (xs:=ps.map V.str) (λj zs b H2=>∃c:am V,b=[c,a2 d]/\zs=(ps.take j).map g/\H2=upd H p (.lst zs)) ⟨none,rfl,rfl,rfl⟩ (λj zs b H2 ⟨_,_,_,z⟩=>by rw[z];exact⟨ae,aO.of (by rw[ab i];exact e)⟩) ?_ ?_
 ·rintro j x zs b H2 s ⟨c,rfl,rfl,rfl⟩
  obtain⟨m,n,rfl,o⟩:=rA s;refine aX rfl rfl ⟨d,g ps[j],rfl,?_,ae,?_,cw_next m (af rfl ⟨?_,by rw[e5]⟩)⟩
  ·rw[<-r _ (eO n)];exact a6.k (k:=Cv ps[j]) (by rw[ab l];exact f)
  ·rw[aK,cj,aR];omega
  ·rw[o,bC];rfl
 ·rintro zs b H2 ⟨c,rfl,rfl,rfl⟩
  rw[aK,cx];exact q
theorem ED{kvs:al (Key×V)}{g:Pd->V}(e:H a=bi (ps.map V.str))(f:H d=bm kvs)(r:∀x∈ps,bj kvs (Cv x)=ih (g x))(h:H p=none)(t:ps.length<=100)
  (q:Q (.ref p) (upd H p (.lst (ps.map g)))):gr (jB K a) (hX 0) me (iD (d8 1) (d8 0)) [none,a2 d] Q p H:=by
 have i:a≠p:=ar e h;have l:d≠p:=ar f h;refine fX (xs:=ps.map V.str) (λj zs b H2=>∃c:am V,b=[c,a2 d]/\zs=(ps.take j).map g/\H2=upd H p (.lst zs)) ⟨none,rfl,rfl,rfl⟩ (λj zs b H2 ⟨_,_,_,z⟩=>by rw[z];exact⟨ae,aj.of (by rw[ab i];exact e)⟩) ?_ ?_
 ·rintro j x zs b H2 s ⟨c,rfl,rfl,rfl⟩
  obtain⟨m,n,rfl,o⟩:=rA s;refine aX rfl rfl ⟨d,g ps[j],rfl,?_,ae,?_,cw_next m (af rfl ⟨?_,by rw[e5]⟩)⟩
  ·rw[<-r _ (eO n)];exact a6.k (k:=Cv ps[j]) (by rw[ab l];exact f)
  ·rw[aK,cj,aR];omega
  ·rw[o,bC];rfl
 ·rintro zs b H2 ⟨c,rfl,rfl,rfl⟩
  rw[aK,cx];exact q
def rowsOf(L:Pd->List Pd)(ps:List Pd):List (List Pd):=ps.map L++[ps]
def f'(H:Hp)(kvs:List (Key×V))(L:Pd->List Pd)(x:Pd):Prop:= ∃a,bj kvs (Cv x)=ih (.ref a)/\H a=ih (.tup ((L x).map V.str))
theorem f'.same{kvs:al (Key×V)}(h:f' H kvs L x)(s:aw H Y):f' Y kvs L x:=let ⟨a,e,q⟩:=h;⟨a,e,s _ _ q⟩
theorem Gy{kvs:al (Key×V)}(h:∀x∈ps,f' H kvs L x):∃g:Pd->V,(∀x∈ps,bj kvs (Cv x)=ih (g x))/\c5 H (ps.map g) (ps.map L):=by
 refine⟨λx=>(bj kvs (Cv x)).getD .aJ,λx b=>?_,?_⟩
 ·obtain⟨a,e,_⟩:=h x b;show _=ih ((bj kvs (Cv x)).getD V.aJ);rw[e];rfl
 ·induction ps with
  |nil=>exact .nil
  |cons x ps c =>
   obtain⟨a,e,q⟩:=h x bJ;exact .cons ⟨a,by show(bj kvs (Cv x)).getD V.aJ=_;rw[e];rfl,q⟩ (c λy d=>h y (bL _ d))
inductive oV(vs:List V)(H:Hp)(Q:VK)(E:XK):Prop
 |mk{d pa:Ph}{kvs:List (Key×V)}{L:Pd->List Pd}{k:Pd}{ps o:List Pd}(_:vs=[.ref d,.str k,.ref pa])(_:H d=ih (.dK kvs))(_:H pa=ih (.tup (ps.map V.str)))(_:(∀x∈ps,f' H kvs L x))(_:Small (rowsOf L ps))(_:b' (total (rowsOf L ps)) (rowsOf L ps)=ih o)(_:o.length<=100)(_:∀p Y,aw H Y->Y p=ih (.tup ((k::o).map V.str))->Q (.ref p) Y):oV vs H Q E
noncomputable abbrev Ca:List Pd:=["lines","kind","parents","rows","refusal"]
theorem Bx:aZ Ca ["lines","kind","parents"] (aF lB):=a8
def By(e:QD):QD:=match e with|.BinOp a _ _ _=>a|_=>.Constant .none 0 ⟨0,0,0,0⟩
abbrev LF:QD:=By (eb (e8 (cH (bD lB) 0)))
theorem Bz:bO Ca (aF lB) ["parent","lines"] [none,ih 0] (ck LF):=cL
theorem Jc{v:Ta}(F:aP K "line_from" "line_from" lB f fd)(B:cP mg)(z:bb P w K mg base ao 3 fM v ["rows"] nP "merged") :
  aM P w K mg base ao 4 f fd ["lines","kind","parents"] oV:=by
 refine F.bG Bx λQa A xb s H vs Q E a h=>?_
 ·obtain @⟨d,b,kvs,L,k,ps,o,rfl,C,e,D,n,G,yb,q⟩:=h
  have I:=a.units;have x:=dr I;intro X;refine⟨_,aq (bf 3 Bx.nd (dU i3 rfl B.tuple boot_tuple (aa (bE j' (cY rfl Bz (jd (pv 2)) (λs H fp=>⟨a4 0 Bz.nd,dV,bK x (pv 1) (pv 0) (λ_ _=>rfl)⟩)) (d5 (aa (pv 2) ag))) ag)))
   (aE (Fb (aE (aU (bE nW (cz (aa (pv 1) ag)) (aT z a (aa (pv 3) ag))))) rfl)),?_⟩
  obtain⟨g,J,M⟩:=Gy D;have zb:ps.length<=20:=n.short ps (fR _ bJ);refine af rfl ⟨b,rfl,⟨_,aO.of e⟩,λc t=>EC e C J t (by omega) ?_⟩
  have N:=aA (o:=.lst (ps.map g)) t;refine af rfl ⟨gO,λO j=>?_⟩;have R:=N.trans (aA (o:=.lst [V.ref b]) j);refine⟨c,O,_,_,rfl,rfl,by rw[ab (ar ae j)];exact ae,ae,by rw[aK,aR];show _+1<=_;omega,λS y=>?_⟩
  have T:=R.trans (aA (o:=.lst (ps.map g++[V.ref b])) y);refine⟨S,_,rfl,.inl ⟨aj.of ae,λr a=>?_⟩⟩;have U:=T.trans (aA (o:=.tup (ps.map g++[V.ref b])) a);refine af rfl ⟨gO,λW l=>?_⟩;have i:=U.trans (aA (o:=.tup [V.str k]) l);refine af rfl (nP.mk rfl (rows:=rowsOf L ps) (by rw[ab (ar ae l)];exact ae) (c5.append (M.same i) (i _ _ e)) n G λm yc xc u Y=>?_)
  refine⟨W,m,_,_,rfl,rfl,u _ _ ae,Y,by rw[aK,aR];show 1+_<=_;omega,λp xa ya za=>?_⟩
  exact q p xa (i.trans (u.trans ya)) za
def cM(H:Hp)(vs:List V)(U:List (Pd×List Pd)):Prop:=S2 (λy p=>∃a b,y=V.ref a/\H a=ih (.tup [.str p.1,.ref b])/\H b=ih (.tup (p.2.map V.str))) vs U
theorem cM.keep(h:cM H vs U)(s:∀b xs,H b=bd xs->Y b=bd xs):cM Y vs U:=Paired.imp' (λ_ _ c=>by obtain⟨a,b,e,q,r⟩:=c;exact ⟨a,b,e,s _ _ q,s _ _ r⟩) h
theorem cM.same(h:cM H vs U)(s:aw H Y):cM Y vs U:=h.keep λ_ _ e=>s _ _ e
theorem cM.length(h:cM H vs U):vs.length=U.length:=cw h
theorem cM.append{p:Pd×List Pd}(h:cM H vs U)(q:H a=bd [.str p.1,.ref b])(r:H b=bd (p.2.map V.str)):cM H (vs++[.ref a]) (U++[p]):=gi h ⟨a,b,rfl,q,r⟩
theorem cM.pairs(h:cM H vs U):∃kvs,kg H vs kvs/\kvs.map (·.1)=U.map (·.1):=by
 induction h with
 |nil=>exact⟨[],.nil,rfl⟩
 |cons p _ c =>
  obtain⟨a,b,e,q,r⟩:=p;obtain⟨kvs,h1,h2⟩:=c;exact⟨(_,.ref b)::kvs,.cons ⟨a,e,q⟩ h1,by rw[bV,bV,h2]⟩
structure hZ(U:List (Pd×List Pd))(L:Pd->List Pd):Prop where
 nd:(U.map (·.1)).Nodup
 b3:U.length<=8
 nm:∀p∈U,Nm p.1
 up:∀p∈U,∀x∈p.2,∃q∈U,q.1=x
 rank:∃r:Pd->Nat,∀p∈U,∀x∈p.2,r x<r p.1
 line:∀p∈U,Small (rowsOf L p.2) /\∃o,b' (total (rowsOf L p.2)) (rowsOf L p.2)=ih o/\L p.1=p.1::o/\o.length<=100
theorem hZ.perm{b:al (Pd×List Pd)}(h:hZ U L)(p:b.Perm U):hZ b L:=by
 have m:∀{q},q∈b ↔ q∈U:=λ{q}=>p.mem_iff;obtain⟨r,c⟩:=h.rank;exact⟨(p.map _).nodup_iff.mpr h.nd,by rw[p.length_eq];exact h.b3,λq a=>h.nm q (m.mp a),λq a x d=>let ⟨z,f,e⟩:=h.up q (m.mp a) x d;⟨z,m.mpr f,e⟩,⟨r,λq a=>c q (m.mp a)⟩,λq a=>h.line q (m.mp a)⟩
def isDone(kvs:List (Key×V))(x:Pd):Bool:=(bj kvs (Cv x)).isSome
theorem Fp{rest:al (Pd×List Pd)}(ok:hZ U L)(sub:∀p∈rest,p∈U)(all:∀p∈U,dn p.1=true\/p∈rest)(ne:rest ≠ []):∃p∈rest,∀x∈p.2,dn x=true:=by
 obtain⟨r,f⟩:=ok.rank;have c:∀n,∀p∈rest,r p.1=n ->∃q∈rest,∀x∈q.2,dn x=true:=by
  intro n
  induction n using Vo with
  |_ n g =>
   intro p a e
   by_cases h:∀x∈p.2,dn x=true
   ·exact⟨p,a,h⟩
   ·simp only[Xf]at h
    obtain⟨x,b,d⟩:=h;obtain⟨q,i,rfl⟩:=ok.up p (sub p a) x b;have lt:=f p (sub p a) q.1 b;rcases all q i with z|z
    ·exact absurd z d
    ·exact g _ (by omega) q z rfl
 cases rest with
 |nil=>exact absurd rfl ne
 |cons p t=>exact c _ p bJ rfl
def eS(dn:Pd->Bool)(rest:List (Pd×List Pd)):List (Pd×List Pd):=rest.filter λp=>(p.2.map dn).all id
theorem vz{rest:al (Pd×List Pd)}{p:Pd×List Pd}:p∈eS dn rest ↔ p∈rest /\∀x∈p.2,dn x=true:=by
 unfold eS;rw[cU,CZ,jM];rfl
theorem uU{α:Type}(f:α->Bool):∀l:al α,(l.filter f).length+(l.filter λx=>!f x).length=l.length
 |[]=>rfl
 |x::l=>by
  have a:=uU f l;cases h:f x <;> simp[i2,h] <;> omega
theorem EE{pM:Pd->Bool}{rest:al (Pd×List Pd)}(h:∀p∈eS dn rest,pM p.1=true):(rest.filter λp=>!pM p.1).length+(eS dn rest).length<=rest.length:=by
 have e:rest.length=(rest.filter λp=>(p.2.map dn).all id).length+(rest.filter λp=>!(p.2.map dn).all id).length:=by
  exact(uU (λp:Pd×List Pd=>(p.2.map dn).all id) rest).symm
 have b:(rest.filter λp=>!pM p.1).length<=(rest.filter λp=>!(p.2.map dn).all id).length:=by
  rw[<-Qw,<-Qw];refine List.countP_mono_left λp a h1=>?_;cases z:(p.2.map dn).all id with
  |false=>rfl
  |true =>
   have:=h p (cU.mpr ⟨a,z⟩);rw[this]at h1;cases h1
 unfold eS;omega
theorem Fq{kvs:al (Key×V)}(e:H a=bd (ps.map V.str))(f:H d=bm kvs)(g:H p=none)(r:ps.length<=100)
  (q:Q (.ref p) (upd H p (.lst ((ps.map (isDone kvs)).map V.bl)))):gr (hB K a) (hX 0) me (Bq (d8 0) (d8 1)) [none,a2 d] Q p H:=by
 have h:a≠p:=ar e g;have i:d≠p:=ar f g;refine jZ (xs:=ps.map V.str) (λj zs b H2=>∃c:am V,b=[c,a2 d]/\zs=((ps.take j).map (isDone kvs)).map V.bl/\H2=upd H p (.lst zs)) ⟨none,rfl,rfl,rfl⟩ (λj zs b H2 ⟨_,_,_,z⟩=>by rw[z];exact⟨ae,aO.of (by rw[ab h];exact e)⟩) ?_ ?_
 ·rintro j x zs b H2 n ⟨c,rfl,rfl,rfl⟩
  obtain⟨l,o,rfl,m⟩:=rA n;refine aX rfl rfl ⟨d,_,rfl,a6.k (k:=Cv ps[j]) (by rw[ab i];exact f),ae,?_,cw_next l (af rfl ⟨?_,by rw[e5]⟩)⟩
  ·rw[aK,aK,cj,aR];omega
  ·rw[m,bC,bC];rfl
 ·rintro zs b H2 ⟨c,rfl,rfl,rfl⟩
  rw[aK,cx];exact q
def jq(U:List (Pd×List Pd))(kvs:List (Key×V)):Prop:=(kvs.map (·.1)).Nodup /\∀k∈kvs.map (·.1),∃p∈U,k=Cv p.1
theorem vA(kvs:al (Key×V))(k:Key)(v:V):(k∈kvs.map (·.1)/\(putK kvs k v).map (·.1)=kvs.map (·.1))\/(k ∉ kvs.map (·.1)/\(putK kvs k v).map (·.1)=kvs.map (·.1)++[k]):=by
 have e:(kvs.any λa=>decide (a.1=k))=true ↔ k∈kvs.map (·.1):=by
  rw[m7,ba];exact⟨λ⟨x,h,d⟩=>⟨x,h,hH d⟩,λ⟨x,h,d⟩=>⟨x,h,a' d⟩⟩
 unfold putK
 by_cases h:k∈kvs.map (·.1)
 ·refine .inl ⟨h,?_⟩
  rw[aI (e.mpr h),hF];refine t4 λa _=>?_;show(if a.1=k then (a.1,v) else a).1=a.1;split <;> rfl
 ·refine .inr ⟨h,?_⟩
  rw[ax λz=>h (e.mp z),bC];rfl
theorem Fs{kvs:al (Key×V)}{k j:Key}:j∈(putK kvs k v).map (·.1) ↔ j=k\/j∈kvs.map (·.1):=by
 rcases vA kvs k v with⟨h,e⟩|⟨h,e⟩
 ·rw[e];exact⟨.inr,λz=>z.elim (λe=>e ▸ h) id⟩
 ·rw[e,cQ,dR];exact Or.comm
theorem Gz{kvs:al (Key×V)}{k:Key}(h:(kvs.map (·.1)).Nodup):((putK kvs k v).map (·.1)).Nodup:=by
 rcases vA kvs k v with⟨_,e⟩|⟨c,e⟩
 ·rw[e];exact h
 ·rw[e,gU]
  exact⟨h,by simp,λa d b f e=>c (by rw[<-(dR.mp f),<-e];exact d)⟩
theorem jq.put{kvs:al (Key×V)}{p:Pd×List Pd}(h:jq U kvs)(a:p∈U):jq U (putK kvs (Cv p.1) v):=by
 refine⟨Gz h.1,λk b=>?_⟩;rcases Fs.mp b with z|z
 ·exact⟨p,a,z⟩
 ·exact h.2 k z
theorem wq:∀{kvs:al (Key×V)}{x:Pd},isDone kvs x=true->Cv x∈kvs.map (·.1)
 |[],x,h=>by cases h
 |(a,b)::kvs,x,h=>by
  by_cases e:a=Cv x
  ·rw[e];exact bJ
  ·unfold isDone at h;rw[eG e]at h
   exact bL _ (wq h)
theorem D0{α:Type}{a b:al α}(c:a.Nodup)(d:b.Nodup)(h:∀x,x∈a ↔ x∈b):a.Perm b:=(List.perm_ext_iff_of_nodup c d).mpr h
theorem AA{l:al Pd}(h:l.Nodup):(l.map (Cv:Pd->Key)).Nodup:=by
 induction l with
 |nil=>exact jO
 |cons x l a =>
  rw[d0]at h;rw[bV,d0];refine⟨λz=>?_,a h.2⟩;obtain⟨y,b,e⟩:=ba.mp z;exact h.1 (gb e ▸ b)
theorem jq.perm{kvs:al (Key×V)}(h:jq U kvs)(ok:hZ U L)(all:∀p∈U,isDone kvs p.1=true):(kvs.map (·.1)).Perm ((U.map (·.1)).map Cv):=by
 refine D0 h.1 (AA ok.nd) λx=>⟨λa=>?_,λa=>?_⟩
 ·obtain⟨p,b,rfl⟩:=h.2 x a
  exact ba.mpr ⟨p.1,ba.mpr ⟨p,b,rfl⟩,rfl⟩
 ·obtain⟨y,c,rfl⟩:=ba.mp a
  obtain⟨p,b,rfl⟩:=ba.mp c;exact wq (all p b)
structure BA(H:Hp)(U:List (Pd×List Pd))(L:Pd->List Pd)(t d:Ph)(m:Nat)(σ:St)(O:Hp)(kvs:List (Key×V))(rest:List (Pd×List Pd))(wv:List V)(wa:Ph):Prop where
 st:∃v3 v4 v5:Option V,σ=[ih (.ref t),ih (.ref d),ih (.ref wa),v3,v4,v5]
 mm:m=rest.length
 hd:O d=ih (.dK kvs)
 hw:O wa=ih (.lst wv)
 fv:cM O wv rest
 sub:∀p∈rest,p∈U
 all:∀p∈U,isDone kvs p.1=true\/p∈rest
 ln:∀x,isDone kvs x=true->f' O kvs L x
 same:aw H O
 lim:kvs.length+rest.length<=8
 ky:jq U kvs
inductive n0(vs:List V)(H:Hp)(Q:VK)(E:XK):Prop
 |mk{t:Ph}{o:Ue}{ws:List V}{U:List (Pd×List Pd)}{L:Pd->List Pd}(_:vs=[.ref t])(_:H t=ih (.aG o (.tup ws)))(_:cM H ws U)(_:hZ U L)(_:∀d kvs Y,H d=none->aw H Y->Y d=ih (.dK kvs)->(∀p∈U,f' Y kvs L p.1)->(kvs.map (·.1)).Perm ((U.map (·.1)).map Cv)->Q (.ref d) Y):n0 vs H Q E
noncomputable abbrev sX:List Pd:=["family","lines","waiting","ready","kind","parents"]
theorem jv:aZ sX ["family"] (aF ki):=a8
noncomputable abbrev BB:QB:=cH (bD ki) 2
noncomputable abbrev sy:QD:=e8 (cH (lF BB) 0)
abbrev Kv:QD:=eb (Ay sy)
noncomputable abbrev Kw:QD:=e8 (cH (lF BB) 3)
theorem AZ:bO sX (aF ki) ["pair","lines"] [none,ih 1] (ck sy):=cL
theorem Jd:bO ["pair","lines"] (relabel (ck sy) env) ["parent","lines"] [none,ih 1] (ck Kv):=nest rfl (by decide +kernel) (by decide +kernel) rfl (by decide +kernel) (by decide +kernel)
theorem Je:(["parent","lines"]:al Pd).Nodup:=by decide +kernel
theorem A0:bO sX (aF ki) ["pair","lines"] [none,ih 1] (ck Kw):=cL
theorem Ft{fF:Ph}{xr:Ta}(F:aP K "lines_of" "lines_of" ki f fd)(B:cP mg)(xy:bb P w K mg base ao 4 fF xr ["lines","kind","parents"] oV "line_from") :
  aM P w K mg base ao 5 f fd ["family"] n0:=by
 refine F.bG jv λQa A zA s H vs Q E xn h=>?_
 ·obtain @⟨t,o,ws,U,L,rfl,yy,zp,ok,q⟩:=h
  have zy:=xn.units;have xh:=dr zy;intro X;refine⟨_,aq (fg (i:=1) jv.nd rfl (TC rfl) ix)
   (aq (bf 2 jv.nd (dU ll rfl B.list boot_list (aa (pv 0) ag)))
   (aq (qF eP (lG (pv 2) (λ_=>rfl))
    (aq (jT rfl AZ jv.nd (i:=3) rfl rfl (d4 (pv 2)) (λs H fp=>⟨a4 0 AZ.nd,
      fY (eT (bp (DG K rfl rfl) rfl B.all boot_all (aa (cY rfl Jd (vP K rfl (aV (gV K rfl) (pv 0) ak)) (λs H fp=>⟨a4 0 Je,dV,Aj (kd xh (pv 0) (pv 1))⟩)) ag))),
      pv 0⟩))
    (aq (bQ (eU (lG (pv 3) (λ_=>rfl))) (aE (aU (pv 1))) bZ)
    (aq (e7 eP rfl (d4 (pv 3)) (j8 rfl (dd (a4 4 jv.nd) (dd (a4 5 jv.nd) hQ)))
     (aE (hR xh (pv 1) (pv 4) (aT xy xn (aa (pv 1) (aa (pv 4) (aa (pv 5) ag)))) rfl)))
    (aE (jT rfl A0 jv.nd (i:=2) rfl rfl (d4 (pv 2)) (λs H fp=>⟨a4 0 A0.nd,
      fY (jc (qy xh (aV (gV K rfl) (pv 0) ak) (pv 1))),pv 0⟩)))))))
   (aE (aU (pv 1))))),?_⟩
  intro d zj;have yn:=aA (o:=.dK []) zj;refine af rfl ⟨t,ws,rfl,.inr (.inl (.inr ⟨o,yn _ _ yy⟩)),λG xl=>?_⟩;have zn:=yn.trans (aA (o:=.lst ws) xl);have yr:d≠G:=ar ae xl;refine⟨λm σ O=>∃kvs rest v G,BA H U L t d m σ O kvs rest v G,⟨_,[],U,ws,G,⟨none,none,none,rfl⟩,rfl,by rw[ab yr];exact ae,ae,zp.same zn,λ_ h=>h,λ_ h=>.inr h,λx h=>(by cases h),zn,by have:=ok.b3;rw[jN];omega,⟨jO,λ_ h=>(by cases h)⟩⟩,?_⟩
  rintro m σ O ⟨kvs,rest,v,G,R⟩;obtain⟨zB,xd,yd,rfl⟩:=R.st;have yc:=R.fv.length;refine af rfl ⟨_,.inl ⟨_,aj.of R.hw,rfl⟩,?_⟩;refine dX (λzd=>?_) (λzd=>?_)
  ·refine⟨λzr Y=>∃xo,xo<m /\∃kvs rest v G,BA H U L t d xo zr Y kvs rest v G,λ_ _ z=>z,?_⟩
   refine af rfl ⟨G,rfl,⟨_,aj.of R.hw⟩,λyg yh=>?_⟩;have xt:∀{b:Ph}{u:HO},H b=ih u->b≠d:=λe=>ar e zj;have yt:d≠yg:=ar R.hd yh;refine fX (xs:=v) (λi ys J N=>∃ya:am V,J=[ya,a2 d]/\N yg=bi ys/\aw O N/\cM N ys (eS (isDone kvs) (rest.take i))) ⟨none,rfl,ae,aA yh,.nil⟩ (λi ys J N ac=>by obtain⟨_,_,z1,z2,_⟩:=ac;exact ⟨z1,aj.of (z2 _ _ R.hw)⟩) ?_ ?_
   ·rintro i x ys J N g ⟨ya,rfl,C,D,S⟩
    have yb:i<v.length:=(bT.mp g).1;obtain⟨p,n,a,b,rfl,zb,j⟩:=j1 R.fv g;have tk:rest.take (i+1)=rest.take i++[p]:=by rw[cK,n];rfl
    have xe:=R.sub p (eF n);have xB:p.2.length<=20:=(ok.line p xe).1.short p.2 (fR _ bJ);have zh:=D _ _ zb;have ye:=D _ _ j;refine af rfl (dz zh (show cT [V.str p.1,V.ref b] ((1:Nat):Int)=ih (.ref b) from b6 rfl) ?_);refine⟨b,rfl,⟨_,aO.of ye⟩,λc yo=>Fq ye (D _ _ R.hd) yo (by omega) ?_⟩
    have T:=aA (o:=.lst ((p.2.map (isDone kvs)).map V.bl)) yo;refine⟨c,_,rfl,aj.of ae,_,rfl,?_⟩;refine dX (λxi=>?_) (λxi=>?_)
    ·refine af rfl ⟨T _ _ C,?_,cw_next yb ⟨_,rfl,ae,λb o j=>by rw[ab (ar j yh)];exact T _ _ (D b o j),?_⟩⟩
     ·have h1:=S.length
      have h2:(eS (isDone kvs) (rest.take i)).length<=(rest.take i).length:=ee _ _;have C:=R.lim;rw[cj]at h2;rw[aR];omega
     ·have xk:eS (isDone kvs) (rest.take (i+1))=eS (isDone kvs) (rest.take i)++[p]:=by
       rw[tk];unfold eS;rw[gy,hJ (by exact xi)];rfl
      rw[xk];refine cM.append (S.keep λb xs j=>?_) ?_ ?_ (b:=b)
      ·rw[ab (aH j C)];exact T _ _ j
      ·rw[ab (aH zh C)];exact T _ _ zh
      ·rw[ab (aH ye C)];exact T _ _ ye
    ·refine cw_next yb (af rfl ⟨T _ _ C,D.trans T,?_⟩)
     have xk:eS (isDone kvs) (rest.take (i+1))=eS (isDone kvs) (rest.take i):=by
      rw[tk];unfold eS;rw[gy,hI (by exact xi)];simp
     rw[xk];exact S.same T
   ·rintro zg J N ⟨ya,rfl,C,D,S⟩
    rw[yc,cx]at S;have yi:=S.length;have zc:=D _ _ R.hd;have yl:=D _ _ R.hw;have zt:cM N v rest:=R.fv.same D;have xq:rest ≠ []:=λz=>by
     rw[z]at yc;have:v=[]:=C0 yc;rw[this]at zd;cases zd
    obtain⟨xz,xu,yq⟩:=Fp ok R.sub R.all xq;have ze:xz∈eS (isDone kvs) rest:=vz.mpr ⟨xu,yq⟩;generalize xf:eS (isDone kvs) rest=xb at S yi ze;have zq:(!zg.isEmpty)=true:=by
     cases zg with
     |nil =>
      have:xb=[]:=C0 yi.symm;rw[this]at ze;cases ze
     |cons _ _=>rfl
    refine af rfl ⟨_,.inl ⟨_,aj.of C,rfl⟩,?_⟩;rw[zq];refine⟨_,rfl,yg,rfl,⟨_,aj.of C⟩,i6 (xs:=zg) (λi σ M=>∃(l:al (Key×V)) (xd yd:am V),σ=[a2 t,a2 d,a2 G,a2 yg,xd,yd]/\M d=bm l/\l.length<=kvs.length+i /\
     (∀b u,b≠d->N b=ih u->M b=ih u)/\(∀x,isDone l x=true->f' M l L x)/\(∀x,isDone kvs x=true->isDone l x=true)/\(∀p∈xb.take i,isDone l p.1=true)/\jq U l)
     ⟨kvs,xd,yd,rfl,zc,aN _,λ_ _ _ e=>e,λx g=>(R.ln x g).same D,λ_ h=>h,λp n=>(by cases n),R.ky⟩ (λi σ M _ ac=>by obtain⟨_,_,_,_,_,_,z,_⟩:=ac;exact aj.of (z _ _ (aQ yt) C)) ?_ ?_⟩
    ·rintro i x σ M g ⟨l,xd,yd,rfl,W,yu,xa,yf,zf,xg,zi⟩
     have yb:i<zg.length:=(bT.mp g).1;obtain⟨p,n,a,b,rfl,zb,j⟩:=j1 S g;have tk:xb.take (i+1)=xb.take i++[p]:=by rw[cK,n];rfl
     have zu:p∈eS (isDone kvs) rest:=by rw[xf];exact eF n
     obtain⟨xe,xv⟩:=vz.mp zu;obtain⟨yv,xC,zv,yz,xw⟩:=ok.line p (R.sub p xe);have yw:=xa _ _ (aH zb zc) zb
     have zw:=xa _ _ (aH j zc) j
     refine⟨a,_,rfl,aO.of yw,rfl,_,_,rfl,_,_,rfl,rfl,?_⟩;refine dJ rfl rfl rfl (oV.mk rfl W zw (λx g=>yf x (zf x (xv x g))) yv zv xw λyk za r I=>?_);refine aX rfl rfl ⟨d,_,rfl,eI.k (k:=Cv p.1) (r _ _ W) ?_,?_⟩
     ·have h1:=R.lim
      have h2:xb.length<=rest.length:=by rw[<-xf];exact ee _ _
      rw[aR];omega
     ·have zz:yk≠d:=aH I (r _ _ W)
      refine⟨_,_,_,rfl,ae,?_,λb u zo e=>?_,λx g=>?_,λx g=>?_,λy xp=>?_,zi.put (R.sub p xe)⟩
      ·have:=lr l (Cv p.1) (V.ref yk);omega
      ·rw[ab zo];exact r _ _ (xa b u zo e)
      ·unfold f'
       rw[iu]
       by_cases e:x=p.1
       ·subst e
        refine⟨yk,by rw[aI rfl],?_⟩
        rw[ab zz,yz];exact I
       ·have yp : ¬ ((Cv x:Key)=Cv p.1):=λz=>e (gb z)
        have xx:isDone l x=true:=by unfold isDone at g⊢;rw[iu,ax yp]at g;exact g
        obtain⟨xA,yA,zl⟩:=yf x xx;refine⟨xA,by rw[ax yp];exact yA,?_⟩
        rw[ab (aH zl W)];exact r _ _ zl
      ·unfold isDone;rw[iu]
       split
       ·rfl
       ·exact zf x g
      ·unfold isDone;rw[iu]
       split
       ·rfl
       ·rename_i zk
        rw[tk]at xp;rcases cQ.mp xp with z|z
        ·exact xg _ z
        ·have:y=p:=by simpa using z
         exact absurd (by rw[this]) zk
    ·rintro σ M ⟨l,xd,yd,rfl,W,yu,xa,yf,zf,xg,zi⟩
     rw[yi,cx]at xg;have yx:cM M v rest:=zt.keep λb xs e=>xa _ _ (aH e zc) e
     have xm:=xa _ _ (aH yl zc) yl
     have zx:aw H M:=λb u e=>xa b u (xt e) (D _ _ (R.same b u e));refine af rfl ⟨G,rfl,⟨_,aj.of xm⟩,λwb ym=>?_⟩;refine fX (xs:=v) (λi ys J za=>∃ya:am V,J=[ya,a2 d]/\za wb=bi ys/\aw M za/\cM za ys ((rest.take i).filter λp=>!isDone l p.1)) ⟨none,rfl,ae,aA ym,.nil⟩ (λi ys J za ac=>by obtain⟨_,_,z1,z2,_⟩:=ac;exact ⟨z1,aj.of (z2 _ _ xm)⟩) ?_ ?_
     ·rintro i x ys J za g ⟨ya,rfl,I,r,xc⟩
      have yb:i<v.length:=(bT.mp g).1;obtain⟨p,n,a,b,rfl,zb,j⟩:=j1 yx g;have tk:rest.take (i+1)=rest.take i++[p]:=by rw[cK,n];rfl
      have xj:=r _ _ zb;have zm:=r _ _ j;refine af rfl (dz xj (show cT [V.str p.1,V.ref b] ((0:Nat):Int)=ih (.str p.1) from b6 rfl) ?_);refine af rfl ⟨d,_,rfl,a6.k (k:=Cv p.1) (r _ _ W),_,rfl,?_⟩;refine dX (λyj=>?_) (λyj=>?_)
      ·refine af rfl ⟨I,?_,cw_next yb ⟨_,rfl,ae,λb o j=>by rw[ab (ar j ym)];exact r b o j,?_⟩⟩
       ·have h1:=xc.length
        have h2:=ee (λp:Pd×List Pd=>!isDone l p.1) (rest.take i);have C:=R.lim;rw[cj]at h2;rw[aR];omega
       ·rw[tk,gy,hJ (by exact yj)]
        refine cM.append (xc.keep λb xs j=>?_) ?_ ?_ (b:=b)
        ·rw[ab (aH j I)];exact j
        ·rw[ab (aH xj I)];exact xj
        ·rw[ab (aH zm I)];exact zm
      ·refine cw_next yb (af rfl ⟨I,r,?_⟩)
       rw[tk,gy,hI (by exact yj),nj,eY]
       exact xc
     ·rintro ys J za ⟨ya,rfl,I,r,xc⟩
      rw[yc,cx]at xc;have less:=EE (dn:=isDone kvs) (pM:=isDone l) (rest:=rest) (by rw[xf];exact xg)
      rw[xf]at less;have yB:0<xb.length:=CK ze;refine⟨_,by rw[R.mm];omega,l,rest.filter λp=>!isDone l p.1,ys,wb,⟨_,_,_,rfl⟩,rfl,r _ _ W,I,xc,λp n=>R.sub p (cU.mp n).1,λp n=>?_,λx g=>(yf x g).same r,zx.trans r,?_,?_⟩
      ·cases e:isDone l p.1 with
       |true=>exact .inl rfl
       |false =>
        refine .inr ?_;rcases R.all p n with z|z
        ·rw[zf _ z]at e;cases e
        ·exact cU.mpr ⟨z,by rw[e];rfl⟩
      ·have h1:=R.lim
       omega
      ·exact zi
  ·have zk:rest=[]:=by
    cases v with
    |nil=>exact C0 yc.symm
    |cons _ _=>exact absurd rfl zd
   have dn:∀p∈U,isDone kvs p.1=true:=λp n=>by
    rcases R.all p n with z|z
    ·exact z
    ·rw[zk]at z;cases z
   exact af rfl (q d kvs O zj R.same R.hd (λp n=>R.ln p.1 (dn p n)) (R.ky.perm ok dn))
def c3(H:Hp)(kvs:List (Key×V))(L:Pd->List Pd)(x:Pd):Prop:= ∃a,bj kvs (Cv x)=ih (.ref a)/\H a=ih (.lst ((L x).map V.str))
theorem c3.same{kvs:al (Key×V)}(h:c3 H kvs L x)(s:aw H Y):c3 Y kvs L x:=let ⟨a,e,q⟩:=h;⟨a,e,s _ _ q⟩
theorem GA{kvs:al (Key×V)}(h:∀x∈ps,c3 H kvs L x):∃g:Pd->V,(∀x∈ps,bj kvs (Cv x)=ih (g x))/\ft (λ_=>True) H (ps.map g) (ps.map L):=by
 refine⟨λx=>(bj kvs (Cv x)).getD .aJ,λx b=>?_,?_⟩
 ·obtain⟨a,e,_⟩:=h x b;show _=ih ((bj kvs (Cv x)).getD V.aJ);rw[e];rfl
 ·induction ps with
  |nil=>exact .nil
  |cons x ps c =>
   obtain⟨a,e,q⟩:=h x bJ;exact .cons ⟨a,by show(bj kvs (Cv x)).getD V.aJ=_;rw[e];rfl,trivial,q⟩ (c λy d=>h y (bL _ d))
theorem vB:∀{m:Nat}{rows:al (List Pd)}{o:al Pd},b' m rows=ih o->o.length<=m
 |0,rows,o,h=>by
  unfold b' at h
  first
   |(cases h;exact aN _)
   |(split at h <;> first|(cases h;exact aN _)|cases h)
 |m+1,rows,o,h=>by
  unfold b' at h;split at h
  ·cases e:eQ rows with
   |none=>rw[e]at h;cases h
   |some n =>
    rw[e]at h;obtain⟨o',h',rfl⟩:=fU.mp h;have:=vB h';rw[cf];omega
  ·cases h;exact bw _
inductive mv(vs:List V)(H:Hp)(Q:VK)(E:XK):Prop
 |mk{d oa:Ph}{kvs:List (Key×V)}{L:Pd->List Pd}{k:Pd}{own:List Pd}(_:vs=[.ref d,.str k,.ref oa])(_:H d=ih (.dK kvs))(_:H oa=ih (.lst (own.map V.str)))(_:(∀x∈own,c3 H kvs L x))(_:Small (rowsOf L own))(_:(∀r∈rowsOf L own,r.Nodup))(_:(b' (total (rowsOf L own)) (rowsOf L own)=none ->∀Y,aw H Y->Q .aJ Y))(_:(∀o,b' (total (rowsOf L own)) (rowsOf L own)=ih o ->∀p Y,H p=none->aw H Y->Y p=ih (.lst ((k::o).map V.str))->Q (.ref p) Y)):mv vs H Q E
noncomputable abbrev Cb:List Pd:=["_law_lines","_law_kind","_law_own","_law_found_here"]
theorem BC:aZ Cb ["_law_lines","_law_kind","_law_own"] (aF l9):=a8
abbrev LG:QD:=By (eb (e8 (cH (bD l9) 0)))
theorem BD:bO Cb (aF l9) ["_law_one","_law_lines"] [none,ih 0] (ck LG):=cL
theorem Jf{l:Ta}(F:aP K "_law_line" "_law_line" l9 f fd)(B:cP mg)(y:aP K "_law_merged" "_law_merged" gW fM l)(T:Binds K l ["_law_rows"] [])(U:mg "_law_merged" = ih (.ref fM)) :
  aM P w K mg base ao 2 f fd ["_law_lines","_law_kind","_law_own"] mv:=by
 have W:aM P w K mg base ao 1 fM l ["_law_rows"] oU:=Jb y B;refine F.bG BC λQa A xe s H vs Q E z h=>?_
 ·obtain @⟨d,C,kvs,L,k,own,rfl,Y,n,xa,i,R,ya,za⟩:=h
  have xb:=z.units;have S:=dr xb;intro X;refine⟨_,aq (bf 3 BC.nd (gX W z rfl U y.kp T .nil b7 (aa (bE j' (cY rfl BD (d4 (pv 2)) (λs H fp=>⟨a4 0 BD.nd,dV,bK S (pv 1) (pv 0) (λ_ _=>rfl)⟩)) (d5 (aa (dU ll rfl B.list boot_list (aa (pv 2) ag)) ag))) ag)))
   (aq (bQ (bx l0 (pv 3) gF (bA _)) (aE (aU gF)) bZ)
   (aE (aU (bE j' (d5 (aa (pv 1) ag)) (pv 3))))),?_⟩
  obtain⟨g,yb,zb⟩:=GA xa;have ye:own.length<=20:=i.short own (fR _ bJ);refine af rfl ⟨C,rfl,⟨_,aj.of n⟩,λc D=>ED n Y yb D (by omega) ?_⟩
  have G:=aA (o:=.lst (own.map g)) D;refine af rfl ⟨C,_,rfl,.inl (aj.of (G _ _ n)),λb t=>?_⟩;have xc:=G.trans (aA (o:=.lst (own.map V.str)) t);refine⟨gO,λq m=>?_⟩;have yc:=xc.trans (aA (o:=.lst [V.ref b]) m);have I:upd (upd H c (.lst (own.map g))) b (.lst (own.map V.str)) c=bi (own.map g):=by rw[ab (ar ae t)];exact ae
  refine⟨c,q,_,_,rfl,rfl,by rw[ab (ar I m)];exact I,ae,by rw[aK,aR];show _+1<=_;omega,λzc u=>?_⟩
  have j:=yc.trans (aA (o:=.lst (own.map g++[V.ref b])) u);have xd:upd (upd (upd (upd H c (.lst (own.map g))) b (.lst (own.map V.str))) q (.lst [V.ref b])) zc (.lst (own.map g++[V.ref b])) b=bi (own.map V.str):=by
   have J:upd (upd (upd H c (.lst (own.map g))) b (.lst (own.map V.str))) q (.lst [V.ref b]) b=bi (own.map V.str):=by rw[ab (ar ae m)];exact ae
   rw[ab (ar J u)];exact J
  refine oU.mk rfl (rows:=rowsOf L own) ae (qj (iq zb λa xs _ e=>⟨trivial,j _ _ e⟩) trivial xd) i R (λe M r=>?_) (λo e p M xf r N=>?_)
  ·exact af rfl ⟨rfl,_,rfl,ya e M (j.trans r)⟩
  ·refine af rfl ⟨rfl,_,rfl,?_⟩
   refine af rfl ⟨gO,λyd v=>?_⟩;have O:=r.trans (aA (o:=.lst [V.str k]) v);have yf:=(vB e);have zf:=nt i.short;have ze:=i.b3;refine af rfl ⟨yd,p,_,_,rfl,rfl,ae,by rw[ab (ar N v)];exact N,by rw[aK,aR];show 1+_<=_;omega,λzd x=>?_⟩
   exact za o e zd _ (j.free (O.free x)) (j.trans (O.trans (aA x))) ae
theorem uV{α:Type}:∀(l:al α) (k:Nat) (h:k<l.length),(l[k]::l.eraseIdx k).Perm l
 |[],k,h=>absurd h (tZ _)
 |x::l,0,_=>t2 _
 |x::l,k+1,h=>(UZ _ _ _).trans ((uV l k (PY h)).cons x)
theorem vC{α β:Type}(f:α->β):∀(l:al α) (k:Nat),(l.map f).eraseIdx k=(l.eraseIdx k).map f
 |[],_=>rfl
 |_::_,0=>rfl
 |x::l,k+1=>dc (f x :: ·) (vC f l k)
theorem boot_min:SR "min" = ih (.builtin "min"):=by decide +kernel
theorem Jg{d:Int}(a:0<=d)(h1:d<7):∃v:Int,cT [V.int 0,.int 1,.int 1,.int 2,.int 2,.int 3,.int 4] d=ih (.int v)/\0<=v/\v<=4:=by
 obtain⟨n,rfl⟩:=eZ a
 match n,(show n<7 by omega) with
 |0,_=>exact⟨0,b6 rfl,by decide,by decide⟩
 |1,_=>exact⟨1,b6 rfl,by decide,by decide⟩
 |2,_=>exact⟨1,b6 rfl,by decide,by decide⟩
 |3,_=>exact⟨2,b6 rfl,by decide,by decide⟩
 |4,_=>exact⟨2,b6 rfl,by decide,by decide⟩
 |5,_=>exact⟨3,b6 rfl,by decide,by decide⟩
 |6,_=>exact⟨4,b6 rfl,by decide,by decide⟩
theorem two_at{d a b:Int}(c:0<=d)(h1:d<2)(e:0<=a/\a<m)(f:0<=b/\b<m):∃v:Int,cT [V.int a,.int b] d=ih (.int v)/\0<=v/\v<m:=by
 obtain⟨n,rfl⟩:=eZ c
 match n,(show n<2 by omega) with
 |0,_=>exact⟨a,b6 rfl,e⟩
 |1,_=>exact⟨b,b6 rfl,f⟩
inductive oD(vs:List V)(H:Hp)(Q:VK)(E:XK):Prop
 |mk{p n:Ph}{ys:List Pd}(_:vs=[.ref p,.ref n])(_:bq p H)(_:p≠n)(_:H n=ih (.lst (ys.map V.str)))(_:ys.length<=20)(_:∀(l:Ph) (own rest:List Pd) (Y:Hp),H l=none->(own++rest).Perm ys->own.length<=4->bh p H Y->Y l=ih (.lst (own.map V.str))->Q (.ref l) Y):oD vs H Q E
noncomputable abbrev Kx:List Pd:=["_law_pot_here","_law_made","_law_left","_law_own","_law_turn","_law_at"]
theorem mi:aZ Kx ["_law_pot_here","_law_made"] (aF qB):=a8
theorem HX{Y:Ta}(F:aP K "_law_parents" "_law_parents" qB f fd)(B:cP mg)(D:aP K "_law_digit" "_law_digit" l7 fD Y)(xb:Binds K Y ["_law_pot_here","_law_many"] [])(yb:mg "_law_digit" = ih (.ref fD)) :
  aM P w K mg base ao 2 f fd ["_law_pot_here","_law_made"] oD:=by
 have zb:aM P w K mg base ao 1 fD Y ["_law_pot_here","_law_many"] gn:=qR D;refine F.bG mi λQa A xl s H vs Q E xi h=>?_
 ·obtain @⟨p,n,ys,rfl,xc,zl,yi,yl,q⟩:=h
  have xa:aS 1 _:=xi;intro X;refine⟨_,aq (bf 2 mi.nd (dU ll rfl B.list boot_list (aa (pv 1) ag)))
   (aq (bf 3 mi.nd (d5 ag))
   (aq (e7 eP rfl (ir rfl B.range (aa (bp (qu rfl) rfl B.min boot_min (aa (bp ef rfl B.len d3 (aa (pv 2) ag))
     (aa (aV cX (d5 (aa ak (aa ak (aa ak (aa ak (aa ak (aa ak (aa ak ag)))))))) (gX zb xa rfl yb D.kp xb .nil b7 (aa (pv 0) (aa ak ag)))) ag))) ag)) (a4 4 mi.nd)
    (aq (bf 5 mi.nd (aV cX (d5 (aa (gX zb xa rfl yb D.kp xb .nil b7 (aa (pv 0) (aa (bp ef rfl B.len d3 (aa (pv 2) ag)) ag)))
      (aa (bE je (bp ef rfl B.len d3 (aa (pv 2) ag)) ak) ag))) (gX zb xa rfl yb D.kp xb .nil b7 (aa (pv 0) (aa ak ag)))))
    (aE (cB (gH lg ud ue lz (pv 3)
     (aa (gH lg PySem.F.slot_list_pop PySem.F.type_list_pop E1 (pv 2) (aa (pv 5) ag)) ag))))))
   (aE (aU (pv 3))))),?_⟩
  refine af rfl ⟨n,_,rfl,.inl (aj.of yi),λg u=>?_⟩;refine⟨bw _,λj ya=>?_⟩;have x:p≠g:=xc.ne u;have za:g≠j:=ar ae ya;have T:H j=none:=(aA u).free ya;have y:p≠j:=xc.ne T;have yc:bh p H (upd (upd H g (.lst (ys.map V.str))) j (.lst [])):=((bh.refl xc).new u).new ya;have t:(upd (upd H g (.lst (ys.map V.str))) j (.lst [])) g=bi (ys.map V.str):=by rw[ab za];exact ae
  have U:(upd (upd H g (.lst (ys.map V.str))) j (.lst [])) j=bi []:=ae;generalize upd (upd H g (.lst (ys.map V.str))) j (.lst [])=zm at yc t U⊢;refine af rfl ⟨g,_,rfl,.inl (aj.of t),?_⟩;refine⟨by show 7<=Pk;rw[aR];decide,λc G=>?_⟩
  have yf:=yc.new (o:=.lst [V.int 0,.int 1,.int 1,.int 2,.int 2,.int 3,.int 4]) G;refine af rfl (cy (p:=p) (m:=7) yf.ok (by decide) (by decide) λd O zc I z=>?_)
  have zh:p≠c:=yc.ok.ne G;obtain⟨v,xd,zf,J⟩:=Jg zc I;refine iR (z.kp _ _ ae (aQ zh)) xd ?_;have zi:=yf.trans z;have l:O g=bi (ys.map V.str):=z.kp _ _ (by rw[ab (ar t G)];exact t) (aQ x)
  have r:O j=bi []:=z.kp _ _ (by rw[ab (ar U G)];exact U) (aQ y)
  refine⟨_,v,rfl,?_⟩;rw[aK];obtain⟨N,xj,xm,ym⟩:∃N:Nat,(if v<(ys.length:Int) then v else (ys.length:Int))=N/\N<=4/\N<=ys.length:=by
   split
   ·exact⟨v.toNat,by omega,by omega,by omega⟩
   ·exact⟨ys.length,rfl,by omega,aN _⟩
  rw[xj];refine⟨(N:Int),rfl,by omega,by omega,jV (λi σ O=>∃(zs k:al Pd) (J yd:am V),σ=[a2 p,a2 n,a2 g,a2 j,J,yd]/\zs.length=i/\(zs++k).Perm ys/\bh p H O/\O g=bi (k.map V.str)/\O j=bi (zs.map V.str))
   ⟨[],ys,none,none,rfl,rfl,t2 _,zi,l,r⟩ ?_ ?_⟩
  ·rintro i σ O hi ⟨zs,k,J,yd,rfl,xg,L,M,l,r⟩
   have zg:=L.length_eq;rw[dA]at zg;refine aX rfl rfl ⟨g,_,rfl,.inl (aj.of l),?_⟩;refine cy (p:=p) M.ok (by rw[aK];omega) (by rw[aK];omega) λd H2 zc I R=>?_
   have W:=R.kp _ _ l (aQ x);have xe:=R.kp _ _ r (aQ y);rw[aK]at I;refine af rfl ⟨g,_,rfl,.inl (aj.of W),_,1,rfl,rfl,?_⟩;rw[aK];refine⟨cc,λyj C=>?_⟩;have xf:=(M.trans R).new (o:=.lst [V.int d,.int ((k.length:Int) - 1)]) C;have xh:p≠yj:=R.ok.ne C;refine af rfl (cy (p:=p) (m:=2) xf.ok (by decide) (by decide) λe zd zj xk S=>?_)
   obtain⟨v,xd,zf,yk⟩:=two_at (a:=d) (b:=(k.length:Int) - 1) (m:=(k.length:Int)) zj xk ⟨zc,I⟩ ⟨by omega,by omega⟩
   have ye:zd g=bi (k.map V.str):=S.kp _ _ (by rw[ab (ar W C)];exact W) (aQ x)
   have ze:zd j=bi (zs.map V.str):=S.kp _ _ (by rw[ab (ar xe C)];exact xe) (aQ y)
   have zk:=xf.trans S;refine iR (S.kp _ _ ae (aQ xh)) xd ?_;have yg:v.toNat<k.length:=by omega
   refine af rfl ⟨.inl ⟨rfl,_,aj.of ze⟩,_,rfl,.inl ⟨rfl,_,aj.of ye⟩,_,rfl,?_⟩;refine⟨g,_,v,v.toNat,.str k[v.toNat],rfl,rfl,ye,by omega,by omega,tJ zf (by rw[aK];exact yk),by rw[cR,bY yg];rfl,?_⟩
   have yh:(upd zd g (.lst ((k.map V.str).eraseIdx v.toNat))) j=bi (zs.map V.str):=by rw[ab (aQ za)];exact ze
   refine⟨j,_,_,rfl,rfl,yh,by rw[aK,aR];omega,?_⟩
   refine⟨zs++[k[v.toNat]],k.eraseIdx v.toNat,_,_,rfl,by rw[dA];simp[xg],?_,(zk.write u x).write T y,?_,?_⟩
   ·refine W9 ?_ L
    rw[CF];exact Xc zs (uV k _ yg)
   ·rw[ab za,ae,vC]
   ·rw[ae,bC];rfl
  ·rintro σ O ⟨zs,k,J,yd,rfl,xg,L,M,l,r⟩
   exact af rfl (q j zs k O T L (by omega) M r)
end eW
namespace eW
open L2 HT
def kept(rows:List (List Pd))(o:List Pd):Bool:=rows.all λr=>decide ((o.filter λn=>decide (n∈r))=r)
theorem qt{all:al (List Pd)}{n:Pd}:∀{rest:al (List Pd)},gB all rest=ih n->c4 0 all n=none /\∃(i:Nat) (r:al Pd),rest[i]?=ih r/\r.head?=ih n /\∀(j:Nat) (q:al Pd) (y:Pd),rest[j]?=ih q->q.head?=ih y->c4 0 all y=none->i<=j
 |[],h=>by cases h
 |[]::rest,h=>by
  obtain⟨h1,i,r,e,f,g⟩:=qt (rest:=rest) h;refine⟨h1,i+1,r,by simpa using e,f,λj q y a b d=>?_⟩
  cases j with
  |zero =>
   obtain rfl : []=q:=by simpa using a
   simp at b
  |succ j=>have:=g j q y (by simpa using a) b d;omega
 |(x::t)::rest,h=>by
  have h:(if (c4 0 all x).isNone then ih x else gB all rest)=ih n:=h
  by_cases c:(c4 0 all x).isNone=true
  ·rw[aI c]at h
   cases h
   exact⟨by simpa using c,0,_,rfl,rfl,λ_ _ _ _ _ _=>bw _⟩
  ·rw[ax c]at h
   obtain⟨h1,i,r,e,f,g⟩:=qt (rest:=rest) h;refine⟨h1,i+1,r,by simpa using e,f,λj q y a b d=>?_⟩
   cases j with
   |zero =>
    obtain rfl:x::t=q:=by simpa using a
    obtain rfl:x=y:=by simpa using b
    exact absurd (by rw[d];rfl) c
   |succ j=>have:=g j q y (by simpa using a) b d;omega
def GC(rest:List (List Pd))(q:List Pd):Prop:=q.Nodup /\∀x,x∈q ↔ ∃r∈rest,x∈r
theorem qS{q:al Pd}:kept rest q=true ↔ ∀r∈rest,(q.filter λn=>decide (n∈r))=r:=by
 unfold kept;rw[jM];simp
theorem uE:(∃r∈L2.without n rest,x∈r) ↔ x≠n /\∃r∈rest,x∈r:=by
 constructor
 ·rintro⟨r,c,a⟩
  obtain⟨q,b,rfl⟩:=ba.mp c;have:=cU.mp a;exact⟨by simpa using this.2,q,b,this.1⟩
 ·rintro⟨h,q,b,a⟩
  exact⟨_,ba.mpr ⟨q,b,rfl⟩,cU.mpr ⟨a,by simpa using h⟩⟩
theorem GD:(rest.any λr=>!r.isEmpty)=true ↔ ∃r∈rest,∃x,x∈r:=by
 rw[m7]
 constructor
 ·rintro⟨r,a,e⟩
  cases r with
  |nil=>simp at e
  |cons x t=>exact⟨_,a,x,bJ⟩
 ·rintro⟨r,a,x,b⟩
  refine⟨r,a,?_⟩;cases r with
  |nil=>simp at b
  |cons y t=>rfl
theorem sound:∀(m:Nat) (rest:al (List Pd)),total rest=m->(∀r∈rest,r.Nodup) ->∀o,b' (total rest) rest=ih o->GC rest o/\kept rest o=true:=by
 intro m
 induction m using Vo with
 |_ m u =>
  intro rest D j o b;cases d:rest.any λr=>!r.isEmpty with
  |false =>
   rw[qp d]at b;cases b
   have k:∀r∈rest,∀x,x ∉ r:=λr a x g=>by
    have:=GD.mpr ⟨r,a,x,g⟩;rw[d]at this;cases this
   refine⟨⟨jO,λx=>⟨λh=>by simp at h,λ⟨r,a,g⟩=>absurd g (k r a x)⟩⟩,qS.mpr λr a=>?_⟩
   cases r with
   |nil=>rfl
   |cons y t=>exact absurd bJ (k _ a y)
  |true =>
   cases e:eQ rest with
   |none=>rw[qq d e]at b;cases b
   |some n =>
    rw[qr d e]at b;obtain⟨o',s,rfl⟩:=fU.mp b;have lt:=jQ (jW e);obtain⟨⟨h1,h2⟩,q⟩:=u _ (by omega) (L2.without n rest) rfl (uT j) o' s
    rw[qS]at q;have l:n ∉ o':=λz=>((uE.mp ((h2 n).mp z)).1 rfl);obtain⟨i,_⟩:=qt e;rw[nH]at i;refine⟨⟨d0.mpr ⟨l,h1⟩,λx=>?_⟩,qS.mpr λr a=>?_⟩
    ·rw[bU,h2,uE]
     constructor
     ·rintro(rfl|h)
      ·exact jW e
      ·exact h.2
     ·intro h
      by_cases z:x=n
      ·exact .inl z
      ·exact .inr ⟨z,h⟩
    ·have p:=q _ (ba.mpr ⟨r,a,rfl⟩)
     have same:(o'.filter λy=>decide (y∈r))=o'.filter λy=>decide (y∈r.filter λy=>!decide (y=n)):=by
      apply Qx
      intro y c;have:y≠n:=λz=>l (z ▸ c);simp[this]
     by_cases f:n∈r
     ·have v:=i r a f
      cases r with
      |nil=>simp at f
      |cons z t =>
       obtain rfl:z=n:=by simpa using v
       have A:z ∉ t:=(d0.mp (j _ a)).1;have B:((z::t).filter λy=>!decide (y=z))=t:=by
        rw[hI (by simp)]
        exact nc.mpr λy c=>by
         have:y≠z:=λw=>A (w ▸ c)
         simpa using this
       rw[hJ (by simp),same,p,B]
     ·have C:(r.filter λy=>!decide (y=n))=r:=nc.mpr λy c=>by
       have:y≠n:=λw=>f (w ▸ c)
       simpa using this
      rw[hI (by simpa using f),same,p,C]
end eW
namespace eW
open L2 W HT
theorem len_sub{a b:al Pd}(nd:a.Nodup)(h:∀x∈a,x∈b):a.length<=b.length:=HU nd h
structure Fm(done:List Pd)(L Ps:Pd->List Pd):Prop where
 ps:∀x∈done,(Ps x).Nodup/\(Ps x).length<=4 /\∀y∈Ps x,y∈done
 ln:∀x∈done,∃o,b' (total (rowsOf L (Ps x))) (rowsOf L (Ps x))=ih o/\L x=x::o
 ld:∀x∈done,(L x).Nodup /\∀y∈L x,y∈done
theorem uW:r∈rowsOf L own ↔ (∃y∈own,r=L y)\/r=own:=by
 unfold rowsOf;rw[cQ,ba,dR]
 constructor
 ·rintro(⟨y,h,rfl⟩|h)
  ·exact .inl ⟨y,h,rfl⟩
  ·exact .inr h
 ·rintro(⟨y,h,rfl⟩|h)
  ·exact .inl ⟨y,h,rfl⟩
  ·exact .inr h
theorem Fm.ko(F:Fm done L Ps)(nd:own.Nodup)(sub:∀y∈own,y∈done):∀r∈rowsOf L own,r.Nodup /\∀y∈r,y∈done:=λr a=>by
 rcases uW.mp a with⟨y,b,rfl⟩|rfl
 ·exact F.ld y (sub y b)
 ·exact⟨nd,sub⟩
theorem Fm.small(F:Fm done L Ps)(b:∀x∈done,Nm x)(d:done.length<=8)(nd:own.Nodup)(e:own.length<=4)(sub:∀y∈own,y∈done):Small (rowsOf L own):=by
 refine⟨?_,λr a=>?_,λr a y c=>?_⟩
 ·unfold rowsOf;rw[dA,aK,ip];omega
 ·obtain⟨h1,h2⟩:=F.ko nd sub r a
  have:=len_sub h1 h2;omega
 ·exact b y ((F.ko nd sub r a).2 y c)
theorem Fm.order(F:Fm done L Ps){o:al Pd}(nd:own.Nodup)(sub:∀y∈own,y∈done)(c:b' (total (rowsOf L own)) (rowsOf L own)=ih o):o.Nodup/\(∀y∈o,y∈done) /\∀r∈rowsOf L own,∀y∈r,y∈o:=by
 obtain⟨⟨h1,h2⟩,_⟩:=sound _ _ rfl (λr a=>(F.ko nd sub r a).1) o c;refine⟨h1,λy b=>?_,λr a y b=>(h2 y).mpr ⟨r,a,b⟩⟩;obtain⟨r,a,h⟩:=(h2 y).mp b;exact(F.ko nd sub r a).2 y h
theorem D1{a:Pd->List Pd}(h:∀y∈own,a y=L y):rowsOf a own=rowsOf L own:=by
 unfold rowsOf;rw[t4 h]
theorem Fm.add(F:Fm done L Ps){k:Pd}{o:al Pd}(i:k ∉ done)(nd:own.Nodup)(m:own.length<=4)(sub:∀y∈own,y∈done)(j:b' (total (rowsOf L own)) (rowsOf L own)=ih o) :
  Fm (done++[k]) (λx=>if x=k then k::o else L x) (λx=>if x=k then own else Ps x):=by
 have n:∀{y},y∈done->y≠k:=λh z=>i (z ▸ h);have ext:∀{ps:al Pd},(∀y∈ps,y∈done)->rowsOf (λx=>if x=k then k::o else L x) ps=rowsOf L ps:=λh=>D1 λy d=>ax (n (h y d));obtain⟨p,l,_⟩:=F.order nd sub j;refine⟨λx f=>?_,λx f=>?_,λx f=>?_⟩
 ·by_cases e:x=k
  ·rw[aI e];exact⟨nd,m,λy d=>kX _ (sub y d)⟩
  ·rw[ax e]
   obtain⟨a,b,c⟩:=F.ps x (by rcases cQ.mp f with z|z;exact z;exact absurd (by simpa using z) e)
   exact⟨a,b,λy d=>kX _ (c y d)⟩
 ·by_cases e:x=k
  ·refine⟨o,?_,by rw[aI e,e]⟩
   rw[aI e,ext sub];exact j
  ·have g:x∈done:=by rcases cQ.mp f with z|z;exact z;exact absurd (by simpa using z) e
   obtain⟨o',h1,h2⟩:=F.ln x g;refine⟨o',?_,by rw[ax e];exact h2⟩
   rw[ax e,ext (F.ps x g).2.2];exact h1
 ·by_cases e:x=k
  ·rw[aI e]
   refine⟨d0.mpr ⟨λz=>i (l k z),p⟩,λy d=>?_⟩;rcases bU.mp d with z|z
   ·rw[z];exact fR _ bJ
   ·exact kX _ (l y z)
  ·rw[ax e]
   have g:x∈done:=by rcases cQ.mp f with z|z;exact z;exact absurd (by simpa using z) e
   obtain⟨a,b⟩:=F.ld x g;exact⟨a,λy d=>kX _ (b y d)⟩
def f6(Ps:Pd->List Pd)(ks:List Pd):List (Pd×List Pd):=ks.map λx=>(x,Ps x)
theorem uX(Ps:Pd->List Pd)(ks:al Pd):(f6 Ps ks).map (·.1)=ks:=by
 unfold f6;rw[hF];exact List.map_id' _
theorem Fm.Jh(F:Fm ks L Ps)(nd:ks.Nodup)(g:∀x∈ks,Nm x)(h:ks.length<=8):hZ (f6 Ps ks) L:=by
 have d:∀{p:Pd×List Pd},p∈f6 Ps ks->p.1∈ks/\p.2=Ps p.1:=λ{p} a=>by
  obtain⟨x,b,rfl⟩:=ba.mp a;exact⟨b,rfl⟩
 refine⟨by rw[uX];exact nd,by unfold f6;rw[aK];exact h,λp a=>g _ (d a).1,λp a x b=>?_,⟨λx=>(L x).length,λp a x b=>?_⟩,λp a=>?_⟩
 ·obtain⟨h1,h2⟩:=d a
  rw[h2]at b;exact⟨(x,Ps x),ba.mpr ⟨x,(F.ps _ h1).2.2 x b,rfl⟩,rfl⟩
 ·obtain⟨h1,h2⟩:=d a
  rw[h2]at b;obtain⟨o,e,f⟩:=F.ln _ h1;obtain⟨n1,_,c⟩:=F.ps _ h1;obtain⟨_,_,i⟩:=F.order n1 c e;have:=len_sub (F.ld x (c x b)).1 λy j=>i (L x) (uW.mpr (.inl ⟨x,b,rfl⟩)) y j;show(L x).length<(L p.1).length;rw[f,cf];omega
 ·obtain⟨h1,h2⟩:=d a
  rw[h2];obtain⟨o,e,f⟩:=F.ln _ h1;obtain⟨n1,k,c⟩:=F.ps _ h1;obtain⟨l,m,_⟩:=F.order n1 c e;exact⟨F.small g h n1 k c,o,e,f,by have:=len_sub l m;omega⟩
theorem EF:b' (total (rowsOf L [])) (rowsOf L [])=ih []:=rfl
theorem Fu(xs:al Pd):d9 (xs.map V.str) none (ih (-1))=xs.dropLast.map V.str:=by
 unfold d9;have a:HT.a5 (xs.map V.str).length 0 none=0:=rfl;have b:HT.a5 (xs.map V.str).length (xs.map V.str).length (ih (-1))=xs.length - 1:=by
  rw[aK];unfold HT.a5;simp;omega
 rw[a,b,tV,CP,<-uj,List.dropLast_eq_take]
theorem dg{xs:al Pd}(h:bq p H)(e:H a=bi (xs.map V.str)):a≠p:=by
 rintro rfl;obtain⟨x,y,b,_⟩:=h;rw[e]at b;have c:xs.map V.str=[.int x,.int y]:=HO.lst.inj (c7 b);cases xs with
 |nil=>cases c
 |cons z t=>cases c
theorem c3.ez{kvs:al (Key×V)}(h:c3 H kvs L x)(ok:bq p H)(s:bh p H Y):c3 Y kvs L x:=let ⟨a,e,q⟩:=h;⟨a,e,s.kp _ _ q (dg ok q)⟩
theorem c3.write{kvs b:al (Key×V)}{u:HO}(h:c3 H kvs L x)(c:H d=bm b)(e:Y=upd H d u):c3 Y kvs L x:=let ⟨a,f,q⟩:=h;⟨a,f,by rw[e,ab (aH q c)];exact q⟩
theorem w9{kvs:al (Key×V)}(ok:bq p H)(s:bh p H Y)(e:H d=bm kvs):Y d=bm kvs:=by
 obtain⟨x,y,ep,_⟩:=ok;exact s.kp _ _ e (aH e ep)
theorem qT(h:bq p H)(s:aw H Y):bh p H Y:=by
 obtain⟨x,y,e,r⟩:=h;exact⟨⟨x,y,s _ _ e,r⟩,λb o e _=>s b o e⟩
theorem xZ{kvs:al (Key×V)}{k:Pd}{l:al Pd}(c:H d=bm kvs)(f:H a=bi (l.map V.str))(h:x≠k->c3 H kvs L x) :
  c3 (upd H d (.dK (putK kvs (Cv k) (.ref a)))) (putK kvs (Cv k) (.ref a)) (λx=>if x=k then l else L x) x:=by
 unfold c3;rw[iu]
 by_cases e:x=k
 ·subst e
  refine⟨a,by rw[aI rfl],?_⟩
  rw[ab (aH f c)];show H a=bi ((if x=x then l else L x).map V.str);rw[aI rfl];exact f
 ·obtain⟨b,i,g⟩:=h e
  refine⟨b,by rw[ax (λz=>e (gb z))];exact i,?_⟩
  rw[ab (aH g c)];show H b=bi ((if x=k then l else L x).map V.str);rw[ax e];exact g
theorem wu{kvs:al (Key×V)}{k:Pd}(h:kvs.map (·.1)=done.map Cv)(c:k ∉ done):(putK kvs (Cv k) v).map (·.1)=(done++[k]).map Cv:=by
 have d:bj kvs (Cv k)=none:=by
  have:(bj kvs (Cv k)).isSome=false:=by
   rw[<-i8,Cq];intro a b f;have e:a.1=Cv k:=hH f;have:a.1∈kvs.map (·.1):=ba.mpr ⟨a,b,rfl⟩;rw[h,e]at this;obtain⟨y,g,i⟩:=ba.mp this;exact c (gb i ▸ g)
  cases e:bj kvs (Cv k) with
  |none=>rfl
  |some _=>rw[e]at this;cases this
 rw[iw _ d,bC,bC,h];rfl
structure Ji(p:Ph)(H:Hp)(ks:List Pd)(r d1 d2:Ph)(mw jw:List (Key×V))(L Ps:Pd->List Pd)(Y:Hp):Prop where
 pa:bh p H Y
 hr:Y r=ih (.tup [.ref d1,.ref d2])
 h1:Y d1=ih (.dK mw)
 h2:Y d2=ih (.dK jw)
 k1:mw.map (·.1)=ks.map Cv
 k2:jw.map (·.1)=ks.map Cv
 l1:∀x∈ks,c3 Y mw L x
 l2:∀x∈ks,c3 Y jw Ps x
 fm:Fm ks L Ps
 n1:H d1=none
 n2:H d2=none
 n3:H r=none
 Cc:d1≠d2
inductive oW(vs:List V)(H:Hp)(Q:VK)(E:XK):Prop
 |mk{p n:Ph}{ks:List Pd}(_:vs=[.ref p,.ref n])(_:bq p H)(_:H n=ih (.lst (ks.map V.str)))(_:ks.Nodup)(_:(∀x∈ks,Nm x))(_:ks.length<=8)(_:∀(r d1 d2:Ph) (mw jw:List (Key×V)) (L Ps:Pd->List Pd) (Y:Hp),Ji p H ks r d1 d2 mw jw L Ps Y->Q (.ref r) Y):oW vs H Q E
noncomputable abbrev LH:List Pd:=["_law_pot_here","_law_kinds","_law_lines","_law_parents_here","_law_kind","_law_own","_law_turn"]
theorem kI:aZ LH ["_law_pot_here","_law_kinds"] (aF qL):=a8
theorem Jj{xv:Ph}{yv:Ta}(F:aP K "_law_family" "_law_family" qL f fd)(B:cP mg)(xz:e9 mg)
  (zv:bb P w K mg base ao 2 xv yv ["_law_pot_here","_law_made"] oD "_law_parents")
  (zm:bb P w K mg base ao 2 fL dL ["_law_lines","_law_kind","_law_own"] mv "_law_line") :
  aM P w K mg base ao 3 f fd ["_law_pot_here","_law_kinds"] oW:=by
 refine F.ok kI (λvs H Q E h=>?_) (λQa A zx s H vs Q E t h=>?_)
 ·obtain⟨rfl,_⟩:=h;rfl
 ·obtain @⟨p,n,ks,rfl,xd,xi,knd,xp,yz,q⟩:=h
  have xw:=t.units;have yl:=dr xw;refine⟨_,aq (Hk (i:=2) (j:=3) rfl kI.nd rfl rfl (by decide) rfl rfl (aa ix (aa ix ag)) rfl)
   (aq (e7 eP rfl (d4 (pv 1)) (a4 4 kI.nd)
    (aq (bf 5 kI.nd (aT zv t (aa (pv 0) (aa (dU (ny rfl) rfl B.list boot_list (aa (pv 2) ag)) ag))))
    (aq (e7 eP rfl (ir rfl B.range (aa ak ag)) (a4 6 kI.nd)
     (aE (bQ (bx l0 (aT zm t (aa (pv 2) (aa (pv 4) (aa (pv 5) ag)))) gF (bA _))
      (aE (bf 5 kI.nd (gj iz (pv 5) gk (gm (AK An ak))))) bZ)))
    (aq (hR yl (pv 2) (pv 4) (aT zm t (aa (pv 2) (aa (pv 4) (aa (pv 5) ag)))) rfl)
    (aE (hR yl (pv 3) (pv 4) (pv 5) rfl))))))
   (aE (aU (cz (aa (pv 2) (aa (pv 3) ag)))))),?_⟩
  intro b Y g yf;have xn:aw H (upd (upd H b (.dK [])) g (.dK [])):=(aA Y).trans (aA yf);have xc:b≠g:=ar ae yf;have ze:H g=none:=(aA Y).free yf;have zk:(upd (upd H b (.dK [])) g (.dK [])) b=bm []:=by rw[ab xc];exact ae
  have xl:(upd (upd H b (.dK [])) g (.dK [])) g=bm []:=ae;have yn:=xn;clear xn;refine⟨_,_,rfl,?_⟩;generalize upd (upd H b (.dK [])) g (.dK [])=yw at yn zk xl⊢;have zn:bh p H yw:=qT xd yn;have yp:p≠b:=xd.ne Y;have zp:p≠g:=xd.ne ze;have zl:n≠p:=dg xd xi;refine⟨_,rfl,n,rfl,⟨_,aj.of (zn.kp _ _ xi zl)⟩,i6 (xs:=ks.map V.str) (λi σ O=>∃(d D:al (Key×V)) (L Ps:Pd->List Pd) (yi zi N:am V),σ=[a2 p,a2 n,a2 b,a2 g,yi,zi,N]/\bh p H O /\
   O b=bm d/\O g=bm D/\d.map (·.1)=(ks.take i).map Cv/\D.map (·.1)=(ks.take i).map Cv/\(∀x∈ks.take i,c3 O d L x)/\(∀x∈ks.take i,c3 O D Ps x)/\Fm (ks.take i) L Ps)
   ⟨[],[],λ_=>[],λ_=>[],none,none,none,rfl,zn,zk,xl,rfl,rfl,λx a=>(by cases a),λx a=>(by cases a),⟨λx a=>(by cases a),λx a=>(by cases a),λx a=>(by cases a)⟩⟩ (λi σ O _ ac=>by obtain⟨_,_,_,_,_,_,_,_,z,_⟩:=ac;exact aj.of (z.kp _ _ xi zl)) ?_ ?_⟩
  ·rintro i x σ O a ⟨d,D,L,Ps,yi,zi,N,rfl,R,yc,zf,U,ya,yd,zd,J⟩
   obtain⟨xq,rfl⟩:=wL a;have T:ks.take (i+1)=ks.take i++[ks[i]]:=by rw[cK,bY xq];rfl
   have xf:ks[i]∉ ks.take i:=by
    have:(ks.take (i+1)).Nodup:=knd.sublist (k5 _ _);rw[T]at this;exact λz=>(gU.mp this).2.2 _ z _ bJ rfl
   have yq:(ks.take i).Nodup:=knd.sublist (k5 _ _);have xm:∀x∈ks.take i,Nm x:=λx a=>xp x (lh a);have xo:(ks.take i).length<=8:=by rw[cj];omega
   have yy:d.length=(ks.take i).length:=by have:=dc TV U;simpa using this
   have zy:D.length=(ks.take i).length:=by have:=dc TV ya;simpa using this
   refine⟨_,rfl,_,rfl,b,d,rfl,yc,λl xj=>?_⟩;have zw:d.map (λyj=>kV yj.1)=(ks.take i).map V.str:=by
    have:d.map (λyj=>kV yj.1)=(d.map (·.1)).map kV:=by rw[hF];rfl
    rw[this,U,hF];rfl
   rw[zw];have W:=R.new (o:=.lst ((ks.take i).map V.str)) xj;have xe:=aA (o:=.lst ((ks.take i).map V.str)) xj;refine oD.mk rfl W.ok (R.ok.ne xj) ae (by omega) λG own rest zj ym zb C za xk=>?_
   have yo:=W.trans za;have v:own.Nodup:=(gU.mp (zb.nodup_iff.mpr yq)).1;have m:∀y∈own,y∈ks.take i:=λy yk=>zb.mem_iff.mp (kX _ yk);have xg:=w9 W.ok za (xe _ _ yc);have zq:=w9 W.ok za (xe _ _ zf);have yg:∀x∈ks.take i,c3 zj d L x:=λx a=>((yd x a).same xe).ez W.ok za;have xr:∀x∈ks.take i,c3 zj D Ps x:=λx a=>((zd x a).same xe).ez W.ok za;refine⟨4,rfl,by decide,by decide,jV (λj σ ye=>∃(G:Ph) (own:al Pd) (N:am V),σ=[a2 p,a2 n,a2 b,a2 g,ih (.str ks[i]),a2 G,N]/\aw zj ye/\ye G=bi (own.map V.str)/\own.Nodup/\(∀y∈own,y∈ks.take i)/\own.length<=4/\(b' (total (rowsOf L own)) (rowsOf L own)≠none\/own.length+j<=4))
    ⟨G,own,_,rfl,aw.refl _,xk,v,m,C,.inr C⟩ ?_ ?_⟩
   ·clear zb C v m xk ym
    rintro j σ ye zz ⟨G,own,N,rfl,M,S,v,m,C,zg⟩;have xh:=J.small xm xo v C m;have yh:=λr t=>(J.ko v m r t).1;refine⟨_,rfl,_,rfl,_,rfl,mv.mk rfl (M _ _ xg) S (λx a=>(yg x (m x a)).same M) xh yh (λe X I=>?_) (λo e xb X yr I zo=>?_)⟩
    ·refine⟨rfl,_,rfl,?_⟩
     refine⟨_,rfl,?_⟩;have zr:own ≠ []:=λz=>by rw[z]at e;cases e
     have xy:0<own.length:=lj.mpr zr;refine⟨1,rfl,_,rfl,G,_,rfl,aj.of (I _ _ S),λc xx=>?_⟩;refine⟨c,own.dropLast,_,rfl,(M.trans I).trans (aA xx),?_,v.sublist (List.dropLast_sublist _),λy yk=>m y (List.dropLast_subset _ yk),by rw[Qy];omega,.inr ?_⟩
     ·have:=Fu own
      rw[ae];exact dc ih (dc HO.lst this)
     ·rcases zg with z|z
      ·exact absurd e z
      ·rw[Qy];omega
    ·refine⟨rfl,_,rfl,?_⟩
     exact⟨G,own,_,rfl,M.trans I,I _ _ S,v,m,C,.inl (by rw[e];exact Qz _)⟩
   ·clear zb C v m xk ym
    rintro σ ye ⟨G,own,N,rfl,M,S,v,m,C,zg⟩;have xh:=J.small xm xo v C m;have yh:=λr t=>(J.ko v m r t).1;have xt:b' (total (rowsOf L own)) (rowsOf L own)≠none:=by
     rcases zg with z|z
     ·exact z
     ·have z2:own.length=0:=by have:own.length+WN 4<=4:=z;have xA:WN 4=4:=rfl;omega
      rw[List.length_eq_zero_iff.mp z2,EF];exact Qz _
    refine⟨_,rfl,_,rfl,_,rfl,mv.mk rfl (M _ _ xg) S (λx a=>(yg x (m x a)).same M) xh yh (λe=>absurd e xt) (λo e xb X yr I zo=>?_)⟩;have xa:=M.trans I;have zc:=xa _ _ xg;have yt:=xa _ _ zq;refine⟨_,rfl,_,rfl,b,_,rfl,eI.k (k:=Cv ks[i]) zc (by rw[aR];omega),?_⟩
    have zh:upd X b (.dK (putK d (Cv ks[i]) (.ref xb))) g=bm D:=by rw[ab (aQ xc)];exact yt
    refine⟨_,rfl,_,rfl,_,rfl,g,_,rfl,eI.k (k:=Cv ks[i]) zh (by rw[aR];omega),?_⟩
    have yx:bh p H X:=yo.trans (qT yo.ok xa);have zt:∀x∈ks.take (i+1),c3 (upd X b (.dK (putK d (Cv ks[i]) (.ref xb)))) (putK d (Cv ks[i]) (.ref xb)) (λx=>if x=ks[i] then ks[i]::o else L x) x:=λx a=>xZ zc zo λne=>(yg x (by
     rw[T]at a;rcases cQ.mp a with z|z
     ·exact z
     ·exact absurd (by simpa using z) ne)).same xa
    have xu:upd X b (.dK (putK d (Cv ks[i]) (.ref xb))) G=bi (own.map V.str):=by rw[ab (aH (I _ _ S) zc)];exact I _ _ S
    refine⟨_,_,_,_,_,_,_,rfl,(yx.write Y yp).write ze zp,by rw[ab xc];exact ae,ae,by rw[T];exact wu U xf,by rw[T];exact wu ya xf,λx a=>(zt x a).write zh rfl,λx a=>?_,by rw[T];exact J.add xf v C m e⟩
    refine xZ zh xu λne=>?_;exact((xr x (by
     rw[T]at a;rcases cQ.mp a with z|z
     ·exact z
     ·exact absurd (by simpa using z) ne)).same xa).write zc rfl
  ·rintro σ O ⟨d,D,L,Ps,yi,zi,N,rfl,R,yc,zf,U,ya,yd,zd,J⟩
   rw[aK,cx]at U ya yd zd J;refine⟨_,rfl,_,rfl,cc,λr t=>?_⟩;have yb:=aA (o:=.tup [V.ref b,.ref g]) t;have yu:H r=none:=by
    cases e:H r with
    |none=>rfl
    |some u =>
     have zu:r≠p:=λz=>by obtain⟨_,_,z2,_⟩:=R.ok;rw[z,z2]at t;cases t
     rw[R.kp r u e zu]at t;cases t
   exact q r b g d D L Ps _ ⟨R.trans (qT R.ok yb),ae,yb _ _ yc,yb _ _ zf,U,ya,λx a=>(yd x a).same yb,λx a=>(zd x a).same yb,J,Y,ze,yu,xc⟩
inductive oX(vs:List V)(H:Hp)(Q:VK)(E:XK):Prop
 |mk{d:Ph}{kvs:List (Key×V)}{ks:List Pd}{Ps:Pd->List Pd}(_:vs=[.ref d])(_:H d=ih (.dK kvs))(_:kvs.map (·.1)=ks.map Cv)(_:ks.Nodup)(_:ks.length<=8)(_:(∀x∈ks,c3 H kvs Ps x))(_:∀t o ws U Y,(∀b u,b≠d->H b=ih u->Y b=ih u)->Y t=ih (.aG o (.tup ws))->o.dict=none->cM Y ws U->U.Perm (f6 Ps ks)->Q (.ref t) Y):oX vs H Q E
theorem Ky:aZ ["_law_parents_here"] ["_law_parents_here"] (aF lV):=a8
abbrev LI:QD:=eb (eb (gK (cH (bD lV) 0)))
theorem BE:bO ["_law_parents_here"] (aF lV) ["_law_kind","_law_parents_here"] [none,ih 0] (ck LI):=cL
theorem HY{kvs:al (Key×V)}(b:kvs.map (·.1)=ks.map Cv){a:Key×V}(h:kvs[i]?=ih a):∃x,ks[i]?=ih x/\a.1=Cv x:=by
 have h1:(kvs.map (·.1))[i]?=ih a.1:=by rw[cR,h];rfl
 rw[b,cR]at h1;obtain⟨x,c,e⟩:=fU.mp h1;exact⟨x,c,e.symm⟩
theorem cM.keyed(h:cM H vs U):∃kvs,gY H 1 vs kvs/\kvs.map (·.1)=(U.map (·.1)).map λx=>[x]:=by
 induction h with
 |nil=>exact⟨[],.nil,rfl⟩
 |@cons _ p _ _ h _ c =>
  obtain⟨a,b,e,q,r⟩:=h;obtain⟨kvs,h1,h2⟩:=c;exact⟨([p.1],[.ref b])::kvs,.cons ⟨a,e,q,rfl⟩ h1,by rw[bV,h2];rfl⟩
theorem Jk(F:aP K "_law_family_tuple" "_law_family_tuple" lV f fd)(B:cP mg)(yb:e9 mg):aM P w K mg base ao 1 f fd ["_law_parents_here"] oX:=by
 refine F.ok Ky (λvs H Q E h=>?_) (λQa A yg s H vs Q E zb h=>?_)
 ·obtain⟨rfl,_⟩:=h;rfl
 ·obtain @⟨d,kvs,ks,Ps,rfl,N,R,knd,xj,xc,q⟩:=h
  have yc:=zb.units;have Y:=dr yc;refine⟨_,aE (aU (dU Dh rfl B.tuple boot_tuple (aa (bp lq rfl yb.sorted boot_sorted (aa (cY rfl BE (nX (pv 0)) (λs H fp=>⟨a4 0 BE.nd,dV,
     cz (aa (pv 0) (aa (dU (uy K rfl) rfl B.tuple boot_tuple (aa (bK Y (pv 1) (pv 0)) ag)) ag))⟩)) ag)) ag))),?_⟩
  have lk:kvs.length=ks.length:=by have:=dc TV R;simpa using this
  refine⟨_,rfl,d,kvs,rfl,.inl ⟨N,λk c G=>?_⟩⟩;have v:∀b u,b≠d->H b=ih u->upd H d (.aG k (.dK kvs)) b=ih u:=λb u n e=>by rw[ab n];exact e
  have y:upd H d (.aG k (.dK kvs)) d=ih (.aG k (.dK kvs)):=ae;have S:∀x∈ks,c3 (upd H d (.aG k (.dK kvs))) kvs Ps x:=λx g=>let ⟨b,zc,T⟩:=xc x g;⟨b,zc,v _ _ (aH T N) T⟩
  generalize upd H d (.aG k (.dK kvs))=O at v y S G⊢;refine nG (λi ys p H2=>∃I:am V,p=[I,a2 d]/\H2 c=bi ys/\aw O H2/\cM H2 ys (f6 Ps (ks.take i))) ⟨none,rfl,ae,aA G,.nil⟩ (λi ys p H2 z=>by obtain⟨_,_,z1,z2,_⟩:=z;exact ⟨z1,z2 _ _ y⟩) ?_ ?_
  ·rintro i yj ys p H2 J ⟨I,rfl,h2,l,j⟩
   have xa:i<kvs.length:=(bT.mp J).1;have xh:i<ks.length:=by omega
   obtain⟨x,L,xd⟩:=HY R J;rw[xd];have g:x∈ks:=eF L;have ya:ks.take (i+1)=ks.take i++[x]:=by rw[cK,L];rfl
   obtain⟨a,yd,zd⟩:=(S x g).same l;refine⟨_,rfl,_,rfl,_,rfl,d,.ref a,rfl,.inl ⟨kvs,Cv x,.inr ⟨k,l _ _ y⟩,rfl,yd.symm⟩,?_⟩;refine⟨a,_,rfl,.inl ⟨aj.of zd,λb xe=>?_⟩⟩;have ye:=aA (o:=.tup ((Ps x).map V.str)) xe;refine⟨cc,λt r=>?_⟩;have St:=ye.trans (aA (o:=.tup [V.str x,.ref b]) r);have M:upd (upd H2 b (.tup ((Ps x).map V.str))) t (.tup [V.str x,.ref b]) b=bd ((Ps x).map V.str):=by rw[ab (ar ae r)];exact ae
   have C:=St _ _ h2;refine⟨C,?_,cw_next xa ⟨_,rfl,ae,λx u g=>by rw[ab (ar g G)];exact St _ _ (l x u g),?_⟩⟩
   ·have:=j.length
    unfold f6 at this;rw[aK,cj]at this;rw[aR];omega
   ·have ze:f6 Ps (ks.take (i+1))=f6 Ps (ks.take i)++[(x,Ps x)]:=by rw[ya];unfold f6;rw[bC];rfl
    rw[ze];refine cM.append (j.keep λx xs g=>?_) ?_ ?_ (b:=b)
    ·rw[ab (aH g h2)];exact St _ _ g
    ·rw[ab (aH ae C)];exact ae
    ·rw[ab (aH M C)];exact M
  ·rintro ys p H2 ⟨I,rfl,h2,l,j⟩
   rw[lk,cx]at j;obtain⟨W,pv,za⟩:=j.keyed;have yh:=j.length;have zh:(f6 Ps ks).length=ks.length:=by unfold f6;exact aK ..
   refine⟨c,ys,W,1,rfl,.inl (aj.of h2),pv,aN _,by rw[za,uX];exact knd.map _ λa b n e=>n (W8 e).1,by omega,λD m zg xf U xi yi zi=>?_⟩
   have yf:=aA (o:=.lst m) xf;refine⟨D,m,rfl,aj.of ae,λt o r zf=>?_⟩;have St:=yf.trans (aA (o:=.aG o (.tup m)) r);obtain⟨X,xb,xg⟩:=nr U j;exact q t o m X _ (λb u n e=>St _ _ (l _ _ (v b u n e))) ae zf (cM.same xg St) xb
theorem boot_int:SR "int" = ih (.type "int"):=by decide +kernel
theorem boot_bool:SR "bool" = ih (.type "bool"):=by decide +kernel
structure sA(mg:Pd->Option CS):Prop where
 int:mg "int" = none
 bool:mg "bool" = none
def f5(d:Pj):Bool:=ey "int" d && !ey "bool" d
def g4(x:Pd):Bool:=decide (1<=x.length)&&(decide (x.length<=8)&&x.cps.toList.all λc=>decide (97<=c)&&decide (c<=122))
def g5:Pj->Bool|.str x=>g4 x|_=>false
inductive iA(vs:List V)(H:Hp)(Q:VK)(E:XK):Prop
 |mk{p:Ph}{v:V}{d:Pj}(_:vs=[v])(_:Dt p H v d)(_:Q (.bl (f5 d)) H):iA vs H Q E
theorem GG:aZ ["thing"] ["thing"] (aF qM):=a8
theorem Fv(F:aP K "is_whole" "is_whole" qM f fd)(a:e9 mg)(b:sA mg):aM P w K mg base ao 1 f fd ["thing"] iA:=by
 refine F.ok GG (λvs H Q E h=>?_) (λQa A e s H vs Q E g h=>?_)
 ·obtain⟨rfl,_⟩:=h;rfl
 ·obtain @⟨p,v,d,rfl,r,q⟩:=h
  refine⟨_,aE (aU (ff (bp gA rfl a.gQ gC (aa (pv 0) (aa (gD (v:=.ty "int") rfl b.int boot_int rfl) ag))) (gG (Ak (bp gA rfl a.gQ gC (aa (pv 0) (aa (gD (v:=.ty "bool") rfl b.bool boot_bool rfl) ag))))))),?_⟩;refine⟨_,rfl,iC w0 r ⟨_,rfl,?_⟩⟩;cases c:ey "int" d with
  |false=>rw[show f5 d=false by unfold f5;rw[c];rfl]at q;exact q
  |true =>
   refine⟨_,rfl,iC v' r ⟨_,rfl,?_⟩⟩;rw[show f5 d = !ey "bool" d by unfold f5;rw[c];rfl]at q;exact q
inductive j5(vs:List V)(H:Hp)(Q:VK)(E:XK):Prop
 |mk{p:Ph}{v:V}{d:Pj}(_:vs=[v])(_:Dt p H v d)(_:(∀x,d=.str x->x.length<=100000))(_:∀Y,aw H Y->Q (.bl (g5 d)) Y):j5 vs H Q E
theorem HZ(c:Nat):(!decide ((⟨#[c]⟩:Pd).cps.toList<(SW "a").cps.toList))=decide (97<=c):=by
 have a:(SW "a").cps.toList=[97]:=by decide +kernel
 rw[a,<-decide_not];refine qc.mpr ?_;simp[ui]
theorem H7(c:Nat):(!decide ((SW "z").cps.toList<(⟨#[c]⟩:Pd).cps.toList))=decide (c<=122):=by
 have a:(SW "z").cps.toList=[122]:=by decide +kernel
 rw[a,<-decide_not];refine qc.mpr ?_;simp[ui]
theorem GI{d:Pj}(h:ey "str" d=false):g5 d=false:=by cases d <;> first|rfl|cases h
theorem Fw(F:aP K "is_name" "is_name" j3 f fd)(B:cP mg)(t:e9 mg):aM P w K mg base ao 1 f fd ["thing"] j5:=by
 refine F.ok Az (λvs H Q E h=>?_) (λQa A I s H vs Q E D h=>?_)
 ·obtain⟨rfl,_⟩:=h;rfl
 ·obtain @⟨M,v,d,rfl,r,C,q⟩:=h
  have N:=D.units;refine⟨_,aq (bQ (PW.pt (pw_or (eU (eT (bp gA rfl t.gQ gC (aa (pv 0) (aa (gD (v:=.ty "str") rfl t.str boot_str rfl) ag)))))
     (pw_or1 (eU (vJ jl jl ak (bp uw rfl B.len d3 (aa (pv 0) ag)) ak))))) (aE (aU gZ)) bZ)
   (aE (aU (bp (nD rfl) rfl B.all boot_all (aa (cY rfl oC (Av (pv 0)) (λs H fp=>⟨a4 0 oC.nd,dV,qG nF nF aY (pv 0) aY⟩)) ag)))),?_⟩
  refine⟨_,rfl,iC w1 r ⟨_,rfl,?_⟩⟩;cases u:ey "str" d with
  |false=>have a:=q _ (aw.refl _);rw[GI u]at a;exact a
  |true =>
   obtain⟨x,rfl⟩:∃x,d=.str x:=by cases d with
    |str x=>exact⟨x,rfl⟩
    |_=>cases u
   obtain rfl:v=.str x:=by cases r;rfl
   have J:=C x rfl;refine⟨_,rfl,x,rfl,by rw[aR];omega,1,x.length,rfl,rfl,_,rfl,?_⟩
   by_cases h1:1<=x.length
   ·refine ite_tt (a' (by omega)) ?_
    refine⟨x.length,8,rfl,rfl,_,rfl,?_⟩
    by_cases e:x.length<=8
    ·have g:decide ((x.length:Int)<=8)=true:=a' (by omega)
     have L:x.cps.size<=8:=e;rw[g];refine⟨_,rfl,x,rfl,λp G=>?_⟩;refine vW (λi ys b O=>∃j:am V,b=[j]/\ys=((x.cps.toList.take i).map λc=>decide (97<=c)&&decide (c<=122)).map V.bl/\O=upd H p (.lst ys)) ⟨none,rfl,rfl,rfl⟩ (λi ys b O ⟨_,_,_,z⟩=>by rw[z];exact ae) ?_ ?_
     ·rintro i c ys b O y ⟨j,rfl,rfl,rfl⟩
      have k:i<x.cps.size:=(CI.mp y).1;have l:x.cps.toList.take (i+1)=x.cps.toList.take i++[c]:=by rw[cK,tL,y];rfl
      refine⟨_,rfl,_,_,rfl,rfl,_,rfl,?_⟩;rw[HZ];have m:((((x.cps.toList.take i).map λc=>decide (97<=c)&&decide (c<=122)).map V.bl).length)<Pk:=by rw[aK,aK,cj,mW,aR];omega
      cases n:decide (97<=c) with
      |false =>
       refine ite_ff rfl ⟨ae,m,cw_next k ⟨_,rfl,?_,by rw[e5]⟩⟩
       rw[l,bC,bC,bV,n];rfl
      |true =>
       refine ite_tt rfl ⟨_,_,rfl,rfl,ae,m,cw_next k ⟨_,rfl,?_,by rw[e5]⟩⟩
       rw[H7,l,bC,bC,bV,n];rfl
     ·rintro ys b O ⟨j,rfl,rfl,rfl⟩
      refine⟨p,_,rfl,aj.of ae,?_⟩;have a:=q _ (aA (o:=.lst (((x.cps.toList.take x.cps.size).map λc=>decide (97<=c)&&decide (c<=122)).map V.bl)) G);rw[show g5 (.str x)=((x.cps.toList.take x.cps.size).map λc=>decide (97<=c)&&decide (c<=122)).all id by
       show g4 x=_;unfold g4;rw[a' h1,a' e,CZ,uh (by rw[mW];exact aN _)];rfl]at a
      exact a
    ·have g:decide ((x.length:Int)<=8)=false:=bS (by omega)
     rw[g];have a:=q _ (aw.refl _);rw[show g5 (.str x)=false by show g4 x=_;unfold g4;rw[bS e];simp]at a
     exact a
   ·refine ite_ff (bS (by omega)) ?_
    have a:=q _ (aw.refl _);rw[show g5 (.str x)=false by show g4 x=_;unfold g4;rw[bS h1];simp]at a
    exact⟨_,rfl,a⟩
theorem om{ds:al Pj}(r:Dt p H v (.tuple ds)):∃a vs,v=.ref a/\a≠p/\H a=bd vs/\cO p H vs ds:=by
 cases r with
 |tup n e b=>exact⟨_,_,rfl,n,e,b⟩
theorem iy{d:Pj}{ds:al Pj}(r:cO p H vs (d::ds)):∃v ws,vs=v::ws/\Dt p H v d/\cO p H ws ds:=by
 cases r with
 |cons a b=>exact⟨_,_,rfl,a,b⟩
theorem yZ(r:cO p H vs []):vs=[]:=by cases r;rfl
theorem AB(r:Dt p H v (.str x)):v=.str x:=by cases r;rfl
theorem H8{x:Int}(r:Dt p H v (.int x)):v=.int x:=by cases r;rfl
theorem is_tup{d:Pj}(h:ey "tuple" d=true):∃ds,d=.tuple ds:=by
 cases d with
 |tuple ds=>exact⟨ds,rfl⟩
 |_=>cases h
theorem EG{d:Pj}(h:f5 d=true):∃n,d=.int n:=by
 cases d with
 |int n=>exact⟨n,rfl⟩
 |_=>cases h
theorem er{x:V}:cT (x::xs) 0=ih x:=(show cT (x::xs) ((0:Nat):Int)=ih x from b6 rfl)
theorem gL{x:V}:cT (x::y::xs) 1=ih y:=(show cT (x::y::xs) ((1:Nat):Int)=ih y from b6 rfl)
theorem sC{x z:V}:cT (x::y::z::xs) 2=ih z:=(show cT (x::y::z::xs) ((2:Nat):Int)=ih z from b6 rfl)
theorem kA{a b:Pd}:decide (V.str a=V.str b)=(a==b):=by
 rw[show(a==b)=decide (a=b) from rfl];exact qc.mpr ⟨λe=>by injection e,λe=>by rw[e]⟩
theorem wx:∀{ds:al Pj}{d:Pj},d∈ds->d.bulk+1<=Qt ds
 |e::ds,d,h=>by
  rcases bU.mp h with rfl|h
  ·simp only[Qt];omega
  ·have:=wx h;simp only[Qt];omega
def Sm(d:Pj):Prop:=d.bulk<=100000
theorem Sm.str{d:Pj}(h:Sm d):∀x,d=.str x->x.length<=100000:=λx e=>by subst e;exact h
theorem Sm.tup{ds:al Pj}(h:Sm (.tuple ds)):∀d∈ds,Sm d:=λd a=>by
 have:=wx a;have h':Qt ds<=100000:=h;unfold Sm;omega
def iH:Pj->Bool|.tuple (.str _::_)=>true|_=>false
def c':Pj->Bool
 |.tuple (.str s::ds)=>if s == "onward" then ds.isEmpty else match ds with
  |[e]=>if s == "ask" then g5 e else if s == "times" then (match e with|.int n=>decide (-9<=n)&&decide (n<=9)|_=>false) else s == "add" && f5 e
  |_=>false
 |_=>false
def jj:Pj->Bool|.tuple ds=>decide (ds.length<=4)&&ds.all c'|_=>false
def eg:Pj->Bool
 |.tuple (.str s::ds)=>match ds with
  |[e]=>if s == "plain" then f5 e else if s == "ahead" then false else (s == "behind" || s == "shut")&&jj e
  |[e,g]=>s == "ahead" && (g5 e&&f5 g)
  |_=>false
 |_=>false
inductive kB(vs:List V)(H:Hp)(Q:VK)(E:XK):Prop
 |mk{p:Ph}{v:V}{d:Pj}(_:vs=[v])(_:Dt p H v d)(_:Q (.bl (iH d)) H):kB vs H Q E
theorem Jl:aZ ["thing"] ["thing"] (aF rj):=a8
theorem H9{d:Pj}(h:ey "tuple" d=false):iH d=false:=by cases d <;> first|rfl|cases h
theorem H'(F:aP K "begins_with_text" "begins_with_text" rj f fd)(B:cP mg)(b:e9 mg):aM P w K mg base ao 1 f fd ["thing"] kB:=by
 refine F.ok Jl (λvs H Q E h=>?_) (λQa A k s H vs Q E l h=>?_)
 ·obtain⟨rfl,_⟩:=h;rfl
 ·obtain @⟨p,v,d,rfl,r,q⟩:=h
  refine⟨_,aE (aU (ff (bp gA rfl b.gQ gC (aa (pv 0) (aa (gD (v:=.ty "tuple") rfl B.tuple boot_tuple rfl) ag)))
   (ff (fZ rS (bp ef rfl B.len d3 (aa (pv 0) ag)) ak (bA _))
    (gG (bp gA rfl b.gQ gC (aa (aV cE (pv 0) ak) (aa (gD (v:=.ty "str") rfl b.str boot_str rfl) ag))))))),?_⟩
  refine⟨_,rfl,iC kit_tuple r ⟨_,rfl,?_⟩⟩;cases g:ey "tuple" d with
  |false=>rw[H9 g]at q;exact q
  |true =>
   obtain⟨ds,rfl⟩:=is_tup g;obtain⟨a,vs,rfl,m,i,c⟩:=om r;refine⟨_,rfl,a,_,rfl,.inr (aO.of i),_,_,rfl,rfl,_,rfl,?_⟩;cases ds with
   |nil =>
    obtain rfl:=yZ c;exact q
   |cons e ds =>
    obtain⟨u,us,rfl,j,c⟩:=iy c;refine ite_tt (a' (by rw[cf];omega)) ?_
    refine⟨_,rfl,a,_,0,u,rfl,rfl,aO.of i,er,iC w1 j ?_⟩;rw[show iH (.tuple (e::ds))=ey "str" e by cases e <;> rfl]at q
    exact q
inductive n5(vs:List V)(H:Hp)(Q:VK)(E:XK):Prop
 |mk{p:Ph}{v:V}{d:Pj}(_:vs=[v])(_:Dt p H v d)(_:Sm d)(_:∀Y,aw H Y->Q (.bl (c' d)) Y):n5 vs H Q E
theorem GJ:aZ ["thing"] ["thing"] (aF ri):=a8
theorem wy{d:Pj}(h:iH d=true):∃s ds,d=.tuple (.str s::ds):=by
 match d,h with
 |.tuple (.str s::ds),_=>exact⟨s,ds,rfl⟩
theorem GQ{d:Pj}(h:iH d=false):c' d=false:=by
 match d,h with
 |.tuple (.str s::ds),h=>cases h
 |.tuple [],_=>rfl
 |.tuple (.none::_),_=>rfl
 |.tuple (.bool _::_),_=>rfl
 |.tuple (.int _::_),_=>rfl
 |.tuple (.list _::_),_=>rfl
 |.tuple (.tuple _::_),_=>rfl
 |.tuple (.dict _::_),_=>rfl
 |.none,_=>rfl
 |.bool _,_=>rfl
 |.int _,_=>rfl
 |.str _,_=>rfl
 |.list _,_=>rfl
 |.dict _,_=>rfl
theorem Fx{d:Pj}(h:iH d=false):eg d=false:=by
 match d,h with
 |.tuple (.str s::ds),h=>cases h
 |.tuple [],_=>rfl
 |.tuple (.none::_),_=>rfl
 |.tuple (.bool _::_),_=>rfl
 |.tuple (.int _::_),_=>rfl
 |.tuple (.list _::_),_=>rfl
 |.tuple (.tuple _::_),_=>rfl
 |.tuple (.dict _::_),_=>rfl
 |.none,_=>rfl
 |.bool _,_=>rfl
 |.int _,_=>rfl
 |.str _,_=>rfl
 |.list _,_=>rfl
 |.dict _,_=>rfl
theorem Fy(F:aP K "is_step" "is_step" ri f fd)(B:cP mg)(m:mg "MOST_TIMES" = ih (.int 9 tk))
  (N:bb P w K mg base ao 1 fB dB ["thing"] kB "begins_with_text")
  (R:bb P w K mg base ao 1 fN dN ["thing"] j5 "is_name")
  (o:bb P w K mg base ao 1 fW dW ["thing"] iA "is_whole"):aM P w K mg base ao 2 f fd ["thing"] n5:=by
 refine F.ok GJ (λvs H Q E h=>?_) (λQa A X s H vs Q E S h=>?_)
 ·obtain⟨rfl,_⟩:=h;rfl
 ·obtain @⟨p,v,d,rfl,r,i,q⟩:=h
  have j:aS 1 _:=S;refine⟨_,aq (bQ (eU (eT (aT N j (aa (pv 0) ag)))) (aE (aU gZ)) bZ)
   (aq (bQ (bx c9 (aV cE (pv 0) ak) aY (bA _)) (aE (aU (fZ c9 (bp ef rfl B.len d3 (aa (pv 0) ag)) ak (bA _)))) bZ)
   (aq (bQ (bx jk (bp ef rfl B.len d3 (aa (pv 0) ag)) ak (bA _)) (aE (aU gZ)) bZ)
   (aq (bQ (bx c9 (aV cE (pv 0) ak) aY (bA _)) (aE (aU (aT R j (aa (aV cE (pv 0) ak) ag)))) bZ)
   (aq (bQ (bx c9 (aV cE (pv 0) ak) aY (bA _)) (aE (aU (ff (aT o j (aa (aV cE (pv 0) ak) ag))
     (gG (qG jl jl (AK An (qZ (v:=.int 9) rfl m ⟨tk,rfl⟩)) (aV cE (pv 0) ak) (qZ (v:=.int 9) rfl m ⟨tk,rfl⟩)))))) bZ)
   (aE (aU (ff (fZ c9 (aV cE (pv 0) ak) aY (bA _)) (gG (aT o j (aa (aV cE (pv 0) ak) ag)))))))))),?_⟩
  refine⟨_,rfl,kB.mk rfl r ⟨_,rfl,?_⟩⟩;cases t:iH d with
  |false=>have y:=q _ (aw.refl _);rw[GQ t]at y;exact y
  |true =>
   obtain⟨x,ds,rfl⟩:=wy t;obtain⟨a,vs,rfl,Y,c,z⟩:=om r;obtain⟨u,us,rfl,T,g⟩:=iy z;obtain rfl:=AB T;have C:=g.length;clear z;refine⟨_,rfl,a,_,0,_,rfl,rfl,aO.of c,er,rfl,_,rfl,?_⟩;rw[kA];have b:=q _ (aw.refl _);cases h1:(x == "onward") with
   |true =>
    refine⟨_,rfl,a,_,rfl,.inr (aO.of c),rfl,?_⟩;rw[show c' (.tuple (.str x::ds))=ds.isEmpty by simp only[c',h1,gg]]at b
    rw[show decide (V.int (((V.str x::us).length:Nat):Int)=V.int 1)=ds.isEmpty by
     rw[nU,cf,C];cases ds with
     |nil=>rfl
     |cons e ds=>rw[cf];exact hC.mpr (by omega)]
    exact b
   |false =>
    refine⟨_,rfl,a,_,rfl,.inr (aO.of c),rfl,_,rfl,?_⟩;rw[nU,cf,C]
    match ds,g,q,b,i with
    |[],g,q,b,i =>
     rw[show c' (.tuple [.str x])=false by simp only[c',h1];rfl]at b
     exact b
    |e::D::ds,g,q,b,i =>
     rw[show c' (.tuple (.str x::e::D::ds))=false by simp only[c',h1];rfl]at b
     rw[show(!((((e::D::ds).length+1:Nat):Int)==2))=true by
      rw[Bool.not_eq_true'];exact hC.mpr (by simp only[cf];omega)]
     exact b
    |[e],g,q,b,i =>
     obtain⟨xa,ya,rfl,k,U⟩:=iy g;obtain rfl:=yZ U;clear g;have M:Sm e:=i.tup e (bL _ bJ);refine⟨_,rfl,a,_,0,_,rfl,rfl,aO.of c,er,rfl,_,rfl,?_⟩;rw[kA];cases h2:(x == "ask") with
     |true =>
      refine⟨_,rfl,a,_,1,_,rfl,rfl,aO.of c,gL,j5.mk rfl k M.str λO W=>?_⟩;have G:=q _ W;rw[show c' (.tuple [.str x,e])=g5 e by simp only[c',h1,h2];rfl]at G
      exact G
     |false =>
      refine⟨_,rfl,a,_,0,_,rfl,rfl,aO.of c,er,rfl,_,rfl,?_⟩;rw[kA];cases l:(x == "times") with
      |true =>
       refine⟨_,rfl,a,_,1,_,rfl,rfl,aO.of c,gL,iA.mk rfl k ⟨_,rfl,?_⟩⟩;cases I:f5 e with
       |false =>
        rw[show c' (.tuple [.str x,e])=false by
         simp only[c',h1,h2,l];cases e <;> first|rfl|cases I]at b
        exact b
       |true =>
        obtain⟨n,rfl⟩:=EG I;obtain rfl:=H8 k;rw[show c' (.tuple [.str x,.int n])=(decide (-9<=n)&&decide (n<=9)) by simp only[c',h1,h2,l];rfl]at b
        refine⟨9,rfl,_,rfl,a,_,1,_,rfl,rfl,aO.of c,gL,_,_,rfl,rfl,_,rfl,?_⟩;cases J:decide (-9<=n) with
        |false=>rw[J]at b;exact ite_ff rfl b
        |true=>rw[J]at b;exact ite_tt rfl ⟨_,_,rfl,rfl,b⟩
      |false =>
       refine⟨_,rfl,a,_,0,_,rfl,rfl,aO.of c,er,rfl,_,rfl,?_⟩;rw[kA];rw[show c' (.tuple [.str x,e])=(x == "add" && f5 e) by simp only[c',h1,h2,l];rfl]at b
       cases L:(x == "add") with
       |false=>rw[L]at b;exact b
       |true=>rw[L]at b;exact⟨_,rfl,a,_,1,_,rfl,rfl,aO.of c,gL,iA.mk rfl k b⟩
inductive oo(vs:List V)(H:Hp)(Q:VK)(E:XK):Prop
 |mk{p:Ph}{v:V}{d:Pj}(_:vs=[v])(_:Dt p H v d)(_:Sm d)(_:∀Y,aw H Y->Q (.bl (jj d)) Y):oo vs H Q E
theorem Ia:aZ ["thing"] ["thing"] (aF lC):=a8
def Jm(e:QD)(i:Nat):QD:=match e with|.BoolOp _ es _=>es.getD i (.Constant .none 0 ⟨0,0,0,0⟩)|_=>.Constant .none 0 ⟨0,0,0,0⟩
noncomputable abbrev Jn:QD:=eb (Jm (gK (cH (bD lC) 0)) 2)
theorem AD:bO ["thing"] (aF lC) ["step"] [none] (ck Jn):=cL
theorem Fz{d:Pj}(h:ey "tuple" d=false):jj d=false:=by cases d <;> first|rfl|cases h
theorem Dt.same{d:Pj}(r:Dt p H v d)(S:aw H Y):Dt p Y v d:=r.keep λb o e _=>S b o e
theorem FA{c:Ph}{ds:al Pj}{g:Pj->Bool}{tl:St}(A:H a=bd vs)(m:cO p H vs ds)(n:H c=none)(E:ds.length<=1000)
  (w:∀(v:V) (d:Pj) (O:Hp) (r:VK),d∈ds->aw H O->Dt p O v d->(∀H2,aw O H2->r (.bl (g d)) H2)->te (ih v::tl) O r)
  (q:∀O,aw H O->O c=bi ((ds.map g).map V.bl)->Q (.ref c) O):gr (hB K a) (hX 0) me te (none::tl) Q c H:=by
 have B:=m.length;refine jZ (xs:=vs) (λi ys h H2=>∃k:am V,h=k::tl/\ys=((ds.take i).map g).map V.bl/\aw H H2/\H2 c=bi ys) ⟨none,rfl,rfl,aA n,ae⟩ (λi ys h H2 I=>by obtain⟨_,_,_,z,C⟩:=I;exact ⟨C,aO.of (z _ _ A)⟩) ?_ ?_
 ·rintro i x ys h H2 s ⟨k,rfl,rfl,f,h2⟩
  have y:i<vs.length:=(bT.mp s).1;have j:i<ds.length:=by omega
  obtain⟨F,l,D⟩:=m.get (bY j);rw[s]at l;cases l;refine w x ds[i] H2 _ (eO j) f (D.keep λb o e _=>f b o e) λG t=>⟨t _ _ h2,by rw[aK,aK,cj,aR];omega,cw_next y ⟨_,rfl,?_,λb u e=>?_,ae⟩⟩
  ·rw[cK,bY j,bC,bC];rfl
  ·rw[ab (ar e n)];exact t _ _ (f _ _ e)
 ·rintro ys h H2 ⟨k,rfl,rfl,f,h2⟩
  rw[B,cx]at h2;exact q H2 f h2
theorem GS(F:aP K "are_steps" "are_steps" lC f fd)(B:cP mg)(y:e9 mg)(z:mg "MOST_STEPS" = ih (.int 4 tk))
  (C:bb P w K mg base ao 2 fS dS ["thing"] n5 "is_step"):aM P w K mg base ao 3 f fd ["thing"] oo:=by
 refine F.ok Ia (λvs H Q E h=>?_) (λQa A J s H vs Q E D h=>?_)
 ·obtain⟨rfl,_⟩:=h;rfl
 ·obtain @⟨p,v,d,rfl,r,o,q⟩:=h
  have t:aS 2 _:=D;refine⟨_,aE (aU (ff (bp gA rfl y.gQ gC (aa (pv 0) (aa (gD (v:=.ty "tuple") rfl B.tuple boot_tuple rfl) ag)))
   (ff (fZ jl (bp ef rfl B.len d3 (aa (pv 0) ag)) (qZ (v:=.int 4) rfl z ⟨tk,rfl⟩) (bA _))
    (gG (bp (nD rfl) rfl B.all boot_all (aa (cY rfl AD (jd (pv 0)) (λs H fp=>⟨a4 0 AD.nd,dV,aT C t (aa (pv 0) ag)⟩)) ag)))))),?_⟩
  refine⟨_,rfl,iC kit_tuple r ⟨_,rfl,?_⟩⟩;have b:=q _ (aw.refl _);cases i:ey "tuple" d with
  |false=>rw[Fz i]at b;exact b
  |true =>
   obtain⟨ds,rfl⟩:=is_tup i;obtain⟨a,vs,rfl,L,e,j⟩:=om r;have M:=j.length;refine⟨_,rfl,a,_,rfl,.inr (aO.of e),_,_,rfl,rfl,_,rfl,?_⟩
   by_cases l:ds.length<=4
   ·refine ite_tt (a' (by omega)) ?_
    refine⟨_,rfl,a,rfl,⟨_,aO.of e⟩,λc G=>FA (g:=c') e j G (by omega) (λN I O R u m x k=>⟨_,rfl,n5.mk rfl x (o.tup I u) k⟩) λO m h1=>⟨c,_,rfl,aj.of h1,?_⟩⟩
    have n:=q _ m;rw[show jj (.tuple ds)=(ds.map c').all id by show(decide (ds.length<=4)&&ds.all c')=_;rw[a' l,CZ];rfl]at n
    exact n
   ·rw[show jj (.tuple ds)=false by show(decide (ds.length<=4)&&ds.all c')=_;rw[bS l];rfl]at b
    exact ite_ff (bS (by omega)) b
inductive oq(vs:List V)(H:Hp)(Q:VK)(E:XK):Prop
 |mk{p:Ph}{v:V}{d:Pj}(_:vs=[v])(_:Dt p H v d)(_:Sm d)(_:∀Y,aw H Y->Q (.bl (eg d)) Y):oq vs H Q E
theorem Ib:aZ ["thing"] ["thing"] (aF qN):=a8
theorem Kz{a b:Pd}(h:(x==a)=true)(n:(a==b)=false):(x==b)=false:=by rw[eq_of_beq h];exact n
theorem EH{ds:al Pj}(h:(x == "plain")=true)(a:ds.length≠1):eg (.tuple (.str x::ds))=false:=by
 have n:(x == "ahead")=false:=Kz h (by decide +kernel)
 match ds,a with
 |[],_=>rfl
 |[e],a=>exact absurd rfl a
 |[e,g],_=>simp only[eg,n];rfl
 |_::_::_::_,_=>rfl
theorem EI{ds:al Pj}(h1:(x == "plain")=false)(h:(x == "ahead")=true)(a:ds.length≠2):eg (.tuple (.str x::ds))=false:=by
 match ds,a with
 |[],_=>rfl
 |[e],_=>simp only[eg,h1,h];rfl
 |[e,g],a=>exact absurd rfl a
 |_::_::_::_,_=>rfl
theorem FC{ds:al Pj}(h:(x == "ahead")=false)(a:ds.length≠1):eg (.tuple (.str x::ds))=false:=by
 match ds,a with
 |[],_=>rfl
 |[e],a=>exact absurd rfl a
 |[e,g],_=>simp only[eg,h];rfl
 |_::_::_::_,_=>rfl
theorem Ic{a b:Pd}:jE (V.str x) [V.str a,V.str b]=(x==a||x==b):=by
 show((a==x)||((b==x)||false))=_;rw[VD,show(a==x)=(x==a) from VE,show(b==x)=(x==b) from VE]
theorem GU(F:aP K "is_entry" "is_entry" qN f fd)(B:cP mg)
  (U:bb P w K mg base ao 1 fB dB ["thing"] kB "begins_with_text")
  (W:bb P w K mg base ao 1 fN dN ["thing"] j5 "is_name")
  (I:bb P w K mg base ao 1 fW dW ["thing"] iA "is_whole")
  (X:bb P w K mg base ao 3 fS dS ["thing"] oo "are_steps"):aM P w K mg base ao 4 f fd ["thing"] oq:=by
 refine F.ok Ib (λvs H Q E h=>?_) (λQa A zb s H vs Q E Y h=>?_)
 ·obtain⟨rfl,_⟩:=h;rfl
 ·obtain @⟨p,v,d,rfl,r,D,q⟩:=h
  have G:aS 3 _:=Y;have t:aS 1 _:=G.mono (by decide)
  refine⟨_,aq (bQ (eU (eT (aT U t (aa (pv 0) ag)))) (aE (aU gZ)) bZ)
   (aq (bQ (bx c9 (aV cE (pv 0) ak) aY (bA _)) (aE (aU (ff (fZ c9 (bp ef rfl B.len d3 (aa (pv 0) ag)) ak (bA _)) (gG (aT I t (aa (aV cE (pv 0) ak) ag)))))) bZ)
   (aq (bQ (bx c9 (aV cE (pv 0) ak) aY (bA _)) (aE (aU (ff (fZ c9 (bp ef rfl B.len d3 (aa (pv 0) ag)) ak (bA _)) (ff (aT W t (aa (aV cE (pv 0) ak) ag)) (gG (aT I t (aa (aV cE (pv 0) ak) ag))))))) bZ)
   (aE (aU (ff (fZ (lR K rfl) (aV cE (pv 0) ak) (cz (aa aY (aa aY ag))) rfl) (ff (fZ c9 (bp ef rfl B.len d3 (aa (pv 0) ag)) ak (bA _)) (gG (aT X G (aa (aV cE (pv 0) ak) ag))))))))),?_⟩
  refine⟨_,rfl,kB.mk rfl r ⟨_,rfl,?_⟩⟩;have l:=q _ (aw.refl _);cases J:iH d with
  |false=>rw[Fx J]at l;exact l
  |true =>
   obtain⟨x,ds,rfl⟩:=wy J;obtain⟨a,vs,rfl,xc,b,L⟩:=om r;obtain⟨u,us,rfl,xa,y⟩:=iy L;obtain rfl:=AB xa;have ya:=y.length;clear L;refine⟨_,rfl,a,_,0,_,rfl,rfl,aO.of b,er,rfl,_,rfl,?_⟩;rw[kA];have z:∀k:Int,decide (V.int (((V.str x::us).length:Nat):Int)=V.int k)=decide ((ds.length:Int)+1=k):=λk=>by
    rw[cf,ya];exact qc.mpr ⟨λe=>by injection e with e,λe=>by rw[<-e];exact dc V.int (Int.natCast_add _ _)⟩
   cases h1:(x == "plain") with
   |true =>
    refine⟨_,rfl,a,_,rfl,.inr (aO.of b),rfl,_,rfl,?_⟩;rw[z]
    by_cases m:ds.length=1
    ·obtain⟨e,rfl⟩:=qa.mp m
     obtain⟨M,N,rfl,n,C⟩:=iy y;refine ite_tt (a' (by omega)) ?_
     rw[show eg (.tuple [.str x,e])=f5 e by simp only[eg,h1];rfl]at l
     exact⟨_,rfl,a,_,1,_,rfl,rfl,aO.of b,gL,iA.mk rfl n l⟩
    ·rw[EH h1 m]at l
     refine ite_ff (bS (by omega)) ?_
     exact l
   |false =>
    refine⟨_,rfl,a,_,0,_,rfl,rfl,aO.of b,er,rfl,_,rfl,?_⟩;rw[kA];cases h2:(x == "ahead") with
    |true =>
     refine⟨_,rfl,a,_,rfl,.inr (aO.of b),rfl,_,rfl,?_⟩;rw[z]
     by_cases m:ds.length=2
     ·obtain⟨e,g,rfl⟩:∃e g,ds=[e,g]:=by match ds,m with | [e,g],_=>exact⟨e,g,rfl⟩
      obtain⟨M,N,rfl,n,C⟩:=iy y;obtain⟨yc,zc,rfl,za,xd⟩:=iy C;refine ite_tt (a' (by omega)) ?_
      refine⟨_,rfl,a,_,1,_,rfl,rfl,aO.of b,gL,j5.mk rfl n (D.tup e (bL _ bJ)).str λO j=>⟨_,rfl,?_⟩⟩;have i:=q _ j;rw[show eg (.tuple [.str x,e,g])=(g5 e&&f5 g) by simp only[eg,h2,C1]]at i
      cases R:g5 e with
      |false=>rw[R]at i;exact i
      |true=>rw[R]at i;exact⟨_,rfl,a,_,2,_,rfl,rfl,aO.of (j _ _ b),sC,iA.mk rfl (Dt.same za j) i⟩
     ·rw[EI h1 h2 m]at l
      refine ite_ff (bS (by omega)) ?_
      exact l
    |false =>
     refine⟨_,rfl,a,_,0,_,rfl,rfl,aO.of b,er,cc,λc xb=>?_⟩;have j:=aA (o:=.tup [V.str "behind",V.str "shut"]) xb;refine⟨c,_,rfl,.inr (aO.of ae),rfl,gz ["behind","shut"],_,rfl,?_⟩;rw[ax bM,show jE (V.str x) [V.str "behind",V.str "shut"]=(x == "behind" || x == "shut") from Ic];have i:=q _ j;cases S:(x == "behind" || x == "shut") with
     |false =>
      rw[show eg (.tuple (.str x::ds))=false by
       match ds with
       |[]=>rfl
       |[e]=>simp only[eg,h1,h2,S];rfl
       |[e,g]=>simp only[eg,h2];rfl
       |_::_::_::_=>rfl]at i
      exact i
     |true =>
      refine⟨_,rfl,a,_,rfl,.inr (aO.of (j _ _ b)),rfl,_,rfl,?_⟩;rw[z]
      by_cases m:ds.length=1
      ·obtain⟨e,rfl⟩:=qa.mp m
       obtain⟨M,N,rfl,n,C⟩:=iy y;refine ite_tt (a' (by omega)) ?_
       refine⟨_,rfl,a,_,1,_,rfl,rfl,aO.of (j _ _ b),gL,oo.mk rfl (Dt.same n j) (D.tup e (bL _ bJ)) λH2 yb=>?_⟩;have T:=q _ (j.trans yb);rw[show eg (.tuple [.str x,e])=jj e by simp only[eg,h1,h2,S];rfl]at T
       exact T
      ·rw[FC h2 m]at i
       refine ite_ff (bS (by omega)) ?_
       exact i
end eW
namespace L2
open W
theorem Rep.tupI{ds:al Pj}(r:Rep H v (.tuple ds)):∃a vs,v=.ref a/\H a=bd vs/\b5 H vs ds:=by
 cases r with
 |tup e b=>exact⟨_,_,rfl,e,b⟩
theorem Rep.ib(r:Rep H v (.str x)):v=.str x:=by cases r;rfl
theorem Rep.iI{x:Int}(r:Rep H v (.int x)):v=.int x:=by cases r;rfl
theorem b5.g6{d:Pj}{ds:al Pj}(r:b5 H vs (d::ds)):∃v ws,vs=v::ws/\Rep H v d/\b5 H ws ds:=by
 cases r with
 |cons a b=>exact⟨_,_,rfl,a,b⟩
theorem b5.mx(r:b5 H vs []):vs=[]:=by cases r;rfl
theorem b5.length{H:Hp}:∀{vs:al V}{ds:al Pj},b5 H vs ds->vs.length=ds.length
 |_,_,.nil=>rfl
 |_,_,.cons _ a=>by rw[cf,cf,b5.length a]
end L2
namespace eW
open L2 W HT
def sD:Pj->Pd|.tuple (.str s::_)=>s|_ => ""
def QF:Pj->Int|.tuple [_,.int n]=>n|_=>0
def sE:Pj->Pd|.tuple [_,.str x]=>x|_ => ""
def Jo:Pj->List Pj
 |.tuple [_,.tuple ds]=>ds
 |.tuple [_,.str x,.int n]=>[.tuple [.str "ask",.str x],.tuple [.str "add",.int n]]
 |.tuple [_,.int n]=>[.tuple [.str "add",.int n]]
 |_=>[]
inductive dQ:Pj->Prop where
 |add (n:Int) (h:n.natAbs<=10 ^ 18):dQ (.tuple [.str "add",.int n])
 |times (n:Int) (lo : -9<=n) (hi:n<=9):dQ (.tuple [.str "times",.int n])
 |kq:dQ (.tuple [.str "onward"])
 |ask (x:Pd) (h:Nm x):dQ (.tuple [.str "ask",.str x])
inductive Ent:Pj->Prop where
 |plain (n:Int) (h:n.natAbs<=10 ^ 18):Ent (.tuple [.str "plain",.int n])
 |ahead (x:Pd) (n:Int) (h:Nm x) (hn:n.natAbs<=10 ^ 18):Ent (.tuple [.str "ahead",.str x,.int n])
 |behind (ds:List Pj) (h4:ds.length<=4) (hs:∀d∈ds,dQ d):Ent (.tuple [.str "behind",.tuple ds])
 |kJ (ds:List Pj) (h4:ds.length<=4) (hs:∀d∈ds,dQ d):Ent (.tuple [.str "shut",.tuple ds])
theorem two1{s:Pd}{d:Pj}(r:Rep H v (.tuple [.str s,d])):∃a u,v=.ref a/\H a=bd [.str s,u]/\Rep H u d:=by
 obtain⟨a,vs,rfl,c,b⟩:=r.tupI;obtain⟨h,i,rfl,e,b⟩:=b.g6;obtain⟨f,j,rfl,g,b⟩:=b.g6;obtain rfl:=b.mx;obtain rfl:=e.ib;exact⟨a,f,rfl,c,g⟩
theorem dQ.keep{d:Pj}(s:dQ d)(r:Rep H v d)(k:∀b xs,H b=bd xs->Y b=bd xs):Rep Y v d:=by
 cases s with
 |add n =>
  obtain⟨a,u,rfl,c,e⟩:=two1 r;obtain rfl:=e.iI;exact .tup (k _ _ c) (.cons (.str _) (.cons (.int _) .nil))
 |times n =>
  obtain⟨a,u,rfl,c,e⟩:=two1 r;obtain rfl:=e.iI;exact .tup (k _ _ c) (.cons (.str _) (.cons (.int _) .nil))
 |ask x =>
  obtain⟨a,u,rfl,c,e⟩:=two1 r;obtain rfl:=e.ib;exact .tup (k _ _ c) (.cons (.str _) (.cons (.str _) .nil))
 |kq =>
  obtain⟨a,vs,rfl,c,f⟩:=r.tupI;obtain⟨h,i,rfl,g,f⟩:=f.g6;obtain rfl:=f.mx;obtain rfl:=g.ib;exact .tup (k _ _ c) (.cons (.str _) .nil)
theorem qD(k:∀b xs,H b=bd xs->Y b=bd xs){ds:al Pj}(r:b5 H vs ds)(h:∀d∈ds,dQ d):b5 Y vs ds:=by
 induction vs generalizing ds with
 |nil=>cases r;exact .nil
 |cons x xs a=>cases r with|cons r c=>exact .cons ((h _ bJ).keep r k) (a c λd e=>h d (bL _ e))
theorem Ent.keep{d:Pj}(s:Ent d)(r:Rep H v d)(k:∀b xs,H b=bd xs->Y b=bd xs):Rep Y v d:=by
 cases s with
 |plain n =>
  obtain⟨a,u,rfl,e,f⟩:=two1 r;obtain rfl:=f.iI;exact .tup (k _ _ e) (.cons (.str _) (.cons (.int _) .nil))
 |ahead x n =>
  obtain⟨a,vs,rfl,e,c⟩:=r.tupI;obtain⟨m,o,rfl,i,c⟩:=c.g6;obtain⟨p,q,rfl,f,c⟩:=c.g6;obtain⟨t,w,rfl,j,c⟩:=c.g6;obtain rfl:=c.mx;obtain rfl:=i.ib;obtain rfl:=f.ib;obtain rfl:=j.iI;exact .tup (k _ _ e) (.cons (.str _) (.cons (.str _) (.cons (.int _) .nil)))
 |behind ds l g =>
  obtain⟨a,u,rfl,e,f⟩:=two1 r;obtain⟨b,vs,rfl,h,c⟩:=f.tupI;exact .tup (k _ _ e) (.cons (.str _) (.cons (.tup (k _ _ h) (qD k c g)) .nil))
 |kJ ds l g =>
  obtain⟨a,u,rfl,e,f⟩:=two1 r;obtain⟨b,vs,rfl,h,c⟩:=f.tupI;exact .tup (k _ _ e) (.cons (.str _) (.cons (.tup (k _ _ h) (qD k c g)) .nil))
theorem n7(a:bq p H)(c:bh p H Y):∀b xs,H b=bd xs->Y b=bd xs:=λb xs e=>by
 obtain⟨x,y,d,_⟩:=a;exact c.kp b _ e (aH e d)
theorem Dl{ds:al Pj}{d:Pj}(h:b5 H vs ds)(r:Rep H v d):b5 H (vs++[v]) (ds++[d]):=by
 induction vs generalizing ds with
 |nil=>cases h;exact .cons r .nil
 |cons x xs b=>cases h with|cons a c=>exact .cons a (b c)
inductive jr(vs:List V)(H:Hp)(Q:VK)(E:XK):Prop
 |mk{p:Ph}(_:vs=[.ref p])(_:bq p H)(_:∀(n:Int) (Y:Hp),n.natAbs<=10 ^ 18->bh p H Y->Q (.int n) Y):jr vs H Q E
noncomputable abbrev KA:List Pd:=["_law_pot_here","_law_near","_law_far"]
theorem r5:aZ KA ["_law_pot_here"] (aF rf):=a8
theorem Ie(F:aP K "_law_number" "_law_number" rf f fd)
  (i:bb P w K mg base ao 1 fD dD ["_law_pot_here","_law_many"] gn "_law_digit"):aM P w K mg base ao 2 f fd ["_law_pot_here"] jr:=by
 refine F.bG r5 λQa A I s H vs Q E y h=>?_
 ·obtain @⟨p,rfl,z,q⟩:=h
  have g:aS 1 _:=y;intro X;refine⟨_,aq (bf 1 r5.nd (bE je (aT i g (aa (pv 0) (aa ak ag))) ak))
   (aq (bf 2 r5.nd (bE fh (bE je (aT i g (aa (pv 0) (aa (bE je (bE n' ak (bE rq ak ak)) ak) ag))) (bE rq ak ak)) ak))
   (aE (aU (aV cX (d5 (aa (pv 1) (aa (pv 1) (aa ak (aa (pv 2) ag))))) (aT i g (aa (pv 0) (aa ak ag))))))),?_⟩
  refine af rfl (cy (p:=p) (m:=41) z (by decide) (by decide) λl O J L k=>⟨_,_,rfl,rfl,?_⟩)
  refine af rfl ⟨_,_,rfl,rfl,⟨by decide,by decide,by decide⟩,_,_,rfl,rfl,.inl ⟨by decide,by decide⟩,_,_,rfl,rfl,?_⟩
  refine cy (p:=p) (m:=2 * 10 ^ (18:Int).toNat - 1) k.ok (by decide) (by decide) λB H2 M d p2=>⟨_,_,rfl,rfl,⟨by decide,by decide,by decide⟩,_,_,rfl,rfl,_,_,rfl,rfl,?_⟩
  refine dJ rfl rfl rfl ⟨by show 4<=Pk;rw[aR];decide,λc r=>?_⟩
  have t:=(k.trans p2).new (o:=.lst [.int (l - 20),.int (l - 20),.int 0,.int (B - 10 ^ (18:Int).toNat+1)]) r;refine af rfl (cy (p:=p) (m:=4) t.ok (by decide) (by decide) λN u C R v=>?_)
  have x:c≠p:=aQ ((k.trans p2).ok.ne r);have e:=v.kp _ _ ae x;obtain⟨j,rfl⟩:=eZ C;have a:(10:Int) ^ (18:Int).toNat=1000000000000000000:=rfl;have b:∀n:Int,n.natAbs<=10 ^ 18->Q (.int n) u:=λn D=>q n u D (t.trans v);have G:j=0\/j=1\/j=2\/j=3:=by omega
  rcases G with rfl|rfl|rfl|rfl
  ·exact⟨c,_,((0:Nat):Int),_,rfl,rfl,aj.of e,b6 rfl,b _ (by first|omega|(rw[a]at d⊢;omega))⟩
  ·exact⟨c,_,((1:Nat):Int),_,rfl,rfl,aj.of e,b6 rfl,b _ (by first|omega|(rw[a]at d⊢;omega))⟩
  ·exact⟨c,_,((2:Nat):Int),_,rfl,rfl,aj.of e,b6 rfl,b _ (by first|omega|(rw[a]at d⊢;omega))⟩
  ·exact⟨c,_,((3:Nat):Int),_,rfl,rfl,aj.of e,b6 rfl,b _ (by first|omega|(rw[a]at d⊢;omega))⟩
inductive oE(vs:List V)(H:Hp)(Q:VK)(E:XK):Prop
 |mk{p l:Ph}{ys:List Pd}{k:Nat}(_:vs=[.ref p,.ref l,.int k])(_:bq p H)(_:H l=ih (.lst (ys.map V.str)))(_:ys ≠ [])(_:ys.length<=20)(_:(∀y∈ys,Nm y))(_:∀(v:V) (d:Pj) (Y:Hp),bh p H Y->Rep Y v d->dQ d->(sD d = "ask" -> sE d∈ys)->Q v Y):oE vs H Q E
noncomputable abbrev KC:List Pd:=["_law_pot_here","_law_names_here","_law_at","_law_way","_law_later"]
theorem oF:aZ KC ["_law_pot_here","_law_names_here","_law_at"] (aF rZ):=a8
theorem Ig(F:aP K "_law_step" "_law_step" rZ f fd)(B:cP mg)
  (D:bb P w K mg base ao 1 fD dD ["_law_pot_here","_law_many"] gn "_law_digit")
  (ze:bb P w K mg base ao 2 fN dN ["_law_pot_here"] jr "_law_number"):aM P w K mg base ao 3 f fd ["_law_pot_here","_law_names_here","_law_at"] oE:=by
 refine F.bG oF λQa A xh s H vs Q E xb h=>?_
 ·obtain @⟨p,l,ys,k,rfl,yb,G,ne,Y,S,q⟩:=h
  have xf:=xb.units;have xa:aS 2 _:=xb;have v:aS 1 _:=xa.mono (by decide)
  intro X;refine⟨_,aq (bf 3 oF.nd (aT D v (aa (pv 0) (aa ak ag))))
   (aq (bQ (bx c9 (pv 3) ak (bA _)) (aE (aU (cz (aa aY (aa (aT ze xa (aa (pv 0) ag)) ag))))) bZ)
   (aq (bQ (bx c9 (pv 3) ak (bA _)) (aE (aU (cz (aa aY (aa (bE je (aT D v (aa (pv 0) (aa ak ag))) ak) ag))))) bZ)
   (aq (bQ (bx AL (pv 3) ak (bA _)) (aE (aU (cz (aa aY ag)))) bZ)
   (aq (bf 4 oF.nd (gj iz (pv 1) (gm (bE fh (pv 2) ak)) gk))
   (aq (bQ (PW.pt (pw_or (bx (rx xf) (pv 4) (d5 ag) (bA _)) (pw_or1 (bx c9 (aT D v (aa (pv 0) (aa ak ag))) ak (bA _))))) (aE (bf 4 oF.nd (pv 1))) bZ)
   (aE (aU (cz (aa aY (aa (aV cX (pv 4) (aT D v (aa (pv 0) (aa (bp ef rfl B.len d3 (aa (pv 4) ag)) ag)))) ag)))))))))),?_⟩
  refine af rfl (cy (p:=p) (m:=6) yb (by decide) (by decide) λyh O zh xi g=>?_)
  refine af rfl ⟨rfl,_,rfl,?_⟩;refine dX (λyf=>?_) (λyf=>?_)
  ·refine af rfl (jr.mk rfl g.ok λn H2 zf p2=>⟨cc,λt a=>?_⟩)
   exact q _ _ _ ((g.trans p2).new a) (.tup ae (.cons (.str _) (.cons (.int _) .nil))) (.add n zf) (λz=>absurd z (by show ¬ ((("add" : Pd)) = "ask");decide +kernel))
  refine af rfl ⟨rfl,_,rfl,?_⟩;refine dX (λh1=>?_) (λh1=>?_)
  ·refine af rfl (cy (p:=p) (m:=19) g.ok (by decide) (by decide) λn H2 xg yg p2=>⟨_,_,rfl,rfl,cc,λt a=>?_⟩)
   exact q _ _ _ ((g.trans p2).new a) (.tup ae (.cons (.str _) (.cons (.int _) .nil))) (.times (n - 9) (by omega) (by omega)) (λz=>absurd z (by show ¬ ((("times" : Pd)) = "ask");decide +kernel))
  refine af rfl ⟨_,_,rfl,rfl,_,rfl,?_⟩;refine dX (λh2=>?_) (λh2=>?_)
  ·refine⟨gO,λt a=>?_⟩
   exact q _ _ _ (g.new a) (.tup ae (.cons (.str _) .nil)) .kq (λz=>absurd z (by show ¬ ((("onward" : Pd)) = "ask");decide +kernel))
  have J:l≠p:=dg yb G;refine aX rfl rfl ⟨_,_,rfl,rfl,_,rfl,l,_,rfl,aj.of (g.kp _ _ G J),λc zg=>?_⟩;have yd:d9 (ys.map V.str) (ih ((k:Int)+1)) none=(ys.drop (k+1)).map V.str:=by
   rw[qb];exact lO (ys.map V.str) (k+1)
  rw[yd];have p2:=g.new (o:=.lst ((ys.drop (k+1)).map V.str)) zg;have x:upd O c (.lst ((ys.drop (k+1)).map V.str)) c=bi ((ys.drop (k+1)).map V.str):=ae;generalize upd O c (.lst ((ys.drop (k+1)).map V.str))=H2 at p2 x⊢;have L:∀y∈ys.drop (k+1),Nm y:=λy T=>S y (C2 T);have dl:(ys.drop (k+1)).length<=ys.length:=by rw[tI];omega
  have U:∀y∈ys.drop (k+1),y∈ys:=λy T=>C2 T;generalize ys.drop (k+1)=zs at x L dl U;refine af rfl ⟨bw _,λI ya=>?_⟩;have d:=p2.new (o:=.lst []) ya;have C:upd H2 I (.lst []) c=bi (zs.map V.str):=by rw[ab (ar x ya)];exact x
  have za:upd H2 I (.lst []) I=bi []:=ae;generalize upd H2 I (.lst [])=yi at d C za⊢;refine eq_nil C za L (af rfl ?_);have M:=d.kp _ _ G J;refine dX (λzb=>?_) (λzb=>?_)
  ·refine af rfl ?_
   refine dJ rfl rfl rfl ⟨l,_,rfl,.inl (aj.of M),?_⟩;rw[aK];have W:0<ys.length:=lj.mpr ne;have zd:ys.length<=20:=Y;refine cy (p:=p) (m:=(ys.length:Int)) d.ok (by omega) (by omega) λxc yc r zc e=>?_
   obtain⟨j,rfl⟩:=eZ r;have b:j<ys.length:=by omega
   have u:=e.kp _ _ M (dg d.ok M);refine⟨l,_,(j:Int),.str ys[j],rfl,rfl,aj.of u,b6 (by rw[cR,bY b];rfl),cc,λt a=>?_⟩
   exact q _ _ _ ((d.trans e).new a) (.tup ae (.cons (.str _) (.cons (.str _) .nil))) (.ask _ (S _ (eO b))) (λ_=>eO b)
  have xe:zs ≠ []:=λz=>zb (by simp[z])
  refine af rfl (cy (p:=p) (m:=4) d.ok (by decide) (by decide) λzi xj xg yg xd=>⟨rfl,_,rfl,?_⟩)
  have i:=d.trans xd;have N:=i.kp _ _ G J;have R:=xd.kp _ _ C (dg d.ok C);refine dX (λye=>?_) (λye=>?_)
  ·refine af rfl ?_
   refine dJ rfl rfl rfl ⟨l,_,rfl,.inl (aj.of N),?_⟩;rw[aK];have W:0<ys.length:=lj.mpr ne;have zd:ys.length<=20:=Y;refine cy (p:=p) (m:=(ys.length:Int)) i.ok (by omega) (by omega) λxc yc r zc e=>?_
   obtain⟨j,rfl⟩:=eZ r;have b:j<ys.length:=by omega
   have u:=e.kp _ _ N (dg i.ok N);refine⟨l,_,(j:Int),.str ys[j],rfl,rfl,aj.of u,b6 (by rw[cR,bY b];rfl),cc,λt a=>?_⟩
   exact q _ _ _ ((i.trans e).new a) (.tup ae (.cons (.str _) (.cons (.str _) .nil))) (.ask _ (S _ (eO b))) (λ_=>eO b)
  ·refine dJ rfl rfl rfl ⟨c,_,rfl,.inl (aj.of R),?_⟩
   rw[aK];have W:0<zs.length:=lj.mpr xe;refine cy (p:=p) (m:=(zs.length:Int)) i.ok (by omega) (by omega) λxc yc r zc e=>?_
   obtain⟨j,rfl⟩:=eZ r;have b:j<zs.length:=by omega
   have u:=e.kp _ _ R (dg i.ok R);refine⟨c,_,(j:Int),.str zs[j],rfl,rfl,aj.of u,b6 (by rw[cR,bY b];rfl),cc,λt a=>?_⟩
   exact q _ _ _ ((i.trans e).new a) (.tup ae (.cons (.str _) (.cons (.str _) .nil))) (.ask _ (L _ (eO b))) (λ_=>U _ (eO b))
inductive kC(vs:List V)(H:Hp)(Q:VK)(E:XK):Prop
 |mk{p l:Ph}{ys:List Pd}{k:Nat}(_:vs=[.ref p,.ref l,.int k])(_:bq p H)(_:H l=ih (.lst (ys.map V.str)))(_:ys ≠ [])(_:ys.length<=20)(_:(∀y∈ys,Nm y))(_:∀(v:V) (d:Pj) (Y:Hp),bh p H Y->Rep Y v d->Ent d->(∀s∈Jo d,sD s = "ask" -> sE s∈ys)->Q v Y):kC vs H Q E
noncomputable abbrev BF:List Pd:=["_law_pot_here","_law_names_here","_law_at","_law_way","_law_steps"]
theorem r6:aZ BF ["_law_pot_here","_law_names_here","_law_at"] (aF ma):=a8
abbrev KD:QD:=eb (e8 (cH (bD ma) 3))
theorem A1:bO BF (aF ma) ["_law_turn","_law_pot_here","_law_names_here","_law_at"] [none,ih 0,ih 1,ih 2] (ck KD):=cL
theorem Ih(F:aP K "_law_entry" "_law_entry" ma f fd)(B:cP mg)
  (za:bb P w K mg base ao 1 fD dD ["_law_pot_here","_law_many"] gn "_law_digit")
  (xh:bb P w K mg base ao 2 fN dN ["_law_pot_here"] jr "_law_number")
  (zk:bb P w K mg base ao 3 fS dS ["_law_pot_here","_law_names_here","_law_at"] oE "_law_step"):aM P w K mg base ao 4 f fd ["_law_pot_here","_law_names_here","_law_at"] kC:=by
 refine F.bG r6 λQa A xo s H vs Q E xl h=>?_
 ·obtain @⟨p,l,ys,k,rfl,yh,xb,ne,yk,zh,q⟩:=h
  have ze:aS 3 _:=xl;have xa:aS 2 _:=ze.mono (by decide)
  have ya:aS 1 _:=xa.mono (by decide)
  intro X;refine⟨_,aq (bf 3 r6.nd (aT za ya (aa (pv 0) (aa ak ag))))
   (aq (bQ (bx c9 (pv 3) ak (bA _)) (aE (aU (cz (aa aY (aa (aT xh xa (aa (pv 0) ag)) ag))))) bZ)
   (aq (bQ (bx c9 (pv 3) ak (bA _)) (aE (aU (cz (aa aY (aa (aV cX (pv 1) (bE j9 (bE fh (bE fh (pv 2) ak) (aT za ya (aa (pv 0) (aa (bp ef rfl B.len d3 (aa (pv 1) ag)) ag)))) (bp ef rfl B.len d3 (aa (pv 1) ag)))) (aa (aT xh xa (aa (pv 0) ag)) ag)))))) bZ)
   (aq (bf 4 r6.nd (dU i3 rfl B.tuple boot_tuple (aa (cY rfl A1 (ir rfl B.range (aa (aT za ya (aa (pv 0) (aa ak ag))) ag)) (λs H fp=>⟨a4 0 A1.nd,dV,aT zk ze (aa (pv 1) (aa (pv 2) (aa (pv 3) ag)))⟩)) ag)))
   (aE (aU (cz (aa (aV cX (d5 (aa aY (aa aY (aa aY ag)))) (bE je (pv 3) ak)) (aa (pv 4) ag)))))))),?_⟩
  have L:l≠p:=dg yh xb;have yo:0<ys.length:=lj.mpr ne;refine af rfl (cy (p:=p) (m:=5) yh (by decide) (by decide) λG O zo xp r=>?_)
  refine af rfl ⟨rfl,_,rfl,?_⟩;refine dX (λxi=>?_) (λxi=>?_)
  ·refine af rfl (jr.mk rfl r.ok λn H2 yb p2=>⟨cc,λt a=>?_⟩)
   exact q _ _ _ ((r.trans p2).new a) (.tup ae (.cons (.str _) (.cons (.int _) .nil))) (.plain n yb) (λs zb=>by rw[dR.mp zb];exact λz=>absurd z (by show ¬ ((("add" : Pd)) = "ask");decide +kernel))
  have xf:=r.kp _ _ xb L;refine af rfl ⟨rfl,_,rfl,?_⟩;refine dX (λh1=>?_) (λh1=>?_)
  ·refine aX rfl rfl ⟨_,_,rfl,rfl,_,rfl,_,rfl,l,_,rfl,.inl (aj.of xf),?_⟩
   rw[aK];refine cy (p:=p) (m:=(ys.length:Int)) r.ok (by omega) (by omega) λxc H2 yl zl p2=>?_
   have M:=p2.kp _ _ xf L;refine⟨_,_,rfl,rfl,_,rfl,l,_,rfl,.inl (aj.of M),_,_,rfl,rfl,by rw[aK];omega,?_⟩
   rw[aK];obtain⟨j,yi⟩:=eZ (uf ((k:Int)+1+xc) (show(ys.length:Int)≠0 by omega))
   have I:j<ys.length:=by
    have:=ug ((k:Int)+1+xc) (show(0:Int)<(ys.length:Int) by omega)
    rw[yi]at this;omega
   refine⟨l,_,(j:Int),.str ys[j],rfl,(dc V.int yi:V.int (((k:Int)+1+xc) % (ys.length:Int))=V.int (j:Int)),aj.of M,b6 (by rw[cR,bY I];rfl),_,rfl,jr.mk rfl p2.ok λn yp yb xm=>⟨eK,λt a=>?_⟩⟩
   exact q _ _ _ (((r.trans p2).trans xm).new a) (.tup ae (.cons (.str _) (.cons (.str _) (.cons (.int _) .nil)))) (.ahead _ n (zh _ (eO I)) yb) (λs zb=>by
    rcases bU.mp zb with z|z
    ·rw[z];exact λ_=>eO I
    ·rw[dR.mp z];exact λz=>absurd z (by show ¬ ((("add" : Pd)) = "ask");decide +kernel))
  have ym:G=2\/G=3\/G=4:=by
   have zp:G≠0:=λz=>xi (by rw[z];rfl)
   have xq:G≠1:=λz=>h1 (by rw[z];rfl)
   omega
  refine af rfl (cy (p:=p) (m:=5) r.ok (by decide) (by decide) λdn H2 yl zl p2=>⟨dn,rfl,by omega,by omega,λc yc=>?_⟩)
  have T:=r.trans p2;have yf:p≠c:=T.ok.ne yc;have M:=T.kp _ _ xb L;refine qm (λi zs U g=>∃(ds:al Pj) (zc:am V),U=[zc,a2 p,a2 l,ih (.int (k:Int))]/\b5 g zs ds/\ds.length=i/\(∀d∈ds,dQ d)/\(∀d∈ds,sD d = "ask" -> sE d∈ys)/\bh p H2 g/\g c=bi zs)
   ⟨[],none,rfl,.nil,rfl,(λd xd=>by cases xd),(λd xd=>by cases xd),(bh.refl T.ok).new yc,ae⟩ (λi zs U g ac=>by obtain⟨_,_,_,_,_,_,_,_,z⟩:=ac;exact z) ?_ ?_
  ·rintro j zs U g I ⟨ds,zc,rfl,W,dl,u,D,y,yd⟩
   refine dJ rfl rfl rfl (oE.mk rfl y.ok (y.kp _ _ M L) ne yk zh λv d J zd zm zi xn=>?_);have zf:=zd.kp _ _ yd (aQ yf);have xj:∀b xs,J b=bd xs->upd J c (.lst (zs++[v])) b=bd xs:=λb xs e=>by rw[ab (aH e zf)];exact e
   refine⟨zf,by rw[W.length,dl,aR];omega,cw_next I ⟨ds++[d],_,rfl,Dl (qD (λb xs e=>xj b xs (n7 y.ok zd b xs e)) W u) (zi.keep zm xj),by rw[dA,dl];rfl,λx xe=>?_,λx xe=>?_,(y.trans zd).write yc yf,ae⟩⟩
   ·rcases cQ.mp xe with z|z
    ·exact u x z
    ·rw[dR.mp z];exact zi
   ·rcases cQ.mp xe with z|z
    ·exact D x z
    ·rw[dR.mp z];exact xn
  rintro zs U g ⟨ds,zc,rfl,W,dl,u,D,y,yd⟩;refine⟨c,_,rfl,.inl ⟨aj.of yd,λb yj=>?_⟩⟩;have yn:=T.trans y;have zj:=yn.new (o:=.tup zs) yj;have zn:=aA (o:=.tup zs) yj;have xg:upd g b (.tup zs) b=bd zs:=ae;have yg:=b5.same W zn;generalize upd g b (.tup zs)=J at zj xg yg⊢;refine⟨eK,λC zg=>?_⟩;have Y:=zj.new (o:=.lst [V.str "behind",V.str "behind",V.str "shut"]) zg;have xk:=aA (o:=.lst [V.str "behind",V.str "behind",V.str "shut"]) zg;have N:upd J C (.lst [V.str "behind",V.str "behind",V.str "shut"]) C=bi [V.str "behind",V.str "behind",V.str "shut"]:=ae;have R:=xk _ _ xg;have S:=b5.same yg xk;generalize upd J C (.lst [V.str "behind",V.str "behind",V.str "shut"])=yq at Y N R S⊢;have ye:ds.length<=4:=by omega
  refine af rfl ⟨_,_,rfl,rfl,?_⟩;rcases ym with rfl|rfl|rfl
  ·refine⟨C,_,((0:Nat):Int),.str "behind",rfl,rfl,aj.of N,b6 rfl,_,rfl,cc,λt a=>?_⟩
   exact q _ _ _ (Y.new a) (.tup ae (.cons (.str _) (.cons (.tup ((aA a) _ _ R) (b5.same S (aA a))) .nil))) (.behind ds ye u) D
  ·refine⟨C,_,((1:Nat):Int),.str "behind",rfl,rfl,aj.of N,b6 rfl,_,rfl,cc,λt a=>?_⟩
   exact q _ _ _ (Y.new a) (.tup ae (.cons (.str _) (.cons (.tup ((aA a) _ _ R) (b5.same S (aA a))) .nil))) (.behind ds ye u) D
  ·refine⟨C,_,((2:Nat):Int),.str "shut",rfl,rfl,aj.of N,b6 rfl,_,rfl,cc,λt a=>?_⟩
   exact q _ _ _ (Y.new a) (.tup ae (.cons (.str _) (.cons (.tup ((aA a) _ _ R) (b5.same S (aA a))) .nil))) (.kJ ds ye u) D
theorem wz:∀xs ys:al Pd,T7 (xs.map S4) (ys.map S4)=decide (xs=ys)
 |[],[]=>rfl
 |[],y::ys=>rfl
 |x::xs,[]=>rfl
 |x::xs,y::ys=>by
  show((x==y)&&T7 (xs.map S4) (ys.map S4))=_;rw[wz xs ys]
  by_cases e:x=y
  ·by_cases f:xs=ys <;> simp[e,f]
  ·simp[e]
abbrev Bk:=List (Pd×Pd×Pj)
def a9(p:Pd×Pd×Pj):List Pd:=[p.1,p.2.1]
def gR(p:Pd×Pd×Pj):Pj:=.tuple [.str p.1,.str p.2.1,p.2.2]
def a3(H:Hp)(vs:List V)(bk:Bk):Prop:=S2 (λv p=>∃a u,v=V.ref a/\H a=ih (.tup [.str p.1,.str p.2.1,u])/\Rep H u p.2.2) vs bk
structure dw(bk:Bk):Prop where
 nm:∀p∈bk,Nm p.1/\Nm p.2.1
 ent:∀p∈bk,Ent p.2.2
 nd:(bk.map a9).Nodup
 b3:bk.length<=48
def bg(bk:Bk)(k n:Pd):Bk:=bk.filter λp=>!decide (a9 p=[k,n])
theorem a3.keep(k:∀b xs,H b=bd xs->Y b=bd xs){bk:Bk}(h:a3 H vs bk)(c:∀p∈bk,Ent p.2.2):a3 Y vs bk:=L2.Paired.Bg h λv p d x=>by obtain⟨a,u,e,h,r⟩:=x;exact⟨a,u,e,k _ _ h,(c p d).keep r k⟩
theorem a3.same(S:aw H Y){bk:Bk}(h:a3 H vs bk):a3 Y vs bk:=Paired.imp' (λv p x=>by obtain⟨a,u,e,h,r⟩:=x;exact⟨a,u,e,S _ _ h,r.same S⟩) h
theorem a3.length{bk:Bk}(h:a3 H vs bk):vs.length=bk.length:=cw h
theorem a3.append{u:V}{p:Pd×Pd×Pj}(b:H a=bd [.str p.1,.str p.2.1,u])(r:Rep H u p.2.2){bk:Bk}(h:a3 H vs bk):a3 H (vs++[.ref a]) (bk++[p]):=gi h ⟨a,u,rfl,b,r⟩
theorem a3.rep{bk:Bk}(h:a3 H vs bk):b5 H vs (bk.map gR):=by
 induction h with
 |nil=>exact .nil
 |cons x _ b=>obtain⟨a,u,e,h,r⟩:=x;subst e;exact .cons (.tup h (.cons (.str _) (.cons (.str _) (.cons r .nil)))) b
theorem a3.keyed{bk:Bk}(h:a3 H vs bk):∃kvs,gY H 2 vs kvs/\kvs.map (·.1)=bk.map a9:=by
 induction h with
 |nil=>exact⟨[],.nil,rfl⟩
 |cons x _ b =>
  obtain⟨a,u,e,h,r⟩:=x;obtain⟨kvs,h1,h2⟩:=b;exact⟨(a9 _,[u])::kvs,.cons ⟨a,e,h,rfl⟩ h1,by rw[bV,bV,h2]⟩
theorem vD{bk:Bk}{kvs:al (List Pd×List V)}(h:a3 H vs bk)(h':gY H 2 vs kvs):kvs.map (·.1)=bk.map a9:=L2.Paired.both h (λv p c x y=>by
 obtain⟨a,u,e,q,r⟩:=x;obtain⟨k,g,i,b⟩:=y;rw[e]at g;cases g;rw[q]at i;obtain⟨ks,rest⟩:=c;cases ks with
 |nil=>simp at b
 |cons l ks =>
  cases ks with
  |nil=>simp at b
  |cons m ks =>
   cases ks with
   |cons n ks=>simp at b
   |nil=>injection (c7 i) with z;injection z with d j;injection j with f o;injection d with d;injection f with f;unfold a9;rw[d,f]) h'
theorem GV{d:Pj}(s:dQ d):d.canLay0=true/\d.depth<=1:=by
 cases s with
 |add n=>exact⟨by show(PX "add" && (true&&true))=true;decide +kernel,by simp[Te,Pz]⟩
 |times n=>exact⟨by show(PX "times" && (true&&true))=true;decide +kernel,by simp[Te,Pz]⟩
 |kq=>exact⟨by decide +kernel,by decide +kernel⟩
 |ask x h =>
  refine⟨?_,by simp[Te,Pz]⟩
  show(PX "ask" && (PX x&&true))=true;rw[hY h];decide +kernel
theorem qU:∀{ds:al Pj},(∀d∈ds,dQ d)->SS ds=true/\Pz ds<=1
 |[],_=>⟨rfl,by decide⟩
 |d::ds,h=>by
  obtain⟨a,e⟩:=GV (h d bJ);obtain⟨b,f⟩:=qU λx c=>h x (bL _ c);refine⟨?_,?_⟩
  ·show(d.canLay0&&SS ds)=true
   rw[a,b];rfl
  ·simp only[Pz];omega
theorem zZ{d:Pj}(s:Ent d):d.canLay0=true/\d.depth<=3:=by
 cases s with
 |plain n=>exact⟨by show(PX "plain" && (true&&true))=true;decide +kernel,by simp[Te,Pz]⟩
 |ahead x n h =>
  refine⟨?_,by simp[Te,Pz]⟩
  show(PX "ahead" && (PX x&&(true&&true)))=true;rw[hY h];decide +kernel
 |behind ds c a =>
  obtain⟨b,e⟩:=qU a;refine⟨?_,?_⟩
  ·show(PX "behind" && (SS ds&&true))=true
   rw[b];decide +kernel
  ·simp only[Te,Pz];omega
 |kJ ds c a =>
  obtain⟨b,e⟩:=qU a;refine⟨?_,?_⟩
  ·show(PX "shut" && (SS ds&&true))=true
   rw[b];decide +kernel
  ·simp only[Te,Pz];omega
theorem rn:∀{bk:Bk},(∀p∈bk,Nm p.1/\Nm p.2.1)->(∀p∈bk,Ent p.2.2)->SS (bk.map gR)=true/\Pz (bk.map gR)<=4
 |[],_,_=>⟨rfl,by decide⟩
 |p::bk,h,b=>by
  obtain⟨c,f⟩:=rn (λx a=>h x (bL _ a)) λx a=>b x (bL _ a);obtain⟨n1,d⟩:=h p bJ;obtain⟨e,g⟩:=zZ (b p bJ);refine⟨?_,?_⟩
  ·show((PX p.1&&(PX p.2.1&&(p.2.2.canLay0&&true)))&&SS (bk.map gR))=true
   rw[hY n1,hY d,e,c];rfl
  ·rw[bV]
   simp only[Pz,gR,Te];omega
theorem uY:∀{xs ys:al Pj},T7 xs ys=true->xs.length=ys.length
 |[],[],_=>rfl
 |[],y::ys,h=>by cases h
 |x::xs,[],h=>by cases h
 |x::xs,y::ys,h=>by
  have h':(Ub x y&&T7 xs ys)=true:=h;rw[cf,cf,uY (PF.mp h').2]
inductive iE(vs:List V)(H:Hp)(Q:VK)(E:XK):Prop
 |mk{x:Pd}(_:vs=[.str x])(_:Nm x)(_:∀Y,aw H Y->Q .aJ Y):iE vs H Q E
inductive kD(vs:List V)(H:Hp)(Q:VK)(E:XK):Prop
 |mk{t:Ph}{ws:List V}{bk:Bk}{k n:Pd}(_:vs=[.ref t,.str k,.str n])(_:H t=ih (.tup ws))(_:a3 H ws bk)(_:dw bk)(_:Nm k)(_:Nm n)(_:∀r iW Y,aw H Y->Y r=ih (.tup iW)->a3 Y iW (bg bk k n)->Q (.ref r) Y):kD vs H Q E
abbrev KG:QD:=eb (gK (cH (bD lD) 0))
def Cd(bk:Bk):Prop:=(bk.map a9).Pairwise λa b=>c2 a b=true
theorem hV{bk:Bk}(ok:dw bk)(k n:Pd):dw (bg bk k n):=
 ⟨λp a=>ok.nm p (cU.mp a).1,λp a=>ok.ent p (cU.mp a).1,ok.nd.sublist (lb _ p7),ed (ee _ _) ok.b3⟩
theorem n8{bk:Bk}{k:Pd} : [k,n]∉ (bg bk k n).map a9:=λh=>by
 obtain⟨p,a,e⟩:=ba.mp h;have:=(cU.mp a).2;simp[e]at this
theorem a3.perm{a:al V}{bk:Bk}(p:a.Perm vs)(h:a3 H vs bk):∃b,b.Perm bk/\a3 H a b:=nr p h
theorem EJ{bk:Bk}{k:Pd}(h : [k,n]∈bk.map a9):(bg bk k n).length<bk.length:=by
 obtain⟨p,a,e⟩:=ba.mp h;unfold bg;exact P'.mpr ⟨p,a,by simp[e]⟩
def ho(p:Pd×Pd×Pj):List Key:=[Cv p.1,Cv p.2.1]
def bo(H:Hp)(kvs:List (List Key×V))(bI:Bk):Prop:=S2 (λkv p=>kv.1=ho p/\Rep H kv.2 p.2.2) kvs bI
theorem bo.keep(k:∀b xs,H b=bd xs->Y b=bd xs){a:Bk}(h:bo H kvs a)(c:∀p∈a,Ent p.2.2):bo Y kvs a:=L2.Paired.Bg h λv p d x=>⟨x.1,(c p d).keep x.2 k⟩
theorem bo.same(S:aw H Y){a:Bk}(h:bo H kvs a):bo Y kvs a:=by
 induction h with
 |nil=>exact .nil
 |cons x _ b=>exact .cons ⟨x.1,x.2.same S⟩ b
theorem bo.length{a:Bk}(h:bo H kvs a):kvs.length=a.length:=cw h
theorem j0{p:Pd×Pd×Pj}{k:Pd}:ho p=[Cv k,Cv n] ↔ a9 p=[k,n]:=by
 unfold ho a9
 constructor
 ·intro h
  injection h with h1 h2;injection h2 with a _;rw[gb h1,gb a]
 ·intro h
  injection h with h1 h2;injection h2 with a _;rw[h1,a]
theorem bo.val{H:Hp}{k n:Pd}:∀{kvs:al (List Key×V)}{h:Bk},bo H kvs h->(bj kvs [Cv k,Cv n]=none /\ [k,n]∉ h.map a9) \/∃v d,bj kvs [Cv k,Cv n]=ih v/\(k,n,d)∈h/\Rep H v d
 |_,_,.nil=>.inl ⟨rfl,by simp⟩
 |_,_,.cons (a:=i) (b:=p) ⟨e,r⟩ t=>by
  by_cases f:i.1=[Cv k,Cv n]
  ·have g:=j0.mp (e.symm.trans f)
   have j:p.1=k:=by injection g
   have l:p.2.1=n:=by injection g with _ z;injection z
   exact .inr ⟨i.2,p.2.2,e2 f,by rw[<-j,<-l];exact bJ,r⟩
  ·have g:a9 p ≠ [k,n]:=λz=>f (e.trans (j0.mpr z))
   rcases bo.val (k:=k) (n:=n) t with⟨a,b⟩|⟨v,d,a,b,c⟩
   ·refine .inl ⟨(eG f).trans a,λz=>?_⟩
    rw[bV]at z;rcases bU.mp z with z|z
    ·exact g z.symm
    ·exact b z
   ·exact .inr ⟨v,d,(eG f).trans a,bL _ b,c⟩
theorem bo.drop{H:Hp}{k n:Pd}:∀{kvs:al (List Key×V)}{g:Bk},bo H kvs g->bo H (ei kvs [Cv k,Cv n]) (bg g k n)
 |_,_,.nil=>.nil
 |_,_,.cons (a:=h) (b:=p) ⟨e,r⟩ t=>by
  have d:=bo.drop (k:=k) (n:=n) t;unfold ei bg at d⊢;rw[i2,i2]
  by_cases c:h.1=[Cv k,Cv n]
  ·have f:=j0.mp (e.symm.trans c)
   rw[ax (by simp[c]),ax (by simp[f])];exact d
  ·have f:a9 p ≠ [k,n]:=λz=>c (e.trans (j0.mpr z))
   rw[aI (by simp[c]),aI (by simp[f])];exact .cons ⟨e,r⟩ d
theorem qV{bk:Bk}{k:Pd}(h : [k,n]∉ bk.map a9):bg bk k n=bk:=nc.mpr λp a=>by
 have:a9 p ≠ [k,n]:=λe=>h (e ▸ ba.mpr ⟨p,a,rfl⟩)
 simpa using this
theorem wB:∀a:al Pd,c2 a a=false
 |[]=>rfl
 |x::xs=>by
  unfold c2;simp[wB xs,v7]
theorem wC{k n:Pd}{d:Pj}:∀{a:Bk},(a.map a9).Nodup -> [k,n]∈a.map a9->(a.map λp=>if a9 p=[k,n] then (k,n,d) else p).Perm (bg a k n++[(k,n,d)])
 |[],_,h=>by simp at h
 |p::a,nd,h=>by
  rw[bV,d0]at nd
  by_cases e:a9 p=[k,n]
  ·have c : [k,n]∉ a.map a9:=e ▸ nd.1
   have i:(a.map λp=>if a9 p=[k,n] then (k,n,d) else p)=a:=by
    refine(t4 (g:=id) λq j=>?_).trans (List.map_id a);have:a9 q ≠ [k,n]:=λz=>c (z ▸ ba.mpr ⟨q,j,rfl⟩);rw[ax this];rfl
   have b:bg (p::a) k n=a:=by
    have:=qV c;unfold bg at this⊢;rw[hI (by simp[e])];exact this
   rw[bV,aI e,i,b];exact(List.perm_append_singleton _ _).symm
  ·have f : [k,n]∈a.map a9:=by
    rw[bV]at h;rcases bU.mp h with z|z
    ·exact absurd z.symm e
    ·exact z
   have b:bg (p::a) k n=p::bg a k n:=by unfold bg;rw[hJ (by simp[e])]
   rw[bV,ax e,b];exact(wC nd.2 f).cons p
theorem bo.sF{H:Hp}{k n:Pd}{v:V}{d:Pj}(r:Rep H v d):∀{kvs:al (List Key×V)}{h:Bk},bo H kvs h->bo H (kvs.map λc=>if c.1=[Cv k,Cv n] then (c.1,v) else c) (h.map λp=>if a9 p=[k,n] then (k,n,d) else p)
 |_,_,.nil=>.nil
 |_,_,.cons (a:=c) (b:=p) ⟨e,i⟩ t=>by
  rw[bV,bV]
  by_cases f:c.1=[Cv k,Cv n]
  ·have g:=j0.mp (e.symm.trans f)
   rw[aI f,aI g];exact .cons ⟨f,r⟩ (bo.sF r t)
  ·have g:a9 p ≠ [k,n]:=λz=>f (e.trans (j0.mpr z))
   rw[ax f,ax g];exact .cons ⟨e,i⟩ (bo.sF r t)
theorem bo.snoc{k:Pd}{d:Pj}(r:Rep H v d){a:Bk}(h:bo H kvs a):bo H (kvs++[([Cv k,Cv n],v)]) (a++[(k,n,d)]):=gi h ⟨rfl,r⟩
theorem bo.put{k:Pd}{d:Pj}{c:Bk}(h:bo H kvs c)(nd:(c.map a9).Nodup)(r:Rep H v d):∃g,bo H (putK kvs [Cv k,Cv n] v) g/\g.Perm (bg c k n++[(k,n,d)]):=by
 rcases h.val (k:=k) (n:=n) with⟨a,b⟩|⟨i,j,a,b,_⟩
 ·rw[iw v a,qV b]
  exact⟨_,h.snoc r,.refl _⟩
 ·have e:putK kvs [Cv k,Cv n] v=kvs.map λf=>if f.1=[Cv k,Cv n] then (f.1,v) else f:=by
   unfold putK;rw[aI (by rw[i8,a];rfl)]
  rw[e];exact⟨_,h.sF r,wC nd (ba.mpr ⟨_,b,rfl⟩)⟩
theorem n9{a b:Bk}(p:a.Perm b)(ok:dw b):dw a:=
 ⟨λq c=>ok.nm q (p.mem_iff.mp c),λq c=>ok.ent q (p.mem_iff.mp c),(p.map a9).nodup_iff.mpr ok.nd,by rw[p.length_eq];exact ok.b3⟩
theorem rO:∀{bk:Bk}{p q:Pd×Pd×Pj},(bk.map a9).Nodup->p∈bk->q∈bk->p≠q->a9 p≠a9 q
 |[],_,_,_,h,_,_=>by cases h
 |x::bk,p,q,nd,d,b,ne=>by
  rw[bV,d0]at nd;rcases bU.mp d with c|pN
  ·rcases bU.mp b with a|sY
   ·exact absurd (c.trans a.symm) ne
   ·intro z
    exact nd.1 (c ▸ z ▸ ba.mpr ⟨q,sY,rfl⟩)
  ·rcases bU.mp b with a|sY
   ·intro z
    exact nd.1 (a ▸ z ▸ ba.mpr ⟨p,pN,rfl⟩)
   ·exact rO nd.2 pN sY ne
inductive oY(vs:List V)(H:Hp)(Q:VK)(E:XK):Prop
 |mk{d:Ph}{kvs:List (List Key×V)}{bI:Bk}(_:vs=[.ref d])(_:H d=ih (.dT kvs))(_:bo H kvs bI)(_:dw bI)(_:∀r ws bk Y,aw H Y->Y r=ih (.tup ws)->a3 Y ws bk->bk.Perm bI->Cd bk->Q (.ref r) Y):oY vs H Q E
theorem KH:aZ ["_law_book_here"] ["_law_book_here"] (aF lJ):=a8
abbrev LJ:QD:=eb (eb (gK (cH (bD lJ) 0)))
theorem sG:bO ["_law_book_here"] (aF lJ) ["_law_kind","_law_name","_law_book_here"] [none,none,ih 0] (ck LJ):=cL
theorem nQ(K:Tx)(h:X.K=K){k:Nat}{t:iO}{n:Nat}(b:X.calm=true)(c:mI X es t)
  (d:(assignEach es X.env).length=n:=by rfl) (a:(assignEach es X.env).findIdx? (·.1)=none:=by rfl):PG X (.Tuple es k pos) (A' K n t):=by subst h;exact j8 b c d a
theorem Jp(F:aP K "_law_book_tuple" "_law_book_tuple" lJ f fd)(B:cP mg)(xj:e9 mg):aM P w K mg base ao 1 f fd ["_law_book_here"] oY:=by
 refine F.ok KH (λvs H Q E h=>?_) (λQa A yl s H vs Q E yj h=>?_)
 ·obtain⟨rfl,_⟩:=h;rfl
 ·obtain @⟨d,kvs,r,rfl,C,dv,ok,q⟩:=h
  have zj:=yj.units;have xh:=dr zj;refine⟨_,aE (aU (q6 (dU i3 rfl B.tuple boot_tuple (aa (bp lq rfl xj.sorted boot_sorted (aa (cY rfl sG (qJ (pv 0)) (λs H fp=>⟨nQ (n:=2) K rfl rfl (dd (a4 0 sG.nd) (dd (a4 1 sG.nd) hQ)),dV,
     cz (aa (pv 0) (aa (pv 1) (aa (bK xh (pv 2) (cz (aa (pv 0) (aa (pv 1) ag)))) ag)))⟩)) ag)) ag)))),?_⟩
  have lk:=dv.length;have b3:=ok.b3;refine⟨_,rfl,d,kvs,rfl,C,λo c R=>?_⟩;have L:∀b u,b≠d->H b=ih u->upd H d (.aG o (.dT kvs)) b=ih u:=λb u n e=>by rw[ab n];exact e
  have y:upd H d (.aG o (.dT kvs)) d=ih (.aG o (.dT kvs)):=ae;have M:bo (upd H d (.aG o (.dT kvs))) kvs r:=dv.keep (λb xs e=>L _ _ (aH e C) e) ok.ent
  generalize upd H d (.aG o (.dT kvs))=O at L y M R⊢;refine qo (λi ys G H2=>∃S T:am V,G=[S,T,a2 d]/\H2 c=bi ys/\aw O H2/\a3 H2 ys (r.take i)) ⟨none,none,rfl,ae,aA R,.nil⟩ (λi ys G H2 ac=>by obtain⟨_,_,_,U,W,_⟩:=ac;exact ⟨U,W _ _ y⟩) ?_ ?_
  ·rintro i ym b ys G H2 za g ⟨S,T,rfl,h2,m,j⟩
   have yh:i<kvs.length:=(bT.mp za).1;obtain⟨p,I,X,zm⟩:=L2.Paired.get (M.same m) za;have pm:=eF I;have zh:r.take (i+1)=r.take i++[p]:=by rw[cK,I];rfl
   replace g:H2 b=bd [V.str p.1,V.str p.2.1]:=by rw[X]at g;exact g
   refine⟨b,_,rfl,aO.of g,rfl,_,_,rfl,_,_,rfl,rfl,?_⟩;refine⟨_,rfl,_,rfl,_,rfl,_,rfl,_,rfl,cc,λJ xi=>?_⟩;have Y:=aA (o:=.tup [V.str p.1,V.str p.2.1]) xi;have xb:upd H2 J (.tup [V.str p.1,V.str p.2.1]) J=bd ((ho p).map kV):=ae;generalize upd H2 J (.tup [V.str p.1,V.str p.2.1])=xa at Y xb⊢;have yd:=m.trans Y;obtain⟨v,zd⟩:∃v,bj kvs (ho p)=ih v/\Rep xa v p.2.2:=by
    rcases (M.same yd).val (k:=p.1) (n:=p.2.1) with⟨_,z⟩|⟨v,ya,U,W,z3⟩
    ·exact absurd (ba.mpr ⟨p,pm,rfl⟩) z
    ·refine⟨v,U,?_⟩
     have:(p.1,p.2.1,ya)=p:=by
      by_cases e:(p.1,p.2.1,ya)=p
      ·exact e
      ·exact absurd (show a9 (p.1,p.2.1,ya)=a9 p from rfl) (rO ok.nd W pm e)
     rw[<-this];exact z3
   refine⟨d,v,rfl,.inr ⟨kvs,ho p,J,.inr ⟨o,yd _ _ y⟩,rfl,xb,zd.1.symm⟩,eK,λt xe=>?_⟩;have St:=Y.trans (aA (o:=.tup [V.str p.1,V.str p.2.1,v]) xe);have yb:upd xa t (.tup [V.str p.1,V.str p.2.1,v]) t=bd [V.str p.1,V.str p.2.1,v]:=ae;have zb:=zd.2.same (aA (o:=.tup [V.str p.1,V.str p.2.1,v]) xe);generalize upd xa t (.tup [V.str p.1,V.str p.2.1,v])=ye at St yb zb⊢;have xc:=St _ _ h2;have l:∀{zs:al V} b xs,ye b=bd xs->upd ye c (.lst zs) b=bd xs:=λb xs e=>by rw[ab (aH e xc)];exact e
   refine⟨xc,?_,cw_next yh ⟨_,_,rfl,ae,λx u ze=>by rw[ab (ar ze R)];exact St _ _ (m x u ze),?_⟩⟩
   ·have:=j.length
    rw[cj]at this;rw[aR];omega
   ·rw[zh]
    exact a3.append (l _ _ yb) ((ok.ent p pm).keep zb l) (a3.keep l (a3.same St j) λq xk=>ok.ent q (lh xk))
  ·rintro ys G H2 ⟨S,T,rfl,h2,m,j⟩
   rw[lk,cx]at j;obtain⟨yi,yk,X⟩:=j.keyed;have xn:=j.length;refine⟨c,_,yi,2,rfl,.inl (aj.of h2),yk,by decide,by rw[X];exact ok.nd,by omega,λD a zl zk zg hK xm yc=>?_⟩
   obtain⟨zi,zc,xf⟩:=a3.perm zg j;rw[vD xf hK]at yc;have yf:=aA (o:=.lst a) zk;refine⟨D,a,rfl,.inl ⟨aj.of ae,λt' xd=>?_⟩⟩;have St:=m.trans (yf.trans (aA (o:=.tup a) xd));have N:=St _ _ y;have zf:upd (upd H2 D (.lst a)) t' (.tup a) t'=bd a:=ae;have xg:=a3.same (yf.trans (aA (o:=.tup a) xd)) xf;generalize upd (upd H2 D (.lst a)) t' (.tup a)=yg at St N zf xg⊢;refine⟨d,o,kvs,N,λo' xl z=>?_,?_⟩
   ·have:H d=ih (.aG o' xl):=z
    rw[C]at this;cases this
   ·have l:∀b xs,yg b=bd xs->upd yg d (.dT kvs) b=bd xs:=λb xs e=>by rw[ab (aH e N)];exact e
    refine q t' a zi _ (λb u e=>?_) (l _ _ zf) (a3.keep l xg λp I=>ok.ent p (zc.mem_iff.mp I)) zc yc
    by_cases g:b=d
    ·subst g;rw[ae,<-e,C]
    ·rw[ab g];exact St _ _ (L b u g e)
theorem rP(xs:al V)(k:Nat):d9 xs none (ih (k:Int))=xs.take k:=by
 unfold d9;have a:HT.a5 xs.length 0 none=0:=rfl;rw[a,tV,CP];have b:HT.a5 xs.length xs.length (ih (k:Int))=min k xs.length:=by
  unfold HT.a5;simp;omega
 rw[b]
 by_cases h:k<=xs.length
 ·rw[Vp h]
 ·rw[Vj (by omega),uh (aN _),uh (by omega)]
theorem AE{c:Bk}{k:Pd}{d:Pj}(ok:dw c)(f:Nm k)(g:Nm n)(h:Ent d)(b3:(bg c k n).length<=47):dw (bg c k n++[(k,n,d)]):=by
 have w:=hV ok k n;refine⟨λp e=>?_,λp e=>?_,?_,by rw[dA,ip];omega⟩
 ·rcases cQ.mp e with z|z
  ·exact w.nm p z
  ·rw[dR.mp z];exact⟨f,g⟩
 ·rcases cQ.mp e with z|z
  ·exact w.ent p z
  ·rw[dR.mp z];exact h
 ·rw[bC]
  refine gU.mpr ⟨w.nd,by simp,λa i b j=>?_⟩
  have:b=[k,n]:=by simpa [a9] using j
  rw[this];intro z;exact n8 (z ▸ i)
structure h3(H:Hp)(b:Ph)(kvs:List (List Key×V))(bI:Bk)(ks ns:List Pd):Prop where
 hb:H b=ih (.dT kvs)
 dv:bo H kvs bI
 ok:dw bI
 sub:∀q∈bI,q.1∈ks/\q.2.1∈ns
structure mQ(H:Hp)(l:Ph)(ys:List Pd):Prop where
 hl:H l=ih (.lst (ys.map V.str))
 ne:ys ≠ []
 b3:ys.length<=20
 nm:∀y∈ys,Nm y
theorem mQ.ez{ys:al Pd}(h:mQ H l ys)(a:bq p H)(b:bh p H Y):mQ Y l ys:=⟨b.kp _ _ h.hl (dg a h.hl),h.ne,h.b3,h.nm⟩
theorem h3.ez{a:Bk}(h:h3 H b kvs a ks ns)(c:bq p H)(d:bh p H Y):h3 Y b kvs a ks ns:=by
 obtain⟨x,y,e,_⟩:=id c;exact⟨d.kp _ _ h.hb (aH h.hb e),h.dv.keep (n7 c d) h.ok.ent,h.ok,h.sub⟩
theorem h3.same{a:Bk}(h:h3 H b kvs a ks ns)(S:aw H Y):h3 Y b kvs a ks ns:=⟨S _ _ h.hb,h.dv.same S,h.ok,h.sub⟩
theorem FD{i:Int}(a:0<=i)(h1:i<3):∃v:Int,cT [V.int 4,.int 13,.int 49] i=ih (.int v)/\0<v/\v<=49:=by
 obtain⟨n,rfl⟩:=eZ a
 match n,h1 with
 |0,_=>exact⟨4,b6 rfl,by decide,by decide⟩
 |1,_=>exact⟨13,b6 rfl,by decide,by decide⟩
 |2,_=>exact⟨49,b6 rfl,by decide,by decide⟩
 |n+3,h=>exact absurd h (by omega)
inductive ot(vs:List V)(H:Hp)(Q:VK)(E:XK):Prop
 |mk{p lk ln:Ph}{ks ns:List Pd}(_:vs=[.ref p,.ref lk,.ref ln])(_:bq p H)(_:mQ H lk ks)(_:mQ H ln ns)(_:∀(d:Ph) (kvs:List (List Key×V)) (bI:Bk) (Y:Hp),H d=none->bh p H Y->h3 Y d kvs bI ks ns->Q (.ref d) Y):ot vs H Q E
noncomputable abbrev r7:List Pd:=["_law_pot_here","_law_kinds","_law_names_here"]
noncomputable abbrev Jq:List Pd:=["_law_pot_here","_law_kinds","_law_names_here","_law_book_here","_law_many","_law_turn","_law_kind","_law_at"]
theorem kr:aZ Jq r7 (aF r0):=a8
theorem GY(F:aP K "_law_book" "_law_book" r0 f fd)(B:cP mg)
  (L:bb P w K mg base ao 1 fD dD ["_law_pot_here","_law_many"] gn "_law_digit")
  (zn:bb P w K mg base ao 4 fE dE ["_law_pot_here","_law_names_here","_law_at"] kC "_law_entry"):aM P w K mg base ao 5 f fd r7 ot:=by
 refine F.ok kr (λvs H Q E h=>?_) (λQa A xu s H vs Q E xg h=>?_)
 ·obtain⟨rfl,_⟩:=h;rfl
 ·obtain @⟨p,lk,Y,ks,ns,rfl,j,x,a,q⟩:=h
  have xo:=xg.units;have xl:=dr xo;have yd:aS 4 _:=xg;have J:aS 1 _:=yd.mono (by decide)
  refine⟨_,aq (bf 3 kr.nd nN)
   (aq (bf 4 kr.nd (aT L J (aa (pv 0) (aa (aV cX (d5 (aa ak (aa ak (aa ak ag)))) (aT L J (aa (pv 0) (aa ak ag)))) ag))))
   (aq (e7 eP rfl (ir rfl B.range (aa (pv 4) ag)) (a4 5 kr.nd)
    (aq (bf 6 kr.nd (aV cX (pv 1) (aT L J (aa (pv 0) (aa (bp ef rfl B.len d3 (aa (pv 1) ag)) ag)))))
    (aq (bf 7 kr.nd (aT L J (aa (pv 0) (aa (bp ef rfl B.len d3 (aa (pv 2) ag)) ag))))
    (aE (hR xl (pv 3) (cz (aa (pv 6) (aa (aV cX (pv 2) (pv 7)) ag))) (aT zn yd (aa (pv 0) (aa (pv 2) (aa (pv 7) ag)))) rfl)))))
   (aE (aU (pv 3))))),?_⟩
  have kl:0<ks.length:=lj.mpr x.ne;have zv:0<ns.length:=lj.mpr a.ne;have yu:=x.b3;have yl:=a.b3;intro d N;have zd:p≠d:=j.ne N;have xa:=(bh.refl j).new (o:=.dT []) N;have S:upd H d (.dT []) d=bn []:=ae;generalize upd H d (.dT [])=ya at xa S⊢;have xe:d≠p:=aQ zd;refine⟨_,rfl,eK,λc za=>?_⟩;have xb:=xa.new (o:=.lst [V.int 4,.int 13,.int 49]) za;have ye:upd ya c (.lst [V.int 4,.int 13,.int 49]) c=bi [V.int 4,.int 13,.int 49]:=ae;have ze:upd ya c (.lst [V.int 4,.int 13,.int 49]) d=bn []:=by rw[ab (ar S za)];exact S
  have zl:c≠p:=aQ (xa.ok.ne za);generalize upd ya c (.lst [V.int 4,.int 13,.int 49])=O at xb ye ze⊢;refine⟨_,rfl,cy (p:=p) (m:=3) xb.ok (by decide) (by decide) λyo H2 zo xp p2=>?_⟩
  obtain⟨v,yp,zp,xw⟩:=FD zo xp;refine⟨c,_,yo,.int v,rfl,rfl,aj.of (p2.kp _ _ ye zl),yp,?_⟩;have yg:=xb.trans p2;refine cy (p:=p) (m:=v) yg.ok zp (by omega) λyw xq yq zw zg=>?_
  have zq:=yg.trans zg;have xm:xq d=bn []:=zg.kp _ _ (p2.kp _ _ ze xe) xe;obtain⟨M,rfl⟩:=eZ yq;refine⟨_,rfl,(M:Int),rfl,by omega,by omega,jV (λi σ C=>∃(kvs:al (List Key×V)) (r:Bk) (yb zb xc:am V),σ=[a2 p,a2 lk,a2 Y,a2 d,ih (.int M),yb,zb,xc]/\bh p H C/\h3 C d kvs r ks ns/\r.length<=i)
   ⟨[],[],none,none,none,rfl,zq,⟨xm,.nil,⟨λq D=>(by cases D),λq D=>(by cases D),jO,bw _⟩,λq D=>(by cases D)⟩,aN _⟩ ?_ ?_⟩
  ·rintro i σ C hi ⟨kvs,r,yb,zb,xc,rfl,l,yc,dl⟩
   have zu:i<M:=by simpa using hi
   have ym:=x.ez j l;have xv:=a.ez j l;refine⟨_,rfl,_,rfl,_,rfl,lk,_,rfl,.inl (aj.of ym.hl),?_⟩;rw[aK];refine cy (p:=p) (m:=(ks.length:Int)) l.ok (by omega) (by omega) λxx yx xr zx xh=>?_
   have G:=l.trans xh;obtain⟨I,rfl⟩:=eZ xr;have xf:I<ks.length:=by omega
   refine⟨lk,_,(I:Int),.str ks[I],rfl,rfl,aj.of (x.ez j G).hl,b6 (by rw[cR,bY xf];rfl),?_⟩
   have T:ks[I]∈ks:=eO xf;generalize ks[I]=k at T⊢;refine⟨_,rfl,_,rfl,Y,_,rfl,.inl (aj.of (a.ez j G).hl),?_⟩;rw[aK];refine cy (p:=p) (m:=(ns.length:Int)) G.ok (by omega) (by omega) λdn xy yr yy yh=>?_
   have R:=G.trans yh;obtain⟨u,rfl⟩:=eZ yr;have yf:u<ns.length:=by omega
   have zm:=a.ez j R;refine⟨_,rfl,_,rfl,_,rfl,kC.mk rfl (p:=p) (k:=u) R.ok zm.hl a.ne yl a.nm λzh zr xi yi xt zi=>?_⟩;have xj:=R.trans yi;have yt:=((yc.ez l.ok xh).ez G.ok yh).ez R.ok yi;have U:ns[u]∈ns:=eO yf;intro _;refine⟨_,rfl,_,rfl,_,rfl,_,rfl,Y,_,(u:Int),.str ns[u],rfl,rfl,aj.of (a.ez j xj).hl,b6 (by rw[cR,bY yf];rfl),cc,λzc W=>?_⟩
   generalize ns[u]=n at U W⊢;have xd:=aA (o:=.tup [V.str k,V.str n]) W;have yj:=xj.new (o:=.tup [V.str k,V.str n]) W;have zf:upd xi zc (.tup [V.str k,V.str n]) zc=bd (([Cv k,Cv n]:al Key).map kV):=ae;have g:=yt.same xd;have zj:=xt.same xd;generalize upd xi zc (.tup [V.str k,V.str n])=xk at xd yj zf g zj⊢;have yv:=g.dv.length;refine⟨d,_,rfl,eI.t (k:=[Cv k,Cv n]) g.hb zf (by rw[aR];omega),?_⟩
   have yk:∀b xs,xk b=bd xs->upd xk d (.dT (putK kvs [Cv k,Cv n] zh)) b=bd xs:=λb xs e=>by rw[ab (aH e g.hb)];exact e
   obtain⟨zk,xn,X⟩:=(g.dv.keep yk g.ok.ent).put (k:=k) (n:=n) (v:=zh) (d:=zr) g.ok.nd (zi.keep zj yk);have zy:(bg r k n).length<=i:=ed (ee _ _) dl;have yn:=AE g.ok (x.nm k T) (a.nm n U) zi (by omega)
   refine⟨_,zk,_,_,_,rfl,yj.write N zd,⟨ae,xn,n9 X yn,λz zt=>?_⟩,by rw[X.length_eq,dA,ip];omega⟩
   rcases cQ.mp (X.mem_iff.mp zt) with y|y
   ·exact g.sub z (cU.mp y).1
   ·rw[dR.mp y];exact⟨T,U⟩
  ·rintro σ C ⟨kvs,r,yb,zb,xc,rfl,l,yc,dl⟩
   exact⟨_,rfl,q d kvs r C N l yc⟩
def cS(bk:Bk)(k n:Pd):Option Pj:=(bk.find? λp=>decide (a9 p=[k,n])).map (·.2.2)
def b4(bk:Bk)(n:Pd):List Pd->Option (Pd×Pj)
 |[]=>none
 |x::r=>match cS bk x n with
  |some d=>ih (x,d)
  |none=>b4 bk n r
theorem nu{k:Pd}{bk:Bk}:cS bk k n=none ↔ [k,n]∉ bk.map a9:=by
 unfold cS;rw[uk,C3]
 constructor
 ·intro h z
  obtain⟨p,a,e⟩:=ba.mp z;exact h p a (a' e)
 ·intro h p a z
  exact h (ba.mpr ⟨p,a,hH z⟩)
theorem lu{k:Pd}{d:Pj}{bk:Bk}(h:cS bk k n=ih d):(k,n,d)∈bk:=by
 unfold cS at h;obtain⟨p,f,rfl⟩:=fU.mp h;have g:=QA f;have i:a9 p=[k,n]:=hH (Vm (p:=λq=>decide (a9 q=[k,n])) f);obtain⟨a,b,c⟩:=p;injection i with j e;injection e with e _;subst j e;exact g
theorem uZ{k:Pd}{d:Pj}{bk:Bk}(nd:(bk.map a9).Nodup)(h:(k,n,d)∈bk):cS bk k n=ih d:=by
 cases e:cS bk k n with
 |none=>exact absurd (ba.mpr ⟨_,h,rfl⟩) (nu.mp e)
 |some a =>
  have h':=lu e
  by_cases z:d=a
  ·rw[z]
  ·exact absurd (show a9 (k,n,d)=a9 (k,n,a) from rfl) (rO nd h h' (λw=>z (by injection w with _ w;injection w)))
theorem uF{k:Pd}{a b:Bk}(p:a.Perm b)(nd:(b.map a9).Nodup):cS a k n=cS b k n:=by
 cases e:cS a k n with
 |none =>
  exact(nu.mpr λz=>nu.mp e ((p.map a9).mem_iff.mpr z)).symm
 |some d=>exact(uZ nd (p.mem_iff.mp (lu e))).symm
theorem wD{n:Pd}{a b:Bk}(p:a.Perm b)(nd:(b.map a9).Nodup):∀l:al Pd,b4 a n l=b4 b n l
 |[]=>rfl
 |x::r=>by unfold b4;rw[uF p nd,wD p nd r]
theorem Ii{bk:Bk}(h:cS bk x n=none):b4 bk n (x::r)=b4 bk n r:=by
 show(match cS bk x n with|some d=>ih (x,d)|none=>b4 bk n r)=_;rw[h]
theorem z'{bk:Bk}{d:Pj}(h:cS bk x n=ih d):b4 bk n (x::r)=ih (x,d):=by
 show(match cS bk x n with|some d=>ih (x,d)|none=>b4 bk n r)=_;rw[h]
theorem ly{bk:Bk}{n:Pd}{x:Pd}:∀(l:al Pd),(∀y∈l,cS bk y n=none) ->∀r,b4 bk n (l++r)=b4 bk n r
 |[],_,_=>rfl
 |y::l,h,r=>by
  show b4 bk n (y::(l++r))=_;rw[Ii (h y bJ)];exact ly (x:=x) l (λz hz=>h z (bL _ hz)) r
theorem Aa{bk:Bk}{n x:Pd}{d:Pj}:∀{l:al Pd},b4 bk n l=ih (x,d)->x∈l/\cS bk x n=ih d
 |[],h=>by cases h
 |y::l,h=>by
  unfold b4 at h;cases e:cS bk y n with
  |some d'=>rw[e]at h;cases h;exact⟨bJ,e⟩
  |none =>
   rw[e]at h;obtain⟨a,b⟩:=Aa (l:=l) h;exact⟨bL _ a,b⟩
theorem bo.look{k:Pd}{e:Bk}(h:bo H kvs e)(nd:(e.map a9).Nodup):(cS e k n=none/\bj kvs [Cv k,Cv n]=none) \/∃v d,cS e k n=ih d/\bj kvs [Cv k,Cv n]=ih v/\Rep H v d:=by
 rcases h.val (k:=k) (n:=n) with⟨a,b⟩|⟨v,d,a,b,c⟩
 ·exact .inl ⟨nu.mpr b,a⟩
 ·exact .inr ⟨v,d,uZ nd b,a,c⟩
def dM(H:Hp)(v:V):Option (Pd×Pj)->Prop
 |none=>v=.aJ
 |some (x,d)=>∃t u,v=.ref t/\H t=ih (.tup [.str x,u])/\Rep H u d
def outD:Option (Pd×Pj)->Pj
 |none=>.none
 |some (x,d)=>.tuple [.str x,d]
theorem dM.rep{r:am (Pd×Pj)}(h:dM H v r):Rep H v (outD r):=by
 cases r with
 |none=>cases h;exact .aJ
 |some p =>
  obtain⟨t,u,rfl,a,r⟩:=h;exact .tup a (.cons (.str _) (.cons r .nil))
theorem dM.keep(k:∀b xs,H b=bd xs->Y b=bd xs){r:am (Pd×Pj)}(h:dM H v r)(a:∀x d,r=ih (x,d)->Ent d):dM Y v r:=by
 cases r with
 |none=>exact h
 |some p =>
  obtain⟨t,u,rfl,c,r⟩:=h;exact⟨t,u,rfl,k _ _ c,(a _ _ rfl).keep r k⟩
theorem FE{r:am (Pd×Pj)}(h:∀x d,r=ih (x,d)->Nm x/\Ent d):(outD r).canLay0=true/\(outD r).depth<=5:=by
 cases r with
 |none=>exact⟨by decide +kernel,by decide +kernel⟩
 |some p =>
  obtain⟨a,b⟩:=h p.1 p.2 rfl;obtain⟨c,e⟩:=zZ b;refine⟨?_,?_⟩
  ·show(PX p.1&&(p.2.canLay0&&true))=true
   rw[hY a,c];rfl
  ·show Pz [.str p.1,p.2]+1<=5
   simp only[Pz,Te];omega
def Ab(e:QD):TY:=match e with|.DictComp _ _ _ sc _=>sc|.SetComp _ _ sc _=>sc|_=>{ kind:=.function,names:=[],isGenerator:=false,isCoroutine:=false }
def bz(line:List Pd)(b:Pd):List Pd:=if b = "" then line else line.drop (line.idxOf b+1)
def fF(dl de dh:Ph)(m:Int):List (Pd×V):=[("lines",.ref dl),("entries",.ref de),("hits",.ref dh),("met",.int m)]
theorem hT{f g:Pd}{x:V}{r:al (Pd×V)}(h:g≠f):bc f v ((g,x)::r)=(g,x)::bc f v r:=ax h
theorem GZ{f:Pd}{x:V}{r:al (Pd×V)}:bc f v ((f,x)::r)=(f,v)::r:=aI rfl
theorem nR{f:Pd}:bc f v []=[(f,v)]:=rfl
theorem G0(dl de dh:Ph):bc "met" (.int 0) (bc "hits" (.ref dh) (bc "entries" (.ref de) (bc "lines" (.ref dl) [])))=fF dl de dh 0:=by
 rw[nR,hT (f:= "entries") (by decide +kernel),nR,hT (f:= "hits") (by decide +kernel),hT (f:= "hits") (by decide +kernel),nR,hT (f:= "met") (by decide +kernel),hT (f:= "met") (by decide +kernel),hT (f:= "met") (by decide +kernel),nR]
 rfl
theorem Ij(dl de dh:Ph)(m a:Int):bc "met" (.int a) (fF dl de dh m)=fF dl de dh a:=by
 unfold fF;rw[hT (f:= "met") (by decide +kernel),hT (f:= "met") (by decide +kernel),hT (f:= "met") (by decide +kernel),GZ]
theorem g7{α:Type}{y:Pd}{v:α}{r:al (Pd×α)}(h:x≠y):S' x ((y,v)::r)=S' x r:=by
 rw[eN];have:(x==y)=false:=by simpa using h
 rw[this]
theorem oG{α:Type}{v:α}{r:al (Pd×α)}:S' x ((x,v)::r)=ih v:=by
 rw[eN,CD]
section
variable{de dh:Ph}
theorem qW:(fF dl de dh m).lookup ("lines" : Pd)=ih (V.ref dl):=oG
theorem u0:(fF dl de dh m).lookup ("entries" : Pd)=ih (V.ref de):=by unfold fF;rw[g7 (by decide +kernel)];exact oG
theorem j6:(fF dl de dh m).lookup ("hits" : Pd)=ih (V.ref dh):=by unfold fF;rw[g7 (by decide +kernel),g7 (by decide +kernel)];exact oG
theorem AF:(fF dl de dh m).lookup ("met" : Pd)=ih (V.int m):=by unfold fF;rw[g7 (by decide +kernel),g7 (by decide +kernel),g7 (by decide +kernel)];exact oG
theorem Jr(h1:x ≠ "lines")(h2:x ≠ "entries")(a:x ≠ "hits")(b:x ≠ "met"):(fF dl de dh m).lookup x=none:=by unfold fF;rw[g7 h1,g7 h2,g7 a,g7 b];rfl
end
structure fz(K:Tx)(mg:Pd->Option CS)(C:Ph):Prop where
 cl:f9 K C
 nl:eH K C "lines"
 ne:eH K C "entries"
 nh:eH K C "hits"
 nm:eH K C "met"
 sZ:mg "Finds" = ih (.ref C)
structure FI(C x dx dl de dh:Ph)(kl:List (Key×V))(ke kh:List (List Key×V))(m:Int)(bk:Bk)(H:Hp):Prop where
 hx:H x=ih (.ins C dx (fF dl de dh m))
 hl:H dl=ih (.dK kl)
 he:H de=ih (.dT ke)
 hh:H dh=ih (.dT kh)
 du:bo H ke bk
 ok:dw bk
 nn:de≠dh
inductive oZ(vs:List V)(H:Hp)(Q:VK)(E:XK):Prop
 |mk{t:Ph}{ws:List V}{bk:Bk}(_:vs=[.ref t])(_:H t=ih (.tup ws))(_:a3 H ws bk)(_:dw bk)(_:∀d kvs Y,H d=none->aw H Y->Y d=ih (.dT kvs)->bo Y kvs bk->Q (.ref d) Y):oZ vs H Q E
theorem KI:aZ ["book"] ["book"] (aF lI):=a8
noncomputable abbrev LK:QD:=gK (cH (bD lI) 0)
theorem o1:bO ["book"] (aF lI) ["kind","name","entry"] [none,none,none] (Ab LK):=cL
theorem Js(F:aP K "entries_by_place" "entries_by_place" lI f fd):aM P w K mg base ao 1 f fd ["book"] oZ:=by
 refine F.bG KI λQa A zc s H vs Q E yb h=>?_
 ·obtain @⟨t,ws,bk,rfl,L,M,ok,q⟩:=h
  have zb:=yb.units;have Y:=dr zb;intro X;refine⟨_,aE (aU (vr rfl o1 (jd (pv 0)) (λs H fp=>⟨nQ (n:=3) K rfl rfl (dd (a4 0 o1.nd) (dd (a4 1 o1.nd) (dd (a4 2 o1.nd) hQ))),dV,AX Y (cz (aa (pv 0) (aa (pv 1) ag))) (pv 2)⟩))),?_⟩;have W:=M.length;have b3:=ok.b3;refine af rfl ⟨t,rfl,⟨_,aO.of L⟩,λc B=>?_⟩;refine Ew (xs:=ws) (λi g O=>∃(C D G:am V) (kvs:al (List Key×V)),g=[C,D,G]/\aw H O/\O c=bn kvs/\bo O kvs (bk.take i)) ⟨none,none,none,[],rfl,aA B,ae,.nil⟩ (λi g O ac=>by obtain⟨_,_,_,_,_,z,_⟩:=ac;exact aO.of (z _ _ L)) ?_ ?_
  ·rintro i x g O N ⟨C,D,G,kvs,rfl,j,h1,l⟩
   have xa:i<ws.length:=(bT.mp N).1;obtain⟨p,R,a,u,rfl,S,xc⟩:=L2.Paired.get (a3.same j M) N;have pm:=eF R;have tk:bk.take (i+1)=bk.take i++[p]:=by rw[cK,R];rfl
   refine⟨a,_,rfl,aO.of S,rfl,_,_,rfl,_,_,rfl,_,_,rfl,rfl,?_⟩;refine aX rfl rfl ⟨cc,λm ya=>?_⟩;have d:=aA (o:=.tup [V.str p.1,V.str p.2.1]) ya;have I:upd O m (.tup [V.str p.1,V.str p.2.1]) m=bd ((ho p).map kV):=ae;have za:=d _ _ S;have J:=xc.same d;have r:=bo.same d l;have y:=d _ _ h1;generalize upd O m (.tup [V.str p.1,V.str p.2.1])=T at d I za J r y⊢;have kl:=r.length;have xb:bj kvs (ho p)=none:=by
    rcases r.val (k:=p.1) (n:=p.2.1) with⟨z,_⟩|⟨v,xd,_,z2,_⟩
    ·exact z
    ·exfalso
     have nd:((bk.take (i+1)).map a9).Nodup:=ok.nd.sublist (lb _ (k5 _ _));rw[tk,bC]at nd;exact(gU.mp nd).2.2 _ (ba.mpr ⟨_,z2,rfl⟩) (a9 p) (by simp) rfl
   refine af rfl ⟨kvs,ho p,m,rfl,I,y,?_,qK xa ⟨_,_,_,_,rfl,λb v e=>?_,ae,?_⟩⟩
   ·rw[cj]at kl
    rw[aR];omega
   ·rw[ab (ar e B)];exact d _ _ (j _ _ e)
   ·rw[tk,iw _ xb]
    have U:∀b xs,T b=bd xs->upd T c (.dT (kvs++[(ho p,u)])) b=bd xs:=λb xs e=>by rw[ab (aH e y)];exact e
    exact bo.snoc (k:=p.1) (n:=p.2.1) ((ok.ent p pm).keep J U) (r.keep U λq yc=>ok.ent q (lh yc))
  ·rintro g O ⟨C,D,G,kvs,rfl,j,h1,l⟩
   rw[W,cx]at l;exact q c kvs O B j h1 l
theorem EK{b:Pd}:jE (.str b) ((("" : Pd)::line).map V.str)=decide (b = "" \/ b∈line):=by
 rw[hO]
 by_cases e:b = "" \/ b∈line
 ·rw[a' e]
  exact a' (by rcases e with z|z;rw[z];exact bJ;exact bL _ z)
 ·rw[bS e]
  exact bS (λz=>e (by rcases bU.mp z with y|y;exact .inl y;exact .inr y))
inductive o2(vs:List V)(H:Hp)(Q:VK)(E:XK):Prop
 |mk{t:Ph}{line:List Pd}{b:Pd}(_:vs=[.ref t,.str b])(_:H t=ih (.tup (line.map V.str)))(_:line.length<=200)(_:(b = "" \/ b∈line))(_:∀Y,aw H Y->Q (.bl true) Y):o2 vs H Q E
theorem KJ:aZ ["line","thing"] ["line","thing"] (aF qA):=a8
theorem Jt(F:aP K "is_behind" "is_behind" qA f fd)(a:e9 mg):aM P w K mg base ao 1 f fd ["line","thing"] o2:=by
 refine F.bG KJ λQa A l s H vs Q E m h=>?_
 ·obtain @⟨t,line,b,rfl,g,n,i,q⟩:=h
  intro X;refine⟨_,aE (aU (ff (bp gA rfl a.gQ gC (aa (pv 1) (aa (gD (v:=.ty "str") rfl a.str boot_str rfl) ag))) (gG (fZ i5 (pv 1) (bE nW (cz (aa aY ag)) (pv 0)) rfl)))),?_⟩;refine af rfl ⟨⟨_,.inr ⟨"str",rfl⟩⟩,.str b,.ty "str",.type "str",.type "str",true,rfl,rfl,.inl (.str b),rfl,true,rfl,?_⟩;refine af rfl ⟨gO,λc j=>?_⟩;have d:=aA (o:=.tup [V.str ""]) j;refine af rfl ⟨c,t,_,_,rfl,rfl,ae,d _ _ g,by rw[aK,aR];show 1+_<=_;omega,λp Y k h'=>?_⟩
  have e:Y p=bd ((("" : Pd)::line).map V.str):=h';refine⟨p,_,rfl,.inr (aO.of e),rfl,gz _,?_⟩;rw[ax bM,EK,a' i];exact q Y (d.trans k)
inductive o3(vs:List V)(H:Hp)(Q:VK)(E:XK):Prop
 |mk{t:Ph}{line:List Pd}{b:Pd}(_:vs=[.ref t,.str b])(_:H t=ih (.tup (line.map V.str)))(_:line.length<=200)(_:(b = "" \/ b∈line))(_:∀Y,aw H Y->Q .aJ Y):o3 vs H Q E
theorem KL:aZ ["line","thing"] ["line","thing"] (aF rb):=a8
theorem Ju(F:aP K "check_behind" "check_behind" rb f fd)(a:bb P w K mg base ao 1 fI dI ["line","thing"] o2 "is_behind"):aM P w K mg base ao 2 f fd ["line","thing"] o3:=by
 refine F.bG KL λQa A j s H vs Q E c h=>?_
 ·obtain @⟨t,line,b,rfl,d,e,g,q⟩:=h
  intro X;refine⟨_,aE (bQ (eU (eT (aT a c (aa (pv 0) (aa (pv 1) ag))))) jU bZ),?_⟩;exact aX rfl rfl (o2.mk rfl d e g λO i=>⟨true,rfl,q O i⟩)
inductive oH(C:Ph)(vs:List V)(H:Hp)(Q:VK)(E:XK):Prop
 |mk{x dl de dx:Ph}(_:vs=[.ref x,.ref dl,.ref de])(_:H x=ih (.ins C dx []))(_:∀dh,H dh=none->Q .aJ (upd (upd H dh (.dT [])) x (.ins C dx (fF dl de dh 0)))):oH C vs H Q E
theorem Jv:aZ ["self","lines","entries"] ["self","lines","entries"] (aF r1):=a8
theorem Ik(F:aP K "__init__" "Finds.__init__" r1 f fd)(T:fz K mg C):aM P w K mg base ao 1 f fd ["self","lines","entries"] (oH C):=by
 refine F.bG Jv λQa A i s H vs Q E j h=>?_
 ·obtain @⟨x,dl,de,dx,rfl,g,q⟩:=h
  intro X;refine⟨_,aq (fj (pv 0) (pv 1) rfl) (aq (fj (pv 0) (pv 2) rfl) (aq (fj (pv 0) nN rfl) (aE (fj (pv 0) ak rfl)))),?_⟩;refine aX rfl rfl ⟨x,C,dx,[],rfl,g,T.cl,T.nl,(by show 0<1000;decide),?_⟩
  refine aX rfl rfl ⟨x,C,dx,_,rfl,ae,T.cl,T.ne,(by show 1<1000;decide),?_⟩
  rw[e5];intro dh a;have c:x≠dh:=ar ae a;refine af rfl ⟨x,C,dx,_,rfl,by rw[ab c];exact ae,T.cl,T.nh,(by show 2<1000;decide),?_⟩
  refine af rfl ⟨x,C,dx,_,rfl,ae,T.cl,T.nm,(by show 3<1000;decide),?_⟩
  rw[e5,G0];have d:H dh=none:=by
   cases e:H dh with
   |none=>rfl
   |some u=>rw[ab (aQ c),e]at a;cases a
  have e:∀o o':HO,upd (upd (upd H x o) dh (.dT [])) x o'=upd (upd H dh (.dT [])) x o':=λo o'=>by
   funext b
   by_cases h1:b=x
   ·subst h1;rw[ae,ae]
   ·rw[ab h1,ab h1]
    by_cases h2:b=dh
    ·subst h2;rw[ae,ae]
    ·rw[ab h2,ab h2,ab h1]
  rw[e];exact q dh d
theorem wF(h:Nm x):g4 x=true:=by
 unfold eW.g4;rw[a' h.lo,a' h.hi,C1,C1,jM];intro c a;have:=h.az c a;rw[a' this.1,a' this.2];rfl
theorem dQ.dt{d:Pj}(s:dQ d)(r:Rep H v d)(f:∀b xs,H b=bd xs->b≠p):Dt p H v d:=by
 cases s with
 |add n =>
  obtain⟨a,u,rfl,c,e⟩:=two1 r;obtain rfl:=e.iI;exact .tup (f _ _ c) c (.cons (.str _) (.cons (.int _) .nil))
 |times n =>
  obtain⟨a,u,rfl,c,e⟩:=two1 r;obtain rfl:=e.iI;exact .tup (f _ _ c) c (.cons (.str _) (.cons (.int _) .nil))
 |ask x =>
  obtain⟨a,u,rfl,c,e⟩:=two1 r;obtain rfl:=e.ib;exact .tup (f _ _ c) c (.cons (.str _) (.cons (.str _) .nil))
 |kq =>
  obtain⟨a,vs,rfl,c,g⟩:=r.tupI;obtain⟨i,j,rfl,h,g⟩:=g.g6;obtain rfl:=g.mx;obtain rfl:=h.ib;exact .tup (f _ _ c) c (.cons (.str _) .nil)
theorem Ac(a:∀b xs,H b=bd xs->b≠p){ds:al Pj}(r:b5 H vs ds)(h:∀d∈ds,dQ d):cO p H vs ds:=by
 induction vs generalizing ds with
 |nil=>cases r;exact .nil
 |cons x xs c=>cases r with|cons r e=>exact .cons ((h _ bJ).dt r a) (c e λd f=>h d (bL _ f))
theorem Ent.dt{d:Pj}(s:Ent d)(r:Rep H v d)(f:∀b xs,H b=bd xs->b≠p):Dt p H v d:=by
 cases s with
 |plain n =>
  obtain⟨a,u,rfl,c,g⟩:=two1 r;obtain rfl:=g.iI;exact .tup (f _ _ c) c (.cons (.str _) (.cons (.int _) .nil))
 |ahead x n =>
  obtain⟨a,vs,rfl,c,e⟩:=r.tupI;obtain⟨m,o,rfl,j,e⟩:=e.g6;obtain⟨q,t,rfl,g,e⟩:=e.g6;obtain⟨w,y,rfl,k,e⟩:=e.g6;obtain rfl:=e.mx;obtain rfl:=j.ib;obtain rfl:=g.ib;obtain rfl:=k.iI;exact .tup (f _ _ c) c (.cons (.str _) (.cons (.str _) (.cons (.int _) .nil)))
 |behind ds l i =>
  obtain⟨a,u,rfl,c,g⟩:=two1 r;obtain⟨b,vs,rfl,h,e⟩:=g.tupI;exact .tup (f _ _ c) c (.cons (.str _) (.cons (.tup (f _ _ h) h (Ac f e i)) .nil))
 |kJ ds l i =>
  obtain⟨a,u,rfl,c,g⟩:=two1 r;obtain⟨b,vs,rfl,h,e⟩:=g.tupI;exact .tup (f _ _ c) c (.cons (.str _) (.cons (.tup (f _ _ h) h (Ac f e i)) .nil))
theorem dQ.bulk{d:Pj}(s:dQ d):d.bulk<=20:=by
 cases s with
 |add n h=>show Qt [.str "add",.int n]<=20;simp only[Qt,TQ];exact(by decide +kernel:(("add" : Pd).cps.size+1+(0+1+0))<=20)
 |times n lo hi=>show Qt [.str "times",.int n]<=20;simp only[Qt,TQ];exact(by decide +kernel:(("times" : Pd).cps.size+1+(0+1+0))<=20)
 |kq=>decide +kernel
 |ask x h =>
  have:x.cps.size<=8:=h.hi;show Qt [.str "ask",.str x]<=20;simp only[Qt,TQ];have e:("ask" : Pd).cps.size=3:=by decide +kernel
  omega
theorem qE:∀{ds:al Pj},(∀d∈ds,dQ d)->Qt ds<=21 * ds.length
 |[],_=>bw _
 |d::ds,h=>by
  have g:=(h d bJ).bulk;have b:=qE (ds:=ds) λe a=>h e (bL _ a);simp only[Qt,cf];omega
theorem Ent.sm{d:Pj}(s:Ent d):Sm d:=by
 show d.bulk<=100000;cases s with
 |plain n h=>show Qt [.str "plain",.int n]<=100000;simp only[Qt,TQ];exact(by decide +kernel:(("plain" : Pd).cps.size+1+(0+1+0))<=100000)
 |ahead x n h f =>
  have:x.cps.size<=8:=h.hi;show Qt [.str "ahead",.str x,.int n]<=100000;simp only[Qt,TQ];have e:("ahead" : Pd).cps.size=5:=by decide +kernel
  omega
 |behind ds c a =>
  have b:=qE a;show Qt [.str "behind",.tuple ds]<=100000;simp only[Qt,TQ];have e:("behind" : Pd).cps.size=6:=by decide +kernel
  omega
 |kJ ds c a =>
  have b:=qE a;show Qt [.str "shut",.tuple ds]<=100000;simp only[Qt,TQ];have e:("shut" : Pd).cps.size=4:=by decide +kernel
  omega
theorem G1{d:Pj}(h:dQ d):c' d=true:=by
 cases h with
 |add n h=>rfl
 |times n lo hi=>show(decide (-9<=n)&&decide (n<=9))=true;rw[a' lo,a' hi];rfl
 |kq=>rfl
 |ask x h=>exact wF h
theorem G2{d:Pj}(h:Ent d):eg d=true:=by
 have st:∀ds:al Pj,ds.length<=4->(∀d∈ds,dQ d)->jj (.tuple ds)=true:=λds a b=>by
  show(decide (ds.length<=4)&&ds.all c')=true;rw[a' a,jM.mpr λd c=>G1 (b d c)];rfl
 cases h with
 |plain n h=>rfl
 |ahead x n h e=>show(g4 x&&true)=true;rw[wF h];rfl
 |behind ds a b=>exact st ds a b
 |kJ ds a b=>exact st ds a b
def FK(H:Hp)(t:Ph)(ks:List Pd):Prop:= ∃o ws kvs,H t=ih (.aG o (.tup ws))/\o.dict=none/\kg H ws kvs/\kvs.map (·.1)=ks/\ks.Nodup
inductive o4(vs:List V)(H:Hp)(Q:VK)(E:XK):Prop
 |mk{t:Ph}{ks:List Pd}{x:Pd}(_:vs=[.ref t,.str x])(_:FK H t ks)(_:Nm x)(_:x∈ks)(_:∀Y,aw H Y->Q (.bl true) Y):o4 vs H Q E
theorem KN:aZ ["family","thing"] ["family","thing"] (aF rg):=a8
theorem Jw(F:aP K "is_kind" "is_kind" rg f fd)(e:e9 mg)(g:bb P w K mg base ao 1 fN dN ["thing"] kj "is_name"):aM P w K mg base ao 2 f fd ["family","thing"] o4:=by
 refine F.bG KN λQa A r s H vs Q E b h=>?_
 ·obtain @⟨t,ks,x,rfl,⟨o,ws,kvs,i,j,l,rfl,nd⟩,n,m,q⟩:=h
  have c:=dr b.units;intro X;refine⟨_,aE (aU (ff (aT g b (aa (pv 1) ag)) (gG (Aj (kd c (pv 1) (dU (DV rfl) rfl e.dict boot_dict (aa (pv 0) ag))))))),?_⟩;refine af rfl (kj.mk rfl n λO a=>⟨true,rfl,ite_tt rfl ?_⟩);refine aX rfl rfl ⟨t,o,ws,kvs,rfl,a _ _ i,j,l.same a,nd,λd p=>⟨d,_,rfl,a6.k (k:=Cv x) ae,?_⟩⟩;rw[wo m];exact q _ (a.trans (aA p))
inductive hA(vs:List V)(H:Hp)(Q:VK)(E:XK):Prop
 |mk{t:Ph}{ks:List Pd}{x:Pd}(_:vs=[.ref t,.str x])(_:FK H t ks)(_:Nm x)(_:x∈ks)(_:∀Y,aw H Y->Q .aJ Y):hA vs H Q E
theorem KO:aZ ["family","thing"] ["family","thing"] (aF rh):=a8
theorem Jx(F:aP K "check_kind" "check_kind" rh f fd)(a:bb P w K mg base ao 2 fK dK ["family","thing"] o4 "is_kind"):aM P w K mg base ao 3 f fd ["family","thing"] hA:=by
 refine F.bG KO λQa A e s H vs Q E b h=>?_
 ·obtain @⟨t,ks,x,rfl,fk,n,c,q⟩:=h
  intro X;refine⟨_,aE (bQ (eU (eT (aT a b (aa (pv 0) (aa (pv 1) ag))))) jU bZ),?_⟩;exact aX rfl rfl (o4.mk rfl fk n c λO d=>⟨true,rfl,q O d⟩)
theorem Jy:aZ ["thing"] ["thing"] (aF ra):=a8
theorem Il(F:aP K "check_name" "check_name" ra f fd)(a:bb P w K mg base ao 1 fN dN ["thing"] kj "is_name"):aM P w K mg base ao 2 f fd ["thing"] iE:=by
 refine F.bG Jy λQa A d s H vs Q E b h=>?_
 ·obtain @⟨x,rfl,n,q⟩:=h
  intro X;exact⟨_,aE (bQ (eU (eT (aT a b (aa (pv 0) ag)))) jU bZ),_,rfl,kj.mk rfl n λO c=>⟨true,rfl,q O c⟩⟩
theorem Jz:aZ ["book","kind","name"] ["book","kind","name"] (aF lD):=a8
theorem A2:bO ["book","kind","name"] (aF lD) ["triple","kind","name"] [none,ih 1,ih 2] (ck KG):=cL
theorem Im(F:aP K "without_name" "without_name" lD f fd)(B:cP mg):aM P w K mg base ao 1 f fd ["book","kind","name"] kD:=by
 refine F.ok Jz (λvs H Q E h=>?_) (λQa A ze s H vs Q E C h=>?_)
 ·obtain⟨rfl,_⟩:=h;rfl
 ·obtain @⟨t,ws,bk,k,n,rfl,U,W,ok,zb,xc,q⟩:=h
  have yc:=C.units;refine⟨_,aE (aU (dU i3 rfl B.tuple boot_tuple (aa (cY rfl A2 (jd (pv 0)) (λs H fp=>⟨a4 0 A2.nd,fY (bx (kc yc) (gj q2 (pv 0) gk (gm ak)) (cz (aa (pv 1) (aa (pv 2) ag))) (bA _)),pv 0⟩)) ag))),?_⟩;have za:=W.length;have b3:=ok.b3;refine⟨_,rfl,t,rfl,⟨_,aO.of U⟩,λc X=>?_⟩;refine jZ (xs:=ws) (λi ys l O=>∃D:am V,l=[D,ih (.str k),ih (.str n)]/\aw H O/\O c=bi ys/\a3 O ys (bg (bk.take i) k n)) ⟨none,rfl,aA X,ae,.nil⟩ (λi ys l O ac=>by obtain⟨_,_,z,z2,_⟩:=ac;exact ⟨z2,aO.of (z _ _ U)⟩) ?_ ?_
  ·rintro i x ys l O Y ⟨D,rfl,j,h1,d⟩
   have L:i<ws.length:=(bT.mp Y).1;obtain⟨p,xa,a,u,rfl,ya,zc⟩:=L2.Paired.get (W.same j) Y;have pm:=eF xa;have tk:bk.take (i+1)=bk.take i++[p]:=by rw[cK,xa];rfl
   refine⟨_,rfl,2,rfl,a,_,rfl,ya,λsp H2 xd h2=>?_⟩;have xb:d9 [V.str p.1,V.str p.2.1,u] none (ih 2)=[p.1,p.2.1].map V.str:=rfl;rw[xb]at h2;refine⟨_,rfl,_,rfl,cc,λtp M=>?_⟩;have g:=xd.trans (aA (o:=.tup [V.str k,V.str n]) M);have N:=(aA (o:=.tup [V.str k,V.str n]) M) _ _ h2;have R:upd H2 tp (.tup [V.str k,V.str n]) tp=bd ([k,n].map V.str):=ae;generalize upd H2 tp (.tup [V.str k,V.str n])=yd at g N R⊢;have zd:(Vn ([p.1,p.2.1].map S4)).canLay0=true:=lN (xs:=[p.1,p.2.1]) λy G=>by
    rcases bU.mp G with z|z
    ·rw[z];exact(ok.nm p pm).1
    ·rw[dR.mp z];exact(ok.nm p pm).2
   have xe:(Vn ([k,n].map S4)).canLay0=true:=lN (xs:=[k,n]) λy G=>by
    rcases bU.mp G with z|z
    ·rw[z];exact zb
    ·rw[dR.mp z];exact xc
   refine⟨.tuple ([p.1,p.2.1].map S4),.tuple ([k,n].map S4),.tup N (lM _ _),.tup R (lM _ _),zd,xe,by show Pz _+1<=60;rw[nz];decide,_,rfl,?_⟩
   rw[show Ub (.tuple ([p.1,p.2.1].map S4)) (.tuple ([k,n].map S4))=decide ([p.1,p.2.1]=[k,n]) from wz _ _];have T:=g _ _ h1;have I:∀{zs:al V} b xs,O b=bd xs->upd yd c (.lst zs) b=bd xs:=λb xs e=>by rw[ab (aH e h1)];exact g _ _ e
   have yb:∀q∈bg (bk.take i) k n,Ent q.2.2:=λq ye=>ok.ent q (lh (cU.mp ye).1);refine dX (λm=>?_) (λm=>?_)
   ·have J:bg (bk.take (i+1)) k n=bg (bk.take i) k n++[p]:=by rw[tk];unfold bg;rw[gy,hJ (by exact m)];rfl
    refine⟨_,rfl,T,?_,cw_next L ⟨_,rfl,λb v e=>?_,ae,?_⟩⟩
    ·have h2:(bg (bk.take i) k n).length<=(bk.take i).length:=ee _ _
     rw[cj]at h2;rw[d.length,aR];omega
    ·rw[ab (ar e X)];exact g _ _ (j _ _ e)
    ·rw[J]
     exact a3.append (I _ _ ya) ((ok.ent p pm).keep zc I) (a3.keep I d yb)
   ·have J:bg (bk.take (i+1)) k n=bg (bk.take i) k n:=by rw[tk];unfold bg;rw[gy,hI (by exact m)];simp
    exact cw_next L ⟨_,rfl,j.trans g,T,by rw[J];exact a3.same g d⟩
  ·rintro ys l O ⟨D,rfl,j,h1,d⟩
   rw[za,cx]at d;refine⟨c,_,rfl,.inl ⟨aj.of h1,λr C=>?_⟩⟩;have S:=aA (o:=.tup ys) C;exact q r ys _ (j.trans S) ae (a3.same S d)
inductive o5(vs:List V)(H:Hp)(Q:VK)(E:XK):Prop
 |mk{p t tb:Ph}{zs wb:List V}{ks:List Pd}{bk:Bk}{k n:Pd}{v:V}{d:Pj}(_:vs=[.ref t,.ref tb,.str k,.str n,v])(_:H p=ih (.lst zs))(_:FK H t ks)(_:Nm k)(_:k∈ks)(_:Nm n)(_:H tb=ih (.tup wb))(_:a3 H wb bk)(_:dw bk)(_:Rep H v d)(_:Ent d)(_:(bg bk k n).length<=47)
  (_:∀r iW kU Y,aw H Y->Y r=ih (.tup iW)->a3 Y iW kU->kU.Perm (bg bk k n++[(k,n,d)])->Cd kU->Q (.ref r) Y):o5 vs H Q E
noncomputable abbrev pO:List Pd:=["family","book","kind","name","entry"]
theorem KP:aZ pO pO (aF rC):=a8
theorem Io(F:aP K "name_given" "name_given" rC f fd)(B:cP mg)(zd:e9 mg)
  (xe:bb P w K mg base ao 3 fC dC ["family","thing"] hA "check_kind") (ye:bb P w K mg base ao 2 fN dN ["thing"] iE "check_name") (ze:bb P w K mg base ao 4 fE dE ["thing"] oq "is_entry") (xf:bb P w K mg base ao 1 fW dW ["book","kind","name"] kD "without_name"):aM P w K mg base ao 5 f fd pO o5:=by
 refine F.bG KP λQa A yl s H vs Q E yf h=>?_
 ·obtain @⟨p,t,tb,zs,wb,ks,bk,k,n,v,d,rfl,zf,fk,S,xg,T,u,yg,ok,r,x,zl,q⟩:=h
  have j:aS 4 _:=yf;have ya:aS 3 _:=j.mono (by decide)
  have za:aS 2 _:=j.mono (by decide)
  have xb:aS 1 _:=j.mono (by decide)
  intro X;refine⟨_,aq (cB (aT xe ya (aa (pv 0) (aa (pv 2) ag))))
   (aq (cB (aT ye za (aa (pv 3) ag)))
   (aq (bQ (eU (eT (aT ze j (aa (pv 4) ag)))) jU bZ)
   (aE (aU (dU i3 rfl B.tuple boot_tuple (aa (bp lq rfl zd.sorted boot_sorted (aa (bE nW (aT xf xb (aa (pv 1) (aa (pv 2) (aa (pv 3) ag)))) (cz (aa (cz (aa (pv 2) (aa (pv 3) (aa (pv 4) ag)))) ag))) ag)) ag)))))),?_⟩
  refine aX rfl rfl (hA.mk rfl fk S xg λO zg=>?_);refine af rfl (iE.mk rfl T λH2 e=>?_);have e:=zg.trans e;have yb:=e _ _ zf;refine af rfl (oq.mk (p:=p) rfl (x.dt (r.same e) λb xs z y=>by rw[y,yb]at z;cases z) x.sm λzm g=>?_)
  rw[G2 x];refine⟨true,rfl,?_⟩;have g:=e.trans g;refine dJ rfl rfl rfl (kD.mk rfl (g _ _ u) (a3.same g yg) ok S T λxh yh C G zh U=>?_);have G:=g.trans G;refine dJ rfl rfl rfl ⟨eK,λc zb=>⟨gO,λi M=>?_⟩⟩;have xi:=aA (o:=.tup [V.str k,.str n,v]) zb;have m:=xi.trans (aA (o:=.tup [V.ref c]) M);have J:upd (upd C c (.tup [V.str k,.str n,v])) i (.tup [V.ref c]) c=bd [V.str k,.str n,v]:=by rw[ab (ar ae M)];exact ae
  have L:upd (upd C c (.tup [V.str k,.str n,v])) i (.tup [V.ref c]) i=bd [V.ref c]:=ae;generalize upd (upd C c (.tup [V.str k,.str n,v])) i (.tup [V.ref c])=xn at m J L⊢;have yi:=G.trans m;have yn:=U.length;refine⟨xh,i,_,_,rfl,rfl,m _ _ zh,L,by rw[aR];show _+1<=_;omega,λzi xj I yj=>?_⟩
  have N:=yi.trans I;have W:a3 xj (yh++[.ref c]) (bg bk k n++[(k,n,d)]):=a3.append (p:=(k,n,d)) (I _ _ J) (r.same N) (a3.same (m.trans I) U);obtain⟨xc,zj,xk⟩:=W.keyed;have yc:((bg bk k n++[(k,n,d)]).map a9).Nodup:=by
   rw[bC];refine gU.mpr ⟨(hV ok k n).nd,by simp,λa yk b u=>?_⟩
   have:b=[k,n]:=by simpa [a9] using u
   rw[this];intro z;exact n8 (z ▸ yk)
  refine⟨zi,_,xc,2,rfl,.inr (aO.of yj),zj,by decide,by rw[xk];exact yc,by rw[dA,ip];omega,λD l xm zk xa hK ym R=>?_⟩
  obtain⟨zc,xd,Y⟩:=a3.perm xa W;rw[vD Y hK]at R;have xl:=aA (o:=.lst l) zk;refine⟨D,l,rfl,.inl ⟨aj.of ae,λt' yd=>?_⟩⟩;have St:=xl.trans (aA (o:=.tup l) yd);exact q t' l zc _ (N.trans St) ae (a3.same St Y) xd R
inductive o6(vs:List V)(H:Hp)(Q:VK)(E:XK):Prop
 |mk{t tb:Ph}{wb:List V}{ks:List Pd}{bk:Bk}{k n:Pd}(_:vs=[.ref t,.ref tb,.str k,.str n])(_:FK H t ks)(_:Nm k)(_:k∈ks)(_:Nm n)(_:H tb=ih (.tup wb))(_:a3 H wb bk)(_:dw bk)(_ : [k,n]∈bk.map a9)
  (_:∀r iW Y,aw H Y->Y r=ih (.tup iW)->a3 Y iW (bg bk k n)->Q (.ref r) Y):o6 vs H Q E
noncomputable abbrev LL:List Pd:=["family","book","kind","name","told"]
theorem BG:aZ LL ["family","book","kind","name"] (aF rD):=a8
theorem Ip(F:aP K "name_taken" "name_taken" rD f fd)
  (v:bb P w K mg base ao 3 fC dC ["family","thing"] hA "check_kind") (x:bb P w K mg base ao 2 fN dN ["thing"] iE "check_name") (y:bb P w K mg base ao 1 fW dW ["book","kind","name"] kD "without_name"):aM P w K mg base ao 5 f fd ["family","book","kind","name"] o6:=by
 refine F.bG BG λQa A N s H vs Q E d h=>?_
 ·obtain @⟨t,tb,wb,ks,bk,k,n,rfl,fk,g,z,i,j,l,ok,p,q⟩:=h
  have B:=d.units;have c:aS 3 _:=d.mono (by decide)
  have r:aS 2 _:=c.mono (by decide)
  have u:aS 1 _:=c.mono (by decide)
  intro X;refine⟨_,aq (cB (aT v c (aa (pv 0) (aa (pv 2) ag))))
   (aq (cB (aT x r (aa (pv 3) ag)))
   (aq (bf 4 BG.nd (aT y u (aa (pv 1) (aa (pv 2) (aa (pv 3) ag)))))
   (aq (bQ (bx (rx B) (pv 4) (pv 1) (bA _)) jU bZ)
   (aE (aU (pv 4)))))),?_⟩
  refine aX rfl rfl (hA.mk rfl fk g z λO C=>?_);refine af rfl (iE.mk rfl i λH2 a=>?_);have a:=C.trans a;refine dJ rfl rfl rfl (kD.mk rfl (a _ _ j) (a3.same a l) ok g i λD G I b m o=>?_);have b:=a.trans b;obtain⟨J,R⟩:=rn (hV ok k n).nm (hV ok k n).ent;obtain⟨L,S⟩:=rn ok.nm ok.ent;refine aX rfl rfl ⟨.tuple ((bg bk k n).map gR),.tuple (bk.map gR),.tup m o.rep,.tup (b _ _ j) (a3.rep (a3.same b l)),J,L,by show Pz _+1<=60;omega,_,rfl,?_⟩
  have M:Ub (.tuple ((bg bk k n).map gR)) (.tuple (bk.map gR))=false:=by
   cases e:Ub (.tuple ((bg bk k n).map gR)) (.tuple (bk.map gR)) with
   |false=>rfl
   |true =>
    have:=uY (show T7 _ _=true from e);rw[aK,aK]at this;have:=EJ p;omega
  rw[M];exact af rfl (q D G I b m o)
theorem G6{c:Bool}{a:Int}(gv:Nat->Prop)(h1:c=true ->∃s:Nat,a=s/\gv s)(h2:c=false->(∀s:Nat,gv s->Q (.int s) H)->tb σ H Q)(b:∀s:Nat,gv s->Q (.int s) H):if c=true then tC (.int a) σ H Q else tb σ H Q:=by
 cases c with
 |false=>exact h2 rfl b
 |true =>
  obtain⟨s,e,d⟩:=h1 rfl;show Q (.int a) H;rw[e];exact b s d
theorem wG{α:Type} [BEq α] [LawfulBEq α]{b:α}{line:al α}(h:b∈line):line[line.idxOf b]?=ih b /\∀m,m<line.idxOf b->line[m]? ≠ ih b:=by
 have a:=List.idxOf_lt_length_iff.mpr h;refine⟨by rw[bY a,List.getElem_idxOf],λm c z=>?_⟩
 obtain⟨d,e⟩:=bT.mp z;have:=List.not_of_lt_findIdx (p:=λx=>x==b) (xs:=line) (i:=m) c;simp[e]at this
theorem ro{bk:Bk}{l:al Pd}(ok:dw bk):∀x d,b4 bk n l=ih (x,d)->Nm x/\Ent d:=λx d h=>by
 have a:=lu (Aa h).2;exact⟨(ok.nm _ a).1,ok.ent _ a⟩
def cZ(bk:Bk)(n:Pd):List Pd->Nat
 |[]=>0
 |x::r=>match cS bk x n with
  |some _=>1
  |none=>cZ bk n r+1
theorem lP{bk:Bk}{n:Pd}:∀(l:al Pd),(∀y∈l,cS bk y n=none) ->∀r,cZ bk n (l++r)=l.length+cZ bk n r
 |[],_,r=>by simp
 |y::l,h,r=>by
  have e:cZ bk n (y::(l++r))=cZ bk n (l++r)+1:=by
   show(match cS bk y n with|some _=>1|none=>cZ bk n (l++r)+1)=_;rw[h y bJ]
  rw[CM,e,lP l (λz a=>h z (bL _ a)) r,cf];omega
theorem vE{bk:Bk}{d:Pj}(h:cS bk x n=ih d):cZ bk n (x::r)=1:=by
 show(match cS bk x n with|some _=>1|none=>cZ bk n r+1)=_;rw[h]
inductive ou(C:Ph)(vs:List V)(H:Hp)(Q:VK)(E:XK):Prop
 |mk{x dx dl de dh a:Ph}{kl:List (Key×V)}{ke kh:List (List Key×V)}{m:Int}{bk:Bk}{kind name eL:Pd}{line:List Pd}(_:vs=[.ref x,.str kind,.str name,.str eL])(_:FI C x dx dl de dh kl ke kh m bk H)(_:bj kl (Cv kind)=ih (.ref a))(_:H a=ih (.tup (line.map V.str)))(_:line.length<=200)(_:(eL = "" \/ eL∈line))(_:∀v Y,(∀b u,b≠x->H b=ih u->Y b=ih u)->Y x=ih (.ins C dx (fF dl de dh (m+(cZ bk name (bz line eL):Int))))->dM Y v (b4 bk name (bz line eL))->Q v Y):ou C vs H Q E
noncomputable abbrev LM:List Pd:=["self","kind","name","behind","line","start","other"]
theorem o7:aZ LM ["self","kind","name","behind"] (aF r3):=a8
theorem G9(F:aP K "walk" "Finds.walk" r3 f fd)(T:fz K mg C):aM P w K mg base ao 1 f fd ["self","kind","name","behind"] (ou C):=by
 refine F.bG o7 λQa A xn s H vs Q E yj h=>?_
 ·obtain @⟨x,dx,dl,de,dh,a,kl,yg,yn,m,bk,yc,name,c,line,rfl,fi,zj,Y,zn,xk,q⟩:=h
  have yk:=yj.units;have U:=dr yk;intro X;refine⟨_,aq (bf 4 o7.nd (bK U (cV (pv 0) rfl) (pv 1)))
   (aq (bf 5 o7.nd (vG (bx c9 (pv 3) aY (bA _)) ak (bE fh (gH PySem.F.plainAttrs_tuple P1 PySem.F.type_tuple_index Es (pv 4) (aa (pv 3) ag)) ak)))
   (aq (e7 eP rfl (jd (gj q2 (pv 4) (gm (pv 5)) gk)) (a4 6 o7.nd)
    (aq (u5 (pv 0) ak ru)
    (aE (bQ (jc (kd U (cz (aa (pv 6) (aa (pv 2) ag))) (cV (pv 0) rfl))) (aE (aU (cz (aa (pv 6) (aa (bK U (cV (pv 0) rfl) (cz (aa (pv 6) (aa (pv 2) ag)))) ag))))) bZ))))
   (aE (aU gF)))),?_⟩
  refine af rfl ⟨x,C,dx,_,.ref dl,rfl,fi.hx,T.cl,T.nl,qW,_,rfl,dl,.ref a,rfl,.inl ⟨kl,Cv yc,.inl fi.hl,rfl,zj.symm⟩,?_⟩;refine af rfl ⟨rfl,_,rfl,?_⟩;refine G6 (λxa=>bz line c=line.drop xa) (λe=>⟨0,rfl,?_⟩) (λe k=>?_) ?_
  ·have e:=hH e
   injection e with e;unfold bz;rw[aI e];rfl
  ·have zc:c ≠ "" :=λz=>by rw[z]at e;exact absurd e (by rw[a' rfl];intro y;cases y)
   have zk:c∈line:=xk.resolve_left zc;obtain⟨xl,yl⟩:=wG zk;exact af rfl ⟨.inr (.inr (.inr (.inr ⟨rfl,_,Rd.of Y⟩))),_,rfl,a,line,c,line.idxOf c,rfl,rfl,aO.of Y,xl,yl,_,_,rfl,rfl,k (line.idxOf c+1) (by unfold bz;rw[ax zc])⟩
  intro xa yh;refine dJ rfl rfl rfl ⟨a,_,rfl,Y,λsp L G r=>?_⟩;rw[lO,<-qb,<-yh]at r;obtain⟨rest,xh⟩:∃rest,bz line c=rest:=⟨_,rfl⟩;rw[xh]at r q;have xd:=G _ _ fi.hx;refine⟨sp,rfl,⟨_,aO.of r⟩,FU (xs:=rest.map V.str) (λi σ O=>∃(ya:am V),σ=[a2 x,ih (.str yc),ih (.str name),ih (.str c),a2 a,ih (.int xa),ya]/\(∀b u,b≠x->L b=ih u->O b=ih u)/\O x=ih (.ins C dx (fF dl de dh (m+(i:Int)))) /\∀y∈rest.take i,cS bk y name=none)
   ⟨none,rfl,λb u _ e=>e,by rw[C4,qd];exact xd,λy p=>(by cases p)⟩ (λi σ O _ ac=>by obtain⟨_,_,z,_⟩:=ac;exact aO.of (z _ _ (aH r xd (by intro y;cases y)) r)) ?_ ?_⟩
  ·rintro i y σ O p ⟨ya,rfl,za,l,j⟩
   obtain⟨g,zh⟩:∃g:Int,g=m+(i:Int):=⟨_,rfl⟩;have yd:g+1=m+((i+1:Nat):Int):=by omega
   rw[<-zh]at l;obtain⟨W,rfl⟩:=wL p;have xi:rest.take (i+1)=rest.take i++[rest[i]]:=by rw[cK,bY W];rfl
   refine af rfl ⟨x,C,dx,_,.int g,rfl,l,T.cl,T.nm,AF,_,_,rfl,rfl,dx,_,l,by show 4<1000;decide,?_⟩
   rw[Ij];have zd:∀b u,b≠x->L b=ih u->upd O x (.ins C dx (fF dl de dh (g+1))) b=ih u:=λb u n e=>by rw[ab n];exact za b u n e
   have xe:upd O x (.ins C dx (fF dl de dh (g+1))) x=ih (.ins C dx (fF dl de dh (g+1))):=ae;generalize upd O x (.ins C dx (fF dl de dh (g+1)))=H2 at zd xe⊢;refine aX rfl rfl ⟨cc,λM yi=>?_⟩;have xb:=aA (o:=.tup [V.str rest[i],V.str name]) yi;have ye:upd H2 M (.tup [V.str rest[i],V.str name]) M=bd (([Cv rest[i],Cv name]:al Key).map kV):=ae;have B:=xb _ _ xe;have D:∀b u,b≠x->L b=ih u->upd H2 M (.tup [V.str rest[i],V.str name]) b=ih u:=λb u n e=>xb _ _ (zd b u n e);generalize upd H2 M (.tup [V.str rest[i],V.str name])=I at xb ye B D⊢;have zi:de≠x:=aH fi.he fi.hx
   have ze:I de=bn yg:=D _ _ zi (G _ _ fi.he);have zl:bo I yg bk:=fi.du.keep (λb xs e=>D _ _ (aH e fi.hx) (G _ _ e)) fi.ok.ent
   refine af rfl ⟨x,C,dx,_,.ref de,rfl,B,T.cl,T.ne,u0,de,_,rfl,a6.t (k:=[Cv rest[i],Cv name]) ze ye,_,rfl,?_⟩;rcases zl.look (k:=rest[i]) (n:=name) fi.ok.nd with⟨N,R⟩|⟨v,d,N,R,xm⟩
   ·rw[R]
    refine⟨_,rfl,D,by rw[<-yd];exact B,λy p=>?_⟩
    rw[xi]at p;rcases cQ.mp p with z|z
    ·exact j y z
    ·rw[dR.mp z];exact N
   ·rw[R]
    refine aX rfl rfl ⟨x,C,dx,_,.ref de,rfl,B,T.cl,T.ne,u0,_,rfl,_,rfl,cc,λS xj=>?_⟩;have J:=aA (o:=.tup [V.str rest[i],V.str name]) xj;have xf:upd I S (.tup [V.str rest[i],V.str name]) S=bd (([Cv rest[i],Cv name]:al Key).map kV):=ae;have yf:=J _ _ ze;have zf:=J _ _ B;have zg:=xm.same J;have xg:∀b u,b≠x->L b=ih u->upd I S (.tup [V.str rest[i],V.str name]) b=ih u:=λb u n e=>J _ _ (D b u n e);generalize upd I S (.tup [V.str rest[i],V.str name])=xo at J xf yf zf zg xg⊢;refine⟨de,v,rfl,by rw[<-R];exact a6.t (k:=[Cv rest[i],Cv name]) yf xf,cc,λt ym=>?_⟩
    have yb:=aA (o:=.tup [V.str rest[i],v]) ym;have zb:b4 bk name rest=ih (rest[i],d):=by
     conv=>lhs;rw[<-m9 i rest,gT W]
     rw[ly (x:=rest[i]) _ j];exact z' N
    have xc:cZ bk name rest=i+1:=by
     have zm:=lP (n:=name) (rest.take i) j (rest[i]::rest.drop (i+1));rw[vE N,<-gT W,m9,cj]at zm;omega
    refine q (.ref t) _ (λb u n e=>yb _ _ (xg b u n (G _ _ e))) (by rw[xc,<-yd];exact yb _ _ zf) ?_
    rw[zb];exact⟨t,v,rfl,ae,zg.same yb⟩
  ·rintro σ O ⟨ya,rfl,za,l,j⟩
   rw[aK]at l;rw[aK,cx]at j;have xc:cZ bk name rest=rest.length:=by
    have:=lP (n:=name) rest j [];rw[eY]at this;exact this
   refine q .aJ O (λb u n e=>za b u n (G _ _ e)) (by rw[xc];exact l) ?_
   have zb:b4 bk name rest=none:=by
    have:=ly (x:=name) rest j [];rw[eY]at this;exact this
   rw[zb];rfl
abbrev aW:=(Pd×Pd×Pd)×Option (Pd×Pj)
def hK(k:Pd×Pd×Pd):List Key:=[Cv k.1,Cv k.2.1,Cv k.2.2]
theorem rQ{a b:Pd×Pd×Pd}(h:hK a=hK b):a=b:=by
 unfold hK at h;injection h with h1 h;injection h with h2 h;injection h with c _;exact pZ (gb h1) (pZ (gb h2) (gb c))
def iJ(r:Option (Pd×Pj)):Prop:= ∀x d,r=ih (x,d)->Nm x/\Ent d
def cu(H:Hp)(kvs:List (List Key×V))(hs:List aW):Prop:=S2 (λkv h=>kv.1=hK h.1/\dM H kv.2 h.2/\iJ h.2) kvs hs
theorem cu.keep{e:al aW}(h:cu H kvs e)(k:∀b xs,H b=bd xs->Y b=bd xs):cu Y kvs e:=Paired.imp' (λ_ _ f=>by obtain⟨a,b,c⟩:=f;exact ⟨a,b.keep k λx d z=>(c x d z).2,c⟩) h
def cW(hs:List aW)(k:Pd×Pd×Pd):Option (Option (Pd×Pj)):=(hs.find? λh=>decide (h.1=k)).map (·.2)
theorem cu.val{a:al aW}(h:cu H kvs a)(k:Pd×Pd×Pd):(cW a k=none/\bj kvs (hK k)=none) \/∃r v,cW a k=ih r/\bj kvs (hK k)=ih v/\dM H v r/\iJ r:=by
 induction h with
 |nil=>exact .inl ⟨rfl,rfl⟩
 |@cons d p _ b e _ f =>
  obtain⟨c,g,i⟩:=e
  by_cases z:p.1=k
  ·refine .inr ⟨p.2,d.2,?_,e2 (by rw[c,z]),g,i⟩
   unfold cW;rw[List.find?_cons_of_pos (by simp[z])];rfl
  ·rw[eG (by rw[c];exact λy=>z (rQ y))]
   have:cW (p::b) k=cW b k:=by unfold cW;rw[List.find?_cons_of_neg (by simp[z])]
   rw[this];exact f
def cb(hs:List aW)(k:Pd×Pd×Pd)(r:Option (Pd×Pj)):List aW:=if (cW hs k).isSome then hs else hs++[(k,r)]
def el(hs:List aW)(k:Pd×Pd×Pd)(n:Nat):Nat:=if (cW hs k).isSome then 0 else n
inductive oy(C:Ph)(vs:List V)(H:Hp)(Q:VK)(E:XK):Prop
 |mk{x dx dl de dh:Ph}{kl:List (Key×V)}{ke kh:List (List Key×V)}{m:Int}{bk:Bk}{kind name eL:Pd}{L:Pd->List Pd}{hs:List aW}(_:vs=[.ref x,.str kind,.str name,.str eL])(_:FI C x dx dl de dh kl ke kh m bk H)(_:f' H kl L kind)(_:(L kind).length<=200)(_:(eL = "" \/ eL∈L kind))(_:cu H kh hs)(_:hs.length<=10000)
  (_:∀v mR Y,(∀b u,b≠x->b≠dh->H b=ih u->Y b=ih u)->FI C x dx dl de dh kl ke mR (m+(el hs (kind,name,eL) (cZ bk name (bz (L kind) eL)):Int)) bk Y->cu Y mR (cb hs (kind,name,eL) (b4 bk name (bz (L kind) eL)))->dM Y v ((cW hs (kind,name,eL)).getD (b4 bk name (bz (L kind) eL)))->iJ ((cW hs (kind,name,eL)).getD (b4 bk name (bz (L kind) eL)))->Q v Y):oy C vs H Q E
noncomputable abbrev s6:List Pd:=["self","kind","name","behind","place"]
theorem BH:aZ s6 ["self","kind","name","behind"] (aF r2):=a8
theorem G'(F:aP K "look" "Finds.look" r2 f fd)(T:fz K mg C)(xe:aM P w K mg base ao 1 fW dW ["self","kind","name","behind"] (ou C))(ye:Meth K C "walk" fW)(ze:Binds K dW ["self","kind","name","behind"] []):aM P w K mg base ao 2 f fd ["self","kind","name","behind"] (oy C):=by
 refine F.bG BH λQa A xi s H vs Q E yb h=>?_
 ·obtain @⟨x,dx,dl,de,dh,kl,S,l,m,bk,c,name,g,L,zb,rfl,fi,⟨a,xf,yf⟩,zf,xg,xc,yi,q⟩:=h
  have yg:=yb.units;have J:=dr yg;intro X;refine⟨_,aq (bf 4 BH.nd (cz (aa (pv 1) (aa (pv 2) (aa (pv 3) ag)))))
   (aq (bQ (jc (qy J (pv 4) (cV (pv 0) rfl))) (aE (hR J (cV (pv 0) rfl) (pv 4) (di (pv 0) T.cl ye xe yb ze .nil b7 (aa (pv 1) (aa (pv 2) (aa (pv 3) ag)))) rfl)) bZ)
   (aE (aU (bK J (cV (pv 0) rfl) (pv 4))))),?_⟩
  refine dJ rfl rfl rfl ⟨eK,λpt zc=>?_⟩;have j:=aA (o:=.tup [V.str c,V.str name,V.str g]) zc;have D:upd H pt (.tup [V.str c,V.str name,V.str g]) pt=bd ((hK (c,name,g)).map kV):=ae;generalize upd H pt (.tup [V.str c,V.str name,V.str g])=O at j D⊢;have i:FI C x dx dl de dh kl S l m bk O:=⟨j _ _ fi.hx,j _ _ fi.hl,j _ _ fi.he,j _ _ fi.hh,fi.du.same j,fi.ok,fi.nn⟩;have M:cu O l zb:=xc.keep λb xs e=>j _ _ e;have W:x≠dh:=aH fi.hx fi.hh
  have xd:dl≠dh:=aH fi.hl fi.hh
  have yc:iJ (b4 bk name (bz (L c) g)):=λx d z=>ro fi.ok x d z;refine aX rfl rfl ⟨x,C,dx,_,.ref dh,rfl,i.hx,T.cl,T.nh,j6,dh,_,rfl,a6.t (k:=hK (c,name,g)) i.hh D,_,rfl,?_⟩;rcases M.val (c,name,g) with⟨U,y⟩|⟨r,v,U,y,zg,xh⟩
  ·rw[y]
   unfold cb el at q;rw[U]at q;refine af rfl ⟨x,dx,_,rfl,i.hx,Jr (by decide +kernel) (by decide +kernel) (by decide +kernel) (by decide +kernel),_,rfl,_,rfl,_,rfl,ou.mk rfl i xf (j _ _ yf) zf xg λv H2 B Y yd=>?_⟩
   have N:∀b xs,O b=bd xs->H2 b=bd xs:=λb xs e=>B _ _ (aH e i.hx) e
   have xa:=B _ _ (aQ W) i.hh;have ya:=N _ _ D;have yh:bo H2 S bk:=i.du.keep N fi.ok.ent;have zi:l.length=zb.length:=cw xc;refine af rfl ⟨x,C,dx,_,.ref dh,rfl,Y,T.cl,T.nh,j6,_,rfl,dh,_,rfl,eI.t (k:=hK (c,name,g)) xa ya (by rw[aR];omega),?_⟩
   rw[iw _ y];have R:upd H2 dh (.dT (l++[(hK (c,name,g),v)])) dh=bn (l++[(hK (c,name,g),v)]):=ae;have p:∀b u,b≠dh->H2 b=ih u->upd H2 dh (.dT (l++[(hK (c,name,g),v)])) b=ih u:=λb u n e=>by rw[ab n];exact e
   generalize upd H2 dh (.dT (l++[(hK (c,name,g),v)]))=I at R p⊢;have G:∀b xs,H2 b=bd xs->I b=bd xs:=λb xs e=>p _ _ (aH e xa) e
   have za:=p _ _ W Y;have zd:FI C x dx dl de dh kl S (l++[(hK (c,name,g),v)]) (m+(cZ bk name (bz (L c) g):Int)) bk I:=⟨za,p _ _ xd (B _ _ (aH i.hl i.hx) i.hl),p _ _ fi.nn (B _ _ (aH i.he i.hx) i.he),R,yh.keep G fi.ok.ent,fi.ok,fi.nn⟩
   have xb:dM I v (b4 bk name (bz (L c) g)):=yd.keep G λx d z=>(ro fi.ok x d z).2;refine af rfl ⟨x,C,dx,_,.ref dh,rfl,za,T.cl,T.nh,j6,_,rfl,dh,v,rfl,?_,?_⟩
   ·have:=a6.t (k:=hK (c,name,g)) R (G _ _ ya)
    rw[<-iw _ y,iu,aI rfl]at this;exact this
   ·exact q v _ I (λb u n1 zh e=>p _ _ zh (B _ _ n1 (j _ _ e))) zd (gi (M.keep λb xs e=>G _ _ (N _ _ e)) ⟨rfl,xb,yc⟩) xb yc
  ·rw[y]
   unfold cb el at q;rw[U]at q;refine af rfl ⟨x,C,dx,_,.ref dh,rfl,i.hx,T.cl,T.nh,j6,_,rfl,dh,v,rfl,by rw[<-y];exact a6.t (k:=hK (c,name,g)) i.hh D,?_⟩
   exact q v l O (λb u _ _ e=>j _ _ e) (by rw[show ∀n:Nat,m+((if (ih r).isSome=true then 0 else n:Nat):Int)=m from λn=>qd m];exact i) M zg xh
theorem EL(dl de a dh:Ph)(m:Int):bc "lines" (.ref a) (fF dl de dh m)=fF a de dh m:=rfl
theorem DH(dl de a dh:Ph)(m:Int):bc "entries" (.ref a) (fF dl de dh m)=fF dl a dh m:=rfl
theorem FF(dl de dh a:Ph)(m:Int):bc "hits" (.ref a) (fF dl de dh m)=fF dl de a m:=rfl
def cA(hs:List aW)(ks:List Pd)(n:Pd):List aW:=hs.filter λh=>!(decide (h.1.1∈ks)&&decide (h.1.2.1=n))
inductive oI(C:Ph)(vs:List V)(H:Hp)(Q:VK)(E:XK):Prop
 |mk{x dx dl de s7 s8 dh:Ph}{m:Int}(_:vs=[.ref x,.ref dl,.ref de])(_:H x=ih (.ins C dx (fF s7 s8 dh m)))(_:Q .aJ (upd H x (.ins C dx (fF dl de dh m)))):oI C vs H Q E
theorem JA:aZ ["self","lines","entries"] ["self","lines","entries"] (aF rF):=a8
theorem Iq(F:aP K "stand" "Finds.stand" rF f fd)(T:fz K mg C):aM P w K mg base ao 1 f fd ["self","lines","entries"] (oI C):=by
 refine F.bG JA λQa A b s H vs Q E e h=>?_
 ·obtain @⟨x,dx,dl,de,c,d,dh,m,rfl,a,q⟩:=h
  intro X;refine⟨_,aq (fj (pv 0) (pv 1) rfl) (aE (fj (pv 0) (pv 2) rfl)),?_⟩;refine aX rfl rfl ⟨x,C,dx,_,rfl,a,T.cl,T.nl,(by show 4<1000;decide),?_⟩
  rw[EL];refine aX rfl rfl ⟨x,C,dx,_,rfl,ae,T.cl,T.ne,(by show 4<1000;decide),?_⟩
  rw[e5,DH];exact q
inductive oJ(C:Ph)(vs:List V)(H:Hp)(Q:VK)(E:XK):Prop
 |mk{x dx dl de dh lk:Ph}{m:Int}{kh:List (List Key×V)}{hs:List aW}{ks:List Pd}{n:Pd}(_:vs=[.ref x,.ref lk,.str n])(_:H x=ih (.ins C dx (fF dl de dh m)))(_:H dh=ih (.dT kh))(_:cu H kh hs)(_:(hs.map (·.1)).Nodup)(_:hs.length<=10000)(_:H lk=ih (.lst (ks.map V.str)))
  (_:∀s9 mR Y,(∀b u,b≠x->b≠dh->H b=ih u->Y b=ih u)->H s9=none->Y x=ih (.ins C dx (fF dl de s9 m))->Y s9=ih (.dT mR)->cu Y mR (cA hs ks n)->Q .aJ Y):oJ C vs H Q E
theorem JB:aZ ["self","kinds","name"] ["self","kinds","name"] (aF lE):=a8
noncomputable abbrev LN:QD:=e8 (cH (bD lE) 0)
theorem sH:bO ["self","kinds","name"] (aF lE) ["place","hit","kinds","name"] [none,none,ih 1,ih 2] (Ab LN):=cL
theorem nA{a:al aW}{h:aW}(e:a[i]?=ih h):cA (a.take (i+1)) ks n=cA (a.take i) ks n++(if (decide (h.1.1∈ks)&&decide (h.1.2.1=n))=true then [] else [h]):=by
 unfold cA;rw[cK,e,gy,QC]
 congr 1
 cases z:decide (h.1.1∈ks)&&decide (h.1.2.1=n) with
 |true=>rw[hI (by rw[z];exact bM),aI rfl,nj]
 |false=>rw[hJ (by rw[z];rfl),ax bM,nj]
theorem Ir(F:aP K "drop_name" "Finds.drop_name" lE f fd)(T:fz K mg C):aM P w K mg base ao 1 f fd ["self","kinds","name"] (oJ C):=by
 refine F.bG JB λQa A yl s H vs Q E yj h=>?_
 ·obtain @⟨x,dx,dl,de,dh,lk,m,g,j,ks,n,rfl,xa,N,zd,zf,zl,zb,q⟩:=h
  have xg:=dr yj.units;intro X;refine⟨_,aE (fj (pv 0) (vr rfl sH (Ey (cV (pv 0) rfl)) (λs H fp=>⟨nQ (n:=2) K rfl rfl (dd (a4 0 sH.nd) (dd (a4 1 sH.nd) hQ)),
    fY (PW.pt (pw_or (bx (uO K rfl) (aV (gV K rfl) (pv 0) ak) (pv 2) rfl) (pw_or1 (bx jk (aV (gV K rfl) (pv 0) ak) (pv 3) (bA _))))),AX xg (pv 0) (pv 1)⟩)) rfl),?_⟩
  have kl:=cw zd;refine af rfl ⟨x,C,dx,_,.ref dh,rfl,xa,T.cl,T.nh,j6,dh,g,rfl,N,λo c I=>?_⟩;have yg:x≠dh:=aH xa N
  have zg:lk≠dh:=aH zb N
  have xc:upd H dh (.aG o (.dT g)) dh=ih (.aG o (.dT g)):=ae;have G:∀b u,b≠dh->H b=ih u->upd H dh (.aG o (.dT g)) b=ih u:=λb u n e=>by rw[ab n];exact e
  have yc:∀b,upd H dh (.aG o (.dT g)) b=none->H b=none:=λb e=>by
   by_cases z:b=dh
   ·rw[z,ae]at e;cases e
   ·rwa [ab z]at e
  generalize upd H dh (.aG o (.dT g))=O at xc G yc I⊢;have xh:cu O g j:=zd.keep λb xs e=>G _ _ (aH e N) e
  have yf:=G _ _ zg zb;have W:=G _ _ yg xa;refine Dr (λi y H2=>∃(J L:am V) (kvs:al (List Key×V)),y=[J,L,a2 lk,ih (.str n)]/\aw O H2/\H2 c=bn kvs/\cu H2 kvs (cA (j.take i) ks n)) ⟨none,none,[],rfl,aA I,ae,.nil⟩ (λi y H2 aa=>by obtain⟨_,_,_,_,z,_⟩:=aa;exact z _ _ xc) ?_ ?_
  ·rintro i a t b y H2 zc zj xe ⟨J,L,kvs,rfl,B,h2,D⟩
   have xd:i<g.length:=(bT.mp zc).1;obtain⟨p,ya,za,xk,xb⟩:=L2.Paired.get (xh.keep λb xs e=>B _ _ e) zc;have k:=aA (o:=.tup [V.ref b,a.2]) zj;have yd:upd H2 t (.tup [V.ref b,a.2]) t=bd [V.ref b,a.2]:=ae;generalize upd H2 t (.tup [V.ref b,a.2])=l at k yd⊢;have Y:=B.trans k;have yh:l b=bd [.str p.1.1,.str p.1.2.1,.str p.1.2.2]:=by have:=k _ _ xe;rw[za]at this;exact this
   have yb:=k _ _ h2;have R:cu l kvs (cA (j.take i) ks n):=D.keep λb xs e=>k _ _ e;have zh:dM l a.2 p.2:=xk.keep (λb xs e=>k _ _ e) λx d z=>(xb x d z).2;have vl:kvs.length<=i:=by
    have h1:=cw R;have h2:(cA (j.take i) ks n).length<=(j.take i).length:=ee _ _;rw[cj]at h2;omega
   have xi:p.1 ∉ (cA (j.take i) ks n).map (·.1):=λz=>by
    obtain⟨S,M,yk⟩:=ba.mp z;have yi:S∈j.take i:=(cU.mp M).1;have:(j.take (i+1)).map (·.1) |>.Nodup:=zf.sublist (lb _ (k5 _ _));rw[cK,ya,bC]at this;exact(gU.mp this).2.2 _ (ba.mpr ⟨S,yi,rfl⟩) p.1 (by simp) yk
   have zi:bj kvs a.1=none:=by
    rw[za];rcases R.val p.1 with⟨_,z⟩|⟨r,v,z,_⟩
    ·exact z
    ·exfalso
     unfold cW at z;obtain⟨S,M,_⟩:=fU.mp z;exact xi (ba.mpr ⟨S,QA M,hH (Vm (p:=λh:aW=>decide (h.1=p.1)) M)⟩)
   refine⟨t,_,rfl,aO.of yd,rfl,_,_,rfl,_,_,rfl,rfl,?_⟩;have put:(decide (p.1.1∈ks)&&decide (p.1.2.1=n))=false->oT (d8 0) (d8 1) c [a2 b,ih a.2,a2 lk,ih (.str n)] l λzk=>∃ye,ye<g.length - i/\iU (λi y H2=>∃(J L:am V) (kvs:al (List Key×V)),y=[J,L,a2 lk,ih (.str n)]/\aw O H2/\H2 c=bn kvs/\cu H2 kvs (cA (j.take i) ks n)) g.length (i+1) ye [a2 b,ih a.2,a2 lk,ih (.str n)] zk:=λz=>by
    refine aX rfl rfl ⟨kvs,a.1,b,rfl,k _ _ xe,yb,by rw[aR];omega,qK xd ⟨_,_,_,rfl,λb v e=>?_,ae,?_⟩⟩
    ·rw[ab (ar e I)];exact Y _ _ e
    ·rw[iw _ zi,nA ya,ax (by rw[z];exact bM)]
     have ze:∀b xs,l b=bd xs->upd l c (.dT (kvs++[(a.1,a.2)])) b=bd xs:=λb xs e=>by rw[ab (aH e yb)];exact e
     exact gi (R.keep ze) ⟨za,zh.keep ze λx d z=>(xb x d z).2,xb⟩
   have xf:l b=bd [.str p.1.1,.str p.1.2.1,.str p.1.2.2]:=yh;refine af rfl (dz xf er (af rfl ⟨lk,ks.map V.str,rfl,.inl (aj.of (Y _ _ yf)),rfl,gz _,?_⟩));rw[aI rfl,hO];refine⟨_,rfl,?_⟩
   by_cases hi:p.1.1∈ks
   ·refine ite_ff (by rw[a' hi];rfl) ?_
    refine af rfl (dz xf gL (af rfl ⟨rfl,_,rfl,?_⟩))
    by_cases U:p.1.2.1=n
    ·refine ite_ff (by rw[U,a' rfl];rfl) (qK xd ⟨_,_,kvs,rfl,Y,yb,?_⟩)
     rw[nA ya,aI (by rw[a' hi,a' U];rfl),eY]
     exact R
    ·exact ite_tt (by rw[bS (λz=>U (by injection z))];rfl) (put (by rw[bS U,Vs]))
   ·exact ite_tt (by rw[bS hi];rfl) (put (by rw[bS hi,Cp]))
  ·rintro y H2 ⟨J,L,kvs,rfl,B,h2,D⟩
   have D:cu H2 kvs (cA j ks n):=by rw[kl,cx]at D;exact D
   refine af rfl ⟨x,C,dx,_,rfl,B _ _ W,T.cl,T.nh,(by show 4<1000;decide),?_⟩
   rw[FF];have xj:c≠x:=aQ (ar W I);refine q c kvs _ (λb u n1 xl e=>by rw[ab n1];exact B _ _ (G b u xl e)) (yc c I) ae (by rw[ab xj];exact h2) (D.keep λb xs e=>by rw[ab (aH e (B _ _ W))];exact e)
structure FB(H:Hp)(t tb:Ph)(o:Ue)(ws wb:List V)(U:List (Pd×List Pd))(L:Pd->List Pd)(bk:Bk):Prop where
 ht:H t=ih (.aG o (.tup ws))
 od:o.dict=none
 fv:cM H ws U
 fo:hZ U L
 hb:H tb=ih (.tup wb)
 bv:a3 H wb bk
 ok:dw bk
theorem FB.same{t tb:Ph}{bk:Bk}(h:FB H t tb o ws wb U L bk)(S:aw H Y):FB Y t tb o ws wb U L bk:=
 ⟨S _ _ h.ht,h.od,h.fv.same S,h.fo,S _ _ h.hb,a3.same S h.bv,h.ok⟩
theorem FB.b3{t tb:Ph}{bk:Bk}(h:FB H t tb o ws wb U L bk){k:Pd}(a:k∈U.map (·.1)):(L k).length<=200:=by
 obtain⟨p,b,rfl⟩:=ba.mp a;obtain⟨_,q,_,e,c⟩:=h.fo.line p b;rw[e,cf];omega
def fH(wt fi nd md:Ph)(dn:Int):List (Pd×V):=[("held",.ref wt),("finds",.ref fi),("numbers",.ref nd),("begun",.int 0),("deeds",.int dn),("marks",.ref md)]
section
variable{wt fi nd md:Ph}{dn:Int}
theorem Ha:bc "marks" (.ref md) (bc "deeds" (.int 0) (bc "begun" (.int 0) (bc "numbers" (.ref nd) (bc "finds" (.ref fi) (bc "held" (.ref wt) [])))))=fH wt fi nd md 0:=rfl
theorem lX:(fH wt fi nd md dn).lookup ("held" : Pd)=ih (V.ref wt):=rfl
theorem i9:(fH wt fi nd md dn).lookup ("finds" : Pd)=ih (V.ref fi):=rfl
theorem FG:(fH wt fi nd md dn).lookup ("begun" : Pd)=ih (V.int 0):=rfl
theorem wH:(fH wt fi nd md dn).lookup ("deeds" : Pd)=ih (V.int dn):=rfl
theorem FH:(fH wt fi nd md dn).lookup ("marks" : Pd)=ih (V.ref md):=rfl
theorem FJ(a:Ph):bc "held" (.ref a) (fH wt fi nd md dn)=fH a fi nd md dn:=rfl
theorem EM(d:Int):bc "deeds" (.int d) (fH wt fi nd md dn)=fH wt fi nd md d:=rfl
end
structure et(K:Tx)(mg:Pd->Option CS)(C:Ph):Prop where
 cl:f9 K C
 nh:eH K C "held"
 nf:eH K C "finds"
 nn:eH K C "numbers"
 nb:eH K C "begun"
 nd:eH K C "deeds"
 nm:eH K C "marks"
 sZ:mg "House" = ih (.ref C)
structure Hr where
 (dx wt fi fx dl de dh nd md t tb tt:Ph)
 (o:Ue)
 (ws wb:List V)
 (kl km:List (Key×V))
 (ke kh:List (List Key×V))
 dn:Int
def Hr.ow(r:Hr)(x b:Ph):Prop:=b=x\/b=r.fi\/b=r.dl\/b=r.de\/b=r.dh\/b=r.md
structure HP(C D x:Ph)(r:Hr)(U:List (Pd×List Pd))(L:Pd->List Pd)(bk:Bk)(hs:List aW)(m:Int)(H:Hp):Prop where
 hx:H x=ih (.ins C r.dx (fH r.wt r.fi r.nd r.md r.dn))
 hw:H r.wt=ih (.tup [.ref r.t,.ref r.tb,.ref r.tt])
 fb:FB H r.t r.tb r.o r.ws r.wb U L bk
 ht:H r.tt=ih (.tup [])
 fi:FI D r.fi r.fx r.dl r.de r.dh r.kl r.ke r.kh m bk H
 ln:∀p∈U,f' H r.kl L p.1
 kp:(r.kl.map (·.1)).Perm ((U.map (·.1)).map Cv)
 hv:cu H r.kh hs
 hm:H r.md=ih (.dK r.km)
 n1:x≠r.fi
 n2:r.md≠r.dl
 mS:(r.km.length:Int)<=r.dn
 dZ:(hs.map (·.1)).Nodup
 kW:hs.length<=10000
def Mv(r r':Hr)(x:Ph)(H Y:Hp):Prop:=(∀b u,¬ r.ow x b->H b=ih u->Y b=ih u) /\∀b,r'.ow x b->r.ow x b\/H b=none
theorem HP.fk{x:Ph}{r:Hr}{bk:Bk}{a:al aW}(h:HP C D x r U L bk a m H):FK H r.t (U.map (·.1)):=by
 obtain⟨kvs,b,c⟩:=h.fb.fv.pairs;exact⟨r.o,r.ws,kvs,h.fb.ht,h.fb.od,b,c,h.fb.fo.nd⟩
theorem HP.keep{x:Ph}{r:Hr}{bk:Bk}{f:al aW}(h:HP C D x r U L bk f m H)(c:∀b xs,H b=bd xs->Y b=bd xs)(kf:∀b o u,H b=ih (.aG o (.tup u))->Y b=ih (.aG o (.tup u)))(d:∀b u,r.ow x b->H b=ih u->Y b=ih u):HP C D x r U L bk f m Y:=
  ⟨d _ _ (.inl rfl) h.hx,c _ _ h.hw,⟨kf _ _ _ h.fb.ht,h.fb.od,h.fb.fv.keep c,h.fb.fo,c _ _ h.fb.hb,a3.keep c h.fb.bv h.fb.ok.ent,h.fb.ok⟩,c _ _ h.ht,
   ⟨d _ _ (.inr (.inl rfl)) h.fi.hx,d _ _ (.inr (.inr (.inl rfl))) h.fi.hl,d _ _ (.inr (.inr (.inr (.inl rfl)))) h.fi.he,d _ _ (.inr (.inr (.inr (.inr (.inl rfl))))) h.fi.hh,h.fi.du.keep c h.fi.ok.ent,h.fi.ok,h.fi.nn⟩,
   λp g=>let ⟨a,e,q⟩:=h.ln p g;⟨a,e,c _ _ q⟩,h.kp,h.hv.keep c,d _ _ (.inr (.inr (.inr (.inr (.inr rfl))))) h.hm,h.n1,h.n2,h.mS,h.dZ,h.kW⟩
theorem HP.same{x:Ph}{r:Hr}{bk:Bk}{a:al aW}(h:HP C D x r U L bk a m H)(S:aw H Y):HP C D x r U L bk a m Y:=h.keep (λ_ _ e=>S _ _ e) (λ_ _ _ e=>S _ _ e) λ_ _ _ e=>S _ _ e
inductive js(C D:Ph)(vs:List V)(H:Hp)(Q:VK)(E:XK):Prop
 |mk{x:Ph}{r:Hr}{U:List (Pd×List Pd)}{L:Pd->List Pd}{bk:Bk}{hs:List aW}{m:Int}(_:vs=[.ref x])(_:HP C D x r U L bk hs m H)(_:Q (.int m) H):js C D vs H Q E
theorem JC:aZ ["self"] ["self"] (aF qP):=a8
theorem Iu(F:aP K "walked" "House.walked" qP f fd)(T:et K mg C)(a:fz K mg D):aM P w K mg base ao 1 f fd ["self"] (js C D):=by
 refine F.bG JC λQa A b s H vs Q E c h=>?_
 ·obtain @⟨x,r,U,L,bk,d,m,rfl,h,q⟩:=h
  intro X;refine⟨_,aE (aU (cV (cV (pv 0) rfl) rfl)),?_⟩;exact af rfl ⟨x,C,_,_,_,rfl,h.hx,T.cl,T.nf,i9,_,D,_,_,.int m,rfl,h.fi.hx,a.cl,a.nm,AF,q⟩
inductive oK(C D:Ph)(vs:List V)(H:Hp)(Q:VK)(E:XK):Prop
 |mk{x:Ph}{r:Hr}{U:List (Pd×List Pd)}{L:Pd->List Pd}{bk:Bk}{hs:List aW}{m:Int}(_:vs=[.ref x])(_:HP C D x r U L bk hs m H)(_:Q (.int 0) H):oK C D vs H Q E
theorem JD:aZ ["self"] ["self"] (aF rL):=a8
theorem Iv(F:aP K "reckoned" "House.reckoned" rL f fd)(T:et K mg C):aM P w K mg base ao 1 f fd ["self"] (oK C D):=by
 refine F.bG JD λQa A a s H vs Q E b h=>?_
 ·obtain @⟨x,r,U,L,bk,c,m,rfl,h,q⟩:=h
  intro X;refine⟨_,aE (aU (cV (pv 0) rfl)),?_⟩;exact af rfl ⟨x,C,_,_,_,rfl,h.hx,T.cl,T.nb,FG,q⟩
inductive o8(C D:Ph)(vs:List V)(H:Hp)(Q:VK)(E:XK):Prop
 |mk{x:Ph}{r:Hr}{U:List (Pd×List Pd)}{L:Pd->List Pd}{bk:Bk}{hs:List aW}{m:Int}{k:Pd}(_:vs=[.ref x,.str k])(_:HP C D x r U L bk hs m H)(_:Nm k)(_:k∈U.map (·.1))(_:∀a Y,aw H Y->Y a=ih (.tup ((L k).map V.str))->Q (.ref a) Y):o8 C D vs H Q E
theorem KQ:aZ ["self","kind"] ["self","kind"] (aF rK):=a8
theorem JE(F:aP K "line" "House.line" rK f fd)(T:et K mg C)(b:fz K mg D)(i:bb P w K mg base ao 3 fC dC ["family","thing"] hA "check_kind"):aM P w K mg base ao 4 f fd ["self","kind"] (o8 C D):=by
 refine F.bG KQ λQa A t s H vs Q E c h=>?_
 ·obtain @⟨x,r,U,L,bk,u,m,k,rfl,h,j,d,q⟩:=h
  have g:=dr c.units;intro X;refine⟨_,aq (cB (aT i c (aa (aV cE (cV (pv 0) rfl) ak) (aa (pv 1) ag))))
   (aE (aU (bK g (cV (cV (pv 0) rfl) rfl) (pv 1)))),?_⟩
  refine af rfl ⟨x,C,_,_,_,rfl,h.hx,T.cl,T.nh,lX,dz h.hw er (af rfl (hA.mk rfl h.fk j d λO e=>?_))⟩;have h1:=h.same e;obtain⟨p,l,rfl⟩:=ba.mp d;obtain⟨a,n,o⟩:=h1.ln p l;exact af rfl ⟨x,C,_,_,_,rfl,h1.hx,T.cl,T.nf,i9,_,D,_,_,_,rfl,h1.fi.hx,b.cl,b.nl,qW,_,rfl,_,.ref a,rfl,by rw[<-n];exact a6.k (k:=Cv p.1) h1.fi.hl,q a O e o⟩
inductive my(C D:Ph)(vs:List V)(H:Hp)(Q:VK)(E:XK):Prop
 |mk{x:Ph}{r:Hr}{U:List (Pd×List Pd)}{L:Pd->List Pd}{bk:Bk}{hs:List aW}{m:Int}{k n b:Pd}(_:vs=[.ref x,.str k,.str n,.str b])(_:HP C D x r U L bk hs m H)(_:Nm k)(_:k∈U.map (·.1))(_:Nm n)(_:b = "" \/ b∈L k)(_:hs.length<10000)
  (_:∀v r' Y,Mv r r' x H Y->r'.dn=r.dn->HP C D x r' U L bk (cb hs (k,n,b) (b4 bk n (bz (L k) b))) (m+(el hs (k,n,b) (cZ bk n (bz (L k) b)):Int)) Y->dM Y v ((cW hs (k,n,b)).getD (b4 bk n (bz (L k) b)))->iJ ((cW hs (k,n,b)).getD (b4 bk n (bz (L k) b)))->Q v Y):my C D vs H Q E
noncomputable abbrev jG:List Pd:=["self","kind","name","behind"]
noncomputable abbrev LO:List Pd:=["self","kind","name","behind","line"]
theorem BI:aZ LO jG (aF j4):=a8
theorem Ad{c:al aW}{k:Pd×Pd×Pd}{r:am (Pd×Pj)}(h:(c.map (·.1)).Nodup):((cb c k r).map (·.1)).Nodup:=by
 unfold cb;cases e:cW c k with
 |some _=>exact h
 |none =>
  show((c++[(k,r)]).map (·.1)).Nodup;rw[bC];refine gU.mpr ⟨h,by simp,λa f b d z=>?_⟩
  have d:b=k:=by simpa using d
  rw[z,d]at f;obtain⟨q,g,i⟩:=ba.mp f;unfold cW at e;rw[uk,C3]at e;exact e q g (a' i)
theorem nS(a:al aW)(k:Pd×Pd×Pd)(r:am (Pd×Pj)):(cb a k r).length<=a.length+1:=by
 unfold cb;split
 ·exact jK _
 ·rw[dA];exact aN _
theorem JF(F:kG K "found" "House.found" j4 dv f fd)(T:et K mg C)(S:fz K mg D)
  (V:aM P w K mg base ao 4 fI dI ["self","kind"] (o8 C D)) (W:Meth K C "line" fI) (X:Binds K dI ["self","kind"] [])
  (Y:bb P w K mg base ao 2 fN dN ["thing"] iE "check_name") (xa:bb P w K mg base ao 2 fB dB ["line","thing"] o3 "check_behind")
  (ya:aM P w K mg base ao 2 fL dL ["self","kind","name","behind"] (oy D)) (za:Meth K D "look" fL) (xb:Binds K dL ["self","kind","name","behind"] []):aM P w K mg base ao 5 f fd jG (my C D):=by
 refine F.ok BI (λvs H Q E h=>?_) (λQa A ze s H vs Q E yb h=>?_)
 ·obtain⟨rfl,_⟩:=h;rfl
 ·obtain @⟨x,r,U,L,bk,xf,m,k,n,b,rfl,h,zb,i,xc,y,yc,q⟩:=h
  have o:aS 4 _:=yb;have g:aS 2 _:=o.mono (by decide)
  refine⟨_,aq (bf 4 BI.nd (di (pv 0) T.cl W V o X .nil b7 (aa (pv 1) ag)))
   (aq (cB (aT Y g (aa (pv 2) ag)))
   (aq (cB (aT xa g (aa (pv 4) (aa (pv 3) ag))))
   (aE (aU (di (cV (pv 0) rfl) S.cl za ya g xb .nil b7 (aa (pv 1) (aa (pv 2) (aa (pv 3) ag)))))))),?_⟩
  refine af rfl ⟨x,_,_,rfl,h.hx,rfl,af rfl (o8.mk rfl h zb i λa O zc xd=>?_)⟩;refine af rfl (iE.mk rfl xc λH2 B=>?_);have b3:=h.fb.b3 i;refine aX rfl rfl (o3.mk rfl (B _ _ xd) b3 y λG yd=>?_);have t:=zc.trans (B.trans yd);have c:=h.same t;obtain⟨p,j,rfl⟩:=ba.mp i;refine af rfl ⟨x,C,_,_,_,rfl,c.hx,T.cl,T.nf,i9,_,_,_,rfl,c.fi.hx,rfl,dJ rfl rfl rfl (oy.mk rfl c.fi (c.ln p j) b3 y c.hv c.kW λv J l M N R zd xe=>?_)⟩;have d:∀{b u},G b=ih u->b≠r.fi->b≠r.dh->l b=ih u:=λe n1 ye=>M _ _ n1 ye e;have tup:∀b xs,G b=bd xs->l b=bd xs:=λb xs e=>d e (aH e c.fi.hx) (aH e c.fi.hh)
  refine q v { r with kh:=J } l ⟨λb u I e=>d (t _ _ e) (λz=>I (.inr (.inl z))) (λz=>I (.inr (.inr (.inr (.inr (.inl z)))))),λb z=>.inl z⟩ rfl ?_ zd xe;refine⟨d c.hx c.n1 (aH c.hx c.fi.hh),tup _ _ c.hw,⟨d c.fb.ht (aH c.fb.ht c.fi.hx) (aH c.fb.ht c.fi.hh),c.fb.od,c.fb.fv.keep tup,c.fb.fo,tup _ _ c.fb.hb,a3.keep tup c.fb.bv c.fb.ok.ent,c.fb.ok⟩,tup _ _ c.ht,N,λp j=>let ⟨a,e,q⟩:=c.ln p j;⟨a,e,tup _ _ q⟩,c.kp,R,d c.hm (aH c.hm c.fi.hx) (aH c.hm c.fi.hh),c.n1,c.n2,c.mS,Ad c.dZ,ed (nS ..) yc⟩
def Below(U:List (Pd×List Pd))(L:Pd->List Pd)(k:Pd)(ks:List Pd):Prop:= ∀y,y∈ks ↔ y∈U.map (·.1)/\k∈L y
inductive kK(C D:Ph)(vs:List V)(H:Hp)(Q:VK)(E:XK):Prop
 |mk{x:Ph}{r:Hr}{U:List (Pd×List Pd)}{L:Pd->List Pd}{bk:Bk}{hs:List aW}{m:Int}{k:Pd}(_:vs=[.ref x,.str k])(_:HP C D x r U L bk hs m H)(_:∀l ks Y,aw H Y->Y l=ih (.lst (ks.map V.str))->Below U L k ks->Q (.ref l) Y):kK C D vs H Q E
noncomputable abbrev Ce:List Pd:=["self","kind","lines"]
theorem BJ:aZ Ce ["self","kind"] (aF lW):=a8
noncomputable abbrev LP:QD:=gK (cH (bD lW) 1)
theorem BK:bO Ce (aF lW) ["other","kind","lines"] [none,ih 1,ih 2] (ck LP):=cL
theorem JG(F:aP K "kinds_below" "House.kinds_below" lW f fd)(T:et K mg C)(W:fz K mg D):aM P w K mg base ao 1 f fd ["self","kind"] (kK C D):=by
 refine F.bG BJ λQa A zc s H vs Q E xc h=>?_
 ·obtain @⟨x,r,U,L,bk,yd,m,k,rfl,h,q⟩:=h
  have ya:=dr xc.units;intro X;refine⟨_,aq (fg (i:=2) BJ.nd rfl (TC rfl) (cV (cV (pv 0) rfl) rfl))
   (aE (aU (wj (cY rfl BK (nX (pv 2)) (λs H fp=>⟨a4 0 BK.nd,fY (bx (lR K rfl) (pv 1) (bK ya (pv 2) (pv 0)) rfl),pv 0⟩))))),?_⟩
  refine af rfl ⟨x,C,_,_,_,rfl,h.hx,T.cl,T.nf,i9,_,D,_,_,_,rfl,h.fi.hx,W.cl,W.nl,qW,?_⟩;refine af rfl ⟨r.dl,r.kl,rfl,.inl ⟨h.fi.hl,λo c t=>?_⟩⟩;have j:upd H r.dl (.aG o (.dK r.kl)) r.dl=ih (.aG o (.dK r.kl)):=ae;have B:∀b u,b≠r.dl->H b=ih u->upd H r.dl (.aG o (.dK r.kl)) b=ih u:=λb u n e=>by rw[ab n];exact e
  generalize upd H r.dl (.aG o (.dK r.kl))=O at j B t⊢;have za:∀p∈r.kl,∃y,p.1=Cv y/\y∈U.map (·.1):=λp I=>by
   obtain⟨y,J,e⟩:=ba.mp (h.kp.mem_iff.mp (ba.mpr ⟨p,I,rfl⟩));exact⟨y,e.symm,J⟩
  have xd:r.kl.length<=8:=by
   have:=h.kp.length_eq;rw[aK,aK,aK]at this;have:=h.fb.fo.b3;omega
  have knd:(r.kl.map (·.1)).Nodup:=h.kp.nodup_iff.mpr (AA h.fb.fo.nd);refine nG (o:=o) (λi ys v H2=>∃(M:am V) (ks:al Pd),v=[M,ih (.str k),a2 r.dl]/\H2 c=bi ys/\aw O H2/\ys=ks.map V.str/\ks.length<=i /\∀y,y∈ks ↔ Cv y∈(r.kl.take i).map (·.1)/\k∈L y) ⟨none,[],rfl,ae,aA t,rfl,aN _,λy=>by simp⟩ (λi ys v H2 aa=>by obtain⟨_,_,_,z1,d,_⟩:=aa;exact ⟨z1,d _ _ j⟩) ?_ ?_
  ·rintro i Y ys v H2 G ⟨M,ks,rfl,h2,g,rfl,xb,l⟩
   have R:i<r.kl.length:=(bT.mp G).1;have S:r.kl.take (i+1)=r.kl.take i++[Y]:=by rw[cK,G];rfl
   obtain⟨y,N,J⟩:=za Y (eF G);obtain⟨p,I,rfl⟩:=ba.mp J;obtain⟨a,yc,xa⟩:=h.ln p I;have yb:=g _ _ (B _ _ (aH xa h.fi.hl) xa)
   rw[N,show kV (Cv p.1)=V.str p.1 from rfl];refine dJ rfl rfl rfl ⟨r.dl,.ref a,rfl,.inl ⟨r.kl,Cv p.1,.inr ⟨o,g _ _ j⟩,rfl,yc.symm⟩,a,_,rfl,.inr (aO.of yb),rfl,gz _,?_⟩;rw[ax bM,hO];refine⟨_,rfl,?_⟩
   by_cases e:k∈L p.1
   ·refine ite_tt (a' e) (af rfl ⟨h2,by rw[aK,aR];omega,cw_next R ⟨_,ks++[p.1],rfl,ae,λb u z=>by rw[ab (ar z t)];exact g _ _ z,by rw[bC];rfl,by rw[dA,ip];omega,λy=>?_⟩⟩)
    rw[S,bC,cQ,cQ,l y];simp only[bV,tM,dR,N]
    constructor
    ·rintro(⟨z1,d⟩|rfl)
     ·exact⟨.inl z1,d⟩
     ·exact⟨.inr rfl,e⟩
    ·rintro⟨z1|z1,d⟩
     ·exact .inl ⟨z1,d⟩
     ·exact .inr (gb z1)
   ·refine ite_ff (bS e) (cw_next R ⟨_,ks,rfl,h2,g,rfl,by omega,λy=>?_⟩)
    rw[S,bC,cQ,l y];simp only[bV,tM,dR,N]
    constructor
    ·rintro⟨z1,d⟩;exact⟨.inl z1,d⟩
    ·rintro⟨z1|z1,d⟩
     ·exact⟨z1,d⟩
     ·exact absurd d (gb z1 ▸ e)
  ·rintro ys v H2 ⟨M,ks,rfl,h2,g,rfl,xb,l⟩
   refine⟨r.dl,o,r.kl,g _ _ j,(λo u z=>by cases h.fi.hl.symm.trans z),?_⟩
   have zb:c≠r.dl:=aQ (ar j t);refine q c ks _ (λb u e=>?_) (by rw[ab zb];exact h2) λy=>?_
   ·by_cases z:b=r.dl
    ·subst z;rw[ae,<-e,h.fi.hl]
    ·rw[ab z];exact g _ _ (B _ _ z e)
   ·rw[l y,cx,h.kp.mem_iff]
    simp
inductive o9(C D:Ph)(vs:List V)(H:Hp)(Q:VK)(E:XK):Prop
 |mk{x:Ph}{r:Hr}{U:List (Pd×List Pd)}{L:Pd->List Pd}{bk:Bk}{hs:List aW}{m:Int}{k:Pd}(_:vs=[.ref x,.str k])(_:HP C D x r U L bk hs m H)(_:∀l Y,aw H Y->Y l=ih (.lst [])->Q (.ref l) Y):o9 C D vs H Q E
noncomputable abbrev Cf:List Pd:=["self","kind","kinds"]
theorem BL:aZ Cf ["self","kind"] (aF lK):=a8
noncomputable abbrev LQ:QD:=gK (cH (bD lK) 1)
theorem pb:bO Cf (aF lK) ["thing","other","own","kinds"] [none,none,none,ih 2] (ck LQ):=cL
theorem JH(F:aP K "things_below" "House.things_below" lK f fd)(T:et K mg C)
  (d:aM P w K mg base ao 1 fK dK ["self","kind"] (kK C D)) (e:Meth K C "kinds_below" fK) (g:Binds K dK ["self","kind"] []):aM P w K mg base ao 2 f fd ["self","kind"] (o9 C D):=by
 refine F.bG BL λQa A B s H vs Q E j h=>?_
 ·obtain @⟨x,r,U,L,bk,G,m,k,rfl,h,q⟩:=h
  intro X;refine⟨_,aq (fg (i:=2) BL.nd rfl (TC rfl) (di (pv 0) T.cl e d j g .nil b7 (aa (pv 1) ag)))
   (aE (aU (cY rfl pb (jd (aV cE (cV (pv 0) rfl) ak)) (λs H fp=>⟨nQ (n:=3) K rfl rfl (dd (a4 0 pb.nd) (dd (a4 1 pb.nd) (dd (a4 2 pb.nd) hQ))),fY (bx (lR K rfl) (pv 1) (pv 3) rfl),pv 0⟩)))),?_⟩
  refine af rfl ⟨x,_,_,rfl,h.hx,rfl,af rfl (kK.mk rfl h λl ks O b I _=>?_)⟩;have h1:=h.same b;refine af rfl ⟨x,C,_,_,_,rfl,h1.hx,T.cl,T.nh,lX,dz h1.hw sC ⟨r.tt,rfl,⟨_,aO.of h1.ht⟩,λc o=>?_⟩⟩;refine jZ (xs:=[]) (λi ys a H2=>ys=[]/\aw O H2/\H2 c=bi []) ⟨rfl,aA o,ae⟩ (λi ys a H2 J=>by obtain⟨p,z,t⟩:=J;exact ⟨p ▸ t,aO.of (z _ _ h1.ht)⟩) ?_ ?_
  ·rintro i y ys a H2 u _
   simp at u
  ·rintro ys a H2 ⟨rfl,v,h2⟩
   exact q c H2 (b.trans v) h2
inductive kL(C D:Ph)(vs:List V)(H:Hp)(Q:VK)(E:XK):Prop
 |mk{x:Ph}{r:Hr}{U:List (Pd×List Pd)}{L:Pd->List Pd}{bk:Bk}{hs:List aW}{m:Int}{k:Pd}(_:vs=[.ref x,.str k])(_:HP C D x r U L bk hs m H)(_:r.dn<10000)
  (_:∀r' Y,Mv r r' x H Y->r'.dn=r.dn+1->r'.dh=r.dh->r'.fi=r.fi->HP C D x r' U L bk hs m Y->Q .aJ Y):kL C D vs H Q E
theorem KR:aZ ["self","kind"] ["self","kind"] (aF rM):=a8
theorem JI(F:aP K "mark" "House.mark" rM f fd)(T:et K mg C):aM P w K mg base ao 1 f fd ["self","kind"] (kL C D):=by
 refine F.bG KR λQa A M s H vs Q E v h=>?_
 ·obtain @⟨x,r,U,L,bk,S,m,k,rfl,h,N,q⟩:=h
  have o:=dr v.units;intro X;refine⟨_,aq (u5 (pv 0) ak ru) (aE (hR o (cV (pv 0) rfl) (pv 1) (cV (pv 0) rfl) rfl)),?_⟩;refine af rfl ⟨x,C,_,_,.int r.dn,rfl,h.hx,T.cl,T.nd,wH,_,_,rfl,rfl,_,_,h.hx,by show 6<1000;decide,?_⟩
  rw[EM];have i:r.md≠x:=aH h.hm h.hx
  have g:upd H x (.ins C r.dx (fH r.wt r.fi r.nd r.md (r.dn+1))) x=ih (.ins C r.dx (fH r.wt r.fi r.nd r.md (r.dn+1))):=ae;have t:upd H x (.ins C r.dx (fH r.wt r.fi r.nd r.md (r.dn+1))) r.md=bm r.km:=by rw[ab i];exact h.hm
  have R:=h.mS;refine af rfl ⟨x,C,_,_,_,rfl,g,T.cl,T.nd,wH,_,rfl,x,C,_,_,_,rfl,g,T.cl,T.nm,FH,_,rfl,r.md,_,rfl,eI.k (k:=Cv k) t (by rw[aR];omega),?_⟩
  have c:∀b u,b≠x->b≠r.md->H b=ih u->upd (upd H x (.ins C r.dx (fH r.wt r.fi r.nd r.md (r.dn+1)))) r.md (.dK (putK r.km (Cv k) (.int (r.dn+1)))) b=ih u:=λb u n1 B e=>by rw[ab B,ab n1];exact e
  have j:upd (upd H x (.ins C r.dx (fH r.wt r.fi r.nd r.md (r.dn+1)))) r.md (.dK (putK r.km (Cv k) (.int (r.dn+1)))) x=ih (.ins C r.dx (fH r.wt r.fi r.nd r.md (r.dn+1))):=by rw[ab (aQ i)];exact g
  have l:upd (upd H x (.ins C r.dx (fH r.wt r.fi r.nd r.md (r.dn+1)))) r.md (.dK (putK r.km (Cv k) (.int (r.dn+1)))) r.md=bm (putK r.km (Cv k) (.int (r.dn+1))):=ae;generalize upd (upd H x (.ins C r.dx (fH r.wt r.fi r.nd r.md (r.dn+1)))) r.md (.dK (putK r.km (Cv k) (.int (r.dn+1))))=O at c j l⊢;have d:∀{b u},H b=ih u->(∀C dx fs,u ≠ .ins C dx fs)->(∀kvs,u ≠ .dK kvs)->O b=ih u:=λe G I=>c _ _ (λy=>by rw[y,h.hx]at e;cases e;exact G _ _ _ rfl) (λy=>by rw[y,h.hm]at e;cases e;exact I _ rfl) e
  have tup:∀b xs,H b=bd xs->O b=bd xs:=λb xs e=>d e (by intros;intro z;cases z) (by intro _ z;cases z)
  refine q { r with dn:=r.dn+1,km:=putK r.km (Cv k) (.int (r.dn+1)) } O ⟨λb u n e=>c _ _ (λz=>n (.inl z)) (λz=>n (.inr (.inr (.inr (.inr (.inr z)))))) e,λb z=>.inl z⟩ rfl rfl rfl ?_;exact⟨j,tup _ _ h.hw,⟨d h.fb.ht (by intros;intro z;cases z) (by intro _ z;cases z),h.fb.od,h.fb.fv.keep tup,h.fb.fo,tup _ _ h.fb.hb,a3.keep tup h.fb.bv h.fb.ok.ent,h.fb.ok⟩,tup _ _ h.ht,
   ⟨c _ _ (aQ h.n1) (aH h.fi.hx h.hm) h.fi.hx,c _ _ (aH h.fi.hl h.hx) (aQ h.n2) h.fi.hl,d h.fi.he (by intros;intro z;cases z) (by intro _ z;cases z),d h.fi.hh (by intros;intro z;cases z) (by intro _ z;cases z),h.fi.du.keep tup h.fi.ok.ent,h.fi.ok,h.fi.nn⟩,
   λp J=>let ⟨a,e,q⟩:=h.ln p J;⟨a,e,tup _ _ q⟩,h.kp,h.hv.keep tup,l,h.n1,h.n2,by have:=lr r.km (Cv k) (V.int (r.dn+1));show((putK r.km _ _).length:Int)<=r.dn+1;omega,h.dZ,h.kW⟩
inductive iK(C D:Ph)(vs:List V)(H:Hp)(Q:VK)(E:XK):Prop
 |mk{x dx wt LR fi fx s7 s8 dh nd md t tb tt:Ph}{dn m:Int}{o:Ue}{ws wb:List V}{U:List (Pd×List Pd)}{L:Pd->List Pd}{bk:Bk}(_:vs=[.ref x,.ref wt])(_:H x=ih (.ins C dx (fH LR fi nd md dn)))(_:H wt=ih (.tup [.ref t,.ref tb,.ref tt]))(_:FB H t tb o ws wb U L bk)(_:H fi=ih (.ins D fx (fF s7 s8 dh m)))(_:x≠fi)
  (_:∀dl de kl ke Y,(∀b u,b≠x->b≠fi->H b=ih u->Y b=ih u)->H dl=none->H de=none->Y x=ih (.ins C dx (fH wt fi nd md dn))->Y fi=ih (.ins D fx (fF dl de dh m))->Y dl=ih (.dK kl)->Y de=ih (.dT ke)->bo Y ke bk->(∀p∈U,f' Y kl L p.1)->(kl.map (·.1)).Perm ((U.map (·.1)).map Cv)->Q .aJ Y):iK C D vs H Q E
theorem KS:aZ ["self","world"] ["self","world"] (aF rm):=a8
theorem JJ(F:aP K "stand" "House.stand" rm f fd)(T:et K mg C)(xd:fz K mg D)
  (yd:bb P w K mg base ao 5 fL dL ["family"] n0 "lines_of") (zd:bb P w K mg base ao 1 fE dE ["book"] oZ "entries_by_place")
  (xe:aM P w K mg base ao 1 fS dS ["self","lines","entries"] (oI D)) (ye:Meth K D "stand" fS) (ze:Binds K dS ["self","lines","entries"] []):aM P w K mg base ao 6 f fd ["self","world"] (iK C D):=by
 refine F.bG KS λQa A xh s H vs Q E xf h=>?_
 ·obtain @⟨x,dx,wt,yh,fi,S,zh,xi,dh,nd,md,t,tb,yi,dn,m,o,ws,wb,U,L,bk,rfl,V,yf,c,xa,J,q⟩:=h
  have M:aS 5 _:=xf;have N:aS 1 _:=M.mono (by decide)
  intro X;refine⟨_,aq (fj (pv 0) (pv 1) rfl) (aE (cB (di (cV (pv 0) rfl) xd.cl ye xe N ze .nil b7 (aa (aT yd M (aa (aV cE (pv 1) ak) ag)) (aa (aT zd N (aa (aV cE (pv 1) ak) ag)) ag))))),?_⟩;refine aX rfl rfl ⟨x,C,dx,_,rfl,V,T.cl,T.nh,(by show 6<1000;decide),?_⟩
  rw[FJ];have B:upd H x (.ins C dx (fH wt fi nd md dn)) x=ih (.ins C dx (fH wt fi nd md dn)):=ae;have k:∀b u,b≠x->H b=ih u->upd H x (.ins C dx (fH wt fi nd md dn)) b=ih u:=λb u n e=>by rw[ab n];exact e
  have G:∀b,upd H x (.ins C dx (fH wt fi nd md dn)) b=none->H b=none:=λb e=>by
   by_cases z:b=x
   ·rw[z,ae]at e;cases e
   ·rwa [ab z]at e
  generalize upd H x (.ins C dx (fH wt fi nd md dn))=O at B k G⊢;have W:∀{b u},H b=ih u->(∀C dx fs,u ≠ .ins C dx fs)->O b=ih u:=λe z=>k _ _ (λy=>by rw[y,V]at e;cases e;exact z _ _ _ rfl) e
  have j:∀b xs,H b=bd xs->O b=bd xs:=λb xs e=>W e (by intros;intro z;cases z)
  have R:=j _ _ yf;have v:=k _ _ (aQ J) xa;have ya:=W c.ht (by intros;intro z;cases z)
  have za:=c.fv.keep j;refine af rfl ⟨x,C,_,_,_,rfl,B,T.cl,T.nf,i9,fi,S,_,rfl,v,rfl,?_⟩;refine af rfl (dz R er (n0.mk rfl ya za c.fo λdl kl H2 xb g h2 yb zb=>?_));have xc:=g _ _ R;refine af rfl (dz xc gL (oZ.mk rfl (g _ _ (j _ _ c.hb)) (a3.same g (a3.keep j c.bv c.ok.ent)) c.ok λde zf I yc i Y xg=>?_));have l:=g.trans i;refine oI.mk rfl (l _ _ v) ?_;have d:∀b u,b≠fi->I b=ih u->upd I fi (.ins D S (fF dl de dh m)) b=ih u:=λb u n e=>by rw[ab n];exact e
  have zc:=l _ _ v;have r:∀{b u},I b=ih u->(∀C dx fs,u ≠ .ins C dx fs)->b≠fi:=λe z y=>by rw[y,zc]at e;cases e;exact z _ _ _ rfl
  exact q dl de kl zf _ (λb u n1 yg e=>d _ _ yg (l _ _ (k _ _ n1 e))) (G _ xb) (G _ (g.free yc)) (d _ _ J (l _ _ B)) ae (d _ _ (r (i _ _ h2) (by intros;intro z;cases z)) (i _ _ h2)) (d _ _ (r Y (by intros;intro z;cases z)) Y)
   (xg.keep (λb xs e=>d _ _ (r e (by intros;intro z;cases z)) e) c.ok.ent) (λp zg=>let ⟨a,e,q⟩:=yb p zg;⟨a,e,d _ _ (r (i _ _ q) (by intros;intro z;cases z)) (i _ _ q)⟩) zb
inductive kM(C D:Ph)(vs:List V)(H:Hp)(Q:VK)(E:XK):Prop
 |mk{x:Ph}{r:Hr}{U:List (Pd×List Pd)}{L:Pd->List Pd}{bk:Bk}{hs:List aW}{m:Int}{k n:Pd}(_:vs=[.ref x,.str k,.str n])(_:HP C D x r U L bk hs m H)
  (_:∀r' ks Y,Mv r r' x H Y->r'.dn=r.dn->Below U L k ks->HP C D x r' U L bk (cA hs ks n) m Y->Q .aJ Y):kM C D vs H Q E
noncomputable abbrev LU:List Pd:=["self","kind","name","thing"]
theorem BM:aZ LU ["self","kind","name"] (aF qQ):=a8
theorem FL{a:al aW}(h:(a.map (·.1)).Nodup):((cA a ks n).map (·.1)).Nodup:=h.sublist (lb _ p7)
theorem EN(a:al aW)(ks:al Pd)(n:Pd):(cA a ks n).length<=a.length:=ee _ _
theorem JK(F:aP K "forget_name" "House.forget_name" qQ f fd)(T:et K mg C)(W:fz K mg D)
  (Y:aM P w K mg base ao 1 fK dK ["self","kind"] (kK C D)) (xa:Meth K C "kinds_below" fK) (ya:Binds K dK ["self","kind"] [])
  (za:aM P w K mg base ao 2 fT dT ["self","kind"] (o9 C D)) (xb:Meth K C "things_below" fT) (yb:Binds K dT ["self","kind"] [])
  (zb:aM P w K mg base ao 1 fD dD ["self","kinds","name"] (oJ D)) (xc:Meth K D "drop_name" fD) (yc:Binds K dD ["self","kinds","name"] []):aM P w K mg base ao 3 f fd ["self","kind","name"] (kM C D):=by
 refine F.bG BM λQa A zf s H vs Q E zc h=>?_
 ·obtain @⟨x,r,U,L,bk,xd,m,k,n,rfl,h,q⟩:=h
  have v:aS 2 _:=zc;have B:aS 1 _:=v.mono (by decide)
  intro X;refine⟨_,aq (cB (di (cV (pv 0) rfl) W.cl xc zb B yc .nil b7 (aa (di (pv 0) T.cl xa Y B ya .nil b7 (aa (pv 1) ag)) (aa (pv 2) ag))))
   (aE (e7 eP rfl (d4 (di (pv 0) T.cl xb za v yb .nil b7 (aa (pv 1) ag))) (a4 3 BM.nd) jU)),?_⟩
  refine af rfl ⟨x,C,_,_,_,rfl,h.hx,T.cl,T.nf,i9,r.fi,r.fx,_,rfl,h.fi.hx,rfl,?_⟩;refine af rfl ⟨x,_,_,rfl,h.hx,rfl,af rfl (kK.mk rfl h λl ks O t yd M=>?_)⟩;have h1:=h.same t;refine af rfl (oJ.mk rfl h1.fi.hx h1.fi.hh h1.hv h1.dZ h1.kW yd λj G H2 N o R S V=>?_);have c:∀{b u},O b=ih u->b≠r.fi->b≠r.dh->H2 b=ih u:=λe n1 zd=>N _ _ n1 zd e;have tup:∀b xs,O b=bd xs->H2 b=bd xs:=λb xs e=>c e (aH e h1.fi.hx) (aH e h1.fi.hh)
  have h2:HP C D x { r with dh:=j,kh:=G } U L bk (cA xd ks n) m H2:=⟨c h1.hx h1.n1 (aH h1.hx h1.fi.hh),tup _ _ h1.hw,⟨c h1.fb.ht (aH h1.fb.ht h1.fi.hx) (aH h1.fb.ht h1.fi.hh),h1.fb.od,h1.fb.fv.keep tup,h1.fb.fo,tup _ _ h1.fb.hb,a3.keep tup h1.fb.bv h1.fb.ok.ent,h1.fb.ok⟩,tup _ _ h1.ht,
   ⟨R,c h1.fi.hl (aH h1.fi.hl h1.fi.hx) (aH h1.fi.hl h1.fi.hh),c h1.fi.he (aH h1.fi.he h1.fi.hx) h1.fi.nn,S,h1.fi.du.keep tup h1.fi.ok.ent,h1.fi.ok,λ(z:r.de=j)=>by rw[<-z,h1.fi.he]at o;cases o⟩,
   λp xe=>let ⟨a,e,q⟩:=h1.ln p xe;⟨a,e,tup _ _ q⟩,h1.kp,V,c h1.hm (aH h1.hm h1.fi.hx) (aH h1.hm h1.fi.hh),h1.n1,h1.n2,h1.mS,FL h1.dZ,ed (EN ..) h1.kW⟩
  refine af rfl ⟨x,_,_,rfl,h2.hx,rfl,af rfl (o9.mk rfl h2 λye ze xf I=>?_)⟩;refine⟨ye,rfl,⟨_,aj.of I⟩,i6 (xs:=[]) (λi σ d=>aw ze d) (aw.refl _) (λi σ d _ z=>aj.of (z _ _ I)) ?_ ?_⟩
  ·rintro i y σ d yf _
   simp at yf
  ·intro σ d g
   have g:=xf.trans g;refine q { r with dh:=j,kh:=G } ks d ⟨λb u J e=>g _ _ (c (t _ _ e) (λz=>J (.inr (.inl z))) (λz=>J (.inr (.inr (.inr (.inr (.inl z))))))),λb z=>?_⟩ rfl M (h2.same g);rcases z with z|z|z|z|z|z
   ·exact .inl (.inl z)
   ·exact .inl (.inr (.inl z))
   ·exact .inl (.inr (.inr (.inl z)))
   ·exact .inl (.inr (.inr (.inr (.inl z))))
   ·exact .inr (by rw[z];exact t.free o)
   ·exact .inl (.inr (.inr (.inr (.inr (.inr z)))))
theorem Mv.trans{r f g:Hr}{x:Ph}(a:Mv r f x H O)(b:Mv f g x O H2):Mv r g x H H2:=by
 refine⟨λc u d e=>b.1 c u (λz=>(a.2 c z).elim d λy=>by rw[y]at e;cases e) (a.1 c u d e),λc z=>?_⟩
 rcases b.2 c z with y|y
 ·exact a.2 c y
 ·by_cases d:r.ow x c
  ·exact .inl d
  ·cases e:H c with
   |none=>exact .inr rfl
   |some u=>rw[a.1 c u d e]at y;cases y
theorem Mv.of{r b:Hr}{x:Ph}(S:aw H O)(a:Mv r b x O H2):Mv r b x H H2:=⟨λc u d e=>a.1 c u d (S _ _ e),λc z=>(a.2 c z).imp id λy=>S.free y⟩
theorem HP.Ae{x:Ph}{r:Hr}{bk a:Bk}{d:al aW}{wt tb de:Ph}{ke:al (List Key×V)}(h:HP C D x r U L bk d m H)(ok:dw a)(g:H wt=bd [.ref r.t,.ref tb,.ref r.tt])(i:H tb=bd wb)(j:a3 H wb a)
  (k:∀b u,b≠x->b≠r.fi->H b=ih u->Y b=ih u) (l:H dl=none) (ne:H de=none) (n:Y x=ih (.ins C r.dx (fH wt r.fi r.nd r.md r.dn))) (o:Y r.fi=ih (.ins D r.fx (fF dl de r.dh m))) (q:Y dl=bm kl) (s:Y de=bn ke) (v:bo Y ke a) (w:∀p∈U,f' Y kl L p.1) (f:(kl.map (·.1)).Perm ((U.map (·.1)).map Cv)) :
  HP C D x { r with wt:=wt,tb:=tb,wb:=wb,dl:=dl,de:=de,kl:=kl,ke:=ke } U L a d m Y:=by
 have c:∀{b u},H b=ih u->(∀C dx fs,u ≠ .ins C dx fs)->Y b=ih u:=λe z=>k _ _ (λy=>by rw[y,h.hx]at e;cases e;exact z _ _ _ rfl) (λy=>by rw[y,h.fi.hx]at e;cases e;exact z _ _ _ rfl) e
 have tup:∀b xs,H b=bd xs->Y b=bd xs:=λb xs e=>c e (by intros;intro z;cases z)
 exact⟨n,tup _ _ g,⟨c h.fb.ht (by intros;intro z;cases z),h.fb.od,h.fb.fv.keep tup,h.fb.fo,tup _ _ i,a3.keep tup j ok.ent,ok⟩,tup _ _ h.ht,
  ⟨o,q,s,c h.fi.hh (by intros;intro z;cases z),v,ok,aQ (ar h.fi.hh ne)⟩,w,f,h.hv.keep tup,c h.hm (by intros;intro z;cases z),h.n1,ar h.hm l,h.mS,h.dZ,h.kW⟩
inductive mz(C D:Ph)(vs:List V)(H:Hp)(Q:VK)(E:XK):Prop
 |mk{p x:Ph}{zs:List V}{r:Hr}{U:List (Pd×List Pd)}{L:Pd->List Pd}{bk:Bk}{hs:List aW}{m:Int}{k n:Pd}{v:V}{d:Pj}(_:vs=[.ref x,.str k,.str n,v])(_:H p=ih (.lst zs))(_:HP C D x r U L bk hs m H)(_:Nm k)(_:k∈U.map (·.1))(_:Nm n)(_:Rep H v d)(_:Ent d)(_:(bg bk k n).length<=47)(_:r.dn<10000)
  (_:∀r' kU ks Y,Mv r r' x H Y->r'.dn=r.dn+1->kU.Perm (bg bk k n++[(k,n,d)])->Below U L k ks->HP C D x r' U L kU (cA hs ks n) m Y->Q .aJ Y):mz C D vs H Q E
noncomputable abbrev pP:List Pd:=["self","kind","name","entry"]
noncomputable abbrev LV:List Pd:=["self","kind","name","entry","family","book","things"]
theorem pd:aZ LV pP (aF rH):=a8
theorem Hb{bk:Bk}{k:Pd}{d:Pj}(ok:dw bk)(h:Nm k)(i:Nm n)(e:Ent d)(l:(bg bk k n).length<=47):dw (bg bk k n++[(k,n,d)]):=by
 have w:=hV ok k n;have f:∀p∈bg bk k n++[(k,n,d)],p∈bg bk k n\/p=(k,n,d):=λp c=>(cQ.mp c).imp id dR.mp;refine⟨λp c=>?_,λp c=>?_,?_,by rw[dA,ip];omega⟩
 ·rcases f p c with z|rfl
  ·exact w.nm p z
  ·exact⟨h,i⟩
 ·rcases f p c with z|rfl
  ·exact w.ent p z
  ·exact e
 ·rw[bC]
  refine gU.mpr ⟨w.nd,by simp,λa g b j z=>?_⟩
  have:b=[k,n]:=by simpa [a9] using j
  rw[z,this]at g;exact n8 g
theorem JL{fF:Ph}{B:Ta}(F:aP K "give" "House.give" rH f fd)(T:et K mg C)
  (ye:bb P w K mg base ao 5 fG dG pO o5 "name_given")
  (ze:aM P w K mg base ao 6 fS dS ["self","world"] (iK C D)) (xf:Meth K C "stand" fS) (yf:Binds K dS ["self","world"] [])
  (zf:aM P w K mg base ao 1 fM B ["self","kind"] (kL C D)) (xg:Meth K C "mark" fM) (yg:Binds K B ["self","kind"] [])
  (zg:aM P w K mg base ao 3 fF dF ["self","kind","name"] (kM C D)) (xh:Meth K C "forget_name" fF) (yh:Binds K dF ["self","kind","name"] []):aM P w K mg base ao 7 f fd pP (mz C D):=by
 refine F.bG pd λQa A xm s H vs Q E zh h=>?_
 ·obtain @⟨p,x,zs,r,U,L,bk,ym,m,k,n,v,d,rfl,xi,h,G,yi,I,zi,J,g,V,q⟩:=h
  have c:aS 6 _:=zh;have W:aS 5 _:=c.mono (by decide)
  have Y:aS 3 _:=c.mono (by decide)
  have xa:aS 1 _:=c.mono (by decide)
  intro X;refine⟨_,aq (lY (cV (pv 0) rfl) (j8 rfl (dd (a4 4 pd.nd) (dd (a4 5 pd.nd) (dd (a4 6 pd.nd) hQ)))))
   (aq (cB (di (pv 0) T.cl xf ze c yf .nil b7 (aa (fq (aa (pv 4) (aa (aT ye W (aa (pv 4) (aa (pv 5) (aa (pv 1) (aa (pv 2) (aa (pv 3) ag)))))) (aa (pv 6) ag)))) ag)))
   (aq (cB (di (pv 0) T.cl xg zf xa yg .nil b7 (aa (pv 1) ag)))
   (aE (cB (di (pv 0) T.cl xh zg Y yh .nil b7 (aa (pv 1) (aa (pv 2) ag))))))),?_⟩
  refine af rfl ⟨x,C,_,_,_,rfl,h.hx,T.cl,T.nh,lX,r.wt,_,rfl,aO.of h.hw,rfl,_,_,rfl,_,_,rfl,_,_,rfl,rfl,?_⟩;refine af rfl ⟨x,_,_,rfl,h.hx,rfl,af rfl (sj rfl rfl rfl rfl rfl (o5.mk rfl xi h.fk G yi I h.fb.hb h.fb.bv h.fb.ok zi J g λxj ya za O yj i j pm zm=>?_))⟩;have l:=n9 pm (Hb h.fb.ok G I J g);refine af rfl ⟨eK,λwt H2 a _ o=>?_⟩;have t:=yj.trans a;have h2:=h.same t;refine iK.mk rfl h2.hx o ⟨h2.fb.ht,h2.fb.od,h2.fb.fv,h2.fb.fo,a _ _ i,a3.same a j,l⟩ h2.fi.hx h2.n1 λdl de kl ke zj y M ne xb yb zb xc yc zc xd=>?_;have N:=h2.Ae l o (a _ _ i) (a3.same a j) y M ne xb yb zb xc yc zc xd;have xk:Mv r { r with wt:=wt,tb:=xj,wb:=ya,dl:=dl,de:=de,kl:=kl,ke:=ke } x H zj:=Mv.of t ⟨λb u R e=>y _ _ (λz=>R (.inl z)) (λz=>R (.inr (.inl z))) e,λb z=>by
   rcases z with z|z|z|z|z|z
   ·exact .inl (.inl z)
   ·exact .inl (.inr (.inl z))
   ·exact .inr (z ▸ M)
   ·exact .inr (z ▸ ne)
   ·exact .inl (.inr (.inr (.inr (.inr (.inl z)))))
   ·exact .inl (.inr (.inr (.inr (.inr (.inr z)))))⟩
  refine af rfl ⟨x,_,_,rfl,N.hx,rfl,af rfl (kL.mk rfl N V λxn yn yk yd _ _ S=>?_)⟩;refine af rfl ⟨x,_,_,rfl,S.hx,rfl,aX rfl rfl (kM.mk rfl S λzk ks xl yl zd xe zl=>?_)⟩;exact q zk za ks xl (xk.trans (yk.trans yl)) (zd.trans yd) pm xe zl
inductive pe(C D:Ph)(vs:List V)(H:Hp)(Q:VK)(E:XK):Prop
 |mk{x:Ph}{r:Hr}{U:List (Pd×List Pd)}{L:Pd->List Pd}{bk:Bk}{hs:List aW}{m:Int}{k n:Pd}(_:vs=[.ref x,.str k,.str n])(_:HP C D x r U L bk hs m H)(_:Nm k)(_:k∈U.map (·.1))(_:Nm n)(_ : [k,n]∈bk.map a9)(_:r.dn<10000)
  (_:∀r' ks Y,Mv r r' x H Y->r'.dn=r.dn+1->Below U L k ks->HP C D x r' U L (bg bk k n) (cA hs ks n) m Y->Q .aJ Y):pe C D vs H Q E
noncomputable abbrev pQ:List Pd:=["self","kind","name"]
noncomputable abbrev LW:List Pd:=["self","kind","name","family","book","things"]
theorem pf:aZ LW pQ (aF rJ):=a8
theorem JM{fF:Ph}{p:Ta}(F:aP K "take" "House.take" rJ f fd)(T:et K mg C)
  (xc:bb P w K mg base ao 5 fG dG ["family","book","kind","name"] o6 "name_taken")
  (yc:aM P w K mg base ao 6 fS dS ["self","world"] (iK C D)) (zc:Meth K C "stand" fS) (xd:Binds K dS ["self","world"] [])
  (yd:aM P w K mg base ao 1 fM p ["self","kind"] (kL C D)) (zd:Meth K C "mark" fM) (xe:Binds K p ["self","kind"] [])
  (ye:aM P w K mg base ao 3 fF dF ["self","kind","name"] (kM C D)) (ze:Meth K C "forget_name" fF) (xf:Binds K dF ["self","kind","name"] []):aM P w K mg base ao 7 f fd pQ (pe C D):=by
 refine F.bG pf λQa A zj s H vs Q E yf h=>?_
 ·obtain @⟨x,r,U,L,bk,xk,m,k,n,rfl,h,zf,xg,yg,G,I,q⟩:=h
  have c:aS 6 _:=yf;have J:aS 5 _:=c.mono (by decide)
  have M:aS 3 _:=c.mono (by decide)
  have N:aS 1 _:=c.mono (by decide)
  intro X;refine⟨_,aq (lY (cV (pv 0) rfl) (j8 rfl (dd (a4 3 pf.nd) (dd (a4 4 pf.nd) (dd (a4 5 pf.nd) hQ)))))
   (aq (cB (di (pv 0) T.cl zc yc c xd .nil b7 (aa (fq (aa (pv 3) (aa (aT xc J (aa (pv 3) (aa (pv 4) (aa (pv 1) (aa (pv 2) ag))))) (aa (pv 5) ag)))) ag)))
   (aq (cB (di (pv 0) T.cl zd yd N xe .nil b7 (aa (pv 1) ag)))
   (aE (cB (di (pv 0) T.cl ze ye M xf .nil b7 (aa (pv 1) (aa (pv 2) ag))))))),?_⟩
  refine af rfl ⟨x,C,_,_,_,rfl,h.hx,T.cl,T.nh,lX,r.wt,_,rfl,aO.of h.hw,rfl,_,_,rfl,_,_,rfl,_,_,rfl,rfl,?_⟩;refine af rfl ⟨x,_,_,rfl,h.hx,rfl,af rfl (Bo rfl rfl rfl rfl (o6.mk rfl h.fk zf xg yg h.fb.hb h.fb.bv h.fb.ok G λzg R O xh d g=>?_))⟩;have i:=hV h.fb.ok k n;refine af rfl ⟨eK,λwt H2 a _ j=>?_⟩;have l:=xh.trans a;have h2:=h.same l;refine iK.mk rfl h2.hx j ⟨h2.fb.ht,h2.fb.od,h2.fb.fv,h2.fb.fo,a _ _ d,a3.same a g,i⟩ h2.fi.hx h2.n1 λdl de kl ke yh o t ne S V W Y xa ya za=>?_;have v:=h2.Ae i j (a _ _ d) (a3.same a g) o t ne S V W Y xa ya za;have zh:Mv r { r with wt:=wt,tb:=zg,wb:=R,dl:=dl,de:=de,kl:=kl,ke:=ke } x H yh:=Mv.of l ⟨λb u y e=>o _ _ (λz=>y (.inl z)) (λz=>y (.inr (.inl z))) e,λb z=>by
   rcases z with z|z|z|z|z|z
   ·exact .inl (.inl z)
   ·exact .inl (.inr (.inl z))
   ·exact .inr (z ▸ t)
   ·exact .inr (z ▸ ne)
   ·exact .inl (.inr (.inr (.inr (.inr (.inl z)))))
   ·exact .inl (.inr (.inr (.inr (.inr (.inr z)))))⟩
  refine af rfl ⟨x,_,_,rfl,v.hx,rfl,af rfl (kL.mk rfl v I λyk zk xi xb _ _ B=>?_)⟩;refine af rfl ⟨x,_,_,rfl,B.hx,rfl,aX rfl rfl (kM.mk rfl B λyi ks zi xj yb zb yj=>?_)⟩;exact q yi ks zi (zh.trans (xi.trans xj)) (yb.trans xb) zb yj
inductive oL(C D:Ph)(vs:List V)(H:Hp)(Q:VK)(E:XK):Prop
 |mk{x dx:Ph}(_:vs=[.ref x])(_:H x=ih (.ins C dx []))(_:∀wt fi fx dl de dh nd md Y,(∀b u,b≠x->H b=ih u->Y b=ih u)->Y x=ih (.ins C dx (fH wt fi nd md 0))->Y fi=ih (.ins D fx (fF dl de dh 0))->Y dh=ih (.dT [])->Y md=ih (.dK [])->H fi=none->H dh=none->H md=none->x≠fi->Q .aJ Y):oL C D vs H Q E
theorem JN:aZ ["self"] ["self"] (aF rG):=a8
theorem Iw(F:aP K "__init__" "House.__init__" rG f fd)(T:et K mg C)(xh:fz K mg D)
  (M:Mk K D fI) (yh:aM P w K mg base ao 1 fI dI ["self","lines","entries"] (oH D)) (zh:Binds K dI ["self","lines","entries"] []):aM P w K mg base ao 3 f fd ["self"] (oL C D):=by
 refine F.bG JN λQa A xj s H vs Q E xi h=>?_
 ·obtain @⟨x,dx,rfl,yi,q⟩:=h
  intro X;refine⟨_,aq (fj (pv 0) (fq (aa (fq ag) (aa (fq ag) (aa (fq ag) ag)))) rfl)
   (aq (fj (pv 0) (F0 M yh xi rfl xh.sZ zh .nil b7 (aa ix (aa nN ag))) rfl)
   (aq (fj (pv 0) ix rfl)
   (aq (fj (pv 0) ak rfl)
   (aq (fj (pv 0) ak rfl)
   (aE (fj (pv 0) ix rfl)))))),?_⟩
  refine⟨bw _,λzj O xc _ zd=>⟨bw _,λxk H2 yc _ xe=>⟨bw _,λyk zk zc _ ye=>⟨eK,λwt l xd _ ze=>?_⟩⟩⟩⟩;have d:=xc.trans (yc.trans (zc.trans xd));refine af rfl ⟨x,C,dx,[],rfl,d _ _ yi,T.cl,T.nh,(by show 0<1000;decide),?_⟩
  have g:upd l x (.ins C dx (bc "held" (.ref wt) [])) x=ih (.ins C dx (bc "held" (.ref wt) [])):=ae;have V:∀b u,b≠x->H b=ih u->upd l x (.ins C dx (bc "held" (.ref wt) [])) b=ih u:=λb u n e=>by rw[ab n];exact d _ _ e
  have i:∀b,upd l x (.ins C dx (bc "held" (.ref wt) [])) b=none->H b=none:=λb e=>by
   by_cases z:b=x
   ·rw[z,ae]at e;cases e
   ·rw[ab z]at e;exact d.free e
  generalize upd l x (.ins C dx (bc "held" (.ref wt) []))=m at g V i⊢;clear d xd zc yc xc ze zd xe ye;intro dl xf de yf fi a y W ne;have N:=(aA (o:=.dK []) xf).trans (aA (o:=.dT []) yf);generalize upd (upd m dl (.dK [])) de (.dT [])=R at N y W⊢;have zi:=N.trans (aA (o:=.own fi) W);have yd:upd R a (.own fi) fi=none:=by rw[ab (aQ ne)];exact y
  have S:=zi.trans (aA (o:=.ins D a []) yd);have B:upd (upd R a (.own fi)) fi (.ins D a []) fi=ih (.ins D a []):=ae;generalize upd (upd R a (.own fi)) fi (.ins D a [])=p at S B⊢;refine oH.mk rfl B λdh Y=>⟨rfl,?_⟩;have zf:fi≠dh:=ar B Y;have G:m fi=none:=N.free y;have I:m dh=none:=S.free Y;have xa:upd (upd p dh (.dT [])) fi (.ins D a (fF dl de dh 0)) dh=bn []:=by rw[ab (aQ zf)];exact ae
  have ya:upd (upd p dh (.dT [])) fi (.ins D a (fF dl de dh 0)) fi=ih (.ins D a (fF dl de dh 0)):=ae;have r:aw m (upd (upd p dh (.dT [])) fi (.ins D a (fF dl de dh 0))):=λb u e=>by rw[ab (ar e G),ab (ar e I)];exact S _ _ e
  generalize upd (upd p dh (.dT [])) fi (.ins D a (fF dl de dh 0))=c at xa ya r⊢;have za:x≠fi:=ar g G;have xg:x≠dh:=ar g I;refine af rfl ⟨x,C,dx,_,rfl,r _ _ g,T.cl,T.nf,(by show 1<1000;decide),?_⟩
  have t:upd c x (.ins C dx (bc "finds" (.ref fi) (bc "held" (.ref wt) []))) x=ih (.ins C dx (bc "finds" (.ref fi) (bc "held" (.ref wt) []))):=ae;have v:∀b u,b≠x->c b=ih u->upd c x (.ins C dx (bc "finds" (.ref fi) (bc "held" (.ref wt) []))) b=ih u:=λb u n e=>by rw[ab n];exact e
  generalize upd c x (.ins C dx (bc "finds" (.ref fi) (bc "held" (.ref wt) [])))=yg at t v⊢;intro nd xb;have yj:x≠nd:=ar t xb;have j:=aA (o:=.dK []) xb;generalize upd yg nd (.dK [])=yb at j⊢;refine af rfl ⟨x,C,dx,_,rfl,j _ _ t,T.cl,T.nn,(by show 2<1000;decide),?_⟩
  refine af rfl ⟨x,C,dx,_,rfl,ae,T.cl,T.nb,(by show 3<1000;decide),?_⟩
  refine af rfl ⟨x,C,dx,_,rfl,ae,T.cl,T.nd,(by show 4<1000;decide),?_⟩
  rw[e5,e5];intro md J;have k:x≠md:=ar ae J;refine af rfl ⟨x,C,dx,_,rfl,by rw[ab k];exact ae,T.cl,T.nm,(by show 5<1000;decide),?_⟩
  rw[Ha];have U:yb md=none:=by rw[ab (aQ k)]at J;exact J
  have L:∀b u,b≠x->c b=ih u->upd (upd (upd yb x (.ins C dx (bc "deeds" (.int 0) (bc "begun" (.int 0) (bc "numbers" (.ref nd) (bc "finds" (.ref fi) (bc "held" (.ref wt) []))))))) md (.dK [])) x (.ins C dx (fH wt fi nd md 0)) b=ih u:=λb u n e=>by
   have zb:=j _ _ (v b u n e);rw[ab n,ab (ar zb U),ab n];exact zb
  have zg:c md=none:=by
   cases e:c md with
   |none=>rfl
   |some u =>
    have:=j _ _ (v _ _ (aQ k) e);rw[U]at this;cases this
  exact q wt fi a dl de dh nd md _ (λb u n e=>L b u n (r _ _ (V b u n e))) ae (L _ _ (aQ za) ya) (L _ _ (aQ xg) xa) (by rw[ab (aQ k)];exact ae) (i _ G) (i _ I) (i _ (r.free zg)) za
inductive ph(C D:Ph)(vs:List V)(H:Hp)(Q:VK)(E:XK):Prop
 |mk{wd t tb tt:Ph}{o:Ue}{ws wb:List V}{U:List (Pd×List Pd)}{L:Pd->List Pd}{bk:Bk}(_:vs=[.ref wd])(_:H wd=ih (.tup [.ref t,.ref tb,.ref tt]))(_:FB H t tb o ws wb U L bk)(_:H tt=ih (.tup []))
  (_:∀x r Y,aw H Y->(∀b,r.ow x b->H b=none)->r.dn=0->HP C D x r U L bk [] 0 Y->Q (.ref x) Y):ph C D vs H Q E
theorem BN:aZ ["world","home"] ["world"] (aF qO):=a8
theorem JO(F:aP K "house_of" "house_of" qO f fd)(T:et K mg C)
  (M:Mk K C fI) (xe:aM P w K mg base ao 3 fI dI ["self"] (oL C D)) (ye:Binds K dI ["self"] [])
  (ze:aM P w K mg base ao 6 fS dS ["self","world"] (iK C D)) (xf:Meth K C "stand" fS) (yf:Binds K dS ["self","world"] []):aM P w K mg base ao 7 f fd ["world"] (ph C D):=by
 refine F.bG BN λQa A zi s H vs Q E zf h=>?_
 ·obtain @⟨xg,t,tb,yg,o,ws,wb,U,L,bk,rfl,zg,j,xh,q⟩:=h
  have m:aS 6 _:=zf;have V:aS 4 _:=m.mono (by decide)
  intro X;refine⟨_,aq (bf 1 BN.nd (EX M xe V rfl T.sZ ye .nil b7))
   (aq (cB (di (pv 1) T.cl xf ze m yf .nil b7 (aa (pv 0) ag)))
   (aE (aU (pv 1)))),?_⟩
  intro x dx d W ne;have yh:=aA (o:=.own x) W;have Y:upd H dx (.own x) x=none:=by rw[ab (aQ ne)];exact d
  have a:=yh.trans (aA (o:=.ins C dx []) Y);have n:upd (upd H dx (.own x)) x (.ins C dx []) x=ih (.ins C dx []):=ae;generalize upd (upd H dx (.own x)) x (.ins C dx [])=O at a n⊢;refine oL.mk rfl n λwt fi zh dl de dh nd md H2 xa i p r v B ya za G=>⟨rfl,?_⟩;have c:aw H H2:=λb u e=>xa _ _ (ar e d) (a _ _ e);have xb:=j.same c;have I:=c _ _ zg;refine af rfl ⟨x,dx,_,rfl,i,rfl,af rfl (iK.mk rfl i I xb p G λyb zb kl xi g J R N S xc yc zc xd yd zd=>af rfl ?_)⟩;have k:∀{b u},H2 b=ih u->(∀C dx fs,u ≠ .ins C dx fs)->g b=ih u:=λe z=>J _ _ (λy=>by rw[y,i]at e;cases e;exact z _ _ _ rfl) (λy=>by rw[y,p]at e;cases e;exact z _ _ _ rfl) e
  have tup:∀b xs,H2 b=bd xs->g b=bd xs:=λb xs e=>k e (by intros;intro z;cases z)
  have l:aw H g:=λb u e=>by
   have yi:=c _ _ e;exact J _ _ (ar e d) (ar e (a.free B)) yi
  refine q x ⟨dx,xg,fi,zh,yb,zb,dh,nd,md,t,tb,yg,o,ws,wb,kl,[],xi,[],0⟩ g l (λb z=>?_) rfl ?_
  ·rcases z with z|z|z|z|z|z
   ·rw[z];exact d
   ·rw[z];exact a.free B
   ·rw[z];exact c.free R
   ·rw[z];exact c.free N
   ·rw[z];exact a.free ya
   ·rw[z];exact a.free za
  ·exact⟨S,tup _ _ I,j.same l,l _ _ xh,⟨xc,yc,zc,k r (by intros;intro z;cases z),xd,j.ok,aQ (ar r N)⟩,yd,zd,.nil,k v (by intros;intro z;cases z),G,ar v R,by show((0:Nat):Int)<=0;decide,jO,bw _⟩
def fc:Option (Pd×Pj)->Pd|none => "" | some p=>p.1
abbrev Row3:=Pd×Pd×Pd
def g8(hs:List aW)(k:Pd):List Row3:=(hs.filter λh=>decide (h.1.1=k)).map λh=>(h.1.2.1,h.1.2.2,fc h.2)
def gx(p:Row3):List Pd:=[p.1,p.2.1]
def fA(H:Hp)(vs:List V)(rows:List Row3):Prop:=S2 (λv p=>∃a,v=V.ref a/\H a=ih (.tup [.str p.1,.str p.2.1,.str p.2.2])) vs rows
theorem fA.keep{rows:al Row3}(h:fA H vs rows)(k:∀b xs,H b=bd xs->Y b=bd xs):fA Y vs rows:=Paired.imp' (λ_ _ c=>by obtain⟨a,e,q⟩:=c;exact ⟨a,e,k _ _ q⟩) h
theorem fA.keyed{rows:al Row3}(h:fA H vs rows):∃kvs,gY H 2 vs kvs/\kvs.map (·.1)=rows.map gx:=by
 induction h with
 |nil=>exact⟨[],.nil,rfl⟩
 |@cons _ p _ _ h _ b =>
  obtain⟨a,e,q⟩:=h;obtain⟨kvs,h1,h2⟩:=b;exact⟨([p.1,p.2.1],[.str p.2.2])::kvs,.cons ⟨a,e,q,rfl⟩ h1,by rw[bV,h2];rfl⟩
theorem wI{rows:al Row3}{kvs:al (List Pd×List V)}(h:fA H vs rows)(h':gY H 2 vs kvs):kvs.map (·.1)=rows.map gx:=L2.Paired.both h (λv p c x y=>by
 obtain⟨a,e,q⟩:=x;obtain⟨l,g,i,b⟩:=y;rw[e]at g;cases g;rw[q]at i;obtain⟨ks,rest⟩:=c;cases ks with
 |nil=>simp at b
 |cons j ks =>
  cases ks with
  |nil=>simp at b
  |cons k ks =>
   cases ks with
   |cons m ks=>simp at b
   |nil =>
    injection (c7 i) with z;injection z with d z;injection z with f _;injection d with d;injection f with f;show [j,k]=[p.1,p.2.1];rw[d,f]) h'
def jH(H:Hp)(vs:List V)(hs:List aW):Prop:=S2 (λv h=>∃b,v=V.ref b/\H b=ih (.tup [.str h.1.1,.str h.1.2.1,.str h.1.2.2])) vs hs
theorem jH.keep{c:al aW}(h:jH H vs c)(k:∀b xs,H b=bd xs->Y b=bd xs):jH Y vs c:=Paired.imp' (λ_ _ d=>by obtain⟨a,e,q⟩:=d;exact ⟨a,e,k _ _ q⟩) h
theorem nJ{α:Type}{f:α->Bool}{a:al α}{h:α}(e:a[i]?=ih h):(a.take (i+1)).filter f=(a.take i).filter f++(if f h=true then [h] else []):=by
 rw[cK,e,gy,QC]
 congr 1
 cases z:f h with
 |true=>rw[hJ z,aI rfl,nj]
 |false=>rw[hI (by rw[z];exact bM),ax bM,nj]
theorem Af{a:al aW}(h:cu H kvs a)(nd:(a.map (·.1)).Nodup){p:aW}(b:p∈a):∃v,bj kvs (hK p.1)=ih v/\dM H v p.2:=by
 induction h with
 |nil=>cases b
 |@cons d q _ j e _ f =>
  rw[bV,d0]at nd;obtain⟨c,g,k⟩:=e;rcases bU.mp b with z|z
  ·subst z;exact⟨d.2,e2 c,g⟩
  ·obtain⟨v,i,r⟩:=f nd.2 z
   refine⟨v,?_,r⟩;rw[eG (by rw[c];exact λy=>nd.1 (rQ y ▸ ba.mpr ⟨p,z,rfl⟩)),i]
theorem Ag{c:al aW}{k:Pd}(nd:(c.map (·.1)).Nodup):((g8 c k).map gx).Nodup:=by
 unfold g8;rw[hF,tY,p5];have h1:((c.filter λh=>decide (h.1.1=k)).map (·.1)).Nodup:=nd.sublist (lb _ p7);rw[tY,p5]at h1;refine(Wc.mp h1).imp λ{a b} ⟨d,f,z⟩ e=>z ?_;have g:a.1.1=k:=hH (cU.mp d).2;have kb:b.1.1=k:=hH (cU.mp f).2;have e : [a.1.2.1,a.1.2.2]=[b.1.2.1,b.1.2.2]:=e;injection e with i e;injection e with j _;exact pZ (g.trans kb.symm) (pZ i j)
inductive mB(C D:Ph)(vs:List V)(H:Hp)(Q:VK)(E:XK):Prop
 |mk{x:Ph}{r:Hr}{U:List (Pd×List Pd)}{L:Pd->List Pd}{bk:Bk}{hs:List aW}{m:Int}{k:Pd}(_:vs=[.ref x,.str k])(_:HP C D x r U L bk hs m H)(_:Nm k)(_:k∈U.map (·.1))(_:hs.length<=60)
  (_:∀l ys rows Y,aw H Y->H l=none->Y l=ih (.lst ys)->fA Y ys rows->rows.Perm (g8 hs k)->((rows.map gx).Pairwise λa b=>c2 a b=true)->Q (.ref l) Y):mB C D vs H Q E
noncomputable abbrev tf:List Pd:=["self","kind","hits","places"]
theorem sI:aZ tf ["self","kind"] (aF ji):=a8
noncomputable abbrev KU:QD:=e8 (cH (bD ji) 2)
abbrev KW:QD:=eb (gK (cH (bD ji) 3))
theorem A3:bO tf (aF ji) ["place","kind"] [none,ih 1] (ck KU):=cL
theorem A4:bO tf (aF ji) ["place","hits"] [none,ih 2] (ck KW):=cL
theorem JP(F:aP K "kept_finds" "House.kept_finds" ji f fd)(yt:e9 mg)(T:et K mg C)(xl:fz K mg D)(zt:bb P w K mg base ao 3 fC dC ["family","thing"] hA "check_kind"):aM P w K mg base ao 4 f fd ["self","kind"] (mB C D):=by
 refine F.bG sI λQa A yw s H vs Q E xm h=>?_
 ·obtain @⟨x,r,U,L,bk,a,m,k,rfl,h,xu,yu,zw,q⟩:=h
  have xi:=dr xm.units;intro X;refine⟨_,aq (cB (aT zt xm (aa (aV cE (cV (pv 0) rfl) ak) (aa (pv 1) ag))))
   (aq (fg (i:=2) sI.nd rfl (TC rfl) (cV (cV (pv 0) rfl) rfl))
   (aq (jT rfl A3 sI.nd (i:=3) rfl rfl (qJ (pv 2)) (λs H fp=>⟨a4 0 A3.nd,fY (bx c9 (aV (gV K rfl) (pv 0) ak) (pv 1) (bA _)),pv 0⟩))
   (aE (aU (q6 (bp lq rfl yt.sorted boot_sorted (aa (cY rfl A4 (d4 (pv 3)) (λs H fp=>⟨a4 0 A4.nd,dV,
     bE nW (gj q2 (pv 0) (gm ak) gk) (cz (aa (vG (bx l0 (bK xi (pv 1) (pv 0)) gF (bA _)) aY (aV (gV K rfl) (bK xi (pv 1) (pv 0)) ak)) ag))⟩)) ag))))))),?_⟩
  refine af rfl ⟨x,C,_,_,_,rfl,h.hx,T.cl,T.nh,lX,dz h.hw er (af rfl (hA.mk rfl h.fk xu yu λO ze=>?_))⟩;have h1:=h.same ze;refine af rfl ⟨x,C,_,_,_,rfl,h1.hx,T.cl,T.nf,i9,_,D,_,_,_,rfl,h1.fi.hx,xl.cl,xl.nh,j6,?_⟩;refine af rfl ⟨r.dh,r.kh,rfl,h1.fi.hh,λo c xf=>?_⟩;have yc:∀b u,b≠r.dh->O b=ih u->upd O r.dh (.aG o (.dT r.kh)) b=ih u:=λb u n e=>by rw[ab n];exact e
  have S:upd O r.dh (.aG o (.dT r.kh)) r.dh=ih (.aG o (.dT r.kh)):=ae;have yi:∀b,upd O r.dh (.aG o (.dT r.kh)) b=none->O b=none:=λb e=>by
   by_cases z:b=r.dh
   ·rw[z,ae]at e;cases e
   ·rwa [ab z]at e
  generalize upd O r.dh (.aG o (.dT r.kh))=H2 at yc S yi xf⊢;have zc:cu H2 r.kh a:=h1.hv.keep λb xs e=>yc _ _ (aH e h1.fi.hh) e
  have kl:=cw zc;refine qo (λi ys j g=>∃t:am V,j=[t,ih (.str k)]/\g c=bi ys/\aw H2 g/\jH g ys ((a.take i).filter λh=>decide (h.1.1=k))) ⟨none,rfl,ae,aA xf,.nil⟩ (λi ys j g ac=>by obtain⟨_,_,z1,z2,_⟩:=ac;exact ⟨z1,z2 _ _ S⟩) ?_ ?_
  ·rintro i xy b ys j g zi l ⟨t,rfl,J,M,P3⟩
   have xa:i<r.kh.length:=(bT.mp zi).1;obtain⟨p,B,zu,_⟩:=L2.Paired.get zc zi;replace l:g b=bd [.str p.1.1,.str p.1.2.1,.str p.1.2.2]:=by rw[zu]at l;exact l
   have yl:ys.length<=i:=by
    have ym:=cw P3;have xv:=ee (λh:aW=>decide (h.1.1=k)) (a.take i);rw[cj]at xv;omega
   refine af rfl (dz l er (af rfl ⟨rfl,_,rfl,?_⟩))
   by_cases e:p.1.1=k
   ·refine ite_tt (a' (by rw[e])) (af rfl ⟨J,by rw[aR];omega,cw_next xa ⟨_,rfl,ae,λb u z=>by rw[ab (ar z xf)];exact M _ _ z,?_⟩⟩)
    rw[nJ B,aI (a' e)];have W:∀{zs:al V} b xs,g b=bd xs->upd g c (.lst zs) b=bd xs:=λb xs e=>by rw[ab (aH e J)];exact e
    exact gi (P3.keep W) ⟨b,rfl,W _ _ l⟩
   ·refine ite_ff (bS λz=>e (by injection z)) (cw_next xa ⟨_,rfl,J,M,?_⟩)
    rw[nJ B,ax (by rw[bS e];exact bM),eY]
    exact P3
  rintro ys j g ⟨t,rfl,J,M,P3⟩;rw[kl,cx]at P3;have yo:(a.filter λh=>decide (h.1.1=k)).length<=a.length:=ee _ _;have xj:∀p∈a.filter (λh=>decide (h.1.1=k)),p∈a:=λp B=>(cU.mp B).1;have yd:g8 a k=(a.filter λh=>decide (h.1.1=k)).map λh=>(h.1.2.1,h.1.2.2,fc h.2):=rfl;have knd:=Ag (k:=k) h.dZ;have zo:cu g r.kh a:=zc.keep λb xs e=>M _ _ e;have xp:=M _ _ S;rw[yd]at knd;generalize a.filter (λh=>decide (h.1.1=k))=zd at P3 yo xj yd knd;refine af rfl ⟨c,rfl,⟨_,aj.of J⟩,λyf yj=>?_⟩;have yl:=cw P3;refine fX (xs:=ys) (λi zs j G=>∃t:am V,j=[t,a2 r.dh]/\G yf=bi zs/\aw g G/\fA G zs ((zd.take i).map λh=>(h.1.2.1,h.1.2.2,fc h.2))) ⟨none,rfl,ae,aA yj,.nil⟩ (λi zs j G ac=>by obtain⟨_,_,z1,z2,_⟩:=ac;exact ⟨z1,aj.of (z2 _ _ J)⟩) ?_ ?_
  ·rintro i v zs j G zm ⟨t,rfl,zf,Y,I⟩
   have xa:i<ys.length:=(bT.mp zm).1;obtain⟨p,B,b,rfl,l⟩:=L2.Paired.get (P3.keep λb xs e=>Y _ _ e) zm;have pm:=xj p (eF B);have yp:zd.take (i+1)=zd.take i++[p]:=by rw[cK,B];rfl
   have zl:zs.length<=i:=by have ym:=cw I;rw[aK,cj]at ym;omega
   refine af rfl ⟨1,rfl,b,_,rfl,l,λsp N xg yg=>?_⟩;replace yg:N sp=bd [.str p.1.2.1,.str p.1.2.2]:=yg;have zj:=Y.trans xg;obtain⟨xn,yv,za⟩:=Af (zo.keep λb xs e=>zj _ _ e) h.dZ pm;have zg:a6 N r.dh (.ref b) (ih xn):=.inr ⟨r.kh,hK p.1,b,.inr ⟨o,zj _ _ xp⟩,rfl,xg _ _ l,yv.symm⟩;have zp:∀R:al V->Hp->Prop,R [.str (fc p.2)] N->rV (BU (rT (kQ (λx y H Q=>y=V.aJ/\Q (V.bl (decide (x=V.aJ))) H) (iD (d8 1) (d8 0)) (tC V.aJ))) (tC (V.str "")) (kQ (oR K) (iD (d8 1) (d8 0)) (tC (V.int 0)))) mn [a2 b,a2 r.dh] N R:=by
    intro R xb;cases e:p.2 with
    |none =>
     rw[e]at za xb;obtain rfl:xn=V.aJ:=za;exact aX rfl rfl ⟨r.dh,.aJ,rfl,zg,rfl,_,rfl,ite_tt rfl xb⟩
    |some xd =>
     obtain⟨xx,d⟩:=xd;rw[e]at za xb;obtain⟨yy,u,rfl,xq,_⟩:=za;exact aX rfl rfl ⟨r.dh,_,rfl,zg,rfl,_,rfl,ite_ff rfl (aX rfl rfl ⟨r.dh,_,rfl,zg,dz xq er xb⟩)⟩
   refine zp _ ⟨gO,λtp yq=>?_⟩;have xh:=aA (o:=.tup [V.str (fc p.2)]) yq;have yn:upd N tp (.tup [V.str (fc p.2)]) tp=bd [V.str (fc p.2)]:=ae;generalize upd N tp (.tup [V.str (fc p.2)])=zy at xh yn⊢;refine⟨sp,tp,_,_,rfl,rfl,xh _ _ yg,yn,by show 2+1<=Pk;exact eK,λrw yh zv zh=>?_⟩
   replace zh:yh rw=bd [.str p.1.2.1,.str p.1.2.2,.str (fc p.2)]:=zh;have zq:=xh.trans zv;have xe:=xg.trans zq;have xk:=xe _ _ zf;have W:∀{zs:al V} b xs,yh b=bd xs->upd yh yf (.lst zs) b=bd xs:=λb xs e=>by rw[ab (aH e xk)];exact e
   refine⟨xk,by rw[aR];omega,cw_next xa ⟨_,rfl,ae,λb u e=>by rw[ab (ar e yj)];exact xe _ _ (Y _ _ e),?_⟩⟩
   rw[yp,bC];exact gi ((I.keep λb xs e=>xe _ _ e).keep W) ⟨rw,rfl,W _ _ zh⟩
  ·rintro zs j G ⟨t,rfl,zf,Y,I⟩
   rw[yl,cx]at I;obtain⟨xr,xw,yr⟩:=I.keyed;have zl:=cw I;rw[aK]at zl;refine⟨yf,_,xr,2,rfl,.inl (aj.of zf),xw,by decide,by rw[yr];exact knd,by omega,λzn ye yx yb xo hK zx yk=>?_⟩
   obtain⟨rows,zr,zb⟩:=nr xo I;have zb:fA G ye rows:=zb;rw[wI zb hK]at yk;have ya:=M.trans Y;have xc:=aA (o:=.lst ye) yb;have zk:=xc _ _ (ya _ _ S);have xt:zn≠r.dh:=λz=>by rw[z,ya _ _ S]at yb;cases yb
   refine⟨r.dh,o,r.kh,zk,(λo' u z=>by cases h.fi.hh.symm.trans z),?_⟩
   refine q zn ye rows _ (λb u e=>?_) (ze.free (yi _ (ya.free yb))) (by rw[ab xt];exact ae) (zb.keep λb xs e=>?_) (by rw[yd];exact zr) yk
   ·by_cases z:b=r.dh
    ·subst z;rw[ae,<-e,h.fi.hh]
    ·rw[ab z];exact xc _ _ (ya _ _ (yc _ _ z (ze _ _ e)))
   ·rw[ab (aH (xc _ _ e) zk)];exact xc _ _ e
def mK(dl br df a7:Ph)(wk:Int)(db:Ph):List (Key×V):=[(Cv "lines",.ref dl),(Cv "homes",.ref br),(Cv "finds",.ref df),(Cv "numbers",.ref a7),(Cv "walked",.int wk),(Cv "book",.ref db)]
theorem Iy(a:Int):putK (mK dl br df a7 wk db) (Cv "walked") (.int a)=mK dl br df a7 a db:=rfl
structure ec(H:Hp)(dm dl br df a7 db:Ph)(wk:Int)(kl:List (Key×V))(ks:List Pd)(L:Pd->List Pd)(kf:List (List Key×V))(hs:List aW)(kb:List (List Key×V))(bI:Bk):Prop where
 hm:H dm=ih (.dK (mK dl br df a7 wk db))
 hl:H dl=ih (.dK kl)
 kk:kl.map (·.1)=ks.map Cv
 ln:∀x∈ks,c3 H kl L x
 hn:H a7=ih (.dK [])
 hf:H df=ih (.dT kf)
 fv:cu H kf hs
 hb:H db=ih (.dT kb)
 dv:bo H kb bI
 ok:dw bI
 jI:df≠db
 iX:dm≠dl
 mT:dm≠a7
 pR:dl≠a7
 dZ:(hs.map (·.1)).Nodup
 l8:∀x∈ks,(L x).length<=200
theorem ec.keep{g:al aW}{f:Bk}(h:ec H dm dl br df a7 db wk kl ks L kf g kb f)(i:∀b xs,H b=bd xs->Y b=bd xs)(j:∀b (xs:al Pd),H b=bi (xs.map V.str)->Y b=bi (xs.map V.str))(c:∀d ∈ [dm,dl,a7,df,db],∀u,H d=ih u->Y d=ih u):ec Y dm dl br df a7 db wk kl ks L kf g kb f:=
 ⟨c _ (by simp) _ h.hm,c _ (by simp) _ h.hl,h.kk,λx k=>let ⟨a,e,q⟩:=h.ln x k;⟨a,e,j _ _ q⟩,c _ (by simp) _ h.hn,c _ (by simp) _ h.hf,h.fv.keep i,c _ (by simp) _ h.hb,h.dv.keep i h.ok.ent,h.ok,h.jI,h.iX,h.mT,h.pR,h.dZ,h.l8⟩
theorem ec.same{b:al aW}{a:Bk}(h:ec H dm dl br df a7 db wk kl ks L kf b kb a)(S:aw H Y):ec Y dm dl br df a7 db wk kl ks L kf b kb a:=h.keep (λ_ _ e=>S _ _ e) (λ_ _ e=>S _ _ e) λ_ _ _ e=>S _ _ e
theorem Iz{b:Pd}(h:b = "" \/ b∈line):∃j,(("" : Pd)::line)[j]?=ih b/\(∀m,m<j->(("" : Pd)::line)[m]? ≠ ih b)/\(("" : Pd)::line).drop (j+1)=bz line b:=by
 by_cases e:b = ""
 ·refine⟨0,by rw[e];rfl,λm a=>absurd a (tZ _),?_⟩
  unfold bz;rw[aI e];rfl
 ·obtain⟨c,d⟩:=wG (h.resolve_left e)
  refine⟨line.idxOf b+1,c,λm a=>?_,?_⟩
  ·cases m with
   |zero=>intro z;exact e (c7 z).symm
   |succ m=>exact d m (by omega)
  ·unfold bz;rw[ax e];rfl
inductive pj(vs:List V)(H:Hp)(Q:VK)(E:XK):Prop
 |mk{dm dl br df a7 db:Ph}{wk:Int}{kl:List (Key×V)}{ks:List Pd}{L:Pd->List Pd}{kf:List (List Key×V)}{hs:List aW}{kb:List (List Key×V)}{bI:Bk}{k n b:Pd}(_:vs=[.ref dm,.str k,.str n,.str b])(_:ec H dm dl br df a7 db wk kl ks L kf hs kb bI)(_:k∈ks)(_:b = "" \/ b∈L k)(_:hs.length<1000)
  (_:∀v tj Y,(∀c u,c≠dm->c≠df->H c=ih u->Y c=ih u)->ec Y dm dl br df a7 db (wk+(el hs (k,n,b) (cZ bI n (bz (L k) b)):Int)) kl ks L tj (cb hs (k,n,b) (b4 bI n (bz (L k) b))) kb bI->dM Y v ((cW hs (k,n,b)).getD (b4 bI n (bz (L k) b)))->iJ ((cW hs (k,n,b)).getD (b4 bI n (bz (L k) b)))->Q v Y):pj vs H Q E
noncomputable abbrev tm:List Pd:=["_law_m","_law_kind","_law_name","_law_behind"]
noncomputable abbrev LX:List Pd:=["_law_m","_law_kind","_law_name","_law_behind","_law_key","_law_line_here","_law_seen","_law_one"]
theorem kO:aZ LX tm (aF rE):=a8
theorem IA(F:aP K "_law_look" "_law_look" rE f fd):aM P w K mg base ao 1 f fd tm pj:=by
 refine F.bG kO λQa A zx s H vs Q E zr h=>?_
 ·obtain @⟨dm,dl,br,df,a7,db,wk,kl,ks,L,kf,xt,kb,C,k,n,b,rfl,h,xn,yt,xy,q⟩:=h
  have B:=dr zr.units;intro X;refine⟨_,aq (bf 4 kO.nd (cz (aa (pv 1) (aa (pv 2) (aa (pv 3) ag)))))
   (aq (bQ (jc (qy B (pv 4) (bK B (pv 0) aY)))
    (aq (bf 5 kO.nd (bE j' (oz (aa aY ag)) (bK B (bK B (pv 0) aY) (pv 1))))
    (aq (bf 6 kO.nd gF)
    (aq (e7 eP rfl (d4 (gj iz (pv 5) (gm (bE fh (gH lg PySem.F.slot_list_index PySem.F.type_list_index E8 (pv 5) (aa (pv 3) ag)) ak)) gk)) (a4 7 kO.nd)
     (aq (Gh B (pv 0) aY ak ru (λ_ _ _=>rfl))
     (aE (bQ (jc (kd B (cz (aa (pv 7) (aa (pv 2) ag))) (bK B (pv 0) aY)))
      (aq (bf 6 kO.nd (cz (aa (pv 7) (aa (bK B (bK B (pv 0) aY) (cz (aa (pv 7) (aa (pv 2) ag)))) ag))))
      (aE ET)) bZ))))
    (aE (hR B (bK B (pv 0) aY) (pv 4) (pv 6) rfl))))) bZ)
   (aE (aU (bK B (bK B (pv 0) aY) (pv 4))))),?_⟩
  refine dJ rfl rfl rfl ⟨eK,λyb yo=>?_⟩;have xe:=aA (o:=.tup [V.str k,V.str n,V.str b]) yo;have xc:upd H yb (.tup [V.str k,V.str n,V.str b]) yb=bd ((hK (k,n,b)).map kV):=ae;generalize upd H yb (.tup [V.str k,V.str n,V.str b])=O at xe xc⊢;have h1:=h.same xe;obtain⟨a,zt,xu⟩:=h1.ln k xn;refine aX rfl rfl ⟨dm,_,rfl,a6.k (k:=Cv "finds") h1.hm,df,_,rfl,a6.t (k:=hK (k,n,b)) h1.hf xc,_,rfl,?_⟩;rcases h1.fv.val (k,n,b) with⟨ye,W⟩|⟨r,v,ye,W,yu,zu⟩
  ·rw[W]
   unfold cb el at q;rw[ye]at q;refine ite_tt rfl ⟨gO,λxa H2 ze _ zo=>?_⟩;have h2:=h1.same ze;have b3:=h.l8 k xn;refine af rfl ⟨dm,_,rfl,a6.k (k:=Cv "lines") h2.hm,_,rfl,dl,.ref a,rfl,by rw[<-zt];exact a6.k (k:=Cv k) h2.hl,xa,a,_,_,rfl,rfl,zo,ze _ _ xu,by rw[aR];simp;omega,λS xp=>?_⟩
   have xh:=aA (o:=.lst ([V.str ""]++(L k).map V.str)) xp;have yc:upd H2 S (.lst ([V.str ""]++(L k).map V.str)) S=bi ((("" : Pd)::L k).map V.str):=ae;generalize upd H2 S (.lst ([V.str ""]++(L k).map V.str))=yn at xh yc⊢;obtain⟨j,xv,yv,zv⟩:=Iz yt;refine aX rfl rfl ⟨.inl ⟨rfl,_,aj.of yc⟩,af rfl ⟨S,_,_,j,rfl,rfl,yc,xv,yv,_,_,rfl,rfl,_,rfl,S,_,rfl,aj.of yc,λsp yp=>?_⟩⟩;rw[show((j:Int)+1)=((j+1:Nat):Int) from by omega,lO,<-qb,zv]
   have yh:=aA (o:=.lst ((bz (L k) b).map V.str)) yp;have zc:upd yn sp (.lst ((bz (L k) b).map V.str)) sp=bi ((bz (L k) b).map V.str):=ae;generalize upd yn sp (.lst ((bz (L k) b).map V.str))=T at yh zc⊢;have xk:=xe.trans (ze.trans (xh.trans yh));have l:=h.same xk;have zp:=(ze.trans (xh.trans yh)) _ _ xc;have zf:iJ (b4 C n (bz (L k) b)):=λx d z=>ro h.ok x d z;have rest:∀(m:Nat) (v:V) (U:am V) (p:Hp),m=cZ C n (bz (L k) b)->(∀c u,c≠dm->T c=ih u->p c=ih u)->p dm=bm (mK dl br df a7 (wk+(m:Int)) db)->dM p v (b4 C n (bz (L k) b)) ->
     AW (iD (d8 0) (tC (V.str "finds"))) (d8 4) (d8 6) { nx:=A8 (iD (iD (d8 0) (tC (V.str "finds"))) (d8 4)) { nx:=λx Y=>Q V.aJ Y,rt:=Q },rt:=Q } [a2 dm,ih (.str k),ih (.str n),ih (.str b),a2 yb,a2 S,ih v,U] p:=by
    rintro m v U p rfl N D xq;have xg:∀c xs,T c=bd xs->p c=bd xs:=λc xs e=>N _ _ (aH e l.hm) e
    have yk:df≠dm:=aH l.hf l.hm
    have yq:=aQ h.iX;have zk:=N _ _ yk l.hf;have xl:=xg _ _ zp;have yy:kf.length=xt.length:=cw h.fv;refine aX rfl rfl ⟨dm,_,rfl,a6.k (k:=Cv "finds") D,_,rfl,df,_,rfl,eI.t (k:=hK (k,n,b)) zk xl (by rw[aR];omega),?_⟩
    rw[iw _ W];have yg:upd p df (.dT (kf++[(hK (k,n,b),v)])) df=bn (kf++[(hK (k,n,b),v)]):=ae;have R:∀c u,c≠df->p c=ih u->upd p df (.dT (kf++[(hK (k,n,b),v)])) c=ih u:=λc u n e=>by rw[ab n];exact e
    generalize upd p df (.dT (kf++[(hK (k,n,b),v)]))=G at yg R⊢;have xd:∀c xs,p c=bd xs->G c=bd xs:=λc xs e=>R _ _ (aH e zk) e
    have ya:=R _ _ (aQ yk) D;refine af rfl ⟨dm,_,rfl,a6.k (k:=Cv "finds") ya,_,rfl,df,v,rfl,?_,?_⟩
    ·have:=a6.t (k:=hK (k,n,b)) yg (xd _ _ xl)
     rw[<-iw _ W,iu,aI rfl]at this;exact this
    have yl:dM G v (b4 C n (bz (L k) b)):=xq.keep xd λx d z=>(zf x d z).2;have yf:∀c u,c≠dm->c≠df->T c=ih u->G c=ih u:=λc u n1 zh e=>R _ _ zh (N _ _ n1 e);have zg:∀{c u},T c=ih u->(∀kvs,u ≠ .dT kvs)->c≠dm->G c=ih u:=λe z n=>yf _ _ n (λy=>by rw[y,l.hf]at e;cases e;exact z _ rfl) e
    refine q v (kf++[(hK (k,n,b),v)]) G (λc u n1 zh e=>yf _ _ n1 zh (xk _ _ e)) ⟨ya,zg l.hl (by intro _ z;cases z) yq,h.kk,λx xw=>?_,zg l.hn (by intro _ z;cases z) (aQ h.mT),yg,?_,yf _ _ (aH l.hb l.hm) (aQ h.jI) l.hb,bo.keep (λc xs e=>xd _ _ (xg _ _ e)) l.dv h.ok.ent,h.ok,h.jI,h.iX,h.mT,h.pR,?_,h.l8⟩ yl zf
    ·obtain⟨a,e,z⟩:=l.ln x xw
     exact⟨a,e,zg z (by intro _ z;cases z) (aH z l.hm)⟩
    ·exact gi (l.fv.keep λc xs e=>xd _ _ (xg _ _ e)) ⟨rfl,yl,zf⟩
    ·have:=Ad (k:=(k,n,b)) (r:=b4 C n (bz (L k) b)) h.dZ
     unfold cb at this;rw[ye]at this;exact this
   refine⟨sp,rfl,⟨_,aj.of zc⟩,i6 (xs:=(bz (L k) b).map V.str) (λi σ p=>∃(U:am V),σ=[a2 dm,ih (.str k),ih (.str n),ih (.str b),a2 yb,a2 S,ih .aJ,U]/\(∀c u,c≠dm->T c=ih u->p c=ih u)/\p dm=bm (mK dl br df a7 (wk+(i:Int)) db) /\∀y∈(bz (L k) b).take i,cS C y n=none)
    ⟨none,rfl,λc u _ e=>e,by rw[C4,qd];exact l.hm,λy I=>by cases I⟩ (λi σ p _ ac=>by obtain⟨_,_,z,_⟩:=ac;exact aj.of (z _ _ (aH zc l.hm (by intro y;cases y)) zc)) ?_ ?_⟩
   ·rintro i y σ p I ⟨U,rfl,N,D,J⟩
    obtain⟨M,zq⟩:∃M:Int,M=wk+(i:Int):=⟨_,rfl⟩;have zl:M+1=wk+((i+1:Nat):Int):=by omega
    rw[<-zq]at D;obtain⟨g,zn⟩:∃g,bz (L k) b=g:=⟨_,rfl⟩;rw[zn]at I J rest⊢;have yd:i<g.length:=by simpa using (bT.mp I).1
    obtain rfl:V.str g[i]=y:=by simpa [yd] using I
    have xr:g.take (i+1)=g.take i++[g[i]]:=by rw[cK,bY yd];rfl
    refine af rfl ⟨dm,.int M,rfl,a6.k (k:=Cv "walked") D,_,_,rfl,rfl,_,eI.k (k:=Cv "walked") D (by rw[aR];show 6<16777216;decide),?_⟩
    rw[Iy];have R:∀c u,c≠dm->T c=ih u->upd p dm (.dK (mK dl br df a7 (M+1) db)) c=ih u:=λc u n e=>by rw[ab n];exact N c u n e
    have ya:upd p dm (.dK (mK dl br df a7 (M+1) db)) dm=bm (mK dl br df a7 (M+1) db):=ae;generalize upd p dm (.dK (mK dl br df a7 (M+1) db))=G at R ya⊢;refine aX rfl rfl ⟨cc,λzd xo=>?_⟩;have xi:=aA (o:=.tup [V.str g[i],V.str n]) xo;have xm:upd G zd (.tup [V.str g[i],V.str n]) zd=bd (([Cv g[i],Cv n]:al Key).map kV):=ae;have za:∀c u,c≠dm->T c=ih u->upd G zd (.tup [V.str g[i],V.str n]) c=ih u:=λc u n e=>xi _ _ (R c u n e);have xb:=xi _ _ ya;generalize upd G zd (.tup [V.str g[i],V.str n])=yi at xi xm za xb⊢;have ym:=za _ _ (aH l.hb l.hm) l.hb
    have yw:bo yi kb C:=bo.keep (λc xs e=>za _ _ (aH e l.hm) e) l.dv h.ok.ent
    refine af rfl ⟨dm,_,rfl,a6.k (k:=Cv "book") xb,db,_,rfl,a6.t (k:=[Cv g[i],Cv n]) ym xm,_,rfl,?_⟩;rcases yw.look (k:=g[i]) (n:=n) h.ok.nd with⟨xa,xf⟩|⟨v,d,xa,xf,zw⟩
    ·rw[xf]
     refine ite_ff rfl ⟨_,rfl,za,by rw[<-zl];exact xb,λy I=>?_⟩
     rw[xr]at I;rcases cQ.mp I with z|z
     ·exact J y z
     ·rw[dR.mp z];exact xa
    ·rw[xf]
     refine ite_tt rfl (aX rfl rfl ⟨dm,_,rfl,a6.k (k:=Cv "book") xb,aX rfl rfl ⟨cc,λzi yr=>?_⟩⟩);have zb:=aA (o:=.tup [V.str g[i],V.str n]) yr;have zm:upd yi zi (.tup [V.str g[i],V.str n]) zi=bd (([Cv g[i],Cv n]:al Key).map kV):=ae;generalize upd yi zi (.tup [V.str g[i],V.str n])=zy at zb zm⊢;refine⟨db,v,rfl,by rw[<-xf];exact a6.t (k:=[Cv g[i],Cv n]) (zb _ _ ym) zm,cc,λt xx=>?_⟩
     have xj:=aA (o:=.tup [V.str g[i],v]) xx;have yj:b4 C n g=ih (g[i],d):=by
      conv=>lhs;rw[<-m9 i g,gT yd]
      rw[ly (x:=g[i]) _ J];exact z' xa
     have zj:cZ C n g=i+1:=by
      have yx:=lP (n:=n) (g.take i) J (g[i]::g.drop (i+1));rw[vE xa,<-gT yd,m9,cj]at yx;omega
     refine rest (i+1) (.ref t) _ _ zj.symm (λc u n e=>xj _ _ (zb _ _ (za c u n e))) (by rw[<-zl];exact xj _ _ (zb _ _ xb)) ?_
     rw[yj];exact⟨t,v,rfl,ae,(zw.same zb).same xj⟩
   ·rintro σ p ⟨U,rfl,N,D,J⟩
    rw[aK]at D;rw[aK,cx]at J;have zj:cZ C n (bz (L k) b)=(bz (L k) b).length:=by
     have:=lP (n:=n) (bz (L k) b) J [];rw[eY]at this;exact this
    have yj:b4 C n (bz (L k) b)=none:=by
     have:=ly (x:=n) (bz (L k) b) J [];rw[eY]at this;exact this
    exact rest _ .aJ U p zj.symm N D (by rw[yj];rfl)
  ·rw[W]
   unfold cb el at q;rw[ye]at q;refine af rfl ⟨dm,_,rfl,a6.k (k:=Cv "finds") h1.hm,_,rfl,df,v,rfl,by rw[<-W];exact a6.t (k:=hK (k,n,b)) h1.hf xc,?_⟩
   exact q v kf O (λb u _ _ e=>xe _ _ e) (by rw[show ∀n:Nat,wk+((if (ih r).isSome=true then 0 else n:Nat):Int)=wk from λn=>qd wk];exact h1) yu zu
theorem cu.ei{k:Pd×Pd×Pd}{c:al aW}(h:cu H kvs c):cu H (L2.ei kvs (hK k)) (c.filter λx=>decide (x.1≠k)):=by
 induction h with
 |nil=>exact .nil
 |@cons d p _ _ e _ b =>
  unfold L2.ei at b⊢;rw[i2,i2]
  by_cases a:p.1=k
  ·rw[ax (by rw[e.1,a];simp),ax (by simp[a])];exact b
  ·rw[aI (by rw[e.1];simp;exact λz=>a (rQ z)),aI (by simp[a])];exact .cons e b
theorem DI{b:al aW}{us a:al Pd}(h:∀y,y∈us ↔ y∈a):cA b us n=cA b a n:=by
 unfold cA;refine Qx λp _=>?_;rw[qc.mpr (h p.1.1)]
theorem JQ{a:al aW}{us:al Pd}{p:aW}(nd:(a.map (·.1)).Nodup)(e:a[i]?=ih p)(f:(decide (p.1.1∈us)&&decide (p.1.2.1=n))=true):(cA (a.take i) us n++a.drop i).filter (λx=>decide (x.1≠p.1))=cA (a.take (i+1)) us n++a.drop (i+1):=by
 obtain⟨hi,rfl⟩:=bT.mp e;have c:=nd;rw[<-m9 i a,gT hi,bC,bV]at c;obtain⟨_,d,g⟩:=gU.mp c;rw[d0]at d;rw[nA e,aI f,eY,gT hi,gy,hI (by simp)]
 congr 1
 ·refine nc.mpr λx b=>a' λz=>?_
  exact g x.1 (ba.mpr ⟨x,(cU.mp b).1,rfl⟩) _ bJ z
 ·refine nc.mpr λx b=>a' λz=>d.1 (z ▸ ba.mpr ⟨x,b,rfl⟩)
theorem AG{a:al aW}{us:al Pd}{p:aW}(e:a[i]?=ih p)(b:(decide (p.1.1∈us)&&decide (p.1.2.1=n))=false):cA (a.take i) us n++a.drop i=cA (a.take (i+1)) us n++a.drop (i+1):=by
 obtain⟨hi,rfl⟩:=bT.mp e;rw[nA e,ax (by rw[b];exact bM),gT hi,CF];rfl
theorem IB{f:Hp}{c:al aW}(h:cu f kf c):∀{bs:al Ph},S2 (λ(d:al Key×V) b=>H b=bd (d.1.map kV)) kf bs->(∀b xs,H b=bd xs->Y b=bd xs)->jH Y (bs.map V.ref) c:=by
 induction h with
 |nil=>intro bs a k;cases a;exact .nil
 |@cons d p _ _ e _ g =>
  intro bs a k;cases a with
  |cons h1 h2 =>
   refine .cons ⟨_,rfl,?_⟩ (g h2 k);have:=k _ _ h1;rw[e.1]at this;exact this
inductive mC(vs:List V)(H:Hp)(Q:VK)(E:XK):Prop
 |mk{dm dl br df a7 db:Ph}{wk:Int}{kl:List (Key×V)}{ks:List Pd}{L:Pd->List Pd}{kf:List (List Key×V)}{hs:List aW}{kb:List (List Key×V)}{bI:Bk}{k n:Pd}(_:vs=[.ref dm,.str k,.str n])(_:ec H dm dl br df a7 db wk kl ks L kf hs kb bI)(_:ks.length<=8)(_:n ≠ "")(_:hs.length<=1000)
  (_:∀tj us Y,(∀c u,c≠df->H c=ih u->Y c=ih u)->ec Y dm dl br df a7 db wk kl ks L tj (cA hs us n) kb bI->(∀y,y∈us ↔ y∈ks/\k∈L y)->Q .aJ Y):mC vs H Q E
noncomputable abbrev tq:List Pd:=["_law_m","_law_kind","_law_name"]
noncomputable abbrev Cg:List Pd:=["_law_m","_law_kind","_law_name","_law_under","_law_key"]
theorem pq:aZ Cg tq (aF mc):=a8
noncomputable abbrev LY:QD:=e8 (cH (bD mc) 0)
theorem BO:bO Cg (aF mc) ["_law_one","_law_kind","_law_m"] [none,ih 1,ih 0] (ck LY):=cL
theorem IC(F:aP K "_law_drop" "_law_drop" mc f fd)(B:cP mg):aM P w K mg base ao 1 f fd tq mC:=by
 refine F.bG pq λQa A zq s H vs Q E zn h=>?_
 ·obtain @⟨dm,dl,br,df,a7,db,wk,kl,ks,L,kf,J,kb,zk,k,n,rfl,h,zr,xo,xr,q⟩:=h
  have g:=dr zn.units;intro X;refine⟨_,aq (jT rfl BO pq.nd (i:=3) rfl rfl (nX (bK g (pv 0) aY)) (λs H fp=>⟨a4 0 BO.nd,fY (bx (lR K rfl) (pv 1) (bK g (bK g (pv 2) aY) (pv 0)) rfl),pv 0⟩))
   (aq (e7 eP rfl (d4 (wj (dU (DY rfl) rfl B.list boot_list (aa (bK g (pv 0) aY) ag)))) (a4 4 pq.nd)
    (aE (bQ (PW.pt (pw_and (bx i5 (aV cE (pv 4) ak) (pv 3) rfl) (pw_and1 (bx i5 (pv 2) (oz (aa aY (aa (aV cE (pv 4) ak) ag))) rfl))))
     (aE (cB (gH C5 t5 C6 (q5 g) (bK g (pv 0) aY) (aa (pv 4) ag)))) bZ)))
   (aE (e7 eP rfl (d4 (dU (ny rfl) rfl B.list boot_list (aa (bK g (pv 0) aY) ag))) (a4 4 pq.nd)
    (aE (bQ (PW.pt (pw_and (bx i5 (bK g (bK g (pv 0) aY) (aV cE (pv 4) ak)) (pv 3) rfl) (pw_and1 (PW.pt (pw_or (bx c9 (pv 2) aY (bA _)) (pw_or1 (bx i5 (pv 2) (aV cE (bK g (bK g (pv 0) aY) (pv 4)) ak) rfl)))))))
     (aE (cB (gH C5 t5 C6 (q5 g) (bK g (pv 0) aY) (aa (pv 4) ag)))) bZ))))),?_⟩
  refine af rfl ⟨dm,_,rfl,a6.k (k:=Cv "lines") h.hm,?_⟩;refine⟨dl,kl,rfl,.inl ⟨h.hl,λo c yf=>?_⟩⟩;have Y:upd H dl (.aG o (.dK kl)) dl=ih (.aG o (.dK kl)):=ae;have M:∀b u,b≠dl->H b=ih u->upd H dl (.aG o (.dK kl)) b=ih u:=λb u n e=>by rw[ab n];exact e
  generalize upd H dl (.aG o (.dK kl))=O at Y M yf⊢;have xi:=M _ _ h.iX h.hm;have yk:kl.length=ks.length:=by have:=dc TV h.kk;rwa [aK,aK]at this
  refine nG (o:=o) (λi ys yb H2=>∃(zf:am V) (us:al Pd),yb=[zf,ih (.str k),a2 dm]/\H2 c=bi ys/\aw O H2/\ys=us.map V.str/\us.length<=i /\∀y,y∈us ↔ y∈ks.take i/\k∈L y) ⟨none,[],rfl,ae,aA yf,rfl,aN _,λy=>by simp⟩ (λi ys yb H2 ac=>by obtain⟨_,_,_,z1,r,_⟩:=ac;exact ⟨z1,r _ _ Y⟩) ?_ ?_
  ·rintro i D ys yb H2 yi ⟨zf,us,rfl,h2,t,rfl,yr,N⟩
   have zi:i<kl.length:=(bT.mp yi).1;obtain⟨y,zb,yo⟩:∃y,ks[i]?=ih y/\Cv y=D.1:=by
    have zj:(kl.map (·.1))[i]?=ih D.1:=by rw[cR,yi];rfl
    rw[h.kk,cR]at zj;obtain⟨y,a,b⟩:=fU.mp zj;exact⟨y,a,b⟩
   have xj:ks.take (i+1)=ks.take i++[y]:=by rw[cK,zb];rfl
   obtain⟨a,zo,xk⟩:=h.ln y (eF zb);have xl:=t _ _ (M _ _ (aH xk h.hl) xk)
   rw[<-yo,show kV (Cv y)=V.str y from rfl];refine aX rfl rfl ⟨dm,_,rfl,a6.k (k:=Cv "lines") (t _ _ xi),_,rfl,dl,.ref a,rfl,.inl ⟨kl,Cv y,.inr ⟨o,t _ _ Y⟩,rfl,zo.symm⟩,a,_,rfl,.inl (aj.of xl),rfl,gz _,?_⟩;rw[ax bM,hO];refine⟨_,rfl,?_⟩
   by_cases e:k∈L y
   ·refine ite_tt (a' e) (af rfl ⟨h2,by rw[aK,aR];omega,cw_next zi ⟨_,us++[y],rfl,ae,λb u z=>by rw[ab (ar z yf)];exact t _ _ z,by rw[bC];rfl,by rw[dA,ip];omega,λxg=>?_⟩⟩)
    rw[xj,cQ,cQ,N xg];simp only[dR]
    constructor
    ·rintro(⟨z1,r⟩|rfl)
     ·exact⟨.inl z1,r⟩
     ·exact⟨.inr rfl,e⟩
    ·rintro⟨z1|z1,r⟩
     ·exact .inl ⟨z1,r⟩
     ·exact .inr z1
   ·refine ite_ff (bS e) (cw_next zi ⟨_,us,rfl,h2,t,rfl,by omega,λxg=>?_⟩)
    rw[xj,cQ,N xg];simp only[dR]
    constructor
    ·rintro⟨z1,r⟩;exact⟨.inl z1,r⟩
    ·rintro⟨z1|z1,r⟩
     ·exact⟨z1,r⟩
     ·exact absurd r (z1 ▸ e)
  rintro ys yb H2 ⟨zf,us,rfl,h2,t,rfl,xt,N⟩;rw[yk,cx]at N;have yl:=t _ _ Y;have zl:H2 df=bn kf:=t _ _ (M _ _ (aH h.hf h.hl) h.hf)
  refine af rfl ⟨dm,_,rfl,a6.k (k:=Cv "finds") (t _ _ xi),df,kf,rfl,zl,λl bs xp xm=>?_⟩;have I:=aA (o:=.lst (bs.map V.ref)) xp;have yd:upd H2 l (.lst (bs.map V.ref)) l=bi (bs.map V.ref):=ae;generalize upd H2 l (.lst (bs.map V.ref))=S at I yd⊢;have xa:=I _ _ yl;refine⟨dl,o,kl,xa,(λo' u z=>by cases h.hl.symm.trans z),?_⟩
  have zd:∀b u,H b=ih u->upd S dl (.dK kl) b=ih u:=λb u e=>by
   by_cases z:b=dl
   ·subst z;rw[ae,<-e,h.hl]
   ·rw[ab z];exact I _ _ (t _ _ (M _ _ z e))
  have ya:upd S dl (.dK kl) l=bi (bs.map V.ref):=by rw[ab (aH yd xa)];exact yd
  have xe:upd S dl (.dK kl) c=bi (us.map V.str):=by rw[ab (aH (I _ _ h2) xa)];exact I _ _ h2
  have yg:jH (upd S dl (.dK kl)) (bs.map V.ref) J:=IB h.fv xm λb xs e=>by rw[ab (aH (I _ _ e) xa)];exact I _ _ e
  generalize upd S dl (.dK kl)=xc at zd ya xe yg⊢;have d:=h.same zd;refine⟨l,rfl,⟨_,aj.of ya⟩,i6 (xs:=bs.map V.ref) (λi σ m=>∃(zg:am V) (j:al (List Key×V)),σ=[a2 dm,ih (.str k),ih (.str n),a2 c,zg]/\(∀c u,c≠df->xc c=ih u->m c=ih u)/\m df=bn j/\cu m j (cA (J.take i) us n++J.drop i))
   ⟨none,kf,rfl,λc u _ e=>e,d.hf,d.fv⟩ (λi σ m _ ac=>by obtain⟨_,_,_,z,_⟩:=ac;exact aj.of (z _ _ (aH ya d.hf (by intro y;cases y)) ya)) ?_ ?_⟩
  ·rintro i y σ m zb ⟨zg,j,rfl,C,za,T⟩
   obtain⟨p,yc,b,rfl,yj⟩:=L2.Paired.get yg zb;have ym:df≠dm:=aH d.hf d.hm
   have ye:=C _ _ (aH yj d.hf) yj
   have zm:=C _ _ (aH xe d.hf) xe
   refine af rfl (dz ye er (af rfl ⟨c,us.map V.str,rfl,.inl (aj.of zm),rfl,gz _,?_⟩));rw[ax bM,hO];refine⟨_,rfl,?_⟩
   by_cases hi:p.1.1∈us
   ·refine ite_tt (a' hi) (aX rfl rfl (dz ye gL ⟨cc,λyp U G _ R=>⟨yp,[("" : Pd),p.1.2.1].map V.str,rfl,.inl (aj.of R),rfl,gz _,?_⟩⟩))
    rw[ax bM,hO];refine⟨_,rfl,?_⟩;have xh:cu U j (cA (J.take i) us n++J.drop i):=T.keep λc xs e=>G _ _ e;have ze:∀c u,c≠df->xc c=ih u->U c=ih u:=λc u z e=>G _ _ (C c u z e);have xb:=G _ _ za
    by_cases e:p.1.2.1=n
    ·have xf:(decide (p.1.1∈us)&&decide (p.1.2.1=n))=true:=by rw[a' hi,a' e];rfl
     obtain⟨zp,xq⟩:∃v,bj j (hK p.1)=ih v:=by
      rcases xh.val p.1 with⟨z,_⟩|⟨_,v,_,z,_⟩
      ·exfalso
       unfold cW at z;rw[uk,C3]at z;obtain⟨xn,ep⟩:=bT.mp yc;exact z p (fR _ (by rw[gT xn,ep];exact bJ)) (a' rfl)
      ·exact⟨v,z⟩
     refine ite_tt (a' (by rw[e];simp)) (af rfl ⟨dm,_,rfl,a6.k (k:=Cv "finds") (ze _ _ (aQ ym) d.hm),.inr (.inr (.inl ⟨rfl,.inr ⟨_,xb⟩⟩)),af rfl ⟨df,j,hK p.1,b,zp,rfl,rfl,xb,G _ _ ye,xq,?_⟩⟩)
     refine⟨_,_,rfl,λc u z e=>by rw[ab z];exact ze c u z e,ae,?_⟩
     rw[<-JQ h.dZ yc xf];exact(xh.ei).keep λc xs e=>by rw[ab (aH e xb)];exact e
    ·have xf:(decide (p.1.1∈us)&&decide (p.1.2.1=n))=false:=by rw[bS e,Vs]
     refine ite_ff (bS λz=>?_) ⟨_,j,rfl,ze,xb,by rw[<-AG yc xf];exact xh⟩
     simp only[bU,um,uo]at z;exact z.elim xo λy=>e y.symm
   ·refine ite_ff (bS hi) (ite_ff rfl ⟨_,j,rfl,C,za,?_⟩)
    rw[<-AG yc (by rw[bS hi,Cp])];exact T
  ·rintro σ m ⟨zg,j,rfl,C,za,T⟩
   have yq:=cw yg;rw[yq,cx,uc,eY]at T;have W:∀{c u},xc c=ih u->(∀kvs,u ≠ .dT kvs)->m c=ih u:=λe z=>C _ _ (λy=>by rw[y,d.hf]at e;cases e;exact z _ rfl) e
   have tup:∀c xs,xc c=bd xs->m c=bd xs:=λc xs e=>W e (by intro _ z;cases z)
   have yh:ec m dm dl br df a7 db wk kl ks L j (cA J us n) kb zk:=⟨W d.hm (by intro _ z;cases z),W d.hl (by intro _ z;cases z),h.kk,λx zh=>let ⟨a,e,z⟩:=d.ln x zh;⟨a,e,W z (by intro _ z;cases z)⟩,W d.hn (by intro _ z;cases z),za,T,C _ _ (aQ h.jI) d.hb,bo.keep tup d.dv h.ok.ent,h.ok,h.jI,h.iX,h.mT,h.pR,h.dZ.sublist (lb _ p7),h.l8⟩
   refine af rfl ⟨dm,_,rfl,a6.k (k:=Cv "numbers") yh.hm,a7,[],rfl,yh.hn,λzc yn=>?_⟩;have G:=aA (o:=.lst (([]:al (Key×V)).map λD=>kV D.1)) yn;have R:upd m zc (.lst (([]:al (Key×V)).map λD=>kV D.1)) zc=bi []:=ae;generalize upd m zc (.lst (([]:al (Key×V)).map λD=>kV D.1))=U at G R⊢;refine⟨zc,rfl,⟨_,aj.of R⟩,i6 (xs:=[]) (λi σ xd=>xd=U) rfl (λi σ xd _ z=>by rw[z];exact aj.of R) (λi x σ xd zh _=>by simp at zh) λσ xd z=>?_⟩
   rw[z];exact q j us U (λc u n1 e=>G _ _ (C c u n1 (zd _ _ e))) (yh.same G) N
structure Ci(H:Hp)(dm dl br df a7 db:Ph)(wk:Int)(kf:List (List Key×V))(hs:List aW):Prop where
 hm:H dm=ih (.dK (mK dl br df a7 wk db))
 hf:H df=ih (.dT kf)
 fv:cu H kf hs
 dZ:(hs.map (·.1)).Nodup
inductive mD(vs:List V)(H:Hp)(Q:VK)(E:XK):Prop
 |mk{dm dl br df a7 db:Ph}{wk:Int}{kf:List (List Key×V)}{hs:List aW}{k:Pd}(_:vs=[.ref dm,.str k])(_:Ci H dm dl br df a7 db wk kf hs)(_:hs.length<=60)
  (_:∀l ys rows Y,aw H Y->H l=none->Y l=ih (.lst ys)->fA Y ys rows->rows.Perm (g8 hs k)->((rows.map gx).Pairwise λa b=>c2 a b=true)->Q (.ref l) Y):mD vs H Q E
noncomputable abbrev tu:List Pd:=["_law_m","_law_kind"]
noncomputable abbrev tw:List Pd:=["_law_m","_law_kind","_law_keys"]
theorem BP:aZ tw tu (aF jo):=a8
noncomputable abbrev KY:QD:=e8 (cH (bD jo) 0)
abbrev KZ:QD:=eb (gK (cH (bD jo) 1))
theorem A5:bO tw (aF jo) ["_law_key","_law_kind"] [none,ih 1] (ck KY):=cL
theorem A6:bO tw (aF jo) ["_law_key","_law_m"] [none,ih 0] (ck KZ):=cL
theorem ID(F:aP K "_law_kept" "_law_kept" jo f fd)(zm:e9 mg):aM P w K mg base ao 1 f fd tu mD:=by
 refine F.bG BP λQa A xp s H vs Q E xn h=>?_
 ·obtain @⟨dm,dl,br,df,a7,db,wk,kf,g,k,rfl,h,yp,q⟩:=h
  have xb:=dr xn.units;intro X;refine⟨_,aq (jT rfl A5 BP.nd (i:=2) rfl rfl (qJ (bK xb (pv 0) aY)) (λs H fp=>⟨a4 0 A5.nd,fY (bx c9 (aV (gV K rfl) (pv 0) ak) (pv 1) (bA _)),pv 0⟩))
   (aE (aU (q6 (bp lq rfl zm.sorted boot_sorted (aa (cY rfl A6 (d4 (pv 2)) (λs H fp=>⟨a4 0 A6.nd,dV,
     cz (aa (aV (gV K rfl) (pv 0) ak) (aa (aV (gV K rfl) (pv 0) ak) (aa (aV (gV K rfl) (Fi K rfl (bK xb (bK xb (pv 1) aY) (pv 0)) (gG (cz (aa aY ag)))) ak) ag)))⟩)) ag))))),?_⟩
  refine af rfl ⟨dm,_,rfl,a6.k (k:=Cv "finds") h.hm,?_⟩;refine⟨df,kf,rfl,h.hf,λo c zd=>?_⟩;have R:∀b u,b≠df->H b=ih u->upd H df (.aG o (.dT kf)) b=ih u:=λb u n e=>by rw[ab n];exact e
  have J:upd H df (.aG o (.dT kf)) df=ih (.aG o (.dT kf)):=ae;have ze:∀b,upd H df (.aG o (.dT kf)) b=none->H b=none:=λb e=>by
   by_cases z:b=df
   ·rw[z,ae]at e;cases e
   ·rwa [ab z]at e
  generalize upd H df (.aG o (.dT kf))=H2 at R J ze zd⊢;have yb:cu H2 kf g:=h.fv.keep λb xs e=>R _ _ (aH e h.hf) e
  have kl:=cw yb;refine qo (λi ys l j=>∃B:am V,l=[B,ih (.str k)]/\j c=bi ys/\aw H2 j/\jH j ys ((g.take i).filter λh=>decide (h.1.1=k))) ⟨none,rfl,ae,aA zd,.nil⟩ (λi ys l j ac=>by obtain⟨_,_,z1,z2,_⟩:=ac;exact ⟨z1,z2 _ _ J⟩) ?_ ?_
  ·rintro i yq b ys l j xf m ⟨B,rfl,I,C,P3⟩
   have L:i<kf.length:=(bT.mp xf).1;obtain⟨p,D,yn,_⟩:=L2.Paired.get yb xf;replace m:j b=bd [.str p.1.1,.str p.1.2.1,.str p.1.2.2]:=by rw[yn]at m;exact m
   have yl:ys.length<=i:=by
    have xh:=cw P3;have zn:=ee (λh:aW=>decide (h.1.1=k)) (g.take i);rw[cj]at zn;omega
   refine af rfl (dz m er (af rfl ⟨rfl,_,rfl,?_⟩))
   by_cases e:p.1.1=k
   ·refine ite_tt (a' (by rw[e])) (af rfl ⟨I,by rw[aR];omega,cw_next L ⟨_,rfl,ae,λb u z=>by rw[ab (ar z zd)];exact C _ _ z,?_⟩⟩)
    rw[nJ D,aI (a' e)];have r:∀{zs:al V} b xs,j b=bd xs->upd j c (.lst zs) b=bd xs:=λb xs e=>by rw[ab (aH e I)];exact e
    exact gi (P3.keep r) ⟨b,rfl,r _ _ m⟩
   ·refine ite_ff (bS λz=>e (by injection z)) (cw_next L ⟨_,rfl,I,C,?_⟩)
    rw[nJ D,ax (by rw[bS e];exact bM),eY]
    exact P3
  rintro ys l j ⟨B,rfl,I,C,P3⟩;rw[kl,cx]at P3;have zi:(g.filter λh=>decide (h.1.1=k)).length<=g.length:=ee _ _;have yf:∀p∈g.filter (λh=>decide (h.1.1=k)),p∈g:=λp D=>(cU.mp D).1;have zb:g8 g k=(g.filter λh=>decide (h.1.1=k)).map λh=>(h.1.2.1,h.1.2.2,fc h.2):=rfl;have knd:=Ag (k:=k) h.dZ;have xj:cu j kf g:=yb.keep λb xs e=>C _ _ e;have yj:=C _ _ J;rw[zb]at knd;generalize g.filter (λh=>decide (h.1.1=k))=xc at P3 zi yf zb knd;refine af rfl ⟨c,rfl,⟨_,aj.of I⟩,λT yc=>?_⟩;have yl:=cw P3;refine fX (xs:=ys) (λi zs l a=>∃B:am V,l=[B,a2 dm]/\a T=bi zs/\aw j a/\fA a zs ((xc.take i).map λh=>(h.1.2.1,h.1.2.2,fc h.2))) ⟨none,rfl,ae,aA yc,.nil⟩ (λi zs l a ac=>by obtain⟨_,_,z1,z2,_⟩:=ac;exact ⟨z1,aj.of (z2 _ _ I)⟩) ?_ ?_
  ·rintro i v zs l a yh ⟨B,rfl,U,t,x⟩
   have L:i<ys.length:=(bT.mp yh).1;obtain⟨p,D,b,rfl,m⟩:=L2.Paired.get (P3.keep λb xs e=>t _ _ e) yh;have pm:=yf p (eF D);have zf:xc.take (i+1)=xc.take i++[p]:=by rw[cK,D];rfl
   have zl:zs.length<=i:=by have xh:=cw x;rw[aK,cj]at xh;omega
   obtain⟨xe,xo,W⟩:=Af (xj.keep λb xs e=>t _ _ e) h.dZ pm;have zj:df≠dm:=aH h.hf h.hm
   have xk:=t _ _ (C _ _ (R _ _ (aQ zj) h.hm));have yo:a6 a df (.ref b) (ih xe):=.inr ⟨kf,hK p.1,b,.inr ⟨o,t _ _ yj⟩,rfl,m,xo.symm⟩;refine af rfl (dz m gL (af rfl (dz m sC (af rfl ⟨dm,_,rfl,a6.k (k:=Cv "finds") xk,af rfl ⟨df,xe,rfl,yo,?_⟩⟩))));cases e:p.2 with
   |none =>
    rw[e]at W;obtain rfl:xe=V.aJ:=W;have ye:fc p.2 = "" :=by rw[e];rfl
    refine af rfl (ite_ff rfl ⟨gO,λtp yk=>dz (ae (H:=a)) er ?_⟩);have Y:=aA (o:=.tup [V.str ""]) yk;generalize upd a tp (.tup [V.str ""])=zh at Y⊢;refine⟨eK,λrw zc=>?_⟩;have N:=aA (o:=.tup [V.str p.1.2.1,V.str p.1.2.2,V.str ""]) zc;have O:upd zh rw (.tup [V.str p.1.2.1,V.str p.1.2.2,V.str ""]) rw=bd [.str p.1.2.1,.str p.1.2.2,.str (fc p.2)]:=by rw[ye];exact ae
    generalize upd zh rw (.tup [V.str p.1.2.1,V.str p.1.2.2,V.str ""])=G at N O⊢;have y:aw a G:=Y.trans N;have M:=y _ _ U;have r:∀{zs:al V} b xs,G b=bd xs->upd G T (.lst zs) b=bd xs:=λb xs e=>by rw[ab (aH e M)];exact e
    refine⟨M,by rw[aR];omega,cw_next L ⟨_,rfl,ae,λb u e=>by rw[ab (ar e yc)];exact y _ _ (t _ _ e),?_⟩⟩
    rw[zf,bC];exact gi ((x.keep λb xs e=>y _ _ e).keep r) ⟨rw,rfl,r _ _ O⟩
   |some xd =>
    obtain⟨xx,d⟩:=xd;rw[e]at W;obtain⟨zq,u,rfl,xg,_⟩:=W;have ye:fc p.2=xx:=by rw[e];rfl
    have Y:aw a a:=aw.refl _;refine af (.inr (.inl ⟨_,aO.of xg,rfl⟩)) (ite_tt rfl (dz xg er ?_));refine⟨eK,λrw zc=>?_⟩;have N:=aA (o:=.tup [V.str p.1.2.1,V.str p.1.2.2,V.str xx]) zc;have O:upd a rw (.tup [V.str p.1.2.1,V.str p.1.2.2,V.str xx]) rw=bd [.str p.1.2.1,.str p.1.2.2,.str (fc p.2)]:=by rw[ye];exact ae
    generalize upd a rw (.tup [V.str p.1.2.1,V.str p.1.2.2,V.str xx])=G at N O⊢;have y:aw a G:=Y.trans N;have M:=y _ _ U;have r:∀{zs:al V} b xs,G b=bd xs->upd G T (.lst zs) b=bd xs:=λb xs e=>by rw[ab (aH e M)];exact e
    refine⟨M,by rw[aR];omega,cw_next L ⟨_,rfl,ae,λb u e=>by rw[ab (ar e yc)];exact y _ _ (t _ _ e),?_⟩⟩
    rw[zf,bC];exact gi ((x.keep λb xs e=>y _ _ e).keep r) ⟨rw,rfl,r _ _ O⟩
  ·rintro zs l a ⟨B,rfl,U,t,x⟩
   rw[yl,cx]at x;obtain⟨zk,zo,xl⟩:=x.keyed;have zl:=cw x;rw[aK]at zl;refine⟨T,_,zk,2,rfl,.inl (aj.of U),zo,by decide,by rw[xl];exact knd,by omega,λxi yd zp xa yi hK xq yg=>?_⟩
   obtain⟨rows,xm,ya⟩:=nr yi x;have ya:fA a yd rows:=ya;rw[wI ya hK]at yg;have S:=C.trans t;have za:=aA (o:=.lst yd) xa;have zg:=za _ _ (S _ _ J);have ym:xi≠df:=λz=>by rw[z,S _ _ J]at xa;cases xa
   refine⟨df,o,kf,zg,(λo' u z=>by cases h.hf.symm.trans z),?_⟩
   refine q xi yd rows _ (λb u e=>?_) (ze _ (S.free xa)) (by rw[ab ym];exact ae) (ya.keep λb xs e=>?_) (by rw[zb];exact xm) yg
   ·by_cases z:b=df
    ·subst z;rw[ae,<-e,h.hf]
    ·rw[ab z];exact za _ _ (S _ _ (R _ _ z e))
   ·rw[ab (aH (za _ _ e) zg)];exact za _ _ e
structure La where
 (x dm dl br df a7 db:Ph)
 (kl:List (Key×V))
structure Ll where
 (wk:Int)
 (kf:List (List Key×V))
 (hs:List aW)
 (kb:List (List Key×V))
 (bI:Bk)
structure Lh where
 (r:Hr)
 (bk:Bk)
 (hs:List aW)
 (m:Int)
structure LS(C D:Ph)(a:La)(U:List (Pd×List Pd))(L:Pd->List Pd)(ks:List Pd)(l:Ll)(g:Lh)(H:Hp):Prop where
 lm:ec H a.dm a.dl a.br a.df a.a7 a.db l.wk a.kl ks L l.kf l.hs l.kb l.bI
 hp:HP C D a.x g.r U L g.bk g.hs g.m H
 ap:∀d ∈ [a.dm,a.dl,a.a7,a.df,a.db],¬ g.r.ow a.x d
def fe(H:Hp)(b:Ph):Prop:= ∃u,H b=ih u/\(∀xs,u ≠ .lst xs)/\(∀xs,u ≠ .tup xs) /\∀o u',u ≠ .aG o u'
theorem fe.lst{H:Hp}{b c:Ph}{xs:al V}(h:fe H b)(e:H c=bi xs):c≠b:=by
 rintro rfl;obtain⟨u,z,y,_⟩:=h;rw[e]at z;cases z;exact y _ rfl
theorem fe.tup{H:Hp}{b c:Ph}{xs:al V}(h:fe H b)(e:H c=bd xs):c≠b:=by
 rintro rfl;obtain⟨u,z,_,y,_⟩:=h;rw[e]at z;cases z;exact y _ rfl
theorem fe.aG{H:Hp}{b c:Ph}{o:Ue}{a:HO}(h:fe H b)(e:H c=ih (.aG o a)):c≠b:=by
 rintro rfl;obtain⟨u,z,_,_,y⟩:=h;rw[e]at z;cases z;exact y _ _ rfl
theorem Ah{fs:al (Pd×V)}(e:H b=ih (.ins C dx fs)):fe H b:=⟨_,e,(by intro _ z;cases z),(by intro _ z;cases z),by intro _ _ z;cases z⟩
theorem gp{kvs:al (Key×V)}(e:H b=bm kvs):fe H b:=⟨_,e,(by intro _ z;cases z),(by intro _ z;cases z),by intro _ _ z;cases z⟩
theorem ku(e:H b=bn kvs):fe H b:=⟨_,e,(by intro _ z;cases z),(by intro _ z;cases z),by intro _ _ z;cases z⟩
theorem HP.big{x:Ph}{r:Hr}{bk:Bk}{a:al aW}(h:HP C D x r U L bk a m H)(z:r.ow x b):fe H b:=by
 rcases z with rfl|rfl|rfl|rfl|rfl|rfl
 ·exact Ah h.hx
 ·exact Ah h.fi.hx
 ·exact gp h.fi.hl
 ·exact ku h.fi.he
 ·exact ku h.fi.hh
 ·exact gp h.hm
theorem ec.big{c:al aW}{b:Bk}(h:ec H dm dl br df a7 db wk kl ks L kf c kb b):∀d ∈ [dm,dl,a7,df,db],fe H d:=λd a=>by
 simp only[bU,um,uo]at a;rcases a with rfl|rfl|rfl|rfl|rfl
 ·exact gp h.hm
 ·exact gp h.hl
 ·exact gp h.hn
 ·exact ku h.hf
 ·exact ku h.hb
section
variable{a:La}{l:Ll}{g:Lh}
theorem bq.big(h:bq p H)(z:fe H b):b≠p:=by
 obtain⟨_,_,e,_⟩:=h;exact aQ (z.lst e)
theorem LS.ez(h:LS C D a U L ks l g H)(c:bq p H)(f:bh p H Y):LS C D a U L ks l g Y:=
  ⟨h.lm.keep (n7 c f) (λb xs e=>f.kp _ _ e (dg c e)) λd i u e=>f.kp _ _ e (c.big (h.lm.big d i)),
   h.hp.keep (n7 c f) (λb o u e=>f.kp _ _ e (by obtain⟨_,_,j,_⟩:=c;exact aH e j)) λb u z e=>f.kp _ _ e (c.big (h.hp.big z)),h.ap⟩
theorem LS.same(h:LS C D a U L ks l g H)(S:aw H Y):LS C D a U L ks l g Y:=⟨h.lm.same S,h.hp.same S,h.ap⟩
theorem LS.mU{f:Hr}{i:Bk}{j:al aW}{k:Int}(h:LS C D a U L ks l g H)(M:Mv g.r f a.x H Y)(m:HP C D a.x f U L i j k Y):LS C D a U L ks l ⟨f,i,j,k⟩ Y:=
  ⟨h.lm.keep (λb xs e=>M.1 _ _ (λz=>(h.hp.big z).tup e rfl) e) (λb xs e=>M.1 _ _ (λz=>(h.hp.big z).lst e rfl) e) λd c u e=>M.1 _ _ (h.ap d c) e,m,
   λd c z=>(M.2 d z).elim (h.ap d c) λy=>by obtain⟨u,e,_⟩:=h.lm.big d c;rw[y]at e;cases e⟩
theorem LS.pS{d:Ll}(h:LS C D a U L ks l g H)(f:∀c u,c≠a.dm->c≠a.df->c≠a.db->H c=ih u->Y c=ih u)(m:ec Y a.dm a.dl a.br a.df a.a7 a.db d.wk a.kl ks L d.kf d.hs d.kb d.bI):LS C D a U L ks d g Y:=by
 have i:=h.lm.big a.dm (by simp)
 have j:=h.lm.big a.df (by simp)
 have k:=h.lm.big a.db (by simp)
 exact⟨m,h.hp.keep (λb xs e=>f _ _ (i.tup e) (j.tup e) (k.tup e) e) (λb o u e=>f _ _ (i.aG e) (j.aG e) (k.aG e) e) λb u z e=>f _ _ (λy=>h.ap a.dm (by simp) (y ▸ z)) (λy=>h.ap a.df (by simp) (y ▸ z)) (λy=>h.ap a.db (by simp) (y ▸ z)) e,h.ap⟩
def bt(a:La)(p:Ph)(r r':Hr)(H Y:Hp):Prop:= ∀b u,b≠p->b≠a.dm->b≠a.df->b≠a.db ->¬ r.ow a.x b->H b=ih u->Y b=ih u /\¬ r'.ow a.x b
theorem bt.trans{r c d:Hr}(h1:bt a p r c H O)(h2:bt a p c d O H2):bt a p r d H H2:=λb u n1 f g h j e =>
 let ⟨k,i⟩:=h1 b u n1 f g h j e
 h2 b u n1 f g h i k
theorem bt.oM(r:Hr)(c:bh p H Y):bt a p r r H Y:=λb u n1 _ _ _ d e=>⟨c.kp _ _ e n1,d⟩
theorem bt.hW(p:Ph)(r:Hr)(S:aw H Y):bt a p r r H Y:=λb u _ _ _ _ c e=>⟨S _ _ e,c⟩
theorem bt.mE(p:Ph){r c:Hr}(M:Mv r c a.x H Y):bt a p r c H Y:=λb u _ _ _ _ d e=>⟨M.1 _ _ d e,λz=>(M.2 b z).elim d λy=>by rw[y]at e;cases e⟩
theorem bt.oN(p:Ph)(r:Hr)(d:∀c u,c≠a.dm->c≠a.df->c≠a.db->H c=ih u->Y c=ih u):bt a p r r H Y:=λb u _ f g h i e=>⟨d _ _ f g h e,i⟩
theorem bt.lst{r g:Hr}{d:Bk}{f:al aW}{i:Int}(h:bt a p r g H Y)(c:ec H a.dm a.dl a.br a.df a.a7 a.db l.wk a.kl ks L l.kf l.hs l.kb l.bI)(j:HP C D a.x r U L d f i H){b:Ph}{xs:al V}(n:b≠p)(e:H b=bi xs):Y b=bi xs:=
 (h b _ n ((c.big a.dm (by simp)).lst e) ((c.big a.df (by simp)).lst e) ((c.big a.db (by simp)).lst e) (λz=>(j.big z).lst e rfl) e).1
theorem LS.mV(h:LS C D a U L ks l g H){b:Hr}(M:Mv g.r b a.x H Y)(c:bq p H):bq p Y:=by
 obtain⟨x,y,e,r⟩:=c;exact⟨x,y,M.1 _ _ (λz=>(h.hp.big z).lst e rfl) e,r⟩
theorem LS.pT(h:LS C D a U L ks l g H)(b:∀c u,c≠a.dm->c≠a.df->c≠a.db->H c=ih u->Y c=ih u)(d:bq p H):bq p Y:=by
 obtain⟨x,y,e,r⟩:=d;exact⟨x,y,b _ _ ((h.lm.big a.dm (by simp)).lst e) ((h.lm.big a.df (by simp)).lst e) ((h.lm.big a.db (by simp)).lst e) e,r⟩
theorem bq.same(a:bq p H)(S:aw H Y):bq p Y:=let ⟨x,y,e,r⟩:=a;⟨x,y,S _ _ e,r⟩
end
theorem wJ{k n:Pd}{d:Pj}:∀{a:Bk},(a.map a9).Nodup->(k,n,d)∈a->(bg a k n++[(k,n,d)]).Perm a
 |[],_,h=>by cases h
 |q::r,nd,h=>by
  rw[bV,d0]at nd
  by_cases e:a9 q=[k,n]
  ·have c:q=(k,n,d):=by
    rcases bU.mp h with z|z
    ·exact z.symm
    ·exact absurd (ba.mpr ⟨_,z,rfl⟩) (e ▸ nd.1 : [k,n]∉ r.map a9)
   have b:bg (q::r) k n=r:=by
    unfold bg;rw[hI (by simp[e])]
    exact qV (e ▸ nd.1)
   rw[b,c];exact List.perm_append_comm
  ·have b:bg (q::r) k n=q::bg r k n:=by
    unfold bg;rw[hJ (by simp[e])]
   rw[b,CM];refine(wJ nd.2 ?_).cons q;rcases bU.mp h with z|z
   ·exact absurd (z ▸ rfl) e
   ·exact z
noncomputable abbrev rR:QB:=top 84
structure RS(ks n6:List Pd)(l:Ll)(g:Lh):Prop where
 eh:l.hs=g.hs
 ew:l.wk=g.m
 pm:g.bk.Perm l.bI
 sub:∀q∈l.bI,q.1∈ks/\q.2.1∈n6
 ok:∀h∈l.hs,PX h.1.2.1=true/\PX h.1.2.2=true
structure FX(U:List (Pd×List Pd))(ks n6 ig:List Pd):Prop where
 k8:ks.length<=8
 Cj:n6.length<=6
 Ck:∀y∈ks,Nm y
 kk:∀y,y∈ks ↔ y∈U.map (·.1)
 nl:ig.length=8
 nn:∀y∈ig,Nm y
 LZ:∀j y,j<6->ig[j]?=ih y->y∈n6
theorem AH{α:Type} [DecidableEq α]:∀{a b:al α},a.Nodup->(∀x∈a,x∈b)->a.length<=b.length
 |[],_,_,_=>bw _
 |x::a,b,nd,h=>by
  obtain⟨n1,f⟩:=d0.mp nd;have c:=h x bJ;have:=AH (a:=a) (b:=b.erase x) f λy d=>(PJ (λe:y=x=>n1 (e ▸ d))).mpr (h y (bL _ d));rw[PH c]at this;have:=CK c;rw[cf];omega
theorem FO(ks ns:al Pd):(ks.flatMap λk=>ns.map λn=>[k,n]).length=ks.length * ns.length:=by
 induction ks with
 |nil=>simp
 |cons k ks a=>rw[List.flatMap_cons,dA,a,aK,cf,Nat.succ_mul,Nat.add_comm]
theorem A7{a:Bk}{k:Pd}(ok:dw a)(sub:∀q∈a,q.1∈ks/\q.2.1∈ns)(b:ks.length<=8)(c:ns.length<=6)(d:k∈ks)(f:n∈ns):(bg a k n).length<=47:=by
 have h:([k,n]::(bg a k n).map a9).length<=(ks.flatMap λk=>ns.map λn=>[k,n]).length:=AH (d0.mpr ⟨n8,(hV ok k n).nd⟩) λx hx=>by
  rcases bU.mp hx with e|hx
  ·rw[e];exact Va.mpr ⟨k,d,ba.mpr ⟨n,f,rfl⟩⟩
  ·obtain⟨q,g,e⟩:=ba.mp hx
   have:=sub q (cU.mp g).1;rw[<-e];exact Va.mpr ⟨q.1,this.1,ba.mpr ⟨q.2.1,this.2,rfl⟩⟩
 rw[FO,cf,aK]at h;have:ks.length * ns.length<=8 * 6:=Nat.mul_le_mul b c;omega
theorem BQ{G:Prop}{gv C:Hp->Prop}(h1:(∀a,gv a->C a)->G)(h2:∀a,gv a->C a):G:=h1 h2
theorem ec.book{i:al aW}{g:al (List Key×V)}{k f:Bk}(h:ec H dm dl br df a7 db wk kl ks L kf i kb k)(l:Y db=bn g)(j:∀c u,c≠db->H c=ih u->Y c=ih u)(dv:bo Y g f)(ok:dw f):ec Y dm dl br df a7 db wk kl ks L kf i g f:=by
 have d:∀{c u},H c=ih u->(∀kvs,u ≠ .dT kvs)->Y c=ih u:=λe z=>j _ _ (λy=>by rw[y,h.hb]at e;cases e;exact z _ rfl) e
 exact⟨d h.hm (by intro _ z;cases z),d h.hl (by intro _ z;cases z),h.kk,λx m=>let ⟨a,e,z⟩:=h.ln x m;⟨a,e,d z (by intro _ z;cases z)⟩,d h.hn (by intro _ z;cases z),j _ _ h.jI h.hf,h.fv.keep λb xs e=>d e (by intro _ z;cases z),l,dv,ok,h.jI,h.iX,h.mT,h.pR,h.dZ,h.l8⟩
inductive pw(C D:Ph)(vs:List V)(H:Hp)(Q:VK)(E:XK):Prop
 |mk{a:La}{U:List (Pd×List Pd)}{L:Pd->List Pd}{ks n6 ig:List Pd}{l:Ll}{g:Lh}{p ln:Ph}{k:Pd}(_:vs=[.ref a.x,.ref p,.ref a.dm,.str k,.ref ln])(_:LS C D a U L ks l g H)(_:RS ks n6 l g)(_:FX U ks n6 ig)(_:bq p H)(_:H ln=ih (.lst (ig.map V.str)))(_:k∈ks)(_:l.hs.length<=1000)(_:g.r.dn<10000)
  (_:∀l' g' Y,LS C D a U L ks l' g' Y->RS ks n6 l' g'->bq p Y->bt a p g.r g'.r H Y->l'.hs.length<=l.hs.length->g'.r.dn=g.r.dn+1->Q .aJ Y):pw C D vs H Q E
noncomputable abbrev tx:List Pd:=["_law_house","_law_pot_here","_law_m","_law_kind","_law_names_here"]
noncomputable abbrev L0:List Pd:=["_law_house","_law_pot_here","_law_m","_law_kind","_law_names_here","_law_at","_law_way","_law_name"]
theorem px:aZ L0 tx (aF rR):=a8
theorem JR{yH:Ph}{zH:Ta}(F:aP K "_law_done" "_law_done" rR f fd)(T:et K mg C)
  (zv:bb P w K mg base ao 1 fD dD ["_law_pot_here","_law_many"] gn "_law_digit")
  (xI:bb P w K mg base ao 4 fE dE ["_law_pot_here","_law_names_here","_law_at"] kC "_law_entry")
  (yI:bb P w K mg base ao 1 yH zH tq mC "_law_drop")
  (xw:aM P w K mg base ao 7 fG dG pP (mz C D)) (yw:Meth K C "give" fG) (zw:Binds K dG pP [])
  (zI:aM P w K mg base ao 7 fT dT pQ (pe C D)) (xJ:Meth K C "take" fT) (yJ:Binds K dT pQ []):aM P w K mg base ao 8 f fd tx (pw C D):=by
 refine F.bG px λQa A xN s H vs Q E xx h=>?_
 ·obtain @⟨a,U,L,ks,yx,yr,l,g,p,xO,k,rfl,h,G,B,yn,zr,zd,xA,yj,q⟩:=h
  have J:=dr xx.units;have yd:aS 7 _:=xx;have xB:aS 4 _:=yd.mono (by decide)
  have zj:aS 1 _:=yd.mono (by decide)
  intro X;refine⟨_,aq (bf 5 px.nd (aT zv zj (aa (pv 1) (aa ak ag))))
   (aq (bf 6 px.nd (aT zv zj (aa (pv 1) (aa ak ag))))
   (aq (bf 7 px.nd (aV cX (pv 4) (pv 5)))
   (aq (bQ (PW.pt (pw_and (bx c9 (pv 6) ak (bA _)) (pw_and1 (jc (kd J (fq (aa (pv 3) (aa (pv 7) ag))) (bK J (pv 2) aY))))))
    (aq (cB (gH C5 t5 C6 (q5 J) (bK J (pv 2) aY) (aa (fq (aa (pv 3) (aa (pv 7) ag))) ag)))
     (aE (cB (di (pv 0) T.cl xJ zI yd yJ .nil b7 (aa (pv 3) (aa (pv 7) ag))))))
    (aE (bQ (PW.pt (pw_and (bx c9 (pv 6) ak (bA _)) (pw_and1 (jc (kd J (fq (aa (pv 3) (aa (pv 7) ag))) (bK J (pv 2) aY))))))
     (aE (cB (di (pv 0) T.cl yw xw yd zw .nil b7 (aa (pv 3) (aa (pv 7) (aa (bK J (bK J (pv 2) aY) (fq (aa (pv 3) (aa (pv 7) ag)))) ag))))))
     (aq (hR J (bK J (pv 2) aY) (fq (aa (pv 3) (aa (pv 7) ag))) (aT xI xB (aa (pv 1) (aa (pv 4) (aa (pv 5) ag)))) rfl)
     (aE (cB (di (pv 0) T.cl yw xw yd zw .nil b7 (aa (pv 3) (aa (pv 7) (aa (bK J (bK J (pv 2) aY) (fq (aa (pv 3) (aa (pv 7) ag)))) ag))))))))))
   (aE (cB (aT yI zj (aa (pv 2) (aa (pv 3) (aa (pv 7) ag))))))))),?_⟩
  refine af rfl (cy (p:=p) (m:=6) yn (by decide) (by decide) λyN O zJ yO zx=>?_)
  obtain⟨j,rfl⟩:=eZ zJ;refine af rfl (cy (p:=p) (m:=4) zx.ok (by decide) (by decide) λxt H2 zO xP p2=>?_)
  have yb:=zx.trans p2;have xK:j<6:=by omega
  have yB:j<yr.length:=by have:=B.nl;omega
  obtain⟨n,zn⟩:∃n,yr[j]?=ih n:=⟨_,bY yB⟩;have xk:=B.LZ j n xK zn;have xe:=B.nn n (eF zn);have zg:=B.Ck k zd;have yk:=(B.kk k).mp zd;have zq:=yb.kp _ _ zr (dg yn zr);have h2:=h.ez yn yb;have xo:bt a p g.r g.r H H2:=bt.oM _ yb;refine aX rfl rfl (iR zq (b6 (by rw[cR,zn];rfl)) ?_)
  have zk:∀(i:Ll) (V:Lh) (xl:al Pd) (O:Hp) (xy:XK),LS C D a U L ks i V O->i.hs=l.hs->i.wk=V.m->V.hs=cA g.hs xl n->Below U L k xl->V.bk.Perm i.bI->(∀q∈i.bI,q.1∈ks/\q.2.1∈yx)->bq p O->bt a p g.r V.r H O->V.r.dn=g.r.dn+1->mC [.ref a.dm,.str k,.str n] O (λ_ Y=>Q .aJ Y) xy:=by
   intro i V xl O xy h1 ye yy yK ya zB yA xC zK yC;refine mC.mk rfl h1.lm B.k8 (λz=>by have y:=xe.lo;rw[z]at y;exact absurd y (by decide)) (by rw[ye];exact xA) λzC us Y xL xD yD=>?_
   have yl:∀c u,c≠a.dm->c≠a.df->c≠a.db->O c=ih u->Y c=ih u:=λc u _ yL _ e=>xL c u yL e;refine q ⟨i.wk,zC,cA i.hs us n,i.kb,i.bI⟩ V Y (h1.pS yl xD) ⟨?_,yy,zB,yA,λh zL=>G.ok h (ye ▸ (cU.mp zL).1)⟩ (h1.pT yl xC) (zK.trans (bt.oN p _ yl)) ?_ yC
   ·show cA i.hs us n=V.hs
    rw[ye,G.eh,yK];exact DI λy=>by rw[yD y,B.kk y,ya y]
   ·show(cA i.hs us n).length<=l.hs.length
    rw[ye];exact ee _ _
  have yt:∀{d:Pj},cS l.bI k n=ih d->(k,n,d)∈g.bk:=λe=>G.pm.mem_iff.mpr (lu e);have yo:=G.ew;have N:=h.lm.ok;have b3:=A7 h.hp.fb.ok (λq ze=>G.sub q (G.pm.mem_iff.mp ze)) B.k8 B.Cj zd xk;have zA:∀{d:Pj} (xa:Bk),xa.Perm (bg l.bI k n++[(k,n,d)]) ->∀q∈xa,q.1∈ks/\q.2.1∈yx:=λxa pm q ze=>by
   rcases cQ.mp (pm.mem_iff.mp ze) with z|z
   ·exact G.sub q (cU.mp z).1
   ·rw[dR.mp z];exact⟨zd,xk⟩
  apply BQ (gv:=λzy=>aw H2 zy)
  ·intro zo
   refine af rfl ⟨rfl,_,rfl,?_⟩
   by_cases xp:xt=0
   ·refine ite_tt (a' (by rw[xp])) (aX rfl rfl ⟨cc,λxf yf zb _ za=>?_⟩)
    have I:=h2.same zb;have za:yf xf=bd (([Cv k,Cv n]:al Key).map kV):=za;refine af rfl ⟨a.dm,_,rfl,a6.k (k:=Cv "book") I.lm.hm,a.db,_,rfl,a6.t (k:=[Cv k,Cv n]) I.lm.hb za,_,rfl,?_⟩;rcases I.lm.dv.look (k:=k) (n:=n) N.nd with⟨i,W⟩|⟨v,d,i,W,xz⟩
    ·rw[W]
     refine ite_ff rfl (af rfl ⟨rfl,_,rfl,ite_ff (bS λz=>by rw[xp]at z;injection z with z;omega) (ite_ff rfl (zo yf zb))⟩)
    ·rw[W]
     refine ite_tt rfl (af rfl ⟨a.dm,_,rfl,a6.k (k:=Cv "book") I.lm.hm,.inr (.inr (.inl ⟨rfl,.inr ⟨_,I.lm.hb⟩⟩)),aX rfl rfl ⟨cc,λxh R zc _ xb=>?_⟩⟩);have o:=I.same zc;have xb:R xh=bd (([Cv k,Cv n]:al Key).map kV):=xb;refine⟨a.db,l.kb,[Cv k,Cv n],xh,v,rfl,rfl,o.lm.hb,xb,W,?_⟩;have zt:upd R a.db (.dT (ei l.kb [Cv k,Cv n])) a.db=bn (ei l.kb [Cv k,Cv n]):=ae;have xg:∀c u,c≠a.db->R c=ih u->upd R a.db (.dT (ei l.kb [Cv k,Cv n])) c=ih u:=λc u n e=>by rw[ab n];exact e
     have xu:bo (upd R a.db (.dT (ei l.kb [Cv k,Cv n]))) (ei l.kb [Cv k,Cv n]) (bg l.bI k n):=bo.keep (λc xs e=>xg _ _ (aH e o.lm.hb) e) o.lm.dv.drop (hV N k n).ent
     generalize upd R a.db (.dT (ei l.kb [Cv k,Cv n]))=S at zt xg xu⊢;have zi:∀c u,c≠a.dm->c≠a.df->c≠a.db->R c=ih u->S c=ih u:=λc u _ _ yp e=>xg c u yp e;have yc:=zb.trans zc;have zD:=o.pT zi (bq.same yb.ok yc);have M:LS C D a U L ks ⟨l.wk,l.kf,l.hs,ei l.kb [Cv k,Cv n],bg l.bI k n⟩ g S:=o.pS zi (o.lm.book zt xg xu (hV N k n));refine af rfl ⟨a.x,_,_,rfl,M.hp.hx,rfl,aX rfl rfl (pe.mk rfl M.hp zg yk xe (ba.mpr ⟨_,yt i,rfl⟩) yj λyz us xd xc zl ya xm=>?_)⟩;refine dJ rfl rfl rfl (zk _ _ us _ _ (M.mU xc xm) rfl yo rfl ya (G.pm.filter _) (λq ze=>G.sub q (cU.mp ze).1) (M.mV xc zD) ?_ zl);exact xo.trans ((bt.hW p _ yc).trans ((bt.oN p _ zi).trans (bt.mE p xc)))
   ·refine ite_ff (bS λz=>xp (by injection z)) (ite_ff rfl (af rfl ⟨rfl,_,rfl,?_⟩))
    by_cases zz:xt=1
    ·refine ite_tt (a' (by rw[zz])) (aX rfl rfl ⟨cc,λxf yf zb _ za=>?_⟩)
     have I:=h2.same zb;have za:yf xf=bd (([Cv k,Cv n]:al Key).map kV):=za;refine af rfl ⟨a.dm,_,rfl,a6.k (k:=Cv "book") I.lm.hm,a.db,_,rfl,a6.t (k:=[Cv k,Cv n]) I.lm.hb za,_,rfl,?_⟩;rcases I.lm.dv.look (k:=k) (n:=n) N.nd with⟨i,W⟩|⟨v,d,i,W,xz⟩
     ·rw[W]
      exact ite_ff rfl (zo yf zb)
     ·rw[W]
      refine ite_tt rfl (af rfl ⟨a.x,_,_,rfl,I.hp.hx,rfl,aX rfl rfl (af rfl ⟨a.dm,_,rfl,a6.k (k:=Cv "book") I.lm.hm,aX rfl rfl ⟨cc,λxh R zc _ xb=>?_⟩⟩)⟩);have o:=I.same zc;have xb:R xh=bd (([Cv k,Cv n]:al Key).map kV):=xb;have yc:=zb.trans zc;obtain⟨_,_,xE,_⟩:=id (bq.same yb.ok yc);have zf:=N.ent _ (lu i);refine⟨a.db,v,rfl,by rw[<-W];exact a6.t (k:=[Cv k,Cv n]) o.lm.hb xb,mz.mk rfl xE o.hp zg yk xe (xz.same zc) zf b3 yj λyz yE us xd xc zl zE ya xm=>?_⟩
      refine dJ rfl rfl rfl (zk l _ us _ _ (o.mU xc xm) rfl yo rfl ya (zE.trans ((wJ o.hp.fb.ok.nd (yt i)).trans G.pm)) G.sub (o.mV xc (bq.same yb.ok yc)) ?_ zl);exact xo.trans ((bt.hW p _ yc).trans (bt.mE p xc))
    ·exact ite_ff (bS λz=>zz (by injection z)) (ite_ff rfl (zo H2 (aw.refl _)))
  ·intro zy yh
   have xM:=h2.same yh;have yu:=bq.same yb.ok yh;refine dJ rfl rfl rfl (kC.mk rfl yu (yh _ _ zq) (λz=>by have:=B.nl;rw[z]at this;cases this) (by have:=B.nl;omega) B.nn λv d R zp rep zf _=>?_)
   have o:=xM.ez yu zp;refine af rfl ⟨a.dm,_,rfl,a6.k (k:=Cv "book") o.lm.hm,aX rfl rfl ⟨cc,λxf S zh _ ym=>?_⟩⟩;have M:=o.same zh;have ym:S xf=bd (([Cv k,Cv n]:al Key).map kV):=ym;have zN:l.kb.length<=48:=by have ye:=M.lm.dv.length;have yy:=N.b3;omega
   refine⟨a.db,_,rfl,eI.t (k:=[Cv k,Cv n]) M.lm.hb ym (by rw[aR];omega),?_⟩
   have zu:upd S a.db (.dT (putK l.kb [Cv k,Cv n] v)) a.db=bn (putK l.kb [Cv k,Cv n] v):=ae;have yg:∀c u,c≠a.db->S c=ih u->upd S a.db (.dT (putK l.kb [Cv k,Cv n] v)) c=ih u:=λc u n e=>by rw[ab n];exact e
   generalize upd S a.db (.dT (putK l.kb [Cv k,Cv n] v))=xd at zu yg⊢;have xv:∀b xs,S b=bd xs->xd b=bd xs:=λb xs e=>yg _ _ (aH e M.lm.hb) e
   have xr:Rep xd v d:=zf.keep (rep.same zh) xv;obtain⟨xa,xF,zm⟩:=(bo.keep xv M.lm.dv N.ent).put (k:=k) (n:=n) (v:=v) (d:=d) N.nd xr;have yF:dw xa:=n9 zm (AE N zg xe zf (A7 N G.sub B.k8 B.Cj zd xk));have xj:∀c u,c≠a.dm->c≠a.df->c≠a.db->S c=ih u->xd c=ih u:=λc u _ _ yp e=>yg c u yp e;have xq:LS C D a U L ks ⟨l.wk,l.kf,l.hs,putK l.kb [Cv k,Cv n] v,xa⟩ g xd:=M.pS xj (M.lm.book zu yg xF yF);have zF:=M.pT xj (bq.same zp.ok zh);refine af rfl ⟨a.x,_,_,rfl,xq.hp.hx,rfl,aX rfl rfl (af rfl ⟨a.dm,_,rfl,a6.k (k:=Cv "book") xq.lm.hm,aX rfl rfl ⟨cc,λyM zM xi _ xn=>?_⟩⟩)⟩;have yi:=xq.same xi;have xn:zM yM=bd (([Cv k,Cv n]:al Key).map kV):=xn;have yv:=bq.same zF xi;obtain⟨_,_,xG,_⟩:=id yv;refine⟨a.db,v,rfl,?_,mz.mk rfl xG yi.hp zg yk xe (xr.same xi) zf b3 yj λyz yE us yP yq yG zG ya xH=>?_⟩
   ·have:=a6.t (k:=[Cv k,Cv n]) yi.lm.hb xn
    rw[iu,aI rfl]at this;exact this
   refine dJ rfl rfl rfl (zk _ _ us _ _ (yi.mU yq xH) rfl yo rfl ya (zG.trans (((G.pm.filter _).append_right _).trans zm.symm)) (zA xa zm) (yi.mV yq yv) ?_ yG);exact xo.trans ((bt.hW p _ yh).trans ((bt.oM _ zp).trans ((bt.hW p _ zh).trans ((bt.oN p _ xj).trans ((bt.hW p _ xi).trans (bt.mE p yq))))))
theorem qX{a:al aW}{q:Pd×Pd×Pd}{r:am (Pd×Pj)}:cW (cb a q r) q=ih ((cW a q).getD r):=by
 unfold cb;cases e:cW a q with
 |none =>
  show cW (a++[(q,r)]) q=ih r;unfold cW at e⊢;rw[uk]at e;rw[List.find?_append,e];simp
 |some x=>show cW a q=ih x;exact e
theorem Ai{a:al aW}{q:Pd×Pd×Pd}{r:am (Pd×Pj)}:cb (cb a q r) q r=cb a q r:=by
 show(if (cW (cb a q r) q).isSome=true then cb a q r else cb a q r++[(q,r)])=cb a q r;rw[aI (by rw[qX];rfl)]
theorem FQ{a:al aW}{q:Pd×Pd×Pd}{r:am (Pd×Pj)}{n:Nat}:el (cb a q r) q n=0:=by
 unfold el;rw[qX];rfl
theorem u1{n:Pd}{a b:Bk}(p:a.Perm b)(nd:(b.map a9).Nodup):∀l:al Pd,cZ a n l=cZ b n l
 |[]=>rfl
 |x::r=>by unfold cZ;rw[uF p nd,u1 p nd r]
theorem IE(h:i<line.length+2):∃b,(line++[("" : Pd),""])[i]?=ih b/\(b = "" \/ b∈line):=by
 have a:i<(line++[("" : Pd),""]).length:=by rw[dA];exact h
 refine⟨_,bY a,?_⟩;rcases cQ.mp (eO a) with z|z
 ·exact .inr z
 ·simp only[bU,um,uo,or_self]at z;exact .inl z
theorem K0{G:Prop}{gv C:V->Hp->Prop}(h1:(∀v a,gv v a->C v a)->G)(h2:∀v a,gv v a->C v a):G:=h1 h2
inductive pz(C D:Ph)(vs:List V)(H:Hp)(Q:VK)(E:XK):Prop
 |mk{a:La}{U:List (Pd×List Pd)}{L:Pd->List Pd}{ks n6 ig:List Pd}{l:Ll}{g:Lh}{p ln:Ph}{k:Pd}(_:vs=[.ref a.x,.ref p,.ref a.dm,.str k,.ref ln])(_:LS C D a U L ks l g H)(_:RS ks n6 l g)(_:FX U ks n6 ig)(_:bq p H)(_:H ln=ih (.lst (ig.map V.str)))(_:k∈ks)(_:∀y∈L k,Nm y)(_:l.hs.length<900)
  (_:∀l' g' Y,LS C D a U L ks l' g' Y->RS ks n6 l' g'->bq p Y->bt a p g.r g'.r H Y->l'.hs.length<=l.hs.length+1->g'.r.dn=g.r.dn->Q (.bl true) Y):pz C D vs H Q E
noncomputable abbrev tD:List Pd:=["_law_house","_law_pot_here","_law_m","_law_kind","_law_names_here"]
noncomputable abbrev L1:List Pd:=["_law_house","_law_pot_here","_law_m","_law_kind","_law_names_here","_law_name","_law_line_here","_law_behind","_law_turn","_law_due","_law_told"]
theorem iL:aZ L1 tD (aF rk):=a8
theorem IF{xv:Ph}{zl:Ta}(F:aP K "_law_found" "_law_found" rk f fd)(T:et K mg C)(B:cP mg)
  (yv:bb P w K mg base ao 1 fD dD ["_law_pot_here","_law_many"] gn "_law_digit")
  (yI:bb P w K mg base ao 1 fK dK tm pj "_law_look")
  (zv:aM P w K mg base ao 5 xv zl jG (my C D)) (xw:Meth K C "found" xv) (zI:Binds K zl jG []) (zC:Binds K zl jG [.str "" tk])
  (xJ:aM P w K mg base ao 1 fW dW ["self"] (js C D)) (yJ:Meth K C "walked" fW) (zJ:Binds K dW ["self"] []):aM P w K mg base ao 6 f fd tD (pz C D):=by
 refine F.bG iL λQa A zN s H vs Q E yw h=>?_
 ·obtain @⟨a,U,L,ks,xK,zp,l,g,p,yK,k,rfl,h,xm,yf,zf,xq,xb,xD,xO,q⟩:=h
  have zw:=yw.units;have zh:=dr zw;have xi:aS 5 _:=yw;have zc:aS 1 _:=xi.mono (by decide)
  intro X;refine⟨_,aq (bf 5 iL.nd (aV cX (pv 4) (aT yv zc (aa (pv 1) (aa ak ag)))))
   (aq (bf 6 iL.nd (bK zh (bK zh (pv 2) aY) (pv 3)))
   (aq (bf 7 iL.nd (aV cX (bE j' (pv 6) (oz (aa aY (aa aY ag)))) (aT yv zc (aa (pv 1) (aa (bE fh (bp ef rfl B.len d3 (aa (pv 6) ag)) ak) ag)))))
   (aq (e7 eP rfl (ir rfl B.range (aa ak ag)) (a4 8 iL.nd)
    (aq (bf 9 iL.nd (aT yI zc (aa (pv 2) (aa (pv 3) (aa (pv 5) (aa (pv 7) ag))))))
    (aq (bf 10 iL.nd (di (pv 0) T.cl xw zv xi zI .nil b7 (aa (pv 3) (aa (pv 5) (aa (pv 7) ag)))))
    (aq (bQ (PW.pt (pw_and (bx c9 (pv 7) aY (bA _)) (pw_and1 (bx c9 (pv 8) ak (bA _)))))
     (aE (bf 10 iL.nd (di (Qf:=[.str ""]) (pv 0) T.cl xw zv xi zC (.cons ⟨_,rfl⟩ .nil) b7 (aa (pv 3) (aa (pv 5) ag))))) bZ)
    (aE (bQ (PW.pt (pw_or (bx (kc zw) (pv 10) (pv 9) (bA _)) (pw_or1 (bx jk (nM (pv 0) T.cl yJ xJ zc zJ .nil b7) (bK zh (pv 2) aY) (bA _))))) (aE (aU gZ)) bZ))))))
   (aE (aU gZ))))),?_⟩
  obtain⟨xg,zK,xx⟩:=h.lm.ln k xb;have xP:=h.lm.l8 k xb;refine aX rfl rfl (cy (p:=p) (m:=8) zf (by decide) (by decide) λyP O xL zP yb=>?_)
  obtain⟨j,rfl⟩:=eZ xL;have yD:j<zp.length:=by have:=yf.nl;omega
  obtain⟨n,yx⟩:∃n,zp[j]?=ih n:=⟨_,bY yD⟩;have ym:=yf.nn n (eF yx);have zx:=yf.Ck k xb;have yq:=(yf.kk k).mp xb;have zB:=yb.kp _ _ xq (dg zf xq);have h1:=h.ez zf yb;have zq:=yb.kp _ _ xx (dg zf xx);refine iR zB (b6 (by rw[cR,yx];rfl)) ?_
  refine af rfl ⟨a.dm,_,rfl,a6.k (k:=Cv "lines") h1.lm.hm,af rfl ⟨a.dl,.ref xg,rfl,by rw[<-zK];exact a6.k (k:=Cv k) h1.lm.hl,?_⟩⟩
  refine af rfl ⟨cc,λyL H2 xy _ zD=>?_⟩;have xE:=xy _ _ zq;refine⟨xg,yL,_,_,rfl,rfl,xE,zD,by rw[aR];simp;omega,λzm yE=>?_⟩
  have yy:=aA (o:=.lst ((L k).map V.str++[V.str "",V.str ""])) yE;have yi:upd H2 zm (.lst ((L k).map V.str++[V.str "",V.str ""])) zm=bi ((L k++[("" : Pd),""]).map V.str):=by rw[ae,bC];rfl
  generalize upd H2 zm (.lst ((L k).map V.str++[V.str "",V.str ""]))=xQ at yy yi⊢;have xd:=xy.trans yy;have zi:=bq.same yb.ok xd;refine aX rfl rfl ⟨xg,_,rfl,.inl (aj.of (xd _ _ zq)),_,_,rfl,rfl,?_⟩;rw[aK];refine cy (p:=p) (m:=((L k).length:Int)+2) zi (by omega) (by omega) λyQ zy zL zQ yg=>?_
  obtain⟨xM,rfl⟩:=eZ zL;obtain⟨b,yM,yd⟩:=IE (line:=L k) (i:=xM) (by omega)
  have zE:=yg.kp _ _ yi (dg zi yi);refine iR zE (b6 (by rw[cR,yM];rfl)) ?_
  have zM:LS C D a U L ks l g zy:=(h1.same xd).ez zi yg;have xN:bt a p g.r g.r H zy:=(bt.oM _ yb).trans ((bt.hW p _ xd).trans (bt.oM _ yg));obtain⟨R,xz⟩:∃R,b4 g.bk n (bz (L k) b)=R:=⟨_,rfl⟩;obtain⟨N,yz⟩:∃N,cZ g.bk n (bz (L k) b)=N:=⟨_,rfl⟩;have xr:=h.lm.ok;have xF:b4 l.bI n (bz (L k) b)=R:=by rw[<-xz,wD xm.pm xr.nd]
  have yF:cZ l.bI n (bz (L k) b)=N:=by rw[<-yz,u1 xm.pm xr.nd]
  refine⟨2,rfl,by decide,by decide,jV (λi σ W=>∃(t:Ll) (G:Lh) (xn yn xj:am V),σ=[a2 a.x,a2 p,a2 a.dm,ih (.str k),a2 yK,ih (.str n),a2 xg,ih (.str b),xn,yn,xj]/\LS C D a U L ks t G W/\RS ks xK t G/\bq p W/\bt a p g.r G.r H W/\(t.hs=l.hs\/t.hs=cb l.hs (k,n,b) R)/\G.r.dn=g.r.dn/\t.bI=l.bI/\G.bk=g.bk)
   ⟨l,g,none,none,none,rfl,zM,xm,yg.ok,xN,.inl rfl,rfl,rfl,rfl⟩ ?_ ?_⟩
  ·rintro i σ W hi ⟨t,G,xn,yn,xj,rfl,zb,I,yj,zn,zd,xe,ye,ze⟩
   have xC:cb t.hs (k,n,b) R=cb l.hs (k,n,b) R:=by
    rcases zd with z|z
    ·rw[z]
    ·rw[z,Ai]
   have zF:t.hs.length<=901:=by
    rcases zd with z|z
    ·rw[z];omega
    ·rw[z];have:=nS l.hs (k,n,b) R;omega
   have yr:b4 t.bI n (bz (L k) b)=R:=by rw[ye];exact xF
   have xG:cZ t.bI n (bz (L k) b)=N:=by rw[ye];exact yF
   have zj:b4 G.bk n (bz (L k) b)=R:=by rw[ze];exact xz
   have yG:cZ G.bk n (bz (L k) b)=N:=by rw[ze];exact yz
   refine Bo rfl rfl rfl rfl (pj.mk rfl zb.lm xb yd (by omega) λxo xk zz zG zr yk za=>?_)
   rw[yr,xG]at zr;rw[yr]at yk za;have yh:∀c u,c≠a.dm->c≠a.df->c≠a.db->W c=ih u->zz c=ih u:=λc u n1 yN _ e=>zG c u n1 yN e;have xc:LS C D a U L ks ⟨t.wk+(el t.hs (k,n,b) N:Int),xk,cb t.hs (k,n,b) R,t.kb,t.bI⟩ G zz:=zb.pS yh zr;have xH:=zb.pT yh yj;refine af rfl ⟨a.x,_,_,rfl,xc.hp.hx,rfl,dJ rfl rfl rfl (my.mk rfl xc.hp zx yq ym yd (by rw[<-I.eh];omega) λyo xA M zg xt yt zk yO=>?_)⟩
   rw[zj,yG]at yt;rw[zj,<-I.eh]at zk;obtain⟨S,zt⟩:∃S,(cW t.hs (k,n,b)).getD R=S:=⟨_,rfl⟩;rw[zt]at yk zk za;have Y:=xc.mU zg yt;have xu:=xc.mV zg xH;have yp:dM M xo S:=yk.keep (λb xs e=>zg.1 _ _ (λz=>(xc.hp.big z).tup e rfl) e) λx d z=>(za x d z).2;have yu:bt a p g.r xA H M:=zn.trans ((bt.oN p _ yh).trans (bt.mE p zg));have xl:=FE za;have yH:(cb G.hs (k,n,b) R).length<10000:=by have:=nS G.hs (k,n,b) R;rw[I.eh]at zF;omega
   apply K0 (gv:=λv yc=>∃J:Hr,LS C D a U L ks ⟨t.wk+(el t.hs (k,n,b) N:Int),xk,cb t.hs (k,n,b) R,t.kb,t.bI⟩ ⟨J,G.bk,cb G.hs (k,n,b) R,G.m+(el G.hs (k,n,b) N:Int)⟩ yc/\bq p yc/\bt a p g.r J H yc/\J.dn=g.r.dn/\dM yc v S/\dM yc xo S)
   ·intro zo
    have yA:∃J:Hr,LS C D a U L ks ⟨t.wk+(el t.hs (k,n,b) N:Int),xk,cb t.hs (k,n,b) R,t.kb,t.bI⟩ ⟨J,G.bk,cb G.hs (k,n,b) R,G.m+(el G.hs (k,n,b) N:Int)⟩ M/\bq p M/\bt a p g.r J H M/\J.dn=g.r.dn/\dM M yo S/\dM M xo S:=⟨xA,Y,xu,yu,xt.trans xe,zk,yp⟩;refine af rfl ⟨rfl,_,rfl,?_⟩
    by_cases xp:b = ""
    ·refine ite_tt (a' (by rw[xp])) (af rfl ⟨rfl,_,rfl,?_⟩)
     by_cases zA:i=1
     ·refine ite_tt (a' (by rw[zA];rfl)) (af rfl ⟨a.x,_,_,rfl,Y.hp.hx,rfl,aX rfl rfl (my.mk (b:=b) (by rw[xp];rfl) Y.hp zx yq ym yd yH λzH J xB xa yl zu xf zO=>?_)⟩)
      have yB:b4 G.bk n (bz (L k) b)=R:=zj;rw[yB,Ai,FQ,C4,qd]at zu;rw[yB,qX,Option.getD_some,<-I.eh,zt]at xf;refine zo zH xB ⟨J,Y.mU xa zu,Y.mV xa xu,yu.trans (bt.mE p xa),yl.trans (xt.trans xe),xf,yp.keep (λb xs e=>xa.1 _ _ (λz=>(Y.hp.big z).tup e rfl) e) λx d z=>(za x d z).2⟩
     ·exact ite_ff (bS λz=>zA (by injection z;omega)) (zo yo M yA)
    ·exact ite_ff (bS λz=>xp (by injection z)) (ite_ff rfl (zo yo M yA))
   ·rintro v xB ⟨J,xh,xI,xa,yl,xf,yC⟩
    refine aX rfl rfl ⟨outD S,outD S,xf.rep,yC.rep,xl.1,xl.1,by omega,?_⟩
    rw[C7 _ xl.1];refine⟨_,rfl,ite_ff rfl (af rfl ⟨a.x,_,_,rfl,xh.hp.hx,rfl,js.mk rfl xh.hp (af rfl ⟨a.dm,_,rfl,a6.k (k:=Cv "walked") xh.lm.hm,rfl,_,rfl,ite_ff ?_ ?_⟩)⟩)⟩
    ·show(!decide (V.int (G.m+(el G.hs (k,n,b) N:Int))=V.int (t.wk+(el t.hs (k,n,b) N:Int))))=false
     rw[I.eh,I.ew,a' rfl];rfl
    ·refine⟨_,_,_,_,_,rfl,xh,⟨?_,?_,by show G.bk.Perm t.bI;exact I.pm,I.sub,λz ya=>?_⟩,xI,xa,.inr xC,yl,ye,ze⟩
     ·show cb t.hs (k,n,b) R=cb G.hs (k,n,b) R
      rw[I.eh]
     ·show t.wk+(el t.hs (k,n,b) N:Int)=G.m+(el G.hs (k,n,b) N:Int)
      rw[I.eh,I.ew]
     ·replace ya:z∈cb t.hs (k,n,b) R:=ya
      unfold cb at ya;split at ya
      ·exact I.ok z ya
      ·rcases cQ.mp ya with y|y
       ·exact I.ok z y
       ·rw[dR.mp y]
        exact⟨hY ym,yd.elim (λe=>by rw[e];exact(show PX ("" : Pd)=true from by decide +kernel)) λe=>hY (xD b e)⟩
  ·rintro σ W ⟨t,G,xn,yn,xj,rfl,zb,I,yj,zn,zd,xe,ye,ze⟩
   refine q t G W zb I yj zn ?_ xe;rcases zd with z|z
   ·rw[z];omega
   ·rw[z];exact nS ..
def f7(p:Row3):Pj:=.tuple [.str p.1,.str p.2.1,.str p.2.2]
theorem fA.rep{rows:al Row3}(h:fA H vs rows):b5 H vs (rows.map f7):=by
 induction h with
 |nil=>exact .nil
 |cons h _ b =>
  obtain⟨a,rfl,q⟩:=h;exact .cons (.tup q (.cons (.str _) (.cons (.str _) (.cons (.str _) .nil)))) b
theorem wK:∀{rows:al Row3},(∀p∈rows,PX p.1=true/\PX p.2.1=true/\PX p.2.2=true)->SS (rows.map f7)=true/\Pz (rows.map f7)<=5
 |[],_=>⟨by decide +kernel,by decide +kernel⟩
 |p::r,h=>by
  obtain⟨a,d⟩:=wK λq b=>h q (bL _ b);obtain⟨h1,h2,c⟩:=h p bJ;refine⟨?_,?_⟩
  ·show((PX p.1&&(PX p.2.1&&(PX p.2.2&&true)))&&SS (r.map f7))=true
   rw[h1,h2,c,a];rfl
  ·show max (f7 p).depth (Pz (r.map f7))<=5
   have:(f7 p).depth<=5:=by
    show Pz [.str p.1,.str p.2.1,.str p.2.2]+1<=5;simp only[Pz,Te];omega
   omega
theorem EO{a b:al Row3}(d:(a.map gx).Pairwise λx y=>c2 x y=true)(e:(b.map gx).Pairwise λx y=>c2 x y=true)(p:a.Perm b):a=b:=by
 rw[p5]at d e;refine Xb (λx y _ _ h1 h2=>?_) d e p;have:=rB (a:=gx x) (b:=gx y) (c:=gx x) rfl rfl h1 h2;rw[wB]at this;cases this
theorem cu.ents{a:al aW}(h:cu H kvs a):∀p∈a,iJ p.2:=by
 induction h with
 |nil=>intro p b;cases b
 |@cons _ p _ _ e _ c =>
  intro q d;rcases bU.mp d with z|z
  ·rw[z];exact e.2.2
  ·exact c q z
theorem Hc{b:al aW}{k:Pd}(h:cu H kvs b)(ok:∀h∈b,PX h.1.2.1=true/\PX h.1.2.2=true):∀p∈g8 b k,PX p.1=true/\PX p.2.1=true/\PX p.2.2=true:=λp c=>by
 unfold g8 at c;obtain⟨q,a,rfl⟩:=ba.mp c;have a:=(cU.mp a).1;refine⟨(ok q a).1,(ok q a).2,?_⟩;cases e:q.2 with
 |none=>exact(show PX ("" : Pd)=true from by decide +kernel)
 |some y=>exact hY (h.ents q a y.1 y.2 e).1
noncomputable abbrev BR:List Pd:=["_law_script","_law_pot_here","_law_alike","_law_words","_law_names_here","_law_lines","_law_parents_here","_law_m","_law_house","_law_k","_law_look_here","_law_kind","_law_told"]
theorem fu:aZ BR ["_law_script"] (aF mr):=a8
abbrev L3:QD:=eb (Bw (gK (cH (bD mr) 10)))
theorem BS:bO BR (aF mr) ["_law_kind","_law_house","_law_m"] [none,ih 8,ih 7] (ck L3):=cL
inductive kE(K:Tx)(vs:List V)(H:Hp)(Q:VK)(E:XK):Prop
 |mk{a:Ph}{ns:List Int}(_:vs=[.ref a])(_:aj K H a (ns.map V.int))(_:ns.length<=63)(_:∀Y,Q (.bl true) Y):kE K vs H Q E
theorem AI{ns:al Int}{k:Int}{E:XK}(h:aj K H a (ns.map V.int))(c:0<=k)(d:k<=100)(e:ns.length<=63)(q:∀p Y,H p=none->bq p Y->aw H Y->Q (.ref p) Y):oB K [.ref a,.int k] H Q E:=⟨rfl,h,c,d,e,λp x y b f g i=>q p _ b ⟨x,y,ae,f,g,i⟩ (aA b)⟩
theorem FR(h:aj K H a xs)(s:aw H Y):aj K Y a xs:=by
 rcases h with(h|⟨o,h⟩)|h
 ·exact .inl (.inl (s _ _ h))
 ·exact .inl (.inr ⟨o,s _ _ h⟩)
 ·exact .inr h
theorem K1{a:Hp}(S:aw O H2)(c:O p=none)(d:bh p H2 a):aw O a:=λb u e=>d.kp _ _ (S _ _ e) (ar e c)
theorem bt.sq{a:La}{l:Ll}{g:Lh}{j:Hr}(h:LS C D a U L ks l g H)(M:bt a p g.r j H Y)(c:H p=none)(e:aj K H b xs):aj K Y b xs:=by
 have d:=h.lm.big a.dm (by simp)
 have f:=h.lm.big a.df (by simp)
 have i:=h.lm.big a.db (by simp)
 rcases e with(e|⟨o,e⟩)|e
 ·exact .inl (.inl (M b _ (ar e c) (d.lst e) (f.lst e) (i.lst e) (λz=>(h.hp.big z).lst e rfl) e).1)
 ·exact .inl (.inr ⟨o,(M b _ (ar e c) (d.aG e) (f.aG e) (i.aG e) (λz=>(h.hp.big z).aG e rfl) e).1⟩)
 ·exact .inr e
theorem IG{fP fF fH fO z8 x9:Ph}{dP dH dO y9 z9:Ta}(F:aP K "law" "law" mr f fd)(B:cP mg)(zO:e9 mg)(B3:sA mg)(T:et K mg C)
  (GP:bb P w K mg base ao 1 fP dP ["_law_script","_law_k"] (oB K) "_law_pot")
  (xq:bb P w K mg base ao 1 fD dD ["_law_pot_here","_law_many"] gn "_law_digit")
  (GN:bb P w K mg base ao 3 fN dN ["_law_pot_here","_law_many"] nZ "_law_names")
  (GF:bb P w K mg base ao 3 fF dF ["_law_pot_here","_law_kinds"] oW "_law_family")
  (GT:bb P w K mg base ao 1 fT dT ["_law_parents_here"] oX "_law_family_tuple")
  (GK:bb P w K mg base ao 5 fK dK r7 ot "_law_book")
  (GB:bb P w K mg base ao 1 fB dB ["_law_book_here"] oY "_law_book_tuple")
  (GH:bb P w K mg base ao 7 fH dH ["world"] (ph C D) "house_of")
  (GL:bb P w K mg base ao 1 fL dL tu mD "_law_kept")
  (GO:bb P w K mg base ao 6 fO dO tD (pz C D) "_law_found")
  (GE:bb P w K mg base ao 8 fE dE tx (pw C D) "_law_done")
  (GR:aM P w K mg base ao 1 z8 y9 ["self"] (oK C D)) (MR:Meth K C "reckoned" z8) (bR:Binds K y9 ["self"] [])
  (GW:aM P w K mg base ao 1 fW dW ["self"] (js C D)) (MW:Meth K C "walked" fW) (bW:Binds K dW ["self"] [])
  (GX:aM P w K mg base ao 4 x9 z9 ["self","kind"] (mB C D)) (MX:Meth K C "kept_finds" x9) (bX:Binds K z9 ["self","kind"] []) :
  aM P w K mg base ao 9 f fd ["_law_script"] (kE K):=by
 refine F.bG fu λQa A ad s H vs Q E hr h=>?_
 ·obtain @⟨a,sc,rfl,hS,yY,q⟩:=h
  have xP:=hr.units;have zY:=dr xP;have yg:aS 8 _:=hr;have L4:aS 7 _:=yg.mono (by decide)
  have L5:aS 6 _:=yg.mono (by decide)
  have L6:aS 5 _:=yg.mono (by decide)
  have x0:aS 4 _:=yg.mono (by decide)
  have y0:aS 3 _:=yg.mono (by decide)
  have Y:aS 1 _:=yg.mono (by decide)
  intro X;refine⟨_,aq (bf 1 fu.nd (aT GP Y (aa (pv 0) (aa ak ag))))
   (aq (bf 2 fu.nd (aT xq Y (aa (pv 1) (aa ak ag))))
   (aq (bf 3 fu.nd (aT GN y0 (aa (pv 1) (aa ak ag))))
   (aq (bf 4 fu.nd (aV cX (oz (aa (gj iz (pv 3) gk (gm ak)) (aa (gj iz (pv 3) (gm ak) gk) ag))) (bp (qu rfl) rfl B.min boot_min (aa (pv 2) (aa ak ag)))))
   (aq (lY (aT GF y0 (aa (pv 1) (aa (gj iz (pv 3) gk (gm (bE fh ak (aT xq Y (aa (pv 1) (aa ak ag)))))) ag))) (j8 rfl (dd (a4 5 fu.nd) (dd (a4 6 fu.nd) hQ))))
   (aq (fg (i:=7) fu.nd rfl (TC rfl) (Gs (lH aY (pv 5) (lH aY ix (lH aY nN (lH aY ix (lH aY ak Gr))))) rfl rfl (by intro z;cases z) (by decide)))
   (aq (hR zY (pv 7) aY (aT GK L6 (aa (pv 1) (aa (dU (ny rfl) rfl B.list boot_list (aa (pv 5) ag)) (aa (gj iz (pv 4) gk (gm (bE fh ak (aT xq Y (aa (pv 1) (aa ak ag)))))) ag)))) rfl)
   (aq (fg (i:=8) fu.nd rfl (TC rfl) (aT GH L4 (aa (fq (aa (aT GT Y (aa (pv 6) ag)) (aa (aT GB Y (aa (bK zY (pv 7) aY) ag)) (aa (fq ag) ag)))) ag)))
   (aq (e7 eP rfl (D7 rfl B.range (aa ak (aa (bE fh (bp (qu rfl) rfl B.min boot_min (aa (bp ef rfl B.len d3 (aa (pv 0) ag)) (aa ak ag))) ak) ag))) (a4 9 fu.nd)
    (aq (bf 1 fu.nd (aT GP Y (aa (pv 0) (aa (pv 9) ag))))
    (aq (bf 10 fu.nd (fZ rS (aT xq Y (aa (pv 1) (aa ak ag))) ak (bA _)))
    (aq (bf 11 fu.nd (aV cX (dU (ny rfl) rfl B.list boot_list (aa (pv 5) ag)) (aT xq Y (aa (pv 1) (aa (bp Ex rfl B.len d3 (aa (pv 5) ag)) ag)))))
    (aq (bQ (PW.pt (pw_and (eT (pv 10)) (pw_and1 (eU (eT (aT GO L5 (aa (pv 8) (aa (pv 1) (aa (pv 7) (aa (pv 11) (aa (pv 4) ag))))))))))) (aE (aU gZ)) bZ)
    (aq (bQ (eU (eT (pv 10))) (aE (cB (aT GE yg (aa (pv 8) (aa (pv 1) (aa (pv 7) (aa (pv 11) (aa (pv 4) ag)))))))) bZ)
    (aq (bf 12 fu.nd (di (pv 8) T.cl MX GX x0 bX .nil b7 (aa (pv 11) ag)))
    (aq (bQ (PW.pt (pw_or (eU (eT (bp gA rfl zO.gQ gC (aa (pv 12) (aa (gD (v:=.ty "list") rfl B.list boot_list rfl) ag))))) (pw_or1 (bx (kc xP) (pv 12) (aT GL Y (aa (pv 7) (aa (pv 11) ag))) (bA _))))) (aE (aU gZ)) bZ)
    (aE (cB (Ht lg PySem.F.slot_list_clear PySem.F.type_list_clear E2 (pv 12))))))))))))
   (aq (bQ (PW.pt (pw_or (eU (eT (bp gA rfl zO.gQ gC (aa (nM (pv 8) T.cl MW GW Y bW .nil b7) (aa (gD (v:=.ty "int") rfl B3.int boot_int rfl) ag))))) (pw_or (eT (bp gA rfl zO.gQ gC (aa (nM (pv 8) T.cl MW GW Y bW .nil b7) (aa (gD (v:=.ty "bool") rfl B3.bool boot_bool rfl) ag)))) (pw_or1 (bx jk (nM (pv 8) T.cl MR GR Y bR .nil b7) ak (bA _)))))) (aE (aU gZ)) bZ)
   (aE (aU (Ak (bp (qz rfl) rfl B.any boot_any (aa (cY rfl BS (nX (pv 5)) (λs H fp=>⟨a4 0 BS.nd,dV,fZ (kc xP) (di (pv 1) T.cl MX GX x0 bX .nil b7 (aa (pv 0) ag)) (aT GL Y (aa (pv 2) (aa (pv 0) ag))) (bA _)⟩)) ag)))))))))))))),?_⟩
  refine af rfl (AI (k:=0) hS (by decide) (by decide) yY λp O L7 pk S1=>?_)
  refine af rfl (cy (p:=p) (m:=4) pk (by decide) (by decide) λxj H2 a0 a1 p2=>?_)
  refine af rfl (nZ.mk rfl (m:=16) p2.ok (by decide) λyq ys yP QK QL zF xG p3 yl=>?_)
  have P3:=p2.trans p3;have L8:yq≠p:=dg p3.ok yl;refine af rfl ⟨8,rfl,yq,_,rfl,aj.of yl,λzq yG=>?_⟩;rw[show(8:Int)=((8:Nat):Int) from rfl,rP,<-uj];have zP:=aA (o:=.lst ((ys.take 8).map V.str)) yG;have z0:upd yP zq (.lst ((ys.take 8).map V.str)) zq=bi ((ys.take 8).map V.str):=ae;generalize upd yP zq (.lst ((ys.take 8).map V.str))=x1 at zP z0⊢;refine af rfl ⟨8,rfl,yq,_,rfl,aj.of (zP _ _ yl),λxr L9=>?_⟩;rw[show(8:Int)=((8:Nat):Int) from rfl,lO,<-qb];have xQ:=aA (o:=.lst ((ys.drop 8).map V.str)) L9;have x2:upd x1 xr (.lst ((ys.drop 8).map V.str)) xr=bi ((ys.drop 8).map V.str):=ae;generalize upd x1 xr (.lst ((ys.drop 8).map V.str))=QM at xQ x2⊢;refine⟨cc,λlp H4 yQ _ L'=>?_⟩;obtain⟨zl,M,Ma,zV,zG⟩:∃(zl:Ph) (M:al Pd),cT [V.ref zq,V.ref xr] (if (1:Int)<xj then 1 else xj)=ih (.ref zl)/\H4 zl=bi (M.map V.str)/\(M=ys.take 8\/M=ys.drop 8):=by
   by_cases e:xj=0
   ·exact⟨zq,_,by rw[e];rfl,yQ _ _ (xQ _ _ z0),.inl rfl⟩
   ·exact⟨xr,_,by
     have:(if (1:Int)<xj then 1 else xj)=1:=by split <;> omega
     rw[this];rfl,yQ _ _ x2,.inr rfl⟩
  refine af rfl ⟨xj,1,rfl,iR L' Ma ?_⟩;have xH:=zP.trans (xQ.trans yQ);have yo:=bq.same P3.ok xH;have K2:=xH _ _ yl;have iX:M.length=8:=by rcases zG with z|z <;> rw[z] <;> simp <;> omega
  have x3:∀y∈M,Nm y:=λy W=>by
   rcases zG with z|z
   ·rw[z]at W;exact zF y (lh W)
   ·rw[z]at W;exact zF y (C2 W)
  have QN:M.Nodup:=by
   rcases zG with z|z
   ·rw[z];exact xG.sublist (k5 _ _)
   ·rw[z];exact xG.sublist (List.drop_sublist _ _)
  refine dJ rfl rfl rfl (cy (p:=p) (m:=8) yo (by decide) (by decide) λdk H5 b0 b1 xz=>⟨1,dk,rfl,rfl,_,rfl,yq,_,rfl,aj.of (xz.kp _ _ K2 L8),λlk yH=>?_⟩)
  obtain⟨xm,rfl⟩:=eZ b0;have ek:d9 (ys.map V.str) none (ih (1+(xm:Int)))=(ys.take (1+xm)).map V.str:=by
   rw[show(1+(xm:Int))=((1+xm:Nat):Int) by omega,rP,uj]
  rw[ek];obtain⟨ks,yv⟩:∃ks,ys.take (1+xm)=ks:=⟨_,rfl⟩;have kl:ks.length=1+xm:=by rw[<-yv,cj];omega
  have knd:ks.Nodup:=by rw[<-yv];exact xG.sublist (k5 _ _)
  have zg:∀x∈ks,Nm x:=λx xa=>zF x (by rw[<-yv]at xa;exact lh xa)
  have yz:ks.length<=8:=by omega
  have Mb:ks ≠ []:=λz=>by rw[z,jN]at kl;omega
  rw[yv];have zQ:=(bh.refl xz.ok).new (o:=.lst (ks.map V.str)) yH;have xW:upd H5 lk (.lst (ks.map V.str)) lk=bi (ks.map V.str):=ae;have xD:=(aA (o:=.lst (ks.map V.str)) yH) _ _ (xz.kp _ _ zV (dg yo zV));have S6:=aA (o:=.lst (ks.map V.str)) yH;generalize upd H5 lk (.lst (ks.map V.str))=H6 at zQ S6 xW xD⊢;refine oW.mk rfl zQ.ok xW knd zg yz λr R yj N jw L Ps S I=>⟨r,_,rfl,aO.of I.hr,rfl,_,_,rfl,_,_,rfl,rfl,?_⟩;have K3:=I.pa.kp _ _ xD (dg zQ.ok xD);intro dm zo;refine af rfl λbr yd=>λdf zk=>λa7 yk=>⟨?_,?_,?_⟩
  ·rw[ab (ar (by rw[ab (ar (ae (H:=S) (a:=dm) (o:=.dK [])) yd)];rw[ae]) zk |> λz=>ar (by rw[ab z,ab (ar (ae (H:=S) (a:=dm) (o:=.dK [])) yd),ae]) yk),ab (ar (by rw[ab (ar (ae (H:=S) (a:=dm) (o:=.dK [])) yd),ae]) zk),ab (ar (ae (H:=S) (a:=dm) (o:=.dK [])) yd),ae]
  ·show 5<=Pk
   rw[aR];decide
  dsimp only
  generalize xh:upd (upd (upd (upd (upd S dm (.dK [])) br (.dK [])) df (.dT [])) a7 (.dK [])) dm (.dK (kH [] ["lines","homes","finds","numbers","walked"] [.ref R,.ref br,.ref df,.ref a7,.int 0]))=yb;replace xh:=xh.symm;have yf:∀{b:Ph}{u:HO},S b=ih u->yb b=ih u:=λ{b u} e=>by
   have n1:=ar e zo;have ym:upd S dm (.dK []) b=ih u:=by rw[ab n1];exact e
   have xR:=ar ym yd;have zz:upd (upd S dm (.dK [])) br (.dK []) b=ih u:=by rw[ab xR];exact ym
   have n3:=ar zz zk;have e3:upd (upd (upd S dm (.dK [])) br (.dK [])) df (.dT []) b=ih u:=by rw[ab n3];exact zz
   have n4:=ar e3 yk;rw[xh,ab n1,ab n4];exact e3
  have yW:dm≠br:=ar (ae (H:=S) (a:=dm) (o:=.dK [])) yd;have zH:dm≠df:=ar (by rw[ab yW,ae]) zk
  have yD:dm≠a7:=ar (by rw[ab zH,ab yW,ae]) yk
  have K4:df≠a7:=ar (ae (H:=upd (upd S dm (.dK [])) br (.dK [])) (a:=df) (o:=.dT [])) yk;have xI:yb dm=bm [(Cv "lines",.ref R),(Cv "homes",.ref br),(Cv "finds",.ref df),(Cv "numbers",.ref a7),(Cv "walked",.int 0)]:=by rw[xh,ae];rfl
  have zv:yb df=bn []:=by rw[xh,ab (aQ zH),ab K4,ae]
  have y3:yb a7=bm []:=by rw[xh,ab (aQ yD),ae]
  have Mc:aw S yb:=λb u e=>yf e;have yc:∀{b:Ph}{u:HO},S b=ih u->b≠dm:=λe=>ar e zo;have xw:∀{b:Ph}{u:HO},S b=ih u->b≠df:=λe=>ar (by rw[ab (ar (by rw[ab (ar e zo)];exact e) yd),ab (ar e zo)];exact e) zk
  have yI:∀{b:Ph}{u:HO},S b=ih u->b≠a7:=λe=>ar (by rw[ab (xw e),ab (ar (by rw[ab (yc e)];exact e) yd),ab (yc e)];exact e) yk
  clear xh yd zk yk;have yw:=bq.same I.pa.ok Mc;have zI:=yf I.h1;have xv:=yf K3;refine aX rfl rfl ⟨R,N,rfl,zI,λyh zD=>?_⟩;have xJ:N.map (λxd=>kV xd.1)=ks.map V.str:=by
   have:N.map (λxd=>kV xd.1)=(N.map (·.1)).map kV:=by rw[hF];rfl
   rw[this,I.k1,hF];rfl
  rw[xJ];have xA:=aA (o:=.lst (ks.map V.str)) zD;have xE:upd yb yh (.lst (ks.map V.str)) yh=bi (ks.map V.str):=ae;generalize upd yb yh (.lst (ks.map V.str))=HD at xA xE⊢;have yJ:=bq.same yw xA;have zW:=xA _ _ xv;refine aX rfl rfl (cy (p:=p) (m:=6) yJ (by decide) (by decide) λdn HE c0 c1 yA=>⟨1,dn,rfl,rfl,_,rfl,zl,_,rfl,aj.of (yA.kp _ _ zW (dg yJ zW)),λza Md=>?_⟩)
  obtain⟨xb,rfl⟩:=eZ c0;have en:d9 (M.map V.str) none (ih (1+(xb:Int)))=(M.take (1+xb)).map V.str:=by
   rw[show(1+(xb:Int))=((1+xb:Nat):Int) by omega,rP,uj]
  rw[en];have zA:=aA (o:=.lst ((M.take (1+xb)).map V.str)) Md;have xX:upd HE za (.lst ((M.take (1+xb)).map V.str)) za=bi ((M.take (1+xb)).map V.str):=ae;generalize upd HE za (.lst ((M.take (1+xb)).map V.str))=HF at zA xX⊢;have Me:=bq.same yA.ok zA;have zJ:∀b u,b≠p->yb b=ih u->HF b=ih u:=λb u n e=>zA _ _ (yA.kp _ _ (xA _ _ e) n);have Mf:(M.take (1+xb)).length<=6/\M.take (1+xb)≠ []:=by
   have:(M.take (1+xb)).length=1+xb:=by rw[cj];omega
   exact⟨by omega,λz=>by rw[z,jN]at this;omega⟩
  refine ot.mk rfl (p:=p) Me ⟨zA _ _ (yA.kp _ _ xE (dg yJ xE)),Mb,by omega,zg⟩ ⟨xX,Mf.2,by omega,λy W=>x3 y (lh W)⟩ λd kvs xK zj z3 pG zm=>?_
  have yK:∀b u,b≠p->yb b=ih u->zj b=ih u:=λb u n e=>pG.kp _ _ (zJ b u n e) n;have nd:∀{b:Ph}{u:HO},HF b=ih u->b≠d:=λe=>ar e z3;have xn:∀{b:Ph},fe yb b->b≠p:=λz=>yw.big z;have zK:=yK _ _ (xn (gp xI)) xI;refine af rfl ⟨dm,_,rfl,eI.k (k:=Cv "book") zK (by show 5<Pk;rw[aR];decide),?_⟩
  have zw:upd zj dm (.dK (putK [(Cv "lines",.ref R),(Cv "homes",.ref br),(Cv "finds",.ref df),(Cv "numbers",.ref a7),(Cv "walked",.int 0)] (Cv "book") (.ref d))) dm=bm (mK R br df a7 0 d):=by rw[ae];rfl
  have xl:∀b u,b≠dm->zj b=ih u->upd zj dm (.dK (putK [(Cv "lines",.ref R),(Cv "homes",.ref br),(Cv "finds",.ref df),(Cv "numbers",.ref a7),(Cv "walked",.int 0)] (Cv "book") (.ref d))) b=ih u:=λb u n e=>by rw[ab n];exact e
  generalize upd zj dm (.dK (putK [(Cv "lines",.ref R),(Cv "homes",.ref br),(Cv "finds",.ref df),(Cv "numbers",.ref a7),(Cv "walked",.int 0)] (Cv "book") (.ref d)))=xe at zw xl⊢;have bH:fe zj dm:=gp zK;have yX:∀b xs,zj b=bd xs->xe b=bd xs:=λb xs e=>xl _ _ (bH.tup e) e;have ye:∀b u,b≠p->b≠dm->yb b=ih u->xe b=ih u:=λb u n1 xR e=>xl _ _ xR (yK _ _ n1 e);have x4:=ye _ _ (xn (gp zI)) (yc I.h1) zI;have y4:=yf I.h2;have zh:=ye _ _ (xn (gp y4)) (yc I.h2) y4;have z4:=ye _ _ (xn (ku zv)) (aQ zH) zv;have x5:=ye _ _ (xn (gp y3)) (aQ yD) y3;have zX:=ye _ _ (dg yw xv) ((gp xI).lst xv) xv;have lst:∀{b:Ph}{xs:al Pd},S b=bi (xs.map V.str)->xe b=bi (xs.map V.str):=λe=>ye _ _ (dg yw (yf e)) (yc e) (yf e);have ya:h3 xe d kvs xK ks (M.take (1+xb)):=⟨xl _ _ (aH zm.hb zK) zm.hb,bo.keep yX zm.dv zm.ok.ent,zm.ok,zm.sub⟩
  have QO:bq p xe:=by
   obtain⟨x,y,e,r⟩:=pG.ok;exact⟨x,y,xl _ _ (bH.lst e) e,r⟩
  have Mg:df≠d:=ar (zJ _ _ (xn (ku zv)) zv) z3;have Mh:∀x∈ks,c3 xe jw Ps x:=λx xa=>let ⟨a,e,z⟩:=I.l2 x xa;⟨a,e,lst z⟩;refine af rfl (oX.mk rfl zh I.k2 knd yz Mh λt o ws U HI xx Mi Mj Ml xL=>af rfl ⟨dm,_,rfl,a6.k (k:=Cv "book") (xx _ _ (ar (I.h2) zo |> aQ) zw),oY.mk rfl (xx _ _ (aH ya.hb zh) ya.hb) ?_ ya.ok λtb wb bk HJ SJ Mm Mn y5 QP=>⟨by show 0<=Pk;exact bw _,λtt HK yR _ Mo=>⟨eK,λwd HL xB _ Mp=>?_⟩⟩⟩)
  ·exact bo.keep (λb xs e=>xx _ _ (aH e zh) e) ya.dv ya.ok.ent
  have yx:=SJ.trans (yR.trans xB);have ze:∀b u,b≠yj->xe b=ih u->HL b=ih u:=λb u n e=>yx _ _ (xx _ _ n e);have xV:∀b xs,xe b=bd xs->HL b=bd xs:=λb xs e=>ze _ _ (aH e zh) e
  have Mq:hZ U L:=(I.fm.Jh knd zg yz).perm xL;refine ph.mk rfl Mp ⟨yx _ _ Mi,Mj,Ml.same yx,Mq,(yR.trans xB) _ _ Mm,a3.same (yR.trans xB) Mn,n9 y5 ya.ok⟩ (xB _ _ Mo) λx r zR SM own Mr hp=>?_;have zd:∀b u,b≠yj->xe b=ih u->zR b=ih u:=λb u n e=>SM _ _ (ze b u n e);have m2:dm≠yj:=aQ (yc I.h2);have f2:df≠yj:=aQ (xw I.h2);have u2:a7≠yj:=aQ (yI I.h2);have b2:d≠yj:=aH ya.hb zh
  have zu:∀x,x∈ks ↔ x∈U.map (·.1):=λx=>by
   constructor
   ·intro xa;exact ba.mpr ⟨(x,Ps x),xL.mem_iff.mpr (ba.mpr ⟨x,xa,rfl⟩),rfl⟩
   ·intro xa
    obtain⟨q,yB,e⟩:=ba.mp xa;obtain⟨y,W,zz⟩:=ba.mp (xL.mem_iff.mp yB);rw[<-e,<-zz];exact W
  have l8:∀x∈ks,(L x).length<=200:=λx xa=>hp.fb.b3 ((zu x).mp xa);have K5:∀x∈ks,∀y∈L x,y∈ks:=λx xa=>(I.fm.ld x xa).2;obtain⟨J,xf⟩:∃J:La,J=⟨x,dm,R,br,df,a7,d,N⟩:=⟨_,rfl⟩;have Ms:LS C D J U L ks ⟨0,[],[],kvs,xK⟩ ⟨r,bk,[],0⟩ zR:=by
   subst xf;refine⟨⟨zd _ _ m2 zw,zd _ _ I.Cc x4,I.k1,λx xa=>let ⟨a,e,z⟩:=I.l1 x xa;⟨a,e,zd _ _ (aH (lst z) zh) (lst z)⟩,zd _ _ u2 x5,zd _ _ f2 z4,.nil,zd _ _ b2 ya.hb,bo.keep (λb xs e=>SM _ _ (xV b xs e)) ya.dv ya.ok.ent,ya.ok,Mg,aQ (yc I.h1),yD,yI I.h1,jO,l8⟩,hp,λy W z=>?_⟩
   have e:=own y z;simp only[bU,um,uo]at W;rcases W with rfl|rfl|rfl|rfl|rfl
   ·rw[ze _ _ m2 zw]at e;cases e
   ·rw[ze _ _ I.Cc x4]at e;cases e
   ·rw[ze _ _ u2 x5]at e;cases e
   ·rw[ze _ _ f2 z4]at e;cases e
   ·rw[ze _ _ b2 ya.hb]at e;cases e
  have Mt:RS ks (M.take 6) ⟨0,[],[],kvs,xK⟩ ⟨r,bk,[],0⟩:=⟨rfl,rfl,y5,λq yB=>⟨(ya.sub q yB).1,by
   obtain⟨j,hj,ej⟩:=C8.mp (ya.sub q yB).2;exact C8.mpr ⟨j,by omega,ej⟩⟩,λh hh=>by cases hh⟩
  have z5:FX U ks (M.take 6) M:=⟨yz,by rw[cj];omega,zg,zu,iX,x3,λj y hj e=>by
   obtain⟨hl,xS⟩:=bT.mp e;exact C8.mpr ⟨j,by omega,xS⟩⟩
  have K6:=zd _ _ (aH zX zh) zX
  have JS:aw H zR:=λb u e=>by
   have n:=ar e L7;have e4:=xH _ _ (P3.kp _ _ (S1 _ _ e) n);have e6:=S6 _ _ (xz.kp _ _ e4 n);have eA:=I.pa.kp _ _ e6 n;exact zd _ _ (ar e6 I.n2) (ye _ _ n (yc eA) (yf eA))
  have x6:=FR hS JS;have zc:J.x=x:=by rw[xf]
  have zx:J.dm=dm:=by rw[xf]
  have xi:J.dl=R:=by rw[xf]
  have xy:J.kl=N:=by rw[xf]
  have QQ:N.length=ks.length:=by have:=dc TV I.k1;rwa [aK,aK]at this
  have s6:∀y∈ks,∀z∈L y,Nm z:=λy W z yS=>zg z (K5 y W z yS);have Mu:J.dl≠J.dm:=by rw[xf];exact yc I.h1
  have K7:J.dl≠J.df:=by rw[xf];exact xw I.h1
  clear zd ze xV ye zJ yK lst yf yc xw yI yX xl yx own xf;have hk:∀{i:Nat},i<ks.length ->∃y,ks[i]?=ih y/\y∈ks:=λh=>⟨_,bY h,eO h⟩;have yV:∀{H:Hp}{l:Ll}{g:Lh}{rows zC:al Row3}{k:Pd},LS C D J U L ks l g H->RS ks (M.take 6) l g->rows.Perm (g8 g.hs k)->zC.Perm (g8 l.hs k)->((rows.map gx).Pairwise λa b=>c2 a b=true)->((zC.map gx).Pairwise λa b=>c2 a b=true)->zC=rows/\SS (rows.map f7)=true/\Pz (rows.map f7)<=5:=λh rs zS p2 s1 s2=>by
   rw[<-rs.eh]at zS;exact⟨EO s2 s1 (p2.trans zS.symm),wK λz yS=>Hc h.lm.fv rs.ok z (zS.mem_iff.mp yS)⟩
  refine af rfl ⟨a,_,rfl,.inl x6,_,_,rfl,_,_,rfl,rfl,_,_,rfl,?_,jV (λi σ G=>∃(l:Ll) (g:Lh) (xT yT yL zL xM:am V),σ=[a2 a,xT,ih (.int xj),a2 yq,a2 zl,a2 R,a2 yj,a2 dm,a2 x,yT,yL,zL,xM]/\LS C D J U L ks l g G/\RS ks (M.take 6) l g/\aj K G a (sc.map V.int)/\G zl=bi (M.map V.str)/\l.hs.length<=i/\g.r.dn<=(i:Int))
   ⟨_,_,_,none,none,none,none,rfl,Ms,Mt,x6,K6,aN _,by rw[show(Lh.mk r bk [] 0).r.dn=0 from Mr];exact Int.le_refl _⟩ ?_ ?_⟩
  ·refine⟨by decide,by decide,?_,?_⟩ <;> (rw[aK];split <;> omega)
  ·rintro i σ zb hi ⟨l,g,xT,yT,yL,zL,xM,rfl,h1,xp,yM,xo,y6,Mw⟩
   have QG:i<45:=by
    refine eX hi ?_;rw[aK];split <;> omega
   refine aX rfl rfl (AI yM (by omega) (by omega) yY λxk zB yy Mx T2=>?_)
   refine af rfl (cy (p:=xk) (m:=5) Mx (by decide) (by decide) λdq G3 e0 ym q3=>⟨dq,0,rfl,rfl,?_⟩)
   have T3:=K1 T2 yy q3;have yl:=h1.same T3;refine af rfl ⟨R,N,rfl,by rw[<-xi,<-xy];exact yl.lm.hl,λyh zD=>?_⟩
   have xJ:N.map (λxd=>kV xd.1)=ks.map V.str:=by
    have:N.map (λxd=>kV xd.1)=(N.map (·.1)).map kV:=by rw[hF];rfl
    rw[this,I.k1,hF];rfl
   rw[xJ];have zf:=aA (o:=.lst (ks.map V.str)) zD;have yE:upd G3 yh (.lst (ks.map V.str)) yh=bi (ks.map V.str):=ae;generalize upd G3 yh (.lst (ks.map V.str))=G4 at zf yE⊢;have T4:=T3.trans zf;have h4:=h1.same T4;have yo:=bq.same q3.ok zf;refine aX rfl rfl ⟨R,N,rfl,by rw[<-xi,<-xy];exact h4.lm.hl,cy (p:=xk) (m:=(N.length:Int)) yo (by omega) (by omega) λdk G5 f0 f1 xC=>?_⟩
   obtain⟨ik,rfl⟩:=eZ f0;obtain⟨zE,My,yp⟩:=hk (i:=ik) (by omega)
   refine iR (xC.kp _ _ yE (dg yo yE)) (b6 (by rw[cR,My];rfl)) ?_
   have yr:aw zb G5:=λb u e=>xC.kp _ _ (T4 _ _ e) (ar e yy);have h5:=h1.same yr;have Mz:=(zu zE).mp yp
   apply BQ (gv:=λGc=>∃(za:Ll) (xc:Lh),LS C D J U L ks za xc Gc/\RS ks (M.take 6) za xc/\bt J xk g.r xc.r zb Gc/\za.hs.length<=l.hs.length+1/\xc.r.dn<=g.r.dn+1)
   ·intro kk
    refine af rfl ⟨_,rfl,?_⟩
    by_cases lk:0<dq
    ·refine ite_tt (a' lk) (sj rfl rfl rfl rfl rfl (pz.mk (a:=J) (by rw[zc,zx];rfl) h5 xp z5 xC.ok (yr _ _ xo) yp (s6 zE yp) (by omega) λza xc zr xg yi MA xt zM z6=>⟨_,rfl,ite_ff rfl (af rfl ⟨_,rfl,ite_ff (by rw[a' lk];rfl) (kk zr ⟨za,xc,xg,yi,(bt.hW xk _ yr).trans xt,zM,by omega⟩)⟩)⟩))
    ·refine ite_ff (bS lk) (ite_ff rfl (af rfl ⟨_,rfl,ite_tt (by rw[bS lk];rfl) (sj rfl rfl rfl rfl rfl (pw.mk (a:=J) (by rw[zc,zx];rfl) h5 xp z5 xC.ok (yr _ _ xo) yp (by omega) (by omega) λza xc zr xg yi MA xt zM z6=>kk zr ⟨za,xc,xg,yi,(bt.hW xk _ yr).trans xt,by omega,by omega⟩))⟩))
   ·rintro zr ⟨za,xc,xg,yi,xt,zM,z6⟩
    refine af rfl ⟨x,_,_,rfl,zc ▸ xg.hp.hx,rfl,af rfl (mB.mk (by rw[zc];rfl) xg.hp (zg zE yp) Mz (by rw[<-yi.eh];omega) λyt zs rows G7 S7 x7 yn zT xN yN=>?_)⟩
    have zt:=xg.same S7;refine af rfl ⟨⟨_,.inr ⟨"list",rfl⟩⟩,.ref yt,.ty "list",.type "list",.type "list",true,rfl,rfl,.inl (.lst yn),rfl,true,rfl,ite_ff rfl ?_⟩;refine dJ rfl rfl rfl (mD.mk (by rw[zx];rfl) ⟨zt.lm.hm,zt.lm.hf,zt.lm.fv,zt.lm.dZ⟩ (by omega) λMB MC JT G8 xu K8 zN zp xF yF=>?_)
    obtain⟨xU,y1,y2⟩:=yV zt yi xN xF yN yF;rw[xU]at zp;refine⟨.list (rows.map f7),.list (rows.map f7),.lst (xu _ _ yn) (zT.keep λb xs e=>xu _ _ e).rep,.lst zN zp.rep,y1,y1,by show Pz _+1<=60;omega,?_⟩
    rw[C7 (.list _) y1];refine⟨_,rfl,ite_ff rfl (af rfl ⟨.inl ⟨rfl,_,aj.of (xu _ _ yn)⟩,yt,_,rfl,rfl,xu _ _ yn,?_⟩)⟩;have T9:aw zr (upd G8 yt (.lst [])):=λb u e=>by rw[ab (ar e x7)];exact xu _ _ (S7 _ _ e)
    have M9:bt J xk g.r xc.r zb (upd G8 yt (.lst [])):=xt.trans (bt.hW xk _ T9);exact⟨za,xc,_,_,_,_,_,rfl,xg.same T9,yi,bt.sq h1 M9 yy yM,bt.lst M9 h1.lm h1.hp (ar xo yy) xo,by omega,by omega⟩
  ·rintro σ zb ⟨l,g,xT,yT,yL,zL,xM,rfl,h1,xp,yM,xo,y6,Mw⟩
   have QH:l.hs.length<=45:=by
    refine ed y6 ?_;rw[aK];split <;> omega
   have xO:zb x=_:=zc ▸ h1.hp.hx;refine af rfl ⟨x,_,_,rfl,xO,rfl,js.mk (by rw[zc];rfl) h1.hp (iC (p:=x) w0 (.int _) ⟨_,rfl,ite_ff rfl ?_⟩)⟩
   refine af rfl ⟨x,_,_,rfl,xO,rfl,js.mk (by rw[zc];rfl) h1.hp (iC (p:=x) v' (.int _) ⟨_,rfl,ite_ff rfl ?_⟩)⟩
   refine af rfl ⟨x,_,_,rfl,xO,rfl,oK.mk (by rw[zc];rfl) h1.hp ⟨rfl,_,rfl,ite_ff rfl ?_⟩⟩
   refine af rfl ⟨R,N,rfl,.inl ⟨by rw[<-xi,<-xy];exact h1.lm.hl,λo c yU=>?_⟩⟩
   have yG:zb R=bm N:=by rw[<-xi,<-xy];exact h1.lm.hl
   have yO:fe zb R:=gp yG;have zi:∀b u,b≠R->zb b=ih u->upd zb R (.aG o (.dK N)) b=ih u:=λb u n e=>by rw[ab n];exact e
   have xY:upd zb R (.aG o (.dK N)) R=ih (.aG o (.dK N)):=ae;generalize upd zb R (.aG o (.dK N))=zB at zi xY yU⊢;have y7:=h1.ap J.dl (by simp)
   rw[xi]at y7;have pN:HP C D J.x g.r U L g.bk g.hs g.m zB:=h1.hp.keep (λb xs e=>zi _ _ (yO.tup e) e) (λb o u e=>zi _ _ (yO.aG e) e) λb u z e=>zi _ _ (λy=>y7 (y ▸ z)) e;have zy:Ci zB J.dm J.dl J.br J.df J.a7 J.db l.wk l.kf l.hs:=⟨zi _ _ (by rw[<-xi];exact aQ Mu) h1.lm.hm,zi _ _ (by rw[<-xi];exact aQ K7) h1.lm.hf,h1.lm.fv.keep λb xs e=>zi _ _ (yO.tup e) e,h1.lm.dZ⟩
   refine nG (o:=o) (λi ys yC H2=>∃zU:am V,yC=[zU,a2 x,a2 dm]/\H2 c=bi ys/\aw zB H2/\ys=(TH i false).map V.bl) ⟨none,rfl,ae,aA yU,rfl⟩ (λi ys yC H2 ac=>by obtain⟨_,_,z1,z2,_⟩:=ac;exact ⟨z1,z2 _ _ xY⟩) ?_ ?_
   ·rintro i xd ys yC H2 z7 ⟨zU,rfl,h2,zn,rfl⟩
    have MD:i<N.length:=(bT.mp z7).1;obtain⟨y,W,xS⟩:∃y,ks[i]?=ih y/\Cv y=xd.1:=by
     have ym:(N.map (·.1))[i]?=ih xd.1:=by rw[cR,z7];rfl
     rw[I.k1,cR]at ym;obtain⟨y,a,b⟩:=fU.mp ym;exact⟨y,a,b⟩
    have x8:=eF W;rw[<-xS,show kV (Cv y)=V.str y from rfl];have y8:=pN.same zn;refine af rfl ⟨x,_,_,rfl,zc ▸ y8.hx,rfl,af rfl (mB.mk (by rw[zc];rfl) y8 (zg y x8) ((zu y).mp x8) (by rw[<-xp.eh];omega) λyt zs rows yP yu x7 yn zT xN yN=>aX rfl rfl (mD.mk (by rw[zx];rfl) ⟨yu _ _ (zn _ _ zy.hm),yu _ _ (zn _ _ zy.hf),zy.fv.keep λb xs e=>yu _ _ (zn _ _ e),zy.dZ⟩ (by omega) λMB MC JT H4 zf K8 zN zp xF yF=>?_))⟩
    obtain⟨xU,y1,y2⟩:=yV h1 xp xN xF yN yF;rw[xU]at zp;refine⟨.list (rows.map f7),.list (rows.map f7),.lst (zf _ _ yn) (zT.keep λb xs e=>zf _ _ e).rep,.lst zN zp.rep,y1,y1,by show Pz _+1<=60;omega,?_⟩
    rw[C7 (.list _) y1];refine⟨zf _ _ (yu _ _ h2),by rw[aK,Cu,aR];omega,cw_next MD ⟨_,rfl,ae,λb u z=>by rw[ab (ar z yU)];exact zf _ _ (yu _ _ (zn _ _ z)),?_⟩⟩
    rw[Qv,bC];rfl
   ·rintro ys yC H2 ⟨zU,rfl,h2,zn,rfl⟩
    refine⟨c,TH N.length false,rfl,aj.of h2,?_⟩;have ea:(TH N.length false).any id=false:=by simp
    rw[ea];exact⟨_,rfl,q H2⟩
end eW
namespace eW
open L2 W
theorem all_mk{l:U5}{yl:Ph}(X:K.In h)(G:h.Ns P5 mg)(xt:mg "law" = ih (.ref yl)){U n:Ph}{V yt zt:VI}{ym:am Ph}{zm:Array (Option CS)}{xn:CS}{yn:Nat}{zn xo:am Ph}{yo:Array (Option CS)}{zo xp yp zp Q xq:CS}
  (hd:pK K [pr "is_name" j3,pr "check_name" ra,pr "is_kind" rg,pr "check_kind" rh,pr "merged" lU,pr "least_free" oh,pr "wish_against" mh,pr "lines_of" ki,pr "line_from" lB,pr "is_behind" qA,pr "check_behind" rb,pr "entries_by_place" lI,pr "is_whole" qM,pr "begins_with_text" rj,pr "is_step" ri,pr "are_steps" lC,pr "is_entry" qN,pr "without_name" lD,pr "name_given" rC,pr "name_taken" rD,pr "house_of" qO,pr "_law_pot" sx,pr "_law_digit" l7,pr "_law_names" jh,pr "_law_merged" gW,pr "_law_line" l9,pr "_law_parents" qB,pr "_law_family" qL,pr "_law_family_tuple" lV,pr "_law_number" rf,pr "_law_step" rZ,pr "_law_entry" ma,pr "_law_book" r0,pr "_law_book_tuple" lJ,pr "_law_look" rE,pr "_law_drop" mc,pr "_law_kept" jo,pr "_law_done" rR,pr "_law_found" rk,pr "law" mr])
  (hz:so K ["len","max","min","abs","range","any","all","list","tuple","enumerate","isinstance","str","dict","sorted","int","bool"])
  (cD:CO K "Finds" D ["lines","entries","hits","met"] [tr "__init__" "Finds.__init__" r1,tr "walk" "Finds.walk" r3,tr "look" "Finds.look" r2,tr "stand" "Finds.stand" rF,tr "drop_name" "Finds.drop_name" lE])
  (cC:CO K "House" C ["held","finds","numbers","begun","deeds","marks"] [tr "__init__" "House.__init__" rG,tr "give" "House.give" rH,tr "take" "House.take" rJ,tr "line" "House.line" rK,tr "walked" "House.walked" qP,tr "reckoned" "House.reckoned" rL,tr "kept_finds" "House.kept_finds" ji,tr "stand" "House.stand" rm,tr "mark" "House.mark" rM,tr "kinds_below" "House.kinds_below" lW,tr "things_below" "House.things_below" lK,tr "forget_name" "House.forget_name" qQ])
  (yq:Ul K (.ref C) "found" = ih (ih (.ref n)))
  (zq:isFn K (.ref n)=true)
  (xr:K.lookup n=ih ⟨zo,zn,.func (fnOf "found" "House.found" (dj j4) (bD j4) (aF j4) (.ref U) xp yp zp xo Q xq),yo⟩)
  (yr:codeIn K Q "House.found" = true)
  (R:Uk K (.ref n)=true)
  (S:K.lookup U=ih ⟨xn,ym,.seq #[.str "" V] yn,zm⟩)
  (xu:nsIn K P5 "MOST_STEPS" = ih (ih (.int 4 yt)))
  (yu:nsIn K P5 "MOST_TIMES" = ih (ih (.int 9 zt))) :
  ∃fd:Ta,(∀(s:Pn) (v:CS),UK s fd ⟨[v],[]⟩ [("_law_script",v)]) /\∀base:To,K.In base->base.Ns P5 mg->aM l.prog w K mg base ao 9 yl fd ["_law_script"] (kE K):=by
 have z:∀x∈_,mg x=none:=w5 X G hz;obtain⟨zu,xv,yv,zv,xw,yw,zw,xx,yx,zx,xy,yy,zy,xz,yz,zz,xA,yA,zA,xB,yB,hP,hD,hN,zB,xC,yC,zC,xD,yD,zD,xE,yE,zE,xF,yF,zF,xG,yG,hL,-⟩:=hd;obtain⟨QR,QS,W,o,p,q⟩:=eR X G zu "thing";obtain⟨QT,QU,zG,B,E,F⟩:=eR X G xv "thing";obtain⟨QV,QW,xH,yH,zH,xI⟩:=gE X G yv "family" "thing";obtain⟨QX,QY,yI,r,t,u⟩:=gE X G zv "family" "thing";obtain⟨ad,Q0,zI,xJ,yJ,zJ⟩:=eR X G xw "rows";obtain⟨Q1,Q2,xK,Q3,yK,zK⟩:=eR X G yw "rest";obtain⟨Q4,Q5,xL,Q6,yL,zL⟩:=gE X G zw "rest" "name";obtain⟨Q7,Q8,xM,yM,zM,xN⟩:=eR X G xx "family";obtain⟨Q9,Q',yN,zN,xO,yO⟩:=i' X G yx "lines" "kind" "parents";obtain⟨Ra,Rb,zO,xP,yP,zP⟩:=gE X G zx "line" "thing";obtain⟨Rc,Rf,xQ,yQ,zQ,xR⟩:=gE X G xy "line" "thing";obtain⟨Rg,Rh,yR,zR,xS,yS⟩:=eR X G yy "book";obtain⟨Ri,Rj,zS,Y,xa,ya⟩:=eR X G zy "thing";obtain⟨Rk,Rl,xT,za,xb,yb⟩:=eR X G xz "thing";obtain⟨Rm,Rn,yT,zT,xU,yU⟩:=eR X G yz "thing";obtain⟨Ro,Rp,zU,xV,yV,zV⟩:=eR X G zz "thing";obtain⟨Rq,Rr,xW,yW,zW,xX⟩:=eR X G xA "thing";obtain⟨Rt,Ru,yX,zb,xc,yc⟩:=i' X G yA "book" "kind" "name";obtain⟨Rv,Rw,zX,xY,yY,zY⟩:=q7 X G zA "family" "book" "kind" "name" "entry";obtain⟨Rx,Ry,x0,y0,z0,x1⟩:=w4 X G xB "family" "book" "kind" "name";obtain⟨Rz,RA,y1,z1,x2,y2⟩:=eR X G yB "world";obtain⟨fP,dP,FP,kP,bP,mP⟩:=gE X G hP "_law_script" "_law_k";obtain⟨fD,dD,N,i,f,g⟩:=gE X G hD "_law_pot_here" "_law_many";obtain⟨fN,dN,FN,kN,bN,mN⟩:=gE X G hN "_law_pot_here" "_law_many";obtain⟨RB,RC,z2,RD,x3,y3⟩:=eR X G zB "_law_rows";obtain⟨RE,RF,z3,x4,y4,z4⟩:=i' X G xC "_law_lines" "_law_kind" "_law_own";obtain⟨RG,RH,x5,y5,z5,x6⟩:=gE X G yC "_law_pot_here" "_law_made";obtain⟨RI,RJ,y6,z6,x7,y7⟩:=gE X G zC "_law_pot_here" "_law_kinds";obtain⟨RK,RL,z7,x8,y8,z8⟩:=eR X G xD "_law_parents_here";obtain⟨RM,RN,x9,zc,xd,yd⟩:=eR X G yD "_law_pot_here";obtain⟨RO,RP,y9,z9,ME,MF⟩:=i' X G zD "_law_pot_here" "_law_names_here" "_law_at";obtain⟨RQ,RT,MG,zd,xe,ye⟩:=i' X G xE "_law_pot_here" "_law_names_here" "_law_at";obtain⟨RU,RV,MH,MI,MJ,MK⟩:=i' X G yE "_law_pot_here" "_law_kinds" "_law_names_here";obtain⟨RW,RX,ML,MM,MN,MO⟩:=eR X G zE "_law_book_here";obtain⟨RY,ae,MP,MQ,MS,MT⟩:=w4 X G xF "_law_m" "_law_kind" "_law_name" "_law_behind";obtain⟨R0,R1,MU,MV,MY,aa⟩:=i' X G yF "_law_m" "_law_kind" "_law_name";obtain⟨R3,R4,M0,M1,M3,M4⟩:=gE X G zF "_law_m" "_law_kind";obtain⟨R5,R6,M5,M6,M7,M8⟩:=q7 X G xG "_law_house" "_law_pot_here" "_law_m" "_law_kind" "_law_names_here";obtain⟨R7,R8,M',Na,Nb,Nc⟩:=q7 X G yG "_law_house" "_law_pot_here" "_law_m" "_law_kind" "_law_names_here";obtain⟨fL,dL,zl,aL⟩:=hL;cases xt.symm.trans (mg_of X G aL)
 have c:∀{x:Pd},x∈_->mg x=none:=λ{x} m=>z x m;have a:cP mg:=⟨c (by decide),c (by decide),c (by decide),c (by decide),c (by decide),c (by decide),c (by decide),c (by decide),c (by decide),c (by decide)⟩
 have d:e9 mg:=⟨c (by decide),c (by decide),c (by decide),c (by decide)⟩
 have xm:sA mg:=⟨c (by decide),c (by decide)⟩
 obtain⟨⟨aD,Nd,Nf,Ng,Nh,Ni,Nj,Nk⟩,Nl,Nn,Np,Nq,Nr,-⟩:=cD;obtain⟨R9,R',Nt,ze,Nu⟩:=lT Nl "self" "lines" "entries";obtain⟨Sa,Sb,Nv,Nw,Nx⟩:=q9 Nn "self" "kind" "name" "behind";obtain⟨Sd,Se,Ny,Nz,NA⟩:=q9 Np "self" "kind" "name" "behind";obtain⟨Sf,Sg,NC,ND,NF⟩:=lT Nq "self" "lines" "entries";obtain⟨Sh,Si,NG,NH,NI⟩:=lT Nr "self" "kinds" "name";obtain⟨⟨aC,NJ,NK,NL,NM,NN,NO,NP⟩,NQ,NR,NS,NT,NU,NV,NW,NX,NY,ab,N0,N1,-⟩:=cC;obtain⟨Sj,Sk,N2,xf,N3⟩:=q8 NQ "self";obtain⟨Sl,Sn,N4,N5,N6⟩:=q9 NR "self" "kind" "name" "entry";obtain⟨So,Sq,N7,N8,N9⟩:=lT NS "self" "kind" "name";obtain⟨Sr,Ss,Oa,Ob,Oc⟩:=j2 NT "self" "kind";obtain⟨Su,Sv,Od,yf,zf⟩:=q8 NU "self";obtain⟨Sw,Sx,Oe,Of,Og⟩:=q8 NV "self";obtain⟨Sy,Sz,Oh,Oi,Oj⟩:=j2 NW "self" "kind";obtain⟨SA,SD,Ol,H,I⟩:=j2 NX "self" "world";obtain⟨SE,SF,Om,xg,yg⟩:=j2 NY "self" "kind";obtain⟨SG,SH,Oo,zg,xh⟩:=j2 ab "self" "kind";obtain⟨SI,SK,Oq,Ot,Ou⟩:=j2 N0 "self" "kind";obtain⟨SN,SO,Ov,yh,zh⟩:=lT N1 "self" "kind" "name";have A:∀{x:Pd},x∈_->Ul K (.ref D) x=ih none:=λ{x} m=>q' Nk m;have k:∀{x:Pd},x∈_->Ul K (.ref C) x=ih none:=λ{x} m=>q' NP m;have e:fz K mg D:=⟨⟨Nd,Nf,Ng,Nh⟩,A (by decide),A (by decide),A (by decide),A (by decide),mg_of X G aD⟩
 have b:et K mg C:=⟨⟨NJ,NK,NL,NM⟩,k (by decide),k (by decide),k (by decide),k (by decide),k (by decide),k (by decide),mg_of X G aC⟩
 have J:=Gp (st:=j4) xr yr R;have Ow:Meth K C "found" n:=⟨yq,zq,R⟩;have Ox:=J.binds (ps:=jG) (ds:=[]) S λ_ _ _ _ _ _ us O=>by
  have P:us.length=4:=by simpa using O
  exact match us,P with | [_,_,_,_],_=>⟨_,rfl,rfl⟩
 have zr:=J.binds (ps:=jG) (ds:=[.str "" V]) S λ_ _ _ _ _ _ us O=>by
  have P:us.length=3:=by simpa using O
  exact match us,P with | [_,_,_],_=>⟨_,rfl,rfl⟩
 obtain⟨_,_,_,_,_,_,_,_,_,rfl,_,_⟩:=zl.ex;exact⟨_,λs v=>.of_eq rfl,λbase _ _ =>
  let xi:=Gx W a d
  let T:=Fw W a d
  let L:=Il zG ⟨xi,o,p,q⟩
  let Oy:=Jw xH d ⟨xi,o,p,q⟩
  let y:=Jx yI ⟨Oy,yH,zH,xI⟩
  let Oz:=Ez zI a xL yL zL xK yK zK
  let OA:=Jc yN a ⟨Oz,xJ,yJ,zJ⟩
  let OB:=Ft xM a ⟨OA,zN,xO,yO⟩
  let OC:=Js yR
  let OD:=Jt zO d
  let OE:=Ju xQ ⟨OD,xP,yP,zP⟩
  let yi:=Fv zS d xm
  let zi:=H' xT a d
  let OF:=Fy yT a (mg_of X G yu) ⟨zi,za,xb,yb⟩ ⟨T,o,p,q⟩ ⟨yi,Y,xa,ya⟩
  let OG:=GS zU a d (mg_of X G xu) ⟨OF,zT,xU,yU⟩
  let OH:=GU xW a ⟨zi,za,xb,yb⟩ ⟨T,o,p,q⟩ ⟨yi,Y,xa,ya⟩ ⟨OG,xV,yV,zV⟩
  let xj:=Im yX a
  let OI:=Io zX a d ⟨y,r,t,u⟩ ⟨L,B,E,F⟩ ⟨OH,yW,zW,xX⟩ ⟨xj,zb,xc,yc⟩
  let OJ:=Ip x0 ⟨y,r,t,u⟩ ⟨L,B,E,F⟩ ⟨xj,zb,xc,yc⟩
  let OK:=G9 Nv e
  let OL:=G' Ny e OK Nw Nx
  let OM:=Iq NC e
  let ON:=Ir NG e
  let OO:=Ik Nt e
  let OP:=Iw N2 b e ⟨Ni,ze.at_,ze.fn,Nj⟩ OO Nu
  let M:=JJ Ol b e ⟨OB,yM,zM,xN⟩ ⟨OC,zR,xS,yS⟩ OM ND NF
  let yj:=JI Om b
  let zj:=JG Oo b e
  let OQ:=JH Oq b zj zg xh
  let xk:=JK Ov b e zj zg xh OQ Ot Ou ON NH NI
  let OR:=JL N4 b ⟨OI,xY,yY,zY⟩ M H I yj xg yg xk yh zh
  let OS:=JM N7 b ⟨OJ,y0,z0,x1⟩ M H I yj xg yg xk yh zh
  let OT:=JE Oa b e ⟨y,r,t,u⟩
  let OU:=JF J b e OT Ob Oc ⟨L,B,E,F⟩ ⟨OE,yQ,zQ,xR⟩ OL Nz NA
  let yk:=Iu Od b e
  let OV:=Iv Oe b
  let OW:=JP Oh d b e ⟨y,r,t,u⟩
  let OX:=JO y1 b ⟨NN,xf.at_,xf.fn,NO⟩ OP N3 M H I
  let j:=qR N
  let OY:=HX x5 a N f g
  let ac:=Jf z3 a z2 x3 y3
  let O0:=Jj y6 a d ⟨OY,y5,z5,x6⟩ ⟨ac,x4,y4,z4⟩
  let O1:=Jk z7 a d
  let GP:=HV FP a
  let GN:=Fo FN a N f g
  let zk:=Ie x9 ⟨j,i,f,g⟩
  let O2:=Ig y9 a ⟨j,i,f,g⟩ ⟨zk,zc,xd,yd⟩
  let xl:=Ih MG a ⟨j,i,f,g⟩ ⟨zk,zc,xd,yd⟩ ⟨O2,z9,ME,MF⟩
  let O3:=GY MH a ⟨j,i,f,g⟩ ⟨xl,zd,xe,ye⟩
  let O4:=Jp ML a d
  let O5:=IA MP
  let O6:=IC MU a
  let O7:=ID M0 d
  let O8:=IF M' b a ⟨j,i,f,g⟩ ⟨O5,MQ,MS,MT⟩ OU Ow Ox zr yk yf zf
  let O9:=JR M5 b ⟨j,i,f,g⟩ ⟨xl,zd,xe,ye⟩ ⟨O6,MV,MY,aa⟩ OR N5 N6 OS N8 N9
  IG zl a d xm b ⟨GP,kP,bP,mP⟩ ⟨j,i,f,g⟩ ⟨GN,kN,bN,mN⟩ ⟨O0,z6,x7,y7⟩ ⟨O1,x8,y8,z8⟩ ⟨O3,MI,MJ,MK⟩ ⟨O4,MM,MN,MO⟩ ⟨OX,z1,x2,y2⟩ ⟨O7,M1,M3,M4⟩ ⟨O8,Na,Nb,Nc⟩ ⟨O9,M6,M7,M8⟩ OV Of Og yk yf zf OW Oi Oj⟩
theorem walk{l:U5}{q:Tj}{d:DefRec}{K:WI->Tx}(e:l.most=ih 63)(c:d.params.defaults=[])
  (g:∀(w:Tw) (h:To),YP w h->(K w.params).In h)
  (F:∀(w:Tw) (mg:Pd->Option CS) (b:Ph) (h:To),(K w.params).In h->h.Ns P5 mg->mg d.name=ih (.ref b) ->
   ∃fd:Ta,(∀(s:Pn) (u:CS),UK s fd ⟨[u],[]⟩ [("_law_script",u)]) /\∀base:To,(K w.params).In base->base.Ns P5 mg->aM l.prog w (K w.params) mg base ao 9 b fd ["_law_script"] (kE (K w.params))) :
  WalkO q Qm XP YP l.row.toRowW d [] (λf vs=>UU f vs):=
 L2.F7 (n:=63) (k:=9) (x:= "_law_script") (CX:=λ_=>ao) (sp:=λw=>kE (K w.params)) e (by decide) c ⟨rfl,by decide,by decide,rfl⟩ g F (λ_ _ a ns i _ j=>kE.mk rfl j i λ_=>rfl) λ_ _ _ _ _ z=>z
end eW
structure PySem.W.Fast:Prop where
 (tw14266485542827695853 tw6001746343178006784 tw13181962154053114276 tw10128190186978771072 tw16366081694023311172 tw5819839325019202018 tw7424374051430024623 tw11977650436464028228 tw14506432042342372294 tw12963644863579701603 tw12512408248569604483 tw14812813486836534180 tw3978255917417025174 tw17294426743673139493 tw8852576934510238118 tw14897659792247641123 tw2505053974504696825 tw9151099824651763412 tw1696667257071435177 tw3840099934762381908 tw12446034532491085276 tw11007776121308408676 tw17312656983238182063 tw17886169539311541542 tw10916901432574040136 tw5091578186232172087 tw889034849331297204 tw5287126468375841967 tw12066687928187295077 tw10264823980672286996 tw2750630646193156219 tw14457163386464539417 tw8446249039523614847 tw13500006792328587747 tw10372069326886186803 tw9524389740393426773 tw18306441209662906647 tw9816889718667290099 tw1876771606674288351 tw13978557400551959818 tw5310829309177067446 tw8933442626198624746 tw12942783034293270436 tw11928815252221618171 tw12701225778075928575 tw1514764915609392673 tw9553039018921707527 tw13300383107432138264 tw4106998051337710318 tw13084680528011718425 tw9581340708554804475 tw15103992309063177244 tw5935355663047409250 tw16964669108805110278 tw4354143018907802791 tw7159120750577075897 tw4389236129514231067 tw13478643609212078270 tw5786658149922019544 tw3139813422767753654 tw906429017144574683 tw12843170947448278410 tw5237275933189099852 tw3312370403371565020 tw2218101309247257984 tw4860260242899078330 tw5450749251561737957 tw389069803381610937 tw10019281060920603023 tw2758337697639123143 tw5424374473740699355 tw12804861952885699379 tw13750433405650444777 tw12567525404712935990 tw8978462436095753091 tw1101874002243339705 tw15795963302968840795 tw14346379706471270283 tw3921180808347779176 tw1518446266965521495 tw3736355542888564394 tw6135505610263753488 tw7765475706029164328 tw13487359850545282107 tw5291569428792819961 tw12267773742020602262 tw16488976533913748639 tw3144101765834729612 tw16193793544838361883 tw9618448979588664841 tw6274131268812543881 tw16338298894929194945 tw6952979657908039860 tw12454958101954269163 tw9819436890194599065 tw18228231154042136485 tw1544743801995968196 tw1686339913012868708 tw4426132802917985929 tw15594855198981978060 tw6112958447993051771 tw9475103995847349411 tw2708497951290017883 tw9120324416456955209 tw14989328184931958486 tw5600407568496926792 tw10920299203538616937 tw16202481125858287326 tw16512199292318602679 tw4940993888692328443 tw15266649216341794596 tw7199042573356339089 tw13583131380168827375 tw13706072218176166531 tw1366050856315026831 tw8254354231959907578 tw11301865758487428079 tw17203622837226900151 tw13231132582155458232 tw16878265449777886320 tw6490752563562756310 tw12460795124160780623 tw13169469738790006662 tw8393814143830327342 tw10136838323150721297 tw4657162629598421032 tw9026524629585006780 tw16859806382387599179 tw13225171988948727138 tw5536096442466331709 tw4976330288321372554 tw3451129981814621201 tw5676079268731690310 tw17859173480908401889 tw2956500011194683364 tw9197483763879853135 tw3889493504527783193 tw11563730006301880952 tw4306428610562002406 tw12910592156591353272 tw2400375469487480989 tw10832753841381383489 tw5365914878948433120 tw16572530584587607208 tw3792155244216887923 tw390460396165247570 tw2176995465925940644 tw13119453973477277743 tw7842408990378291617 tw3668277308281126782 tw15254142066379835119 tw897628138009960081 tw389390584856519737 tw18145340720087105105 tw528503910756272520 tw8882797630257489601 tw14713239943756506864 tw9302535476866609760 tw14121585323465193841 tw10188645365633617776 tw13895055702722604203 tw10133493817505727952 tw5137842720993311602 tw3432596246335846592 tw12347746374479511237 tw2407650825891684110 tw13215456237706635194 tw17623367998020389204 tw17287064338259461400 tw7939699028456056074 tw706970995263459272 tw11158566548133263245 tw8025724529436823139 tw16304140404226244723 tw5520117629361378248 tw15536586713707405312 tw5127388206389197711 tw9758652515737951016 tw16375530353984739271 tw16765794404461911358 tw7527710778642567610 tw17756249532112450370 tw11357949372154792292 tw15753265962327096692 tw14242262803733331376 tw14755981193955924821 tw15437181047618624038 tw9472376405088830333 tw8714238403312754521 tw2794319667987561508 tw3399993449620536611 tw12235092179824463314 tw8509879086378520419 tw8274055481164798612 tw10419196554104912560 tw12946827816388152970 tw4191686927777214144 tw6584070318401924153 tw9224272088887026654 tw16342865386967559270 tw346471069830502476 tw10014464912155105386 tw4175411363830483769 tw7209981325361600126 tw5679371425702425032 tw6435132676818014068 tw17743596370652257156 tw12449544114411049621 tw13116241179680657750 tw8542556015131455731 tw3173401978240102378 tw6696477481182484092 tw14488783324346173044 tw1276618670827262032 tw13875231676472292740 tw356381172658103128 tw15401230400427237289 tw3807758418589530623 tw11065800605526077374 tw18327130417156934865 tw17101709822814725470 tw14791656023646110021 tw15282786579266889596 tw7468709818144584583 tw11023292696760038811 tw18434643633491187059 tw2814836338146097061 tw2485458249038500308 tw3445109760449719721 tw17122239858226214970 tw10569113259901082964 tw2488586001875425864 tw2718636996722308572 tw12550028423355515047 tw12048746574013506198 tw3482330416360080401 tw12768452888717067593 tw17869907922464991685 tw7804885323470535835 tw16164371268982397310 tw11525458399961888474 tw4349082178280135361 tw17187636257476510793 tw12124998467885302630 tw2472095943762496259 tw10901997085799391467 tw4882684330795276581 tw6253576253522806719 tw13894402103734369228 tw4574335655778240386 tw6937531006107865707 tw11715628967684156399 tw16886944595957287406 tw11834316636858575784 tw12632121463420657825 tw6388396100270501509 tw17756362374308910290 tw6803320879117272683 tw5952872203720657073 tw11643016588056183673 tw10213253421559731130 tw9444238514917054825 tw10290202058023846336 tw18124078435322917339 tw6507753623800217305 tw1985907708146970729 tw8922936711973376497 tw2439609872331283243 tw17592400793721896669 tw14831920149970678672 tw9236328821351386125 tw11469161120699786523 tw3539102159356094610 tw6899336363727453950 tw2834275022363404768 tw16340568259650580327 tw13374970629367400358 tw2022861985104079602 tw14843013623121143371 tw15640085472309308631 tw1213523474522818783 tw6575411233634007654 tw6601953153220212621 tw34943078638228586 tw2098373840811513383 tw3067146502983497359 tw16020912514679093239 tw949082105506732313 tw2206595156676550775 tw16851569455885370936 tw12115894248575169534 tw6552441303821214049 tw11891723572289515137 tw4194689497939397376 tw1418060162735293451 tw7045593438398172780 tw17072307210607479783 tw9979676375138398587 tw15961797961774889910 tw11133557428237603796 tw8894147133665417150 tw10556794691614701183 tw16997020393388399573 tw12367046402657312615 tw8154614935500197750 tw9977129647022070293 tw16597606567360234017 tw2952096872135882378 tw16756057543401779399 tw1379110549417732207 tw1021618521078767319 tw15515356360046510062 tw15041777082720838778 tw10084636970652470181 tw1801101131715028786 tw7023728051766837713 tw10266860025792376238 tw3397755138671748979 tw4997329718072516944 tw17779534274790299157 tw1900555341277479634 tw17375784054037221304 tw6986215235452379320 tw15247555964165773246 tw5287449548542661711 tw390715334392548539 tw6283930973213692513 tw13201431162000973932 tw6274784112116566713 tw9998421941787558827 tw4183585961200769266 tw13260675395202252065 tw7620688751493026774 tw17851143202848003798 tw949246550507383330 tw14218317124465072617 tw5377214143275309191 tw7587901516248650603 tw13533677545073659559 tw7721643024340098441 tw8773583485443133179 tw13188859167568163649 tw7281181595989761060 tw15044809287034064393 tw2159804772495930654 tw13546881334456939000 tw8251904096152826335 tw17457264547855127444 tw10182231573252386275 tw12502660559381640820 tw3450817039963509725 tw6257928304317934873 tw17171753400445001151 tw3597886616687111681 tw12490616515009761764 tw4530361791126206371 tw12340430362599196879 tw11547933119007205735 tw10539711749004730582 tw4458005291271078814 tw4973429523313705560 tw6926846549606993876 tw7481716055458304000 tw18081841160659089522 tw9525071070969289064 tw15584221619482435131 tw9596965366511204073 tw5033921052038849890 tw4025386083793558276 tw8132206978401709541 tw13552876067926580221 tw5375692898556287273 tw15644463064937742842 tw17880469936156953090 tw16995262030981279729 tw14828936155155980626 tw6841981702647267181 tw15774360900847281797 tw10764337701814876637 tw12536306566267994575 tw5026750989594678320 tw13367573362105215960 tw16373966378955891983 tw14145022706726874550 tw2881168779633314168 tw927924443261651168 tw12226888943749616119 tw17701629948725675344 tw7130174741214558930 tw1218154304129604283 tw11744863682482244677 tw16547401036226484031 tw2196617350333711662 tw11360694660657239597 tw17989306731119044540 tw2176110290753580614 tw88841629032088788 tw390896400721439370 tw7441407429578209840 tw7688640296041164463 tw2317343327177923206 tw8172743895476284243 tw5745161286044585663 tw8720396861529478797 tw7275312101940751400 tw9991523733098761412 tw13944415430402231257 tw6297148193757085373 tw10841551069608734778 tw5422377941689020641 tw13298941420582606038 tw12517980474602934159 tw12401040459492902351 tw6917795892577076733 tw4845562934106773294 tw17795952471734571792 tw11864093918986048124 tw3665370417754748176 tw3808641758331826964 tw10688886026461742853 tw7573219576510827402 tw2904009520936459658 tw5421911279577095365 tw16600436618699814644 tw313960501871066064 tw17690690680167489523 tw11654894854199601339 tw16786063803658426756 tw8925039124317646996 tw3236802039195150393 tw3152204411536595542 tw1863856235385827794 tw6437907093894825949 tw16614990604557029056 tw12347322329016559077 tw3303805146464437204 tw5094923714933215879 tw2814361751386639406 tw5132029002003170487 tw620071189585952086 tw16349545887871039949 tw10470698216052198379 tw10490249018225011178 tw16939172181852753510 tw10453006753009914244 tw5085924164770840222 tw9655199718820199436 tw8324498321433938316 tw8744797867292187954 tw17487692750132734572 tw15414498317312328155 tw16713890895507986528 tw1799791751390343439 tw17217113945806472420 tw15760980808720761934 tw1931578373106933471 tw4493343828761611478 tw14231955116865794034 tw13846123723937224095 tw1265869226399329084 tw11799564321753318862 tw16730758454379527868 tw2210373179800928834 tw7757457895798989302 tw1053997803662539370 tw4337815017067734680 tw14940846156824610901 tw6656546812081298181 tw13482667600891993915 tw14995626778271499654 tw7125701232675975703 tw16913381791947102597 tw11329459819275839830 tw17716704697946671355 tw17692615091170047191 tw12147728687253493898 tw16597676270065899177 tw12225187075166203205 tw14654961341966671339 tw2040170715483467926 tw14794973663667576538 tw1692810708075902188 tw1653251578453675173 tw9866707959860809859 tw11029850304263733261 tw848385687868231828 tw2459086318812261571 tw70600558127356014 tw3583607739500856693 tw5637992950995642740 tw13746285705387259610 tw4356759385135459169 tw955500584957259406 tw17690161095797556876 tw15896253270766470698 tw18131166361780772480 tw15975855544131003050 tw15214740893054051349 tw17808414164637915568 tw18030270070574168451 tw11586237680058393390 tw6102283488658650208 tw8548893474946813696 tw2539940805246336849 tw110617329207361849 tw3223854561097205210 tw7367549668955914942 tw7796184982856363843 tw16945828860591986679 tw12728132050057548156 tw10076750949296112466 tw11726470156864377002 tw7341014336736057213 tw6984374082199421391 tw2218300980292122617 tw8719675597824396598 tw561646929591515222 tw9560778865048156801 tw14874044787419929567 tw13912493375853619701 tw9261103068183764066 tw5410422684119185232 tw10111441706620162614 tw17944522440663032272 tw7394914116177823795 tw10156171532550629974 tw9517440016905472374 tw13389193144508995958 tw16325682923850330234 tw1496051942205264786 tw14676607383270905533 tw4875845158015776377 tw7354574382940826278 tw8423613554168816221 tw7101101906929334148 tw2418696363936714597 tw6691450313433472537 tw766690229510685730 tw7576037903073496465 tw5549280376539841095 tw7645511882787468840 tw16600516166582474962 tw4219208352564366229 tw8575538548161612322 tw182090699962725808 tw368498411260377554 tw3381306418722091026 tw6247072876727343487 tw6462682986745680330 tw6929838389219992237 tw11518133448287170394 tw4296860494502730121 tw16886940795086553403 tw2490154164336116123 tw11073295414575912400 tw17148159682581877044 tw123894376323637404 tw991326621586897337 tw6555631649755963255 tw11648683926899319852 tw12488210052116809984 tw11902281856799565294 tw13404261297218260053 tw11477886719886370154 tw17815138133308751934 tw9670434085110397833:True)
open W PyProof.Rows
set_option maxRecDepth 100000 in
set_option maxHeartbeats 0 in
theorem PySem.Challenge.cw_parentlines_k61_finds_kept_holds : PySem.Challenge.rw_parentlines_k61_finds_kept.Holds := by
 w_on;o_law;k_head;(case hw=>w_witness2)
 k_fill
 refine eW.walk (l:=VG) rfl rfl (λw h Y=>PySem.W.kIn_of Y) ?F
 case F =>
  intro w mg fa h KX G O';refine' eW.all_mk KX G O' ?d ?z ?cD ?cC ?K9 ?K' ?Lb ?Lc ?Ld ?Le ?Pa ?Pb
  (case d=>(repeat (refine' L2.I9 ?a ?l ?c ?k ?_;(case a=>k_is);(case l=>k_is);(case c=>k_is);(case k=>k_is)));exact trivial)
  (case z=>(repeat' first|exact trivial|refine Uo ?_ ?_) <;> k_is)
  (case cD|cC=>refine' ⟨⟨?a,?_,?_,?_,?_,?_,?_,?n⟩,?m⟩;(case a=>k_is);(case n=>(repeat' first|exact trivial|refine Uo ?_ ?_) <;> k_is);(case m=>(repeat (refine' L2.I' ?a ?i ?l ?c ?k ?_;(case a=>k_is);(case i=>k_is);(case l=>k_is);(case c=>k_is);(case k=>k_is)));exact trivial);all_goals k_is)
  (case K9=>k_is)
  (case K'=>k_is)
  (case Lb=>k_is)
  (case Lc=>k_is)
  (case Ld=>k_is)
  (case Le=>k_is)
  (case Pa=>k_is)
  (case Pb=>k_is)
