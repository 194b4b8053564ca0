import PyProof.Rows.All
import Wide.All
import OpenK.AllK
import Wide.FinOn
import Lean
import PyProof.EqAt
import PyProof.EqKinds
import PyProof.TupleCall
import PyProof.ReprRoads
import PyProof.ReprBulk
import PyProof.EnumMake
import PyProof.EnumFor
import KE.KRevSl
import KE.KDictList
import PyProof.ZipIter
import PyProof.AttrMissHeap
import KE.KDictOf
import KE.KItemsList
import PyProof.Rows.ZipGen
import PyProof.CallFns
import PyProof.StrWalks
import PyProof.FString5
import KE.KSortTup
import PyProof.SetRoads
import PyProof.SetNew
import PyProof.Rows.SetFrom
import PyProof.WalksMore
import PyProof.ForAny
import PyProof.DictWalks
import PyProof.NsDelKeeps
import PyProof.StrCalls
import PyProof.ListMulRoad
import PyProof.AutoSeq1
import PyProof.FactsAll.tuple
import PyProof.FactsAll.tuple_2
import PyProof.P3Eq
import PyProof.MeetsDict
import KE.KEqDict
import PyProof.DictItemsLoops
import KE.KPairComp
import PySem.Challenge.RW_parentlines_k36_finds_refused
set_option Elab.async false
set_option linter.all false
set_option maxRecDepth 100000
set_option maxHeartbeats 4000000
open PySem renaming wpAny_bind->ae,wpAny_pure->ak,sizeLine_eq->aQ,wpAny_holding->eR,boot_len->gs,wpAny_newObj_type->gJ,wpAny_call_entry->ji,codeAny_builtin->j9,wpAny_truthy_bool->kR,wpAny_setState_of->kX,wpAny_mono->lZ,plainId_quiet->l8,wpAny_askSetting->mf,wpAny_standAt->nG,wpAny_rule->nH,wpAny_typeOf->nL,wpAny_setField_rec->nQ,mem_of_lookup->oR,wpAny_field->sS,call_meets->sV,wpAny_passesOwn->vS,codeAny_mono->vV,wpAny_callSpecial?_slot->vX,wpAny_attempt->vY,wpAny_execs_nil->zw,wpAny_load->zx,wpAny_pyIter_list->zy,wpAny_call->zA,wpAny_Call_Name_kw->zB,wpAny_dictEntries->zM,wpAny_dictEpoch->zN,wpAny_fieldsOf->Dy,wpAny_throw->Dz,wpAny_pyIter_slot->DB,seqIndex_of->Lg,wpAny_noRaise->Lh,wpAny_getItem_str_slice->Lj,post_val_or_str->Lk,tupleKind_room_in1->Lu,typeLookup_type->Lw,builtinLookup_eq_fast->Lx,wpAny_notOrdered_dict->Lz,wpAny_newList->LD,fits_of_scanBound->LF,wpAny_of_eq->LH,wpAny_isInstance->LI,wpAny_typeNameOfWhole_keyiter->LL,wpAny_typeNameOf_keyiter->LM,wpAny_typeNameOfWhole_itemiter->LO,wpAny_typeNameOf_itemiter->LP,wpAny_eqBool_str->Va,wpAny_pyNext_list_item->Vf,wpAny_pyNext_list_end->Vg,wpAny_loadPart->Vj,noFill_tuple_add->Vo,seq_tuple_add->Vp,wpAny_comprehension_free->Vx,codeAny_of_tree->VJ,wpAny_runValue->VL,isSubtype_type->VM,wpAny_handled->VN,isSubtype_stop->VO,wpAny_ite_split->VQ,wpAny_setField->VS,size_of_entries->VT,wpAny_isOneOf_itemiter->VV,evalArgs_none->amk
open List renaming length_map->aE,mem_cons_self->bu,getElem?_eq_getElem->bC,mem_cons->bH,mem_cons_of_mem->bO,mem_map->bT,map_append->bZ,map_cons->ck,getElem?_eq_some_iff->cz,size_toArray->cE,length_cons->cO,take_length->cQ,length_take->cT,take_succ->dg,getElem?_map->eK,mem_append->ff,length_append->fu,mem_singleton->fw,mem_filter->f6,getElem_mem->f9,mem_append_right->gr,lookup_cons->iI,nodup_cons->iZ,mem_of_getElem?->jH,getD_eq_getElem?_getD->jI,length_filter_le->jJ,filter_append->jK,all_eq_true->j8,mem_range->kO,mem_append_left->kQ,append_nil->kS,nodup_append->l9,map_map->md,not_mem_nil->mh,length_singleton->nN,nodup_nil->qC,filter_cons_of_pos->qE,length_pos_iff->qF,length_drop->sT,any_cons->sU,length_nil->sX,filter_cons_of_neg->tm,take_sublist->vW,mem_of_mem_take->wc,mem_filterMap->zv,drop_eq_getElem_cons->zG,any_eq_true->zH,find?_cons->zI,eq_nil_of_length_eq_zero->zK,map_drop->zO,length_range->Dw,all_map->Dx,map_congr_left->DC,filter_cons->DK,getElem?_append_right->Lf,any_map->Lo,getElem_of_mem->Lq,drop_zero->Lr,getElem_toArray->Ls,take_append_drop->Ly,nodup_iff_pairwise_ne->LA,pairwise_map->LC,range_succ->LG,getElem?_eq_none->LJ,length_eq_one_iff->LQ,sum_cons->LR,take_of_length_le->LS,mem_of_mem_drop->LV,filterMap_cons->Vb,getElem?_set_self->Vc,getElem?_set_ne->Vd,any_eq_false->Vh,of_mem_zip->Vl,getElem?_append_left->Vm,append_assoc->Vv,lookup_append->Vw,length_erase_of_mem->Vy,length_pos_of_mem->Vz,mem_erase_of_ne->VA,ext_getElem->VG,drop_length->VX,filter_eq_self->VZ,map_take->V0,drop_of_length_le->amo,length_eraseIdx->amy,length_filter_lt_length_iff_exists->amT,countP_eq_length_filter->amY,perm_ext_iff_of_nodup->amZ,length_dropLast->am0,cons_lt_cons_iff->am1,filter_sublist->am2
open Nat renaming le_refl->aO,ne_of_lt->bx,zero_le->bR,lt_of_lt_of_le->gI,le_trans->gW,ne_of_gt->nI,lt_trans->nO,le_succ->oQ,lt_irrefl->qA,lt_succ_self->vU,lt_succ_of_lt->v8,not_lt_zero->zJ,le_of_lt->Du,lt_of_succ_lt_succ->DA,le_antisymm->Lv,not_lt->VC,sub_zero->VE
open PySem.Heap renaming get?_push_of_some->a8,lt_size->bo,get?_push_size->cj,size_push->l6,get?_update_other->zD,get?_update_self->Dv
open Ne renaming symm->ba
open Bool renaming false_ne_true->cD,and_eq_true_iff->l7,and_eq_true->nM,eq_iff_iff->vT,false_eq_true->zF,or_false->Vt,false_or->VB,true_and->V1,and_false->V3
open Option.some renaming inj->fc
open Array renaming length_toList->f7,getD_eq_getD_getElem?->nP,getElem?_eq_getElem->v9,getElem?_toList->zE,getElem?_eq_none->zL,toList_inj->Ll,getElem?_eq_some_iff->Lm,size_append->Ln,perm_iff_toList_perm->amv
open Int renaming eq_ofNat_of_zero_le->gK,toNat_natCast->nK,emod_nonneg->DI,emod_lt_of_pos->DJ,fdiv_eq_ediv_of_nonneg->amb
open PySem.Paired renaming length->gV,snoc->oS
open PySem.Around renaming under_plainId->kU
open Option renaming map_eq_some_iff->kW,map_some->Ds,bind_some->Li,some_ne_none->LU,isSome_map->VD,isSome_iff_exists->amg
open PySem.W renaming kia_one->nJ,plainGet_of->Vi,callWith_K->Vk,cellsFrom_some->amf
open Sum.inr renaming inj->oP
open List.Perm renaming refl->qD,append_left->amz,eq_of_pairwise->am3
open PySem.F renaming called_set->sY,plainAttrs_list->tf,slot_dict_keyiterator_next->DD,slot_dict_itemiterator_next->DF,slot_list_append->DG,type_list_append->DH,plain_any_loop->Lp,plain_list_iadd->LK,slot_tuple_add->Vq,entry_tuple_add->Vr,args_tuple_add_2->Vs,slot_tuple_getattribute->VF,slot_tuple_mul->VU,slot_list_getattribute->VW,plainAttrs_str->VY,attrBase_ValueError->amn,plain_extend_loop->amA,entry_proto_collect->amB,plain_proto_collect->amC,entry_list_iadd->amD,slot_tuple_index->amG,entry_dict_keyiterator_next->amJ,args_dict_keyiterator_next_1->amK,slot_tuple_rmul->amM,slot_int_rmul->amO,entry_dict_itemiterator_next->amQ,args_dict_itemiterator_next_1->amR,slot_str_upper->am4,type_str_upper->am5,slot_list_index->am6,type_list_index->am7
open PySem.Heap.SameBut renaming update->vZ
open PyProof.Rows renaming slot_tuple_getitem->zC,callWith_type1->Le,assignInOrder_cons->Ve
open PySem.Heap.UpToSlots renaming trans->LN
open PyProof.Rows.F renaming plain_set_update_loop->VI
open PySem.ReadAtMost renaming cons->VR
open List.Sublist renaming map->V2
open PySem.SeqAt renaming eqv_refl->V4
open PySem.Calls renaming Name_function_global->al9,call_function_entry->amE
open Classical renaming choose_spec->amu
def ax:=@if_neg
def aF:=@if_pos
def cm:=@decide_eq_true
def dZ:=@decide_eq_false
def eJ:=@congrArg
def eT:=@of_decide_eq_true
def jG:=@beq_iff_eq
def j7:=@if_true
def j':=@PySem.PassesOwn.never
def kT:=@if_false
def lY:=@beq_eq_false_iff_ne
def mi:=@or_false
def we:=@decide_eq_decide
def U':=@PySem.Value.isStrOf_shape
def Vu:=@beq_self_eq_true
def VP:=@decide_eq_true_eq
variable{us its:List PySem.Value}{x n name qual nm:PySem.Str}{u cd doc pm aG ct oc vl vu acc dv:PySem.Value}{a b it l p dx C f q d fI I fW fL fD fB fN fS fE CK CN fC:PySem.Addr}{o ox ol:PySem.Obj}{h h' g base h0:PySem.Heap}{items:Array PySem.Value}{P prog:PySem.Program}{w:PySem.World}{e c tg iter value elt:PySem.Expr}{L Ps:PySem.Str->List PySem.Str}{pins:List (PySem.Addr×PySem.Obj)}{s s' s1 s2:PySem.Shared}{t' i j n1 ep m way:Nat}{ch fp:List PySem.Addr}{N ns ps loose N' ks r own done line:List PySem.Str}{A:PySem.Around}{E:PySem.Value->PySem.Shared->Prop}{pos pos' apos iQ tp:PySem.Pos}{K:PySem.W.Frag}{st:PySem.Stmt}{es ifs elts:List PySem.Expr}{body:List PySem.Stmt}{lo:Int}{mA mg:PySem.Str->Option PySem.Value}{R:PySem.Result->PySem.Shared->Prop}{kw:List (PySem.Str×PySem.Value)}{env:PySem.Env}{outer:List PySem.Env}{fd dL dB dN dW dS dD dE dI dF:PySem.FuncData}{kindOf:PySem.Str->Option PySem.NameKind}{sc scope:PySem.Scope}{an od:Option PySem.Addr}{jc sl:Array (Option PySem.Value)}{T:String}{hi:Option Int}{XP:(PySem.Str->Option PySem.Value)->PySem.Heap->Prop}{YP:PySem.World->PySem.Heap->Prop}{B G:Prop}{cells:List (PySem.Str×PySem.Addr)}{b7:List (Option Nat)}{tk:PySem.Tok}{rest rows:List (List PySem.Str)}{av:PySem.Addr->Prop}{aH:List (PySem.Str×List PySem.Str)}{dn:PySem.Str->Bool}{b0 b1 b2 b3:Bool}
namespace L2
open PySem PySem.Spec PyProof.Rows
abbrev Key:=Sum Int Str
def uj:Key->Value->Bool
 |.inl k,v=>Value.isInt k v
 |.inr x,v=>Value.isStrOf x v
def ac5 (w:World):Key->Int
 |.inl k=>hashInt k
 |.inr x=>hashStr w x
theorem nR:∀ {k:Key}{v:Value},uj k v=true->(∃i t,k=Sum.inl i/\v=Value.int i t)\/(∃x t,k=Sum.inr x/\v=Value.str x t)
 |.inl i,v,h=>by
  obtain⟨t,e⟩:=Value.isInt_shape (k:=i) (v:=v) h;exact .inl ⟨i,t,rfl,e⟩
 |.inr x,v,h=>by
  obtain⟨t,e⟩:=U' (x:=x) (v:=v) h;exact .inr ⟨x,t,rfl,e⟩
theorem Xr (i:Int) (t:Tok):uj (.inl i) (.int i t)=true:=by simp[uj,Value.isInt]
theorem Xs (x:Str) (t:Tok):uj (.inr x) (.str x t)=true:=by simp[uj,Value.isStrOf]
theorem aaC (a b:Int):decide ((Sum.inl a:Key)=Sum.inl b)=(a==b):=by
 by_cases e:a=b
 ·subst e;simp
 ·have h : ¬ (Sum.inl a:Key)=Sum.inl b:=fun q=>e (Sum.inl.inj q)
  rw[dZ h];exact(lY.mpr e).symm
theorem aaD (a b:Str):decide ((Sum.inr a:Key)=Sum.inr b)=decide (a=b):=by
 by_cases e:a=b
 ·subst e;simp
 ·have h : ¬ (Sum.inr a:Key)=Sum.inr b:=fun q=>e (oP q)
  rw[dZ h,dZ e]
theorem aaE (a:Int) (b:Str):decide ((Sum.inl a:Key)=Sum.inr b)=false:=dZ (fun q=>nomatch q)
theorem aaF (a:Str) (b:Int):decide ((Sum.inr a:Key)=Sum.inl b)=false:=dZ (fun q=>nomatch q)
def cp (prog:Program) (w:World):PySem.KeyKind prog w Key where
 is:=uj
 hash:=ac5 w
 inj:=fun v a b ha hb=>by
  rcases nR ha with⟨i,t,rfl,rfl⟩|⟨x,t,rfl,rfl⟩
  ·rcases nR hb with⟨j,u,rfl,e⟩|⟨y,u,rfl,e⟩
   ·injection e with e1 _;rw[e1]
   ·exact nomatch e
  ·rcases nR hb with⟨j,u,rfl,e⟩|⟨y,u,rfl,e⟩
   ·exact nomatch e
   ·injection e with e1 _;rw[e1]
 byValue:=fun k v h=>by
  rcases nR h with⟨i,t,rfl,rfl⟩|⟨x,t,rfl,rfl⟩ <;> rfl
 pyHash:=fun hv h=>by
  rcases nR hv with⟨i,t,rfl,rfl⟩|⟨x,t,rfl,rfl⟩
  ·exact wpAny_pyHash_int h
  ·exact wpAny_pyHash_str h
 eqBool:=fun hu hv h=>by
  rcases nR hu with⟨i,t,rfl,rfl⟩|⟨x,t,rfl,rfl⟩
  ·rcases nR hv with⟨j,u,rfl,rfl⟩|⟨y,u,rfl,rfl⟩
   ·rw[aaC]at h;exact wpAny_eqBool_int h
   ·rw[aaE]at h;exact SeqAt.EqAt.int_str i t y u _ _ _ _ h
  ·rcases nR hv with⟨j,u,rfl,rfl⟩|⟨y,u,rfl,rfl⟩
   ·rw[aaF]at h;exact SeqAt.EqAt.str_int x t j u _ _ _ _ h
   ·rw[aaD]at h;exact Va h
 «strs» :=fun k x t v h=>by
  rcases nR h with⟨i,u,rfl,e⟩|⟨y,u,rfl,e⟩
  ·exact nomatch e
  ·injection e with e1 _
   subst e1;cases v <;> rfl
theorem WA (prog:Program) (w:World) (i:Int) (t:Tok):(cp prog w).is (.inl i) (.int i t)=true:=Xr i t
theorem WB (prog:Program) (w:World) (x:Str) (t:Tok):(cp prog w).is (.inr x) (.str x t)=true:=Xs x t
inductive V where
 |aI|bl (b:Bool)|int (i:Int)|str (x:Str)|jy (b:Array UInt8)|jz (b:UInt64)|ref (a:Addr)|ty (n:String)
 deriving DecidableEq
def RelV:V->Value->Prop
 |.aI,u=>u=Value.none
 |.bl b,u=>u=Value.bool b
 |.int i,u=>∃t,u=Value.int i t
 |.str x,u=>∃t,u=Value.str x t
 |.jy b,u=>∃t,u=Value.bytes b t
 |.jz b,u=>∃t,u=Value.float b t
 |.ref a,u=>u=Value.ref a
 |.ty n,u=>u=Value.type n
abbrev Vals:List V->List Value->Prop:=Paired RelV
theorem Vals.length {xs:List V} (r:Vals xs us):xs.length=us.length:=gV r
theorem Vals.get:∀ {xs:List V}{us:List Value}{i:Nat}{x:V},Vals xs us->xs[i]? = some x -> ∃u,us[i]? = some u/\RelV x u
 |_,_,_,_,.nil,e=>by simp at e
 |_,_,0,_,.cons r _,e=>by simp at e;subst e;exact⟨_,rfl,r⟩
 |_,_,i+1,x,.cons _ t,e=>by
  obtain⟨u,h1,h2⟩:=Vals.get (i:=i) (x:=x) t (by simpa using e)
  exact⟨u,by simpa using h1,h2⟩
theorem Vals.set {x:V}{u:Value} (r:RelV x u):∀ {xs:List V}{us:List Value} (i:Nat),Vals xs us->Vals (xs.set i x) (us.set i u)
 |_,_,_,.nil=>.nil
 |_,_,0,.cons _ t=>.cons r t
 |_,_,i+1,.cons q t=>.cons q (Vals.set r i t)
theorem Vals.append:∀ {xs ys:List V}{us ws:List Value},Vals xs us->Vals ys ws->Vals (xs++ys) (us++ws)
 |_,_,_,_,.nil,s=>s
 |_,_,_,_,.cons r t,s=>.cons r (Vals.append t s)
theorem Vals.take:∀ {xs:List V}{us:List Value} (n:Nat),Vals xs us->Vals (xs.take n) (us.take n)
 |_,_,0,_=>.nil
 |_,_,_+1,.nil=>.nil
 |_,_,n+1,.cons r t=>.cons r (Vals.take n t)
theorem Vals.drop:∀ {xs:List V}{us:List Value} (n:Nat),Vals xs us->Vals (xs.drop n) (us.drop n)
 |_,_,0,r=>r
 |_,_,_+1,.nil=>.nil
 |_,_,n+1,.cons _ t=>Vals.drop n t
def g7:Option V->Option Value->Prop
 |some v,some u=>RelV v u
 |none,none=>True
 |_,_=>False
def KV {κ:Type}:List (κ×V)->List (κ×Value)->Prop:=Paired fun(p:κ×V) (q:κ×Value)=>p.1=q.1/\RelV p.2 q.2
def kV:Key->V
 |.inl i=>.int i
 |.inr x=>.str x
inductive HO where
 |lst (xs:List V)
 |tup (xs:List V)
 |dK (kvs:List (Key×V))|dT (kvs:List (List Key×V))
 |set (S:Int->Bool) (n:Nat)
 |ins (C dx:Addr) (fs:List (Str×V))
 |own (x:Addr)
 |xd (fs:List (Str×V))
 |met (f x:Addr)
 |yf (lo hi:Int)
 |aR (o:Obj) (u:HO)
 |oh (ps:Array Value)
 |ext (φ:Heap->Prop)
abbrev Hp:=Addr->Option HO
def upd (H:Hp) (a:Addr) (o:HO):Hp:=fun b=>if b=a then some o else H b
theorem ag {H:Hp}{o:HO}:upd H a o a=some o:=by unfold upd;rw[aF rfl]
theorem ah {H:Hp}{o:HO} (h:b≠a):upd H a o b=H b:=by unfold upd;rw[ax h]
theorem k6 {H:Hp}{o u:HO}:upd (upd H a o) a u=upd H a u:=by
 funext b;unfold upd;split <;> rfl
theorem aX {H:Hp}{o u:HO} (h:H a=some o) (h':H b=some u) (d:o≠u:=by intro z;cases z):a≠b:=by
 intro e;subst e;rw[h]at h';exact d (fc h')
theorem aA {H:Hp}{o:HO} (h:H a=some o) (h':H b=none):a≠b:=by
 intro e;subst e;rw[h]at h';cases h'
noncomputable def mJ (h:Heap) (a:Addr) (items:Array Value):Prop:= ∃o,h.get? a=some o/\o.cls = .type "tuple" /\ ∃n,o.data = .seq items n/\o.dict=none
theorem mJ.is (x:mJ h a items):IsTup h a items:=let ⟨o,e,c,n,d,_⟩:=x;⟨o,e,c,n,d⟩
theorem mJ.new (h:Heap) (items:Array Value):mJ (h.push { cls:= .type "tuple",data:= .seq items }) h.objs.size items:=⟨_,cj _ rfl,rfl,_,rfl,rfl⟩
section
variable (P:Program) (w:World)
def bp (H:Hp) (h:Heap) (a:Addr):HO->Prop
 |.lst xs=>xs.length<=sizeLine /\ ∃ (its:List Value) (n:Nat),Vals xs its/\h.get? a=some { cls:= .type "list",data:= .seq its.toArray n }
 |.tup xs=>xs.length<=sizeLine /\ ∃its:List Value,Vals xs its/\mJ h a its.toArray
 |.dK kvs=>kvs.length<=sizeLine/\(a==sysModules)=false /\ ∃vs,KV kvs vs/\h.DictOf (cp P w) a vs
 |.dT kvs=>kvs.length<=sizeLine/\(a==sysModules)=false /\ ∃xs:List (List Key×Addr×Value),
   Paired (fun(p:List Key×V) (q:List Key×Addr×Value)=>p.1=q.1/\H q.2.1=some (.tup (p.1.map kV))/\RelV p.2 q.2.2) kvs xs /\
   ∃o es ep,h.get? a=some o/\o.ExactDict/\o.data = .dict es ep/\es.toList=xs.map (entryOfKey (tupleKind (cp P w)))/\(xs.map (·.1)).Nodup
 |.set S n=>h.SetOf (intKind P w) a S n
 |.ins C dx fs=>H dx=some (.own a)/\fs.length<=1000/\dx≠a/\h.get? a=some (PySem.W.instObj C dx) /\
   ∃mA,h.Ns1 dx mA/\(∀f,g7 (fs.lookup f) (mA f))/\PySem.Within mA (fs.map (·.1))
 |.own _=>∃o,h.get? a=some o
 |.xd fs=>∃mA,h.Ns1 a mA /\ ∀f,g7 (fs.lookup f) (mA f)
 |.yf lo hi=>∃t u v,h.get? a=some { cls:= .type "range",data:= .fields #[.int lo t,.int hi u,.int 1 v] }
 |.aR o u=>h.get? a=some o/\bp H h a u
 |.oh ps=>h.get? a=some { cls:= .none,data:= .fields ps }
 |.met f x=>h.get? a=some (PySem.W.methodObj (.ref f) (.ref x))
 |.ext φ=>φ h/\(∃o,h.get? a=some o) /\ ∀h1 h2:Heap,φ h1->(∀o,h1.get? a=some o->h2.get? a=some o)->φ h2
noncomputable def cL (H:Hp) (h:Heap):Prop:= ∀a o,H a=some o->bp P w H h a o
end
section
variable{H H':Hp}{o:HO}
theorem bp.lt (x:bp P w H h a o):a < h.objs.size:=by
 cases o with
 |lst xs=>obtain⟨_,_,_,_,e⟩:=x;exact bo e
 |tup xs=>obtain⟨_,_,_,p⟩:=x;exact p.is.lt
 |dK kvs=>obtain⟨_,_,_,_,o,_,_,e,_⟩:=x;exact bo e
 |dT kvs=>obtain⟨_,_,_,_,o,_,_,e,_⟩:=x;exact bo e
 |set S n=>obtain⟨o,_,_,_,e,_⟩:=x;exact bo e
 |ins C dx fs=>obtain⟨_,_,_,e,_⟩:=x;exact bo e
 |own y=>obtain⟨_,e⟩:=x;exact bo e
 |xd fs=>obtain⟨_,⟨_,_,_,e,_⟩,_⟩:=x;exact bo e
 |yf lo hi=>obtain⟨_,_,_,e⟩:=x;exact bo e
 |aR ob u=>obtain⟨e,_⟩:=x;exact bo e
 |oh ps=>exact bo (show h.get? a=some _ from x)
 |met f y=>exact bo (show h.get? a=some _ from x)
 |ext φ=>obtain⟨_,⟨_,e⟩,_⟩:=x;exact bo e
theorem Paired.Bf {α β:Type}{F G:α->β->Prop}:∀ {xM:List α}{xN:List β},Paired F xM xN->(∀a b,F a b->G a b)->Paired G xM xN
 |_,_,.nil,_=>.nil
 |_,_,.cons r t,f=>.cons (f _ _ r) (Paired.Bf t f)
theorem Paired.imp' {α β:Type}{F G:α->β->Prop} (f:∀a b,F a b->G a b) {xM:List α}{xN:List β} (r:Paired F xM xN):Paired G xM xN:=Paired.Bf r f
theorem bp.gy (x:bp P w H h a o) (k:∀b u,(b=a\/H b=some (.own a))->h.get? b=some u->h'.get? b=some u)
  (ho:∀b,H b=some (.own a)->H' b=some (.own a)) (ht:∀b xs,H b=some (.tup xs)->H' b=some (.tup xs)):bp P w H' h' a o:=by
 induction o with
 |lst xs=>obtain⟨z,its,n,r,e⟩:=x;exact⟨z,its,n,r,k _ _ (.inl rfl) e⟩
 |tup xs=>obtain⟨z,its,r,ob,e,c⟩:=x;exact⟨z,its,r,ob,k _ _ (.inl rfl) e,c⟩
 |dK kvs=>obtain⟨z,y,vs,r,ob,es,ep,e,c⟩:=x;exact⟨z,y,vs,r,ob,es,ep,k _ _ (.inl rfl) e,c⟩
 |dT kvs =>
  obtain⟨z,y,xs,r,ob,es,ep,e,c⟩:=x;exact⟨z,y,xs,Paired.Bf r fun p q z=>⟨z.1,ht _ _ z.2.1,z.2.2⟩,ob,es,ep,k _ _ (.inl rfl) e,c⟩
 |set S n=>obtain⟨ob,es,ep,t,e,c⟩:=x;exact⟨ob,es,ep,t,k _ _ (.inl rfl) e,c⟩
 |ins C dx fs =>
  obtain⟨d,z,ne,e,mA,⟨od,es,ep,e2,c⟩,r⟩:=x;exact⟨ho _ d,z,ne,k _ _ (.inl rfl) e,mA,⟨od,es,ep,k _ _ (.inr d) e2,c⟩,r⟩
 |own y=>obtain⟨ob,e⟩:=x;exact⟨ob,k _ _ (.inl rfl) e⟩
 |xd fs=>obtain⟨mA,⟨od,es,ep,e,c⟩,r⟩:=x;exact⟨mA,⟨od,es,ep,k _ _ (.inl rfl) e,c⟩,r⟩
 |yf lo hi=>obtain⟨t,u,v,e⟩:=x;exact⟨t,u,v,k _ _ (.inl rfl) e⟩
 |aR ob u ih=>obtain⟨e,q⟩:=x;exact⟨k _ _ (.inl rfl) e,ih q⟩
 |oh ps =>
  have e:h.get? a=some { cls:= .none,data:= .fields ps }:=x;show h'.get? a=some { cls:= .none,data:= .fields ps };exact k a _ (.inl rfl) e
 |met f y =>
  have e:h.get? a=some (PySem.W.methodObj (.ref f) (.ref y)):=x;show h'.get? a=some (PySem.W.methodObj (.ref f) (.ref y));exact k a _ (.inl rfl) e
 |ext φ=>obtain⟨p,⟨o,e⟩,st⟩:=x;exact⟨st _ _ p fun o q=>k _ _ (.inl rfl) q,⟨o,k _ _ (.inl rfl) e⟩,st⟩
theorem cL.lt (x:cL P w H h) (e:H a=some o):a < h.objs.size:=(x a o e).lt
theorem cL.fresh (x:cL P w H h) (e:h.objs.size<=a):H a=none:=by
 cases q:H a with
 |none=>rfl
 |some u=>exact absurd (gI (x.lt q) e) (qA _)
theorem cL.kept (x:cL P w H h) (k:∀b u,h.get? b=some u->h'.get? b=some u):cL P w H h':=fun a o e =>
 (x a o e).gy (fun b u _ q=>k b u q) (fun _ q=>q) fun _ _ q=>q
theorem cL.laid (x:cL P w H h) (k:∀b u,h.get? b=some u->h'.get? b=some u) (hp:h.objs.size<=a) (new:bp P w (upd H a o) h' a o):cL P w (upd H a o) h':=fun b u e=>by
 have hn:=x.fresh hp
 by_cases hb:b=a
 ·subst hb;rw[ag]at e;cases e;exact new
 ·rw[ah hb]at e
  exact(x b u e).gy (fun c v _ q=>k c v q) (fun c q=>by rw[ah (aA q hn)];exact q) fun c xs q=>by rw[ah (aA q hn)];exact q
end
noncomputable def Rd (H:Hp) (a:Addr) (u:HO):Prop:=H a=some u \/ ∃o,H a=some (.aR o u)
theorem Rd.of {H:Hp}{u:HO} (h:H a=some u):Rd H a u:= .inl h
theorem Rd.ok {H:Hp}{u:HO} (r:Rd H a u) (x:cL P w H h):bp P w H h a u:=by
 rcases r with r|⟨o,r⟩
 ·exact x a u r
 ·obtain⟨_,q⟩:=x a _ r
  exact q
def yg:Option HO->Prop
 |some (.lst _)=>True
 |some (.dK _)=>True
 |some (.dT _)=>True
 |some (.set _ _)=>True
 |some (.ins _ _ _)=>True
 |some (.ext _)=>True
 |_=>False
section
variable{H:Hp}{x e:Addr}{o':HO}
theorem cL.write (ok:cL P w H h) (mu:yg (H x)) (he:e=x\/H e=some (.own x)) (k:∀b u,b≠e->h.get? b=some u->h'.get? b=some u) (uQ:∃u,h'.get? e=some u)
  (new:bp P w (upd H x o') h' x o'):cL P w (upd H x o') h':=fun b u q=>by
 have PH:∀c y,H c=some (.own y)->c≠x:=fun c y r z=>by subst z;rw[r]at mu;exact mu
 have ac6:∀c xs,H c=some (.tup xs)->c≠x:=fun c xs r z=>by subst z;rw[r]at mu;exact mu
 by_cases hb:b=x
 ·subst hb;rw[ag]at q;cases q;exact new
 ·rw[ah hb]at q
  by_cases lF:b=e
  ·have q':H b=some (.own x):=by
    rcases he with z|z
    ·exact absurd (lF.trans z) hb
    ·rw[lF];exact z
   rw[q]at q';cases q';obtain⟨v,hv⟩:=uQ;exact⟨v,by rw[lF];exact hv⟩
  ·refine(ok b u q).gy (fun c v hc r=>k c v ?_ r) (fun c r=>by rw[ah (PH c b r)];exact r) fun c xs r=>by rw[ah (ac6 c xs r)];exact r
   rcases hc with rfl|hc
   ·exact lF
   ·rintro rfl
    rcases he with z|z
    ·exact PH c b hc z
    ·rw[hc]at z;cases z;exact hb rfl
end
structure Un (fs ex:List Addr) (H H':Hp) (h h':Heap):Prop where
 keep:∀b o,h.get? b=some o->H b=none->b ∉ fs->b ∉ ex->h'.get? b=some o
 slot:∀b o,h.get? b=some o->H b=none->b∈fs->b ∉ ex -> ∃sl,h'.get? b=some { o with slots:=sl }
 free:∀b o,h.get? b=some o->H b=none->b ∉ ex->H' b=none
 there:∀b o,h.get? b=some o->b ∉ ex -> ∃o',h'.get? b=some o'
 i8:∀b xs,H b=some (.tup xs)->H' b=some (.tup xs)
 jr:∀b o u,H b=some (.aR o u)->H' b=some (.aR o u)
 jT:∀b ps,H b=some (.oh ps) -> ∃more,H' b=some (.oh (ps++more))
section
variable{fs uR ex ex':List Addr}{H H1 H2:Hp}{h1 h2:Heap}{x e:Addr}{o:HO}
theorem Un.any (u:Un fs ex H H1 h h1) {ob:Obj} (q:h.get? b=some ob) (n:H b=none) (hx:b ∉ ex):∃sl,h1.get? b=some { ob with slots:=sl }:=by
 by_cases hb:b∈fs
 ·exact u.slot b ob q n hb hx
 ·exact⟨ob.slots,u.keep b ob q n hb hx⟩
theorem Un.kept (k:∀b u,h.get? b=some u->h'.get? b=some u):Un fs ex H H h h':=
 ⟨fun b ob q _ _ _=>k b ob q,fun b ob q _ _ _=>⟨ob.slots,k b ob q⟩,fun _ _ _ n _=>n,fun b ob q _=>⟨ob,k b ob q⟩,fun _ _ q=>q,fun _ _ _ q=>q,fun _ ps q=>⟨#[],by rw[q];simp⟩⟩
theorem Un.refl:Un fs ex H H h h:=Un.kept fun _ _ q=>q
theorem Un.laid (k:∀b u,h.get? b=some u->h'.get? b=some u) (hp:h.objs.size<=a) (hn:H a=none):Un fs ex H (upd H a o) h h' where
 keep:=fun b u q _ _ _=>k b u q
 slot:=fun b u q _ _ _=>⟨u.slots,k b u q⟩
 free:=fun b u q n _=>by rw[ah (bx (gI (bo q) hp))];exact n
 there:=fun b u q _=>⟨u,k b u q⟩
 i8:=fun b xs q=>by rw[ah (aA q hn)];exact q
 jr:=fun b u xs q=>by rw[ah (aA q hn)];exact q
 jT:=fun b ps q=>⟨#[],by rw[ah (aA q hn),q];simp⟩
theorem Un.write (mu:yg (H x)) (he:e=x\/H e=some (.own x)) (k:∀b u,b≠e->h.get? b=some u->h'.get? b=some u) (uQ:∃u,h'.get? e=some u):Un fs ex H (upd H x o) h h':=by
 have hx:∀b,H b=none->b≠x:=fun b n z=>by subst z;rw[n]at mu;exact mu
 have hb:∀b,H b=none->b≠e:=fun b n z=>by
  subst z;rcases he with r|r
  ·exact hx b n r
  ·rw[n]at r;cases r
 have hm:∀b u,H b=some u -> ¬ yg (some u)->b≠x:=fun b u q nm z=>by subst z;rw[q]at mu;exact nm mu
 refine⟨fun b u q n _ _=>k b u (hb b n) q,fun b u q n _ _=>⟨u.slots,k b u (hb b n) q⟩,fun b u q n _=>by rw[ah (hx b n)];exact n,fun b u q _=>?_,
  fun b xs q=>by rw[ah (hm b _ q fun z=>z)];exact q,fun b u xs q=>by rw[ah (hm b _ q fun z=>z)];exact q,fun b ps q=>⟨#[],by rw[ah (hm b _ q fun z=>z),q];simp⟩⟩
 by_cases lF:b=e
 ·subst lF;exact uQ
 ·exact⟨u,k b u lF q⟩
end
def kB (h:Heap) (H:Hp):List Addr:=(List.range h.objs.size).filter fun a=>(H a).isSome
def nX (h:Heap) (H:Hp):Heap:=PySem.W.hideAll h (kB h H)
theorem Xt (h:Heap) (H:Hp):(nX h H).objs.size=h.objs.size:=PySem.W.hideAll_size _ _
theorem Yi {H:Hp} (e:h.get? b=some o) (n:H b=none):(nX h H).get? b=some o:=
 PySem.W.hideAll_get _ e fun hm=>by
  have q:(H b).isSome=true:=(f6.mp hm).2;rw[n]at q;simp at q
theorem Zs {H:Hp} (e:(nX h H).get? b=some o):h.get? b=some o/\H b=none:=by
 have e':h.get? b=some o:=PySem.W.of_hideAll (kB h H) e;refine⟨e',?_⟩;cases q:H b with
 |none=>rfl
 |some x =>
  have hm:b∈kB h H:=f6.mpr ⟨kO.mpr (bo e'),by simp[q]⟩
  have z:(nX h H).get? b=none:=PySem.W.hideAll_none (kB h H) hm;rw[z]at e;cases e
def EU (g h:Heap) (L:Addr):List (Addr×Obj):=(List.range h.objs.size).filterMap fun a=>if a=L\/(g.get? a).isSome=true then none else (h.get? a).map fun o=>(a,o)
theorem L8 {L:Addr} (h1:a≠L) (h2:g.get? a=none) (h3:h.get? a=some o):(a,o)∈EU g h L:=
 zv.mpr ⟨a,kO.mpr (bo h3),by simp[h1,h2,h3]⟩
theorem DM {L:Addr}{p:Addr×Obj} (hp:p∈EU g h L):p.1≠L/\g.get? p.1=none/\h.get? p.1=some p.2:=by
 obtain⟨b,_,e⟩:=zv.mp hp;split at e
 ·cases e
 ·rename_i hn
  cases q:h.get? b with
  |none=>rw[q]at e;simp at e
  |some u =>
   rw[q]at e;simp only[Ds,Option.some.injEq]at e;subst e;refine⟨fun z=>hn (.inl z),?_,q⟩;show g.get? b=none;cases r:g.get? b with
   |none=>rfl
   |some v=>exact(hn (.inr (by simp[r]))).elim
theorem Yj {L:Addr}:News g L h (EU g h L):=fun p hp=>let ⟨a,b,c⟩:=DM hp;⟨c,a,b⟩
structure Mod (K:PySem.W.Frag) (mg:Str->Option Value) (base:Heap):Prop where
 rS:K.In base
 glob:base.Ns mainGlobals mg
 blt:∃mb,base.Ns builtinsNs mb /\ ∀x:Str,x ≠ "__name__" -> mb x=bootBuiltins x
 nolimit:base.NoLimit
structure Cx where
 prog:Program
 w:World
 K:PySem.W.Frag
 mg:Str->Option Value
 base:Heap
 A:Around
 N:List Str
 ee:Shared
 kj:Hp
 env:Env
 outer:List Env
 stack:List Env
 ex:List Addr
 fn:Str->Bool
 calm:Bool
 pn:List (Addr×Obj)
 xe:Value->Shared->Prop
def fY (l:List Env):List Addr:=l.filterMap (·.frame)
abbrev Cx.fs (X:Cx):List Addr:=fY X.outer
noncomputable def IA (sc:Scope) (x:Str):Prop:=sc.names.lookup x=some .local\/sc.names.lookup x=some .cell\/sc.names.lookup x=some .free
noncomputable def Loc (sc:Scope) (x:Str):Prop:=sc.names.lookup x=some .local\/sc.names.lookup x=some .cell
noncomputable def Look (env:Env) (h:Heap) (m:Str->Option Value) (x:Str) (u:Value):Prop:=
 (env.kindOf x=some .local/\m x=some u)\/((env.kindOf x=some .cell\/env.kindOf x=some .free) /\ ∃c,env.cells.lookup x=some c/\h.IsCell c (some u))
structure Cx.Ok (X:Cx):Prop where
 mod:Mod X.K X.mg X.base
 kind:X.env.scope.kind = .function
 glob:X.env.globals=mainGlobals
 blt:X.env.builtins=builtinsNs
 above:X.ee.heap.objs.size<=X.env.locals
 inj:∀x y c,X.env.cells.lookup x=some c->X.env.cells.lookup y=some c->x=y
 has:∀x,(X.env.kindOf x=some .cell\/X.env.kindOf x=some .free) -> ∃c,X.env.cells.lookup x=some c
 pM:∀x c,X.fn x=true->X.env.cells.lookup x=some c->X.ee.heap.objs.size<=c
 hd:X.calm=true->X.A.handled=none
 frames:X.A.frames=some X.stack
 rT:X.stack=X.outer\/(X.stack=X.env::X.outer/\X.env.frame=some X.env.locals)
 oj:∀b∈X.ex,b≠X.env.locals /\ ∀x c,X.env.cells.lookup x=some c->c≠b
 bs:∀b o,X.base.get? b=some o->X.ee.heap.get? b=some o/\X.kj b=none
 lG:X.base.objs.size<=X.ee.heap.objs.size
 pC:∀b o,X.base.get? b=some o->b ∉ X.ex
 nY:∀b∈X.ex,b ∉ X.fs
 iR:X.ee.heap.FunFrames X.base X.outer
 mU:∀b∈X.fs,X.kj b=none
structure Inv (X:Cx) (pins:List (Addr×Obj)) (σ:List (Option V)) (H:Hp) (s:Shared):Prop where
 ok:X.Ok
 os:s.os=X.ee.os
 bare:AllBare s.gens
 base:Un X.fs X.ex X.kj H X.ee.heap s.heap
 loc:∃m,s.heap.Ns X.env.locals m /\ ∀ (i:Nat) (x:Str) (v:V),X.N[i]? = some x->σ[i]? = some (some v)->IA X.env.scope x -> ∃u,RelV v u/\Look X.env s.heap m x u
 cell:∀x c,X.env.cells.lookup x=some c -> ∃v,s.heap.IsCell c v
 free:H X.env.locals=none
 gY:∀x c,X.env.cells.lookup x=some c->H c=none
 pin:∀p∈X.pn++pins,s.heap.get? p.1=some p.2/\H p.1=none/\p.1≠X.env.locals/\p.1 ∉ X.fs /\ ∀v,p.2.data ≠ .cell v
 au:cL X.prog X.w H s.heap
 len:σ.length=X.N.length
section
variable{X:Cx}{σ:List (Option V)}{H H':Hp}
theorem Cx.Ok.Bg (ok:X.Ok) (e:X.base.get? b=some o):b ∉ X.fs:=fun hb=>by
 have:=(ok.iR.mem hb).1;rw[e]at this;cases this
theorem Inv.bs (I:Inv X pins σ H s):∀b o,X.base.get? b=some o->s.heap.get? b=some o/\H b=none:=fun b o e =>
 ⟨I.base.keep b o (I.ok.bs b o e).1 (I.ok.bs b o e).2 (I.ok.Bg e) (I.ok.pC b o e),I.base.free b o (I.ok.bs b o e).1 (I.ok.bs b o e).2 (I.ok.pC b o e)⟩
theorem Inv.bk (I:Inv X pins σ H s):∀b o,X.base.get? b=some o->s.heap.get? b=some o:=fun b o e=>(I.bs b o e).1
theorem Inv.mod (I:Inv X pins σ H s):Mod X.K X.mg X.base:=I.ok.mod
theorem Inv.cM (I:Inv X pins σ H s):X.K.In s.heap:=I.ok.mod.rS.keeps I.bk
theorem Inv.lt (I:Inv X pins σ H s):X.env.locals < s.heap.objs.size:=let ⟨_,hn,_⟩:=I.loc;hn.lt
theorem Inv.sz (I:Inv X pins σ H s):X.ee.heap.objs.size<=s.heap.objs.size:=gW I.ok.above (Du I.lt)
theorem Inv.ac7 (I:Inv X pins σ H s) (h:s.heap.objs.size<=a):a ∉ X.fs:=fun hb=>by
 obtain⟨_,o,ho,_⟩:=I.ok.iR.mem hb;exact absurd (gI (bo ho) (gW I.sz h)) (qA _)
theorem Inv.lH (I:Inv X pins σ H s):∀x c,X.env.cells.lookup x=some c->c≠X.env.locals:=fun x c e z=>by
 obtain⟨v,o,ho,hd⟩:=I.cell x c e;obtain⟨m,⟨o',es,ep,gz,rV,_⟩,_⟩:=I.loc;rw[z,gz]at ho;cases ho;rw[rV]at hd;cases hd
theorem Inv.iR (I:Inv X pins σ H s):s.heap.FunFrames X.base X.outer:=by
 have all:∀ (l:List Env),(∀b∈fY l,b∈X.fs)->X.ee.heap.FunFrames X.base l->s.heap.FunFrames X.base l:=by
  intro l
  induction l with
  |nil=>intro _ _;trivial
  |cons env r ih =>
   intro hs hl;obtain⟨hk,⟨L,o,hf,hn,ho,hd⟩,hr⟩:=hl;have hL:L∈X.fs:=hs L (by unfold fY;rw[Vb,hf];exact bu)
   obtain⟨sl,e⟩:=I.base.slot L o ho (I.ok.mU L hL) hL fun z=>I.ok.nY L z hL;exact⟨hk,⟨L,_,hf,hn,e,hd⟩,ih (fun b hb=>hs b (by unfold fY;rw[Vb,hf];exact bO _ hb)) hr⟩
 exact all X.outer (fun _ hb=>hb) I.ok.iR
theorem Inv.stack (I:Inv X pins σ H s):s.heap.FunFrames X.base X.stack:=by
 rcases I.ok.rT with e|⟨e,hf⟩
 ·rw[e];exact I.iR
 ·rw[e]
  obtain⟨m,hn,_⟩:=I.loc;refine .cons (by rw[I.ok.kind];decide) hf hn ?_ I.iR
  exact Heap.get?_none_of_le (gW I.ok.lG I.ok.above)
theorem Inv.AD (I:Inv X pins σ H s):∀b∈fY X.stack,b∈X.env.locals::X.fs:=fun b hb=>by
 rcases I.ok.rT with e|⟨e,hf⟩
 ·rw[e]at hb;exact bO _ hb
 ·rw[e]at hb
  unfold fY at hb;rw[Vb,hf]at hb;exact hb
theorem Inv.EV (I:Inv X pins σ H s):∀b∈fY X.stack,H b=none:=fun b hb=>by
 rcases bH.mp (I.AD b hb) with e|hb
 ·rw[e];exact I.free
 ·obtain⟨_,o,ho,_⟩:=I.ok.iR.mem hb
  exact I.base.free b o ho (I.ok.mU b hb) fun z=>I.ok.nY b z hb
theorem Inv.step {g':Array GenState}{d':Drawn} (I:Inv X pins σ H s)
  (mV:∀b∈ch,(b∈X.ex\/X.ee.heap.objs.size<=b)/\b≠X.env.locals/\(∀x c,X.env.cells.lookup x=some c->c≠b) /\ ∀p∈X.pn++pins,p.1≠b)
  (keep:∀b o,b≠X.env.locals->b ∉ X.fs->b ∉ ch->s.heap.get? b=some o->H b=none->h'.get? b=some o)
  (slot:∀b o,b≠X.env.locals->b∈X.fs->b ∉ ch->s.heap.get? b=some o->H b=none -> ∃sl,h'.get? b=some { o with slots:=sl }) (free:∀b o,b ∉ ch->s.heap.get? b=some o->H b=none->H' b=none)
  (there:∀b o,b ∉ ch->s.heap.get? b=some o -> ∃o',h'.get? b=some o')
  (i8:∀b xs,H b=some (.tup xs)->H' b=some (.tup xs)) (jr:∀b o u,H b=some (.aR o u)->H' b=some (.aR o u)) (jT:∀b ps,H b=some (.oh ps) -> ∃more,H' b=some (.oh (ps++more)))
  (ns:∀m,s.heap.Ns X.env.locals m->h'.Ns X.env.locals m) (au:cL X.prog X.w H' h') (hg:AllBare g') :
  Inv X pins σ H' { s with heap:=h',gens:=g',drawn:=d',toks:=t' }:=by
 have yh:∀b o,X.ee.heap.get? b=some o->b≠X.env.locals:=fun b o e=>bx (gI (bo e) I.ok.above);have BV:∀b o,X.ee.heap.get? b=some o->b ∉ X.ex->b ∉ ch:=fun b o e hx hb=>by
  rcases (mV b hb).1 with z|z
  ·exact hx z
  ·exact absurd (gI (bo e) z) (qA _)
 have cellK:∀x c,X.env.cells.lookup x=some c -> ∀v,s.heap.IsCell c v->h'.IsCell c v:=fun x c e v ⟨o,ho,hd⟩=>by
  have g9:c ∉ ch:=fun z=>(mV c z).2.2.1 x c e rfl
  by_cases hc:c∈X.fs
  ·obtain⟨sl,q⟩:=slot c o (I.lH x c e) hc g9 ho (I.gY x c e)
   exact⟨_,q,hd⟩
  ·exact⟨o,keep c o (I.lH x c e) hc g9 ho (I.gY x c e),hd⟩
 refine⟨I.ok,I.os,hg,⟨fun b o e n hb hx=>?_,fun b o e n hb hx=>?_,fun b o e n hx=>?_,fun b o e hx=>?_,fun b xs e=>i8 b xs (I.base.i8 b xs e),fun b o xs e=>jr b o xs (I.base.jr b o xs e),fun b ps e=>?_⟩,?_,fun x c e=>?_,?_,fun x c e=>?_,fun p hp=>?_,au,I.len⟩
 ·exact keep b o (yh b o e) hb (BV b o e hx) (I.base.keep b o e n hb hx) (I.base.free b o e n hx)
 ·obtain⟨sl,e1⟩:=I.base.slot b o e n hb hx
  obtain⟨IB,e2⟩:=slot b _ (yh b o e) hb (BV b o e hx) e1 (I.base.free b o e n hx);exact⟨IB,e2⟩
 ·obtain⟨o',e1⟩:=I.base.there b o e hx
  exact free b o' (BV b o e hx) e1 (I.base.free b o e n hx)
 ·obtain⟨o',e1⟩:=I.base.there b o e hx
  exact there b o' (BV b o e hx) e1
 ·obtain⟨m1,e1⟩:=I.base.jT b ps e
  obtain⟨m2,e2⟩:=jT b _ e1;exact⟨m1++m2,by rw[e2,Array.append_assoc]⟩
 ·obtain⟨m,hn,hl⟩:=I.loc
  refine⟨m,ns m hn,fun i x v e1 e2 e3=>?_⟩;obtain⟨u,r,l⟩:=hl i x v e1 e2 e3;refine⟨u,r,?_⟩;rcases l with l|⟨k,c,e,z⟩
  ·exact .inl l
  ·exact .inr ⟨k,c,e,cellK x c e _ z⟩
 ·obtain⟨v,z⟩:=I.cell x c e
  exact⟨v,cellK x c e v z⟩
 ·obtain⟨m,⟨o,_,_,ho,_⟩,_⟩:=I.loc
  exact free _ o (fun z=>(mV _ z).2.1 rfl) ho I.free
 ·obtain⟨v,o,ho,hd⟩:=I.cell x c e
  exact free c o (fun z=>(mV c z).2.2.1 x c e rfl) ho (I.gY x c e)
 ·obtain⟨e,n,ne,nf,d⟩:=I.pin p hp
  have g9:p.1 ∉ ch:=fun z=>(mV p.1 z).2.2.2 p hp rfl;exact⟨keep p.1 p.2 ne nf g9 e n,free p.1 p.2 g9 e n,ne,nf,d⟩
theorem Inv.un (I:Inv X pins σ H s) (u:Un X.fs [] H H' s.heap h') (au:cL X.prog X.w H' h'):Inv X pins σ H' { s with heap:=h',toks:=t' }:=by
 obtain⟨m,⟨o,es,ep,ho,r⟩,_⟩:=id I.loc;obtain⟨sl,hL⟩:=u.any ho I.free (by simp)
 exact I.step (g':=s.gens) (d':=s.drawn) (ch:= []) (fun _ z=>nomatch z) (fun b o _ hb _ e n=>u.keep b o e n hb (by simp)) (fun b o _ hb _ e n=>u.slot b o e n hb (by simp)) (fun b o _ e n=>u.free b o e n (by simp)) (fun b o _ e=>u.there b o e (by simp)) u.i8 u.jr u.jT (fun m' hm=>by
  obtain⟨o',gA,yi,gz,r'⟩:=hm;rw[ho]at gz;cases gz;exact⟨_,gA,yi,hL,r'⟩) au I.bare
theorem Inv.call {g':Array GenState}{d':Drawn} (I:Inv X pins σ H s) (u:Un (fY X.stack) ch H H' s.heap h') (au:cL X.prog X.w H' h') (hg:AllBare g')
  (mV:∀b∈ch,(b∈X.ex\/X.ee.heap.objs.size<=b)/\b≠X.env.locals/\(∀x c,X.env.cells.lookup x=some c->c≠b) /\ ∀p∈X.pn++pins,p.1≠b) :
  Inv X pins σ H' { s with heap:=h',gens:=g',drawn:=d',toks:=t' }:=by
 obtain⟨m,⟨o,es,ep,ho,r⟩,_⟩:=id I.loc;obtain⟨sl,hL⟩:=u.any ho I.free fun z=>(mV _ z).2.1 rfl;exact I.step (ch:=ch) mV (fun b o hL hb hc e n=>u.keep b o e n (fun z=>(bH.mp (I.AD b z)).elim hL hb) hc) (fun b o _ _ hc e n=>u.any e n hc) (fun b o hc e n=>u.free b o e n hc) (fun b o hc e=>u.there b o e hc) u.i8 u.jr u.jT (fun m' hm=>by
  obtain⟨o',gA,yi,gz,r'⟩:=hm;rw[ho]at gz;cases gz;exact⟨_,gA,yi,hL,r'⟩) au hg
theorem Inv.turned (I:Inv X pins σ H s) (k:∀b o,b≠it->s.heap.get? b=some o->h'.get? b=some o) (hn:H it=none) (hL:it≠X.env.locals)
  (h1:it∈X.ex\/X.ee.heap.objs.size<=it) (h2:∀x c,X.env.cells.lookup x=some c->c≠it) (h3:∀p∈X.pn++pins,p.1≠it):Inv X pins σ H { s with heap:=h',toks:=t' }:=by
 have RL:∀b u,H b=some u->b≠it:=fun b u e z=>by rw[z,hn]at e;cases e
 refine I.step (g':=s.gens) (d':=s.drawn) (ch:= [it]) (fun b hb=>?_) (fun b o _ _ hc e _=>k b o (fun z=>hc (by simp[z])) e) (fun b o _ _ hc e _=>⟨o.slots,k b o (fun z=>hc (by simp[z])) e⟩) (fun _ _ _ _ n=>n)
  (fun b o hc e=>⟨o,k b o (fun z=>hc (by simp[z])) e⟩) (fun _ _ e=>e) (fun _ _ _ e=>e) (fun b ps e=>⟨#[],by rw[e];simp⟩) (fun m hm=>?_) (fun b u e=>?_) I.bare
 ·have e:b=it:=by simpa using hb
  subst e;exact⟨h1,hL,h2,h3⟩
 ·obtain⟨o,es,ep,ho,r⟩:=hm
  exact⟨o,es,ep,k _ o (ba hL) ho,r⟩
 ·refine(I.au b u e).gy (fun c v hc q=>k c v ?_ q) (fun _ q=>q) fun _ _ q=>q
  rcases hc with z|z
  ·rw[z];exact RL b u e
  ·exact RL c _ z
theorem Inv.tok (I:Inv X pins σ H s) (t:Nat):Inv X pins σ H { s with toks:=t }:=I.un (h':=s.heap) (t':=t) Un.refl I.au
theorem Inv.kept (I:Inv X pins σ H s) (k:∀b u,s.heap.get? b=some u->h'.get? b=some u):Inv X pins σ H { s with heap:=h',toks:=t' }:=I.un (Un.kept k) (I.au.kept k)
theorem Inv.laid {o:HO} (I:Inv X pins σ H s) (k:∀b u,s.heap.get? b=some u->h'.get? b=some u) (hp:s.heap.objs.size<=a) (new:bp X.prog X.w (upd H a o) h' a o) :
  Inv X pins σ (upd H a o) { s with heap:=h',toks:=t' }:=I.un (Un.laid k hp (I.au.fresh hp)) (I.au.laid k hp new)
theorem Inv.write {x e:Addr}{o:HO} (I:Inv X pins σ H s) (mu:yg (H x)) (he:e=x\/H e=some (.own x)) (k:∀b u,b≠e->s.heap.get? b=some u->h'.get? b=some u) (uQ:∃u,h'.get? e=some u)
  (new:bp X.prog X.w (upd H x o) h' x o):Inv X pins σ (upd H x o) { s with heap:=h',toks:=t' }:=I.un (Un.write mu he k uQ) (I.au.write mu he k uQ new)
theorem Inv.N2 {xp:List (Addr×Obj)} (I:Inv X pins σ H s) (h:∀p∈xp,s.heap.get? p.1=some p.2/\H p.1=none/\p.1≠X.env.locals/\p.1 ∉ X.fs /\ ∀v,p.2.data ≠ .cell v):Inv X xp σ H s:=
 ⟨I.ok,I.os,I.bare,I.base,I.loc,I.cell,I.free,I.gY,fun p hp=>(ff.mp hp).elim (fun z=>I.pin p (kQ _ z)) (h p),I.au,I.len⟩
theorem Et (hN:N.Nodup) (a:N[i]? = some x) (b:N[j]? = some x):i=j:=by
 obtain⟨h1,e1⟩:=cz.mp a;obtain⟨h2,e2⟩:=cz.mp b;exact(List.getElem_inj hN).mp (e1.trans e2.symm)
theorem ME {M:Model}{v:V}{Q:Unit->Shared->Prop} (I:Inv X pins σ H s) (hN:X.N.Nodup) (hi:X.N[i]? = some x) (hx:Loc X.env.scope x) (r:RelV v u)
  (h:∀s',Inv X pins (σ.set i (some v)) H s'->(∃a,Heap.SameBut a s.heap s'.heap/\(a=X.env.locals\/X.env.cells.lookup x=some a))->Q () s') (hf:X.fn x=true\/X.env.scope.names.lookup x=some .local:=by first|exact .inl rfl|exact .inr rfl|assumption):wpAny M A (storeName X.env x u) Q E s:=by
 obtain⟨m,hn,hl⟩:=id I.loc;have GQ:(X.env.scope.kind == .class || (X.env.scope.kind == .module && X.env.locals != X.env.globals))=false:=by rw[I.ok.kind];rfl
 have PK:i < σ.length:=by rw[I.len];exact(cz.mp hi).1
 have lH:=I.lH;have tracked:∀ {a:Addr}{h':Heap},(∃o,s.heap.get? a=some o/\H a=none)->Heap.SameBut a s.heap h'->cL X.prog X.w H h':=fun {a h'} ha hs b ob e=>by
  obtain⟨_,_,xq⟩:=ha;refine(I.au b ob e).gy (fun c w' hc q=>(hs.2 c ?_).trans q) (fun _ q=>q) fun _ _ q=>q;rintro rfl;rcases hc with rfl|hc
  ·rw[xq]at e;cases e
  ·rw[xq]at hc;cases hc
 rcases hx with hk|hk
 ·refine wpAny_storeName_local hk hn (fun h' mX hs=>?_) GQ
  obtain⟨oL,_,_,RM,_⟩:=id hn;refine h _ ⟨I.ok,I.os,I.bare,⟨fun b o e n hb hx=>?_,fun b o e n hb hx=>?_,I.base.free,fun b o e hx=>?_,I.base.i8,I.base.jr,I.base.jT⟩,⟨_,mX,fun j y v' e1 e2 e3=>?_⟩,fun y c e=>?_,I.free,I.gY,fun p hp=>?_,tracked ⟨oL,RM,I.free⟩ hs,by simpa using I.len⟩ ⟨_,hs,.inl rfl⟩
  ·exact(hs.2 b (bx (gI (bo e) I.ok.above))).trans (I.base.keep b o e n hb hx)
  ·obtain⟨sl,e1⟩:=I.base.slot b o e n hb hx
   exact⟨sl,(hs.2 b (bx (gI (bo e) I.ok.above))).trans e1⟩
  ·obtain⟨o',e1⟩:=I.base.there b o e hx
   exact⟨o',(hs.2 b (bx (gI (bo e) I.ok.above))).trans e1⟩
  ·by_cases hj:j=i
   ·subst hj
    rw[hi]at e1;cases e1;rw[Vc PK]at e2;cases e2
    exact⟨u,r,.inl ⟨hk,by simp⟩⟩
   ·rw[Vd (ba hj)]at e2
    obtain⟨u',r',q⟩:=hl j y v' e1 e2 e3;refine⟨u',r',?_⟩;rcases q with⟨k,e⟩|⟨k,c,e,z⟩
    ·refine .inl ⟨k,?_⟩
     have:y≠x:=fun e=>hj (Et hN e1 (e ▸ hi));simp[this,e]
    ·exact .inr ⟨k,c,e,z.sameBut hs (lH y c e)⟩
  ·obtain⟨w',z⟩:=I.cell y c e
   exact⟨w',z.sameBut hs (lH y c e)⟩
  ·obtain⟨e,n,ne,nf,d⟩:=I.pin p hp
   exact⟨(hs.2 p.1 ne).trans e,n,ne,nf,d⟩
 ·have IC:X.fn x=true:=by
   rcases hf with z|z
   ·exact z
   ·rw[z]at hk;cases hk
  obtain⟨c,hc⟩:=I.ok.has x (.inl hk);obtain⟨w',z⟩:=I.cell x c hc;refine wpAny_storeName_cell I.ok.kind hk hc z (fun h' om hs=>?_);obtain⟨oc,RN,ac8⟩:=id z;refine h { s with heap:=h' } ⟨I.ok,I.os,I.bare,⟨fun b o e n hb hx=>?_,fun b o e n hb hx=>?_,I.base.free,fun b o e hx=>?_,I.base.i8,I.base.jr,I.base.jT⟩,⟨m,hn.sameBut hs (ba (lH x c hc)),fun j y v' e1 e2 e3=>?_⟩,fun y c' e=>?_,I.free,I.gY,fun p hp=>?_,tracked ⟨oc,RN,I.gY x c hc⟩ hs,by simpa using I.len⟩ ⟨c,hs,.inr hc⟩
  ·exact(hs.2 b (bx (gI (bo e) (I.ok.pM x c IC hc)))).trans (I.base.keep b o e n hb hx)
  ·obtain⟨sl,e1⟩:=I.base.slot b o e n hb hx
   exact⟨sl,(hs.2 b (bx (gI (bo e) (I.ok.pM x c IC hc)))).trans e1⟩
  ·obtain⟨o',e1⟩:=I.base.there b o e hx
   exact⟨o',(hs.2 b (bx (gI (bo e) (I.ok.pM x c IC hc)))).trans e1⟩
  ·by_cases hj:j=i
   ·subst hj
    rw[hi]at e1;cases e1;rw[Vc PK]at e2;cases e2
    exact⟨u,r,.inr ⟨.inl hk,c,hc,om⟩⟩
   ·rw[Vd (ba hj)]at e2
    obtain⟨u',r',q⟩:=hl j y v' e1 e2 e3;refine⟨u',r',?_⟩;rcases q with q|⟨k,c',e,z'⟩
    ·exact .inl q
    ·refine .inr ⟨k,c',e,z'.sameBut hs ?_⟩
     rintro rfl;exact hj (Et hN e1 (I.ok.inj _ _ _ e hc ▸ hi))
  ·by_cases BW:c'=c
   ·subst BW;exact⟨_,om⟩
   ·obtain⟨w2,z2⟩:=I.cell y c' e
    exact⟨w2,z2.sameBut hs BW⟩
  ·obtain⟨e,n,ne,nf,d⟩:=I.pin p hp
   refine⟨(hs.2 p.1 ?_).trans e,n,ne,nf,d⟩;intro q;rw[q,RN]at e;have q':oc=p.2:=fc e;exact d w' (by rw[<-q'];exact ac8)
theorem wH {M:Model}{v:V}{Q:Unit->Shared->Prop} (I:Inv X pins σ H s) (hN:X.N.Nodup) (hi:X.N[i]? = some x) (hx:Loc X.env.scope x) (r:RelV v u)
  (h:∀s',Inv X pins (σ.set i (some v)) H s'->Q () s') (hf:X.fn x=true\/X.env.scope.names.lookup x=some .local:=by first|exact .inl rfl|exact .inr rfl|assumption):wpAny M A (storeName X.env x u) Q E s:=
 ME I hN hi hx r (fun s' I' _=>h s' I') hf
theorem Inv.AY (I:Inv X pins σ H s) (ho:s'.os=s.os) (u:Un (fY X.stack) ch H H' s.heap s'.heap) (au:cL X.prog X.w H' s'.heap) (hg:AllBare s'.gens)
  (mV:∀b∈ch,(b∈X.ex\/X.ee.heap.objs.size<=b)/\b≠X.env.locals/\(∀x c,X.env.cells.lookup x=some c->c≠b) /\ ∀p∈X.pn++pins,p.1≠b):Inv X pins σ H' s':=by
 obtain⟨h',g',d',t',o'⟩:=s';have e:o'=s.os:=ho;subst e;exact I.call (g':=g') (t':=t') (d':=d') u au hg mV
end
abbrev XK:=Value->Option Addr->Hp->Prop
abbrev St:=List (Option V)
abbrev VK:=V->Hp->Prop
abbrev TE:=St->Hp->VK->Prop
abbrev TT:=St->Hp->(Bool->Hp->Prop)->Prop
abbrev TA:=St->Hp->(List V->Hp->Prop)->Prop
structure Ends where
 nx:St->Hp->Prop
 rt:VK
 bk:St->Hp->Prop:=fun _ _=>False
 ct:St->Hp->Prop:=fun _ _=>False
end L2
variable{xs ys vs ws wb:List L2.V}{H H' H1 H2:L2.Hp}{X:L2.Cx}{σ gB:L2.St}{v y:L2.V}{Q:L2.VK}{ta tb te to tl tv:L2.TE}{D:L2.Ends}{tc ti:L2.TT}{kvs:List (List L2.Key×L2.V)}{O:L2.HO}
namespace L2
open PySem PySem.Spec PyProof.Rows
abbrev TS:=Ends->St->Hp->Prop
noncomputable def EP (X:Cx) (pins:List (Addr×Obj)) (σ:St) (Q:VK) (u:Value) (s':Shared):Prop:= ∃v H',Inv X pins σ H' s'/\RelV v u/\Q v H'
noncomputable def TP (X:Cx) (pins:List (Addr×Obj)) (σ:St) (Q:Bool->Hp->Prop) (b:Bool) (s':Shared):Prop:= ∃H',Inv X pins σ H' s'/\Q b H'
noncomputable def AP (X:Cx) (pins:List (Addr×Obj)) (σ:St) (Q:List V->Hp->Prop) (us:List Value) (s':Shared):Prop:= ∃vs H',Inv X pins σ H' s'/\Vals vs us/\Q vs H'
noncomputable def SP (X:Cx) (pins:List (Addr×Obj)) (D:Ends) (f:Flow) (s':Shared):Prop:=
 match f with
 |.next=>∃aS H',Inv X pins aS H' s'/\D.nx aS H'
 |.brk=>∃aS H',Inv X pins aS H' s'/\D.bk aS H'
 |.cont=>∃aS H',Inv X pins aS H' s'/\D.ct aS H'
 |.ret u=>∃v aS H',Inv X pins aS H' s'/\RelV v u/\D.rt v H'
noncomputable def PE (X:Cx) (e:Expr) (t:TE):Prop:=
 ∀ (pins:List (Addr×Obj)) (s:Shared) (σ:St) (H:Hp) (Q:VK),Inv X pins σ H s->t σ H Q->wpAny (model X.prog X.w) X.A (eval e X.env) (EP X pins σ Q) X.xe s
noncomputable def PT (X:Cx) (e:Expr) (t:TT):Prop:=
 ∀ (pins:List (Addr×Obj)) (s:Shared) (σ:St) (H:Hp) (Q:Bool->Hp->Prop),Inv X pins σ H s->t σ H Q->wpAny (model X.prog X.w) X.A (isTrue e X.env (eval e X.env)) (TP X pins σ Q) X.xe s
noncomputable def PW (X:Cx) (e:Expr) (t:TT):Prop:=
 ∀ (whole:Sem Value) (pins:List (Addr×Obj)) (s:Shared) (σ:St) (H:Hp) (Q:Bool->Hp->Prop),Inv X pins σ H s->t σ H Q->wpAny (model X.prog X.w) X.A (isTrue e X.env whole) (TP X pins σ Q) X.xe s
theorem PW.pt {t:TT} (h:PW X e t):PT X e t:=h _
noncomputable def PA (X:Cx) (es:List Expr) (t:TA):Prop:=
 ∀ (pos:Pos) (pins:List (Addr×Obj)) (s:Shared) (σ:St) (H:Hp) (Q:List V->Hp->Prop),Inv X pins σ H s->t σ H Q->wpAny (model X.prog X.w) X.A (spliced (backTo pos (starEach es X.env))) (AP X pins σ Q) X.xe s
noncomputable def PS (X:Cx) (st:Stmt) (t:TS):Prop:=
 ∀ (pins:List (Addr×Obj)) (s:Shared) (σ:St) (H:Hp) (D:Ends),Inv X pins σ H s->t D σ H->wpAny (model X.prog X.w) X.A (exec st X.env) (SP X pins D) X.xe s
noncomputable def eY (X:Cx) (st:List Stmt) (t:TS):Prop:=
 ∀ (pins:List (Addr×Obj)) (s:Shared) (σ:St) (H:Hp) (D:Ends),Inv X pins σ H s->t D σ H->wpAny (model X.prog X.w) X.A (execs st X.env) (SP X pins D) X.xe s
theorem aD {α:Type}{t:Sem α}{Q Q':α->Shared->Prop}{M:Model} (h:wpAny M A t Q E s) (hQ:∀a s,Q a s->Q' a s):wpAny M A t Q' E s:=lZ h hQ fun _ _ x=>x
section
noncomputable def km (i:Nat):TE:=fun σ H Q=>∃v,σ[i]? = some (some v)/\Q v H
noncomputable def tC (v:V):TE:=fun _ H Q=>Q v H
theorem aaG (hN:X.N[i]? = some x) (hv:IA X.env.scope x) (hd:(x==("__debug__" : Str))=false:=by decide) (d7:(x==("__classdict__" : Str))=false:=by decide):PE X (.Name x pos) (km i):=by
 intro pins s σ H Q I h;obtain⟨v,e,h⟩:=h;obtain⟨m,hn,hl⟩:=I.loc;obtain⟨u,r,l⟩:=hl i x v hN e hv;have fin:EP X pins σ Q u s:=⟨v,H,I,r,h⟩;rcases l with⟨hk,hm⟩|⟨hk,c,hc,O2⟩
 ·exact wpAny_Name (wpAny_loadName_local I.ok.kind hk hn hm fin) hd
 ·rcases hk with hk|hk
  ·exact wpAny_Name (wpAny_loadName_cell I.ok.kind hk hc O2 fin) hd
  ·exact wpAny_Name (wpAny_loadName_free I.ok.kind hk hc O2 fin d7) hd
theorem ao {i j pos}:PE X (.Constant (.int i) j pos) (tC (.int i)):=fun _ _ _ H _ I h=>wpAny_Constant_int ⟨.int i,H,I.tok _,⟨_,rfl⟩,h⟩
theorem mz {b j pos}:PE X (.Constant (.bool b) j pos) (tC (.bl b)):=fun _ _ _ H _ I h=>Constant_bool ⟨.bl b,H,I,rfl,h⟩
theorem i6 {j pos}:PE X (.Constant .none j pos) (tC .aI):=fun _ _ _ H _ I h=>Constant_none ⟨.aI,H,I,rfl,h⟩
theorem cu {x j pos}:PE X (.Constant (.str x) j pos) (tC (.str x)):=fun _ _ _ H _ I h=>Calls.Constant_str ⟨.str x,H,I.tok _,⟨_,rfl⟩,h⟩
noncomputable def Gl (X:Cx) (x:Str):Prop:=X.env.kindOf x=some .globalImplicit
theorem tQ {Q:Value->Shared->Prop} (I:Inv X pins σ H s) (hg:Gl X x) (hm:X.mg x=some u) (h:Q u s)
  (hd:(x==("__debug__" : Str))=false:=by decide):wpAny (model X.prog X.w) X.A (eval (.Name x pos) X.env) Q E s:=
 al9 I.ok.kind hg (Calls.loadGlobal_global (by rw[I.ok.glob];exact I.mod.glob.keeps I.bk) hm h) hd
theorem tW {Q:Value->Shared->Prop} (I:Inv X pins σ H s) (hg:Gl X x) (hm:X.mg x=none) (hv:bootBuiltins x=some u) (h:Q u s)
  (hn:x ≠ "__name__" :=by decide) (hd:(x==("__debug__" : Str))=false:=by decide):wpAny (model X.prog X.w) X.A (eval (.Name x pos) X.env) Q E s:=by
 obtain⟨mb,h1,h2⟩:=I.mod.blt;exact al9 I.ok.kind hg (Calls.loadGlobal_builtin (by rw[I.ok.glob];exact I.mod.glob.keeps I.bk) hm (by rw[I.ok.blt];exact h1.keeps I.bk) ((h2 x hn).trans hv) h) hd
theorem qR (hg:Gl X x) (hm:X.mg x=some u) (r:RelV v u) (hd:(x==("__debug__" : Str))=false:=by decide):PE X (.Name x pos) (tC v):=
 fun _ _ _ H _ I h=>tQ I hg hm ⟨v,H,I,r,h⟩ hd
theorem oY (hg:Gl X x) (hm:X.mg x=none) (hv:bootBuiltins x=some u) (r:RelV v u) (hn:x ≠ "__name__" :=by decide) (hd:(x==("__debug__" : Str))=false:=by decide):PE X (.Name x pos) (tC v):=
 fun _ _ _ H _ I h=>tW I hg hm hv ⟨v,H,I,r,h⟩ hn hd
variable{a b:Expr}
noncomputable def PC (X:Cx) (op:CmpOp) (a b:Expr) (t:TE):Prop:=
 ∀ (pins:List (Addr×Obj)) (s:Shared) (σ:St) (H:Hp) (Q:VK),Inv X pins σ H s->t σ H Q ->
  wpAny (model X.prog X.w) X.A (eval a X.env) (fun v bq=>wpAny (model X.prog X.w) X.A (eval b X.env) (fun u lz=>wpAny (model X.prog X.w) X.A (compareOp op v u) (EP X pins σ Q) X.xe lz) X.xe bq) X.xe s
noncomputable def tB (t:TE):TT:=fun σ H Q=>t σ H fun x H1=>∃c,x = .bl c/\Q c H1
theorem Fp {op:CmpOp}{t:TE} (h:PC X op a b t) (h1:behindInMarks op b=false:=by first|exact Yk _ (by decide) (by decide)|rfl):PE X (.Compare a [op] [b] pos) t:=fun pins s σ H Q I hw=>wpAny_Compare1 (h pins s σ H Q I hw) h1
theorem xb {op:CmpOp}{t:TE} (h:PC X op a b t) (h1:behindInMarks op b=false:=by first|exact Yk _ (by decide) (by decide)|rfl):PT X (.Compare a [op] [b] pos) (tB t):=by
 intro pins s σ H Q I hw;refine wpAny_isTrue_Compare1 (aD (h pins s σ H _ I hw) fun v s1 h1=>aD h1 fun u s2 h2=>aD h2 fun c s3 hQ9=>?_) h1;obtain⟨x,H1,I1,r1,q1⟩:=hQ9;obtain⟨d,rfl,q⟩:=q1;cases r1
 exact kR ⟨H1,I1,q⟩
theorem i7 {t:TE} (h:PE X e t) (he:∀whole,isTrue e X.env whole=(do let v <- whole;standAt e.pos;holding [v] (truthy v)):=by intro _;rfl):PT X e (tB t):=by
 intro pins s σ H Q I hw;refine isTrue_plain (aD (h pins s σ H _ I hw) fun v s1 hQ9=>?_) (he _);obtain⟨x,H1,I1,r1,q1⟩:=hQ9;obtain⟨d,rfl,q⟩:=q1;cases r1
 exact kR ⟨H1,I1,q⟩
variable{tA BX:TT}{rest:List Expr}
noncomputable def ac9 (t u:TT):TT:=fun σ H Q=>t σ H fun c H1=>if c=true then u σ H1 Q else Q false H1
noncomputable def tOr (t u:TT):TT:=fun σ H Q=>t σ H fun c H1=>if c=true then Q true H1 else u σ H1 Q
noncomputable def ada (t:TT):TT:=fun σ H Q=>t σ H fun c H1=>Q (!c) H1
theorem pw_and1 (ha:PT X a tA):PW X (.BoolOp .And [a] pos) tA:=by
 intro wh pins s σ H Q I h;refine isTrue_and (aD (ha pins s σ H Q I h) fun c s1 e=>?_);cases c with
 |true=>exact isTrue_and_nil e
 |false=>exact e
theorem pw_or1 (ha:PT X a tA):PW X (.BoolOp .Or [a] pos) tA:=by
 intro wh pins s σ H Q I h;refine isTrue_or (aD (ha pins s σ H Q I h) fun c s1 e=>?_);cases c with
 |false=>exact isTrue_or_nil e
 |true=>exact e
theorem pw_and (ha:PT X a tA) (hb:PW X (.BoolOp .And (b::rest) pos) BX):PW X (.BoolOp .And (a::b::rest) pos) (ac9 tA BX):=by
 intro wh pins s σ H Q I h;refine isTrue_and (aD (ha pins s σ H _ I h) fun c s1 ⟨H1,I1,q1⟩=>?_);cases c with
 |true=>exact hb wh pins s1 σ H1 Q I1 q1
 |false=>exact⟨H1,I1,q1⟩
theorem pw_or (ha:PT X a tA) (hb:PW X (.BoolOp .Or (b::rest) pos) BX):PW X (.BoolOp .Or (a::b::rest) pos) (tOr tA BX):=by
 intro wh pins s σ H Q I h;refine isTrue_or (aD (ha pins s σ H _ I h) fun c s1 ⟨H1,I1,q1⟩=>?_);cases c with
 |true=>exact⟨H1,I1,q1⟩
 |false=>exact hb wh pins s1 σ H1 Q I1 q1
theorem lh (ha:PT X a tA):PT X (.UnaryOp .Not a pos) (ada tA):=by
 intro pins s σ H Q I h;exact isTrue_not (ha pins s σ H (fun c H1=>Q (!c) H1) I h)
noncomputable def FY (ta tb:TE):TE:=fun σ H Q=>ta σ H fun x H1=>∃c,x = .bl c/\if c=true then tb σ H1 Q else Q (.bl false) H1
noncomputable def GV (ta tb:TE):TE:=fun σ H Q=>ta σ H fun x H1=>∃c,x = .bl c/\if c=true then Q (.bl true) H1 else tb σ H1 Q
noncomputable def O3 (ta:TE):TE:=fun σ H Q=>ta σ H fun x H1=>∃c,x = .bl c/\Q (.bl (!c)) H1
theorem jP {op}{t:TE} (h:PE X a t):PE X (.BoolOp op [a] pos) t:=fun pins s σ H Q I hw=>BoolOp_one (h pins s σ H Q I hw)
theorem ij (ha:PE X a ta) (hb:PE X (.BoolOp .And (b::rest) pos) tb):PE X (.BoolOp .And (a::b::rest) pos) (FY ta tb):=by
 intro pins s σ H Q I h;refine BoolOp_and (aD (ha pins s σ H _ I h) fun v s1 hQ9=>?_);obtain⟨x,H1,I1,r1,q1⟩:=hQ9;obtain⟨c,rfl,q1⟩:=q1;cases r1
 refine kR ?_;cases c with
 |true=>exact hb pins s1 σ H1 Q I1 q1
 |false=>exact⟨.bl false,H1,I1,rfl,q1⟩
theorem abN (ha:PE X a ta) (hb:PE X (.BoolOp .Or (b::rest) pos) tb):PE X (.BoolOp .Or (a::b::rest) pos) (GV ta tb):=by
 intro pins s σ H Q I h;refine BoolOp_or (aD (ha pins s σ H _ I h) fun v s1 hQ9=>?_);obtain⟨x,H1,I1,r1,q1⟩:=hQ9;obtain⟨c,rfl,q1⟩:=q1;cases r1
 refine kR ?_;cases c with
 |false=>exact hb pins s1 σ H1 Q I1 q1
 |true=>exact⟨.bl true,H1,I1,rfl,q1⟩
theorem OG (ha:PE X a ta):PE X (.UnaryOp .Not a pos) (O3 ta):=by
 intro pins s σ H Q I h;refine UnaryOp_ (aD (ha pins s σ H _ I h) fun v s1 hQ9=>?_);obtain⟨x,H1,I1,r1,q1⟩:=hQ9;obtain⟨c,rfl,q1⟩:=q1;cases r1
 exact not_of (kR ⟨.bl (!c),H1,I1,rfl,q1⟩)
noncomputable def tIf (t:TT) (ta tb:TE):TE:=fun σ H Q=>t σ H fun c H1=>if c=true then ta σ H1 Q else tb σ H1 Q
theorem Yl (hc:PT X c tA) (ha:PE X a ta) (hb:PE X b tb):PE X (.IfExp c a b pos) (tIf tA ta tb):=by
 intro pins s σ H Q I h;refine wpAny_IfExp (aD (hc pins s σ H _ I h) fun d s1 ⟨H1,I1,q1⟩=>?_);cases d with
 |true=>exact ha pins s1 σ H1 Q I1 q1
 |false=>exact hb pins s1 σ H1 Q I1 q1
end
noncomputable def aj (K:PySem.W.Frag) (H:Hp) (a:Addr) (xs:List V):Prop:=
 Rd H a (.lst xs) \/
  ∃ (o:Obj) (its:Array Value) (n:Nat),K.lookup a=some o/\o.cls = .type "list" /\ o.dict=none/\o.data = .seq its n/\its.size<=sizeLine/\Vals xs its.toList
noncomputable def aJ (K:PySem.W.Frag) (H:Hp) (a:Addr) (xs:List V):Prop:=
 Rd H a (.tup xs) \/
  ∃ (o:Obj) (its:Array Value) (n:Nat),K.lookup a=some o/\o.cls = .type "tuple" /\ o.data = .seq its n/\its.size<=sizeLine/\Vals xs its.toList
def adb:Value->Option V
 |.none=>some .aI
 |.bool b=>some (.bl b)
 |.int i _=>some (.int i)
 |.str x _=>some (.str x)
 |.bytes b _=>some (.jy b)
 |.float b _=>some (.jz b)
 |.ref a=>some (.ref a)
 |.type n=>some (.ty n)
 |_=>none
theorem RelV.abs {x:V} (r:RelV x u):adb u=some x:=by
 cases x with
 |aI=>cases r;rfl
 |bl _=>cases r;rfl
 |int _=>obtain⟨t,rfl⟩:=r;rfl
 |str _=>obtain⟨t,rfl⟩:=r;rfl
 |jy _=>obtain⟨t,rfl⟩:=r;rfl
 |jz _=>obtain⟨t,rfl⟩:=r;rfl
 |ref _=>cases r;rfl
 |ty _=>cases r;rfl
theorem RelV.inj {x:V} (r:RelV x u) (q:RelV y u):x=y:=fc (r.abs.symm.trans q.abs)
theorem Vals.inj:∀ {xs ys:List V}{us:List Value},Vals xs us->Vals ys us->xs=ys
 |_,_,_,.nil,.nil=>rfl
 |_,_,_,.cons r t,.cons r' t'=>by rw[r.inj r',Vals.inj t t']
theorem aj.of (h:H a=some (.lst xs)):aj K H a xs:= .inl (.inl h)
theorem aJ.of (h:H a=some (.tup xs)):aJ K H a xs:= .inl (.inl h)
theorem Inv.list (I:Inv X pins σ H s) (h:aj X.K H a xs):∃its:List Value,Vals xs its/\PlainL s.heap a its.toArray/\xs.length<=sizeLine:=by
 rcases h with h|⟨o,its,n,hk,hc,hd,hs,hz,r⟩
 ·obtain⟨z,its,n,r,e⟩:=h.ok I.au
  exact⟨its,r,⟨_,n,e,rfl,rfl,rfl⟩,z⟩
 ·refine⟨its.toList,r,⟨o,n,I.cM a o hk,hc,hd,by simpa using hs⟩,?_⟩
  have e:=r.length;simp only[f7]at e;omega
theorem Inv.tuple (I:Inv X pins σ H s) (h:aJ X.K H a xs):∃its:List Value,Vals xs its/\IsTup s.heap a its.toArray/\xs.length<=sizeLine:=by
 rcases h with h|⟨o,its,n,hk,hc,hs,hz,r⟩
 ·obtain⟨z,its,r,p⟩:=h.ok I.au
  exact⟨its,r,p.is,z⟩
 ·refine⟨its.toList,r,⟨o,I.cM a o hk,hc,n,by simpa using hs⟩,?_⟩
  have e:=r.length;simp only[f7]at e;omega
theorem Inv.Nf (I:Inv X pins σ H s) (h:aj X.K H a xs) (h':aj X.K H a ys):xs=ys:=by
 obtain⟨its,r,⟨o,n,e,_,_,d⟩,_⟩:=I.list h;obtain⟨its',r',⟨o',n',e',_,_,d'⟩,_⟩:=I.list h';rw[e]at e';cases e';rw[d]at d';injection d' with d1 _;have:its=its':=by simpa using eJ Array.toList d1
 subst this;exact r.inj r'
theorem Inv.Xu (I:Inv X pins σ H s) (h:aJ X.K H a xs) (h':aJ X.K H a ys):xs=ys:=by
 obtain⟨its,r,⟨o,e,_,n,d⟩,_⟩:=I.tuple h;obtain⟨its',r',⟨o',e',_,n',d'⟩,_⟩:=I.tuple h';rw[e]at e';cases e';rw[d]at d';injection d' with d1 _;have:its=its':=by simpa using eJ Array.toList d1
 subst this;exact r.inj r'
abbrev Cx.mK (X:Cx) (E:Value->Shared->Prop):Cx:={ X with xe:=E }
abbrev Cx.uS (X:Cx):Cx:=X.mK fun _ _=>False
theorem Cx.Ok.mK (ok:X.Ok) (E:Value->Shared->Prop):(X.mK E).Ok:=
 ⟨ok.mod,ok.kind,ok.glob,ok.blt,ok.above,ok.inj,ok.has,ok.pM,ok.hd,ok.frames,ok.rT,ok.oj,ok.bs,ok.lG,ok.pC,ok.nY,ok.iR,ok.mU⟩
theorem Cx.Ok.o9 (ok:(X.mK E).Ok):X.Ok:=
 ⟨ok.mod,ok.kind,ok.glob,ok.blt,ok.above,ok.inj,ok.has,ok.pM,ok.hd,ok.frames,ok.rT,ok.oj,ok.bs,ok.lG,ok.pC,ok.nY,ok.iR,ok.mU⟩
theorem Inv.mK (I:Inv X pins σ H s) (E:Value->Shared->Prop):Inv (X.mK E) pins σ H s:=⟨I.ok.mK E,I.os,I.bare,I.base,I.loc,I.cell,I.free,I.gY,I.pin,I.au,I.len⟩
theorem Inv.o9 (I:Inv (X.mK E) pins σ H s):Inv X pins σ H s:=⟨I.ok.o9,I.os,I.bare,I.base,I.loc,I.cell,I.free,I.gY,I.pin,I.au,I.len⟩
theorem SP.o9 {f:Flow} (h:SP (X.mK E) pins D f s'):SP X pins D f s':=by
 cases f with
 |next=>obtain⟨aS,H',I,q⟩:=h;exact⟨aS,H',I.o9,q⟩
 |brk=>obtain⟨aS,H',I,q⟩:=h;exact⟨aS,H',I.o9,q⟩
 |cont=>obtain⟨aS,H',I,q⟩:=h;exact⟨aS,H',I.o9,q⟩
 |ret u=>obtain⟨v,aS,H',I,r,q⟩:=h;exact⟨v,aS,H',I.o9,r,q⟩
theorem eY.uS {st:List Stmt}{t:TS} (h:eY X.uS st t):eY X st t:=fun pins s σ H D I hw =>
 lZ (h pins s σ H D (I.mK _) hw) (fun _ _ q=>q.o9) fun _ _ z=>False.elim z
section
variable{rest:List Stmt}{t u:TS}
noncomputable def O4:TS:=fun D σ H=>D.nx σ H
noncomputable def Bh (t u:TS):TS:=fun D σ H=>t { D with nx:=u D } σ H
theorem cf:eY X [] O4:=fun _ _ σ H _ I h=>zw ⟨σ,H,I,h⟩
theorem aB (h1:PS X st t) (h2:eY X rest u):eY X (st::rest) (Bh t u):=by
 intro pins s σ H D I h;refine wpAny_execs_cons (aD (h1 pins s σ H { D with nx:=u D } I h) fun f s1 q=>?_);cases f with
 |next =>
  obtain⟨aS,H',I',q⟩:=q;exact h2 pins s1 aS H' D I' q
 |ret v=>exact q
 |brk=>exact q
 |cont=>exact q
theorem aN (h1:PS X st t):eY X [st] t:=by
 intro pins s σ H D I h;refine wpAny_execs_cons (aD (h1 pins s σ H D I h) fun f s1 q=>?_);cases f with
 |next=>exact zw q
 |ret v=>exact q
 |brk=>exact q
 |cont=>exact q
theorem Inv.quiet (I:Inv X pins σ H s):interactive X.env=false:=by simp[interactive,I.ok.kind]
noncomputable def abO (te:TE):TS:=fun D σ H=>te σ H fun _ H1=>D.nx σ H1
theorem jN (he:PE X e te) (hs:swapsWith e none pos.line X.env=pure false:=by rfl):PS X (.Expr e pos) (abO te):=by
 intro pins s σ H D I h;exact wpAny_Expr_any (aD (he pins s σ H _ I h) fun v s1 ⟨x,H1,I1,r1,q1⟩=>⟨σ,H1,I1,q1⟩) I.quiet hs
noncomputable def Bi (te:TE):TS:=fun D σ H=>te σ H D.rt
theorem br (he:PE X e te):PS X (.Return (some e) pos) (Bi te):=by
 intro pins s σ H D I h;exact wpAny_Return_some (aD (he pins s σ H _ I h) fun v s1 ⟨x,H1,I1,r1,q1⟩=>⟨x,σ,H1,I1,r1,q1⟩)
noncomputable def PL (c:TT) (t u:TS):TS:=fun D σ H=>c σ H fun b H1=>if b=true then t D σ H1 else u D σ H1
theorem bY {a b:List Stmt} (hc:PT X c tc) (ha:eY X a t) (hb:eY X b u):PS X (.If c a b pos) (PL tc t u):=by
 intro pins s σ H D I h;refine wpAny_If (aD (hc pins s σ H _ I h) fun d s1 ⟨H1,I1,q1⟩=>?_);cases d with
 |true=>exact ha pins s1 σ H1 D I1 q1
 |false=>exact hb pins s1 σ H1 D I1 q1
noncomputable def aaH:TS:=fun _ _ _=>False
theorem Ym:PS X st aaH:=fun _ _ _ _ _ _ h=>h.elim
end
abbrev TG:=V->St->Hp->(St->Hp->Prop)->Prop
abbrev pN:=List V->St->Hp->(St->Hp->Prop)->Prop
noncomputable def PG (X:Cx) (target:Expr) (t:TG):Prop:=
 ∀ (pins:List (Addr×Obj)) (s:Shared) (σ:St) (H:Hp) (v:V) (u:Value) (Q:St->Hp->Prop),Inv X pins σ H s->RelV v u->t v σ H Q ->
  wpAny (model X.prog X.w) X.A (assign target X.env u) (fun _ s'=>∃aS H',Inv X pins aS H' s'/\Q aS H') X.xe s
noncomputable def yj (X:Cx) (ts:List Expr) (t:pN):Prop:=
 ∀ (pins:List (Addr×Obj)) (s:Shared) (σ:St) (H:Hp) (vs:List V) (us:List Value) (Q:St->Hp->Prop),Inv X pins σ H s->Vals vs us->t vs σ H Q ->
  wpAny (model X.prog X.w) X.A (assignInOrder ((assignEach ts X.env).map (·.2)) us) (fun _ s'=>∃aS H',Inv X pins aS H' s'/\Q aS H') X.xe s
abbrev GY:=V->V->V->Hp->(Hp->Prop)->Prop
noncomputable def PM (X:Cx) (t:GY):Prop:=
 ∀ (pins:List (Addr×Obj)) (s:Shared) (σ:St) (H:Hp) (o i v:V) (ov iv u:Value) (Q:Hp->Prop),Inv X pins σ H s->RelV o ov->RelV i iv->RelV v u->t o i v H Q ->
  wpAny (model X.prog X.w) X.A (setItem ov iv u) (fun _ s'=>∃H',Inv X pins σ H' s'/\Q H') X.xe s
noncomputable def mC (i:Nat):TG:=fun v σ H Q=>Q (σ.set i (some v)) H
theorem bw (hN:X.N.Nodup) (hi:X.N[i]? = some x) (hx:Loc X.env.scope x) (hf:X.fn x=true\/X.env.scope.names.lookup x=some .local:=by first|exact .inl rfl|exact .inr rfl|assumption):PG X (.Name x pos) (mC i):=by
 intro pins s σ H v u Q I r h;exact wpAny_assign_Name (wH I hN hi hx r (fun s' I'=>⟨_,H,I',h⟩) hf)
def ade:pN:=fun vs σ H Q=>vs = []/\Q σ H
def abP (t:TG) (u:pN):pN:=fun vs σ H Q=>∃v r,vs=v::r/\t v σ H fun aS H'=>u r aS H' Q
theorem mw:yj X [] ade:=by
 intro pins s σ H vs us Q I r h;obtain⟨e,h⟩:=h;subst e;cases r
 exact assignInOrder_nil ⟨σ,H,I,h⟩
theorem fH {t:TG}{u:pN} (h1:PG X e t) (h2:yj X es u)
  (hs:(assignEach (e::es) X.env).map (·.2)=assign e X.env::(assignEach es X.env).map (·.2):=by rfl):yj X (e::es) (abP t u):=by
 intro pins s σ H vs us Q I r h;obtain⟨v,vr,e1,h⟩:=h;subst e1;cases r with
 |cons r rr =>
  rw[hs];refine Ve (aD (h1 pins s σ H _ _ _ I r h) fun _ s1 hQ9=>?_);obtain⟨uT,H1,I1,q1⟩:=hQ9;exact h2 pins s1 uT H1 _ _ Q I1 rr q1
noncomputable def PN (K:PySem.W.Frag) (n:Nat) (t:pN):TG:=fun v σ H Q=>∃a xs,v = .ref a/\aJ K H a xs/\xs.length=n/\t xs σ H Q
theorem tX {k:Nat}{t:pN}{n:Nat} (hc:X.calm=true) (h:yj X es t)
  (hn:(assignEach es X.env).length=n:=by rfl) (rW:(assignEach es X.env).findIdx? (·.1)=none:=by rfl):PG X (.Tuple es k pos) (PN X.K n t):=by
 intro pins s σ H v u Q I r hw;obtain⟨a,xs,e1,hq,hl,hw⟩:=hw;subst e1;cases r
 obtain⟨its,rv,ht,hz⟩:=I.tuple hq;refine assign_Tuple_tuple (I.ok.hd hc) ht (by simp[hn,<-hl,rv.length]) rW fun h' hx=>?_
 have I1:Inv X pins σ H { s with heap:=h' }:=I.kept (t':=s.toks) fun b o e=>hx b o (bx (bo e)) e;exact h pins _ σ H xs _ Q I1 (by simpa using rv) hw
noncomputable def adf (to ti:TE) (t:GY):TG:=fun v σ H Q=>to σ H fun o H1=>ti σ H1 fun i H2=>t o i v H2 fun H3=>Q σ H3
theorem Fq {o i:Expr}{ti:TE}{t:GY} (ho:PE X o to) (hi:PE X i ti) (hs:PM X t)
  (ha:∀v,assign (.Subscript o i pos) X.env v=(do
   let ov <- holding [v] (eval o X.env)
   let iv <- holding [v,ov] (eval i X.env)
   standAt pos
   holding [v,ov,iv] (setItem ov iv v)
   release [v,ov,iv] []):=by intro _;rfl):PG X (.Subscript o i pos) (adf to ti t):=by
 intro pins s σ H v u Q I r h;rw[ha];refine ae (eR (aD (ho pins s σ H _ I h) fun ov s1 hQ9=>?_));obtain⟨x,H1,I1,r1,q1⟩:=hQ9;refine ae (eR (aD (hi pins s1 σ H1 _ I1 q1) fun iv s2 hQ9=>?_));obtain⟨y,H2,I2,r2,q2⟩:=hQ9;refine ae (nG (ae (eR (aD (hs pins s2 σ H2 x y v ov iv u _ I2 r1 r2 r q2) fun _ s3 ⟨H3,I3,q3⟩=>?_))));exact wpAny_release ⟨σ,H3,I3,q3⟩
noncomputable def xO (te:TE) (g:TG):TS:=fun D σ H=>te σ H fun x H1=>g x σ H1 D.nx
theorem tY {g:TG} (he:PE X e te) (hg:PG X tg g) (hs:swapsWithSole [tg] e pos.line X.env=pure false:=by rfl) (hw:swappedStores [tg] e X.env=pure none:=by rfl)
  (h1:(assignEach [tg] X.env).map (·.2) = [assign tg X.env]:=by rfl):PS X (.Assign [tg] e pos) (xO te g):=by
 intro pins s σ H D I h;refine wpAny_Assign_stores (aD (he pins s σ H _ I h) fun v s1 hQ9=>?_) hs hw;obtain⟨x,H1,I1,r1,q1⟩:=hQ9;rw[h1];exact aD (hg pins s1 σ H1 x v _ I1 r1 q1) fun _ s2 q=>q
theorem aW (hN:X.N.Nodup) (hi:X.N[i]? = some x) (hx:Loc X.env.scope x) (he:PE X e te) (hs:swapsWith e (some (.Name x pos')) pos.line X.env=pure false:=by rfl) (hf:X.fn x=true\/X.env.scope.names.lookup x=some .local:=by first|exact .inl rfl|exact .inr rfl|assumption) :
  PS X (.Assign [.Name x pos'] e pos) (xO te (mC i)):=by
 intro pins s σ H D I h;refine wpAny_Assign_Name (aD (he pins s σ H _ I h) fun v s1 hQ9=>?_) hs;obtain⟨y,H1,I1,r1,q1⟩:=hQ9;exact wH I1 hN hi hx r1 (fun s2 I2=>⟨_,H1,I2,q1⟩) hf
noncomputable def adg (i j:Nat) (ta:TA):TS:=fun D σ H=>ta σ H fun vs H1=>∃v w,vs = [v,w]/\D.nx ((σ.set i (some v)).set j (some w)) H1
theorem aaI {y:Str}{a b:Expr}{ta:TA}{px py pt:Pos}{kt k2 ID} (hc:X.calm=true) (hN:X.N.Nodup) (hi:X.N[i]? = some x) (hj:X.N[j]? = some y) (hU:i≠j)
  (hx:X.env.scope.names.lookup x=some .local) (hy:X.env.scope.names.lookup y=some .local) (ha:PA X [a,b] ta)
  (hw:swappedStores [.Tuple [.Name x px,.Name y py] kt pt] (.Tuple [a,b] k2 ID) X.env=pure (some [x,y]))
  (hs:swapsWithSole [.Tuple [.Name x px,.Name y py] kt pt] (.Tuple [a,b] k2 ID) pos.line X.env=pure false:=by rfl) :
  PS X (.Assign [.Tuple [.Name x px,.Name y py] kt pt] (.Tuple [a,b] k2 ID) pos) (adg i j ta):=by
 intro pins s σ H D I h;rw[exec_Assign_arm];refine ae (nG ?_);rw[hs];refine ae (ak ?_);rw[ax (by decide)]
 refine ae (Tuple_ (aD (ha _ pins s σ H _ I h) fun us s1 hQ9=>?_));obtain⟨vs,H1,I1,r1,q1⟩:=hQ9;obtain⟨v,w,e1,q1⟩:=q1;subst e1;obtain⟨u1,u2,rfl,rv,gO⟩:∃u1 u2,us = [u1,u2]/\RelV v u1/\RelV w u2:=by
  cases r1 with
  |cons p q =>
   cases q with
   |cons p' q' =>
    cases q'
    exact⟨_,_,rfl,p,p'⟩
 refine gJ ?_ (by show 2<=sizeLine;decide)
 have I2:Inv X pins σ H1 { s1 with heap:=s1.heap.push { cls:= .type "tuple",data:= .seq [u1,u2].toArray } }:=I1.kept (t':=s1.toks) fun b o e=>a8 _ e;rw[hw];refine ae (ak ?_);show wpAny (model X.prog X.w) X.A (do rule "assign.swapped-stores"; let items <- unpackItems (.ref s1.heap.objs.size) 2 none;assignInOrder [fun v=>bindName X.env y v,fun v=>bindName X.env x v] items.reverse;pure Flow.next) _ _ _;refine ae (nH (ae (unpackItems_tuple (items:= #[u1,u2]) (I.ok.hd hc) (IsTup.new s1.heap _) fun h' eO=>?_)));have I3:=I2.kept (h':=h') (t':=s1.toks) fun b o e=>eO b o (bx (bo e)) e;show wpAny _ _ (assignInOrder [fun v=>bindName X.env y v,fun v=>bindName X.env x v] [u2,u1] >>= fun _=>pure Flow.next) _ _ _;refine ae (Ve (wpAny_bindName (wH I3 hN hj (.inl hy) gO (fun s2 I4=>?_) (.inr hy))));refine Ve (wpAny_bindName (wH I4 hN hi (.inl hx) rv (fun s3 I5=>assignInOrder_nil (ak ?_)) (.inr hx)));rw[List.set_comm _ _ (ba hU)]at I5;exact⟨_,H1,I5,q1⟩
noncomputable def aaJ (c:TT) (tb:TS):TS:=fun D σ H=>∃W:Nat->St->Hp->Prop,(∃m,W m σ H) /\ ∀m σ H,W m σ H ->
 c σ H fun b H1=>if b=true then ∃N:St->Hp->Prop,(∀aS H',N aS H' -> ∃m',m' < m/\W m' aS H')/\tb { D with nx:=N,ct:=N,bk:=D.nx } σ H1 else D.nx σ H1
theorem Eu {tb:TS} (hp:PassesOwn (model X.prog X.w) X.A X.env X.xe) (hc:PT X c tc) (hb:eY X body tb):PS X (.While c body [] pos) (aaJ tc tb):=by
 intro pins s σ H D I h;obtain⟨W,⟨m0,w0⟩,turn⟩:=h;refine wpAny_While (codeAny_whileLoop (fun n s'=>∃aS H',Inv X pins aS H' s'/\W n aS H') ?_ m0 ⟨σ,H,I,w0⟩);rintro n s1 ⟨uT,H1,I1,w1⟩;refine vS hp (aD (hc pins s1 uT H1 _ I1 (turn n uT H1 w1)) fun b s2 ⟨H2,I2,q2⟩=>?_);cases b with
 |true =>
  obtain⟨N,hN,q2⟩:=q2;rw[aF rfl];refine vS hp (aD (hb pins s2 uT H2 _ I2 q2) fun f s3 q3=>?_);cases f with
  |next =>
   obtain⟨lI,H3,I3,n3⟩:=q3;obtain⟨m',hm,w3⟩:=hN lI H3 n3;exact⟨m',hm,lI,H3,I3,w3⟩
  |cont =>
   obtain⟨lI,H3,I3,n3⟩:=q3;obtain⟨m',hm,w3⟩:=hN lI H3 n3;exact⟨m',hm,lI,H3,I3,w3⟩
  |brk=>exact q3
  |ret v=>exact q3
 |false =>
  rw[ax cD];exact zw ⟨uT,H2,I2,q2⟩
structure It where
 go:Nat->Hp->Prop
 pO:Nat->Hp->V->Hp->Prop
 stop:Nat->Hp->Prop
noncomputable def i9 (X:Cx) (pins:List (Addr×Obj)) (H:Hp) (b:Addr):Prop:=
 H b=none/\b≠X.env.locals/\b ∉ X.fs/\(b∈X.ex\/X.ee.heap.objs.size<=b)/\(∀x c,X.env.cells.lookup x=some c->c≠b) /\ ∀p∈X.pn++pins,p.1≠b
theorem Inv.ko (I:Inv X pins σ H s) (hb:s.heap.objs.size<=b) (hn:H' b=none):i9 X pins H' b:=by
 refine⟨hn,nI (gI I.lt hb),I.ac7 hb,.inr (gW I.sz hb),fun x c e z=>?_,fun p hp z=>?_⟩
 ·obtain⟨v,q⟩:=I.cell x c e
  exact absurd (gI q.lt (by rw[z];exact hb)) (qA _)
 ·exact absurd (gI (bo (I.pin p hp).1) (by rw[z];exact hb)) (qA _)
structure Turn (P:Program) (w:World) (K:PySem.W.Frag) (tg:Expr) (J:It) (fp:List Addr) (it:Addr) (tn:Nat->Heap->Prop):Prop where
 mem:it∈fp
 obj:∀i h,tn i h -> ∀b∈fp,∃o,h.get? b=some o /\ ∀v,o.data ≠ .cell v
 keep:∀i h h',tn i h->(∀b∈fp,∀o,h.get? b=some o->h'.get? b=some o)->tn i h'
 item:∀ (X:Cx),X.prog=P->X.w=w->X.K=K->X.calm=true -> ∀ (i:Nat) (pins:List (Addr×Obj)) (s:Shared) (σ:St) (H:Hp) (E:Value->Shared->Prop),Inv X pins σ H s->(∀b∈fp,i9 X pins H b)->tn i s.heap->J.go i H ->
  wpAny (model P w) X.A (pyNext (.ref it)) (fun r s1=>∃u,r=some u /\
   wpAny (model P w) X.A (letOwnedTupleGo tg (.ref it) u) (fun _ s2=>∃x H',Inv X pins σ H' s2/\RelV x u/\J.pO i H x H'/\tn (i+1) s2.heap /\ ∀b∈fp,H' b=none) E s1) E s
 done:∀ (X:Cx),X.prog=P->X.w=w->X.K=K->X.calm=true -> ∀ (i:Nat) (pins:List (Addr×Obj)) (s:Shared) (σ:St) (H:Hp) (E:Value->Shared->Prop),Inv X pins σ H s->(∀b∈fp,i9 X pins H b)->tn i s.heap->J.stop i H ->
  wpAny (model P w) X.A (pyNext (.ref it)) (fun r s1=>r=none/\Inv X pins σ H s1) E s
 self:∀ (A:Around) (i:Nat) (s:Shared) (Q:Value->Shared->Prop) (E:Value->Shared->Prop),tn i s.heap->Q (.ref it) s->wpAny (model P w) A (pyIter (.ref it)) Q E s
abbrev TI:=St->Hp->(It->Hp->Prop)->Prop
noncomputable def IE (X:Cx) (pins:List (Addr×Obj)) (σ:St) (tg:Expr) (R:It->Hp->Prop) (yk:Value) (s2:Shared):Prop:=
 ∃ (it:Addr) (fp:List Addr) (tn:Nat->Heap->Prop) (J:It) (H':Hp),yk = .ref it/\Inv X pins σ H' s2/\Turn X.prog X.w X.K tg J fp it tn/\tn 0 s2.heap/\(∀b∈fp,i9 X pins H' b)/\R J H'
noncomputable def PI (X:Cx) (tg iter:Expr) (wi:TI):Prop:=
 ∀ (pins:List (Addr×Obj)) (s:Shared) (σ:St) (H:Hp) (R:It->Hp->Prop),Inv X pins σ H s->wi σ H R ->
  wpAny (model X.prog X.w) X.A (eval iter X.env) (fun v s1=>wpAny (model X.prog X.w) X.A (pyIter v) (IE X pins σ tg R) X.xe s1) X.xe s
theorem uk {M:Model}{n:String}{vs:Array Value}{Q:Unit->Shared->Prop} (ho:s.heap.get? it=some o) (hc:o.cls = .type n) (hd:o.data = .fields vs)
  (hn : ["enumerate","zip","dict_itemiterator","dict_reverseitemiterator","odict_iterator","itertools.zip_longest","itertools.pairwise"].contains n=false) (hQ:Q () s):wpAny M A (letOwnedTupleGo tg (.ref it) u) Q E s:=by
 unfold letOwnedTupleGo;cases tg <;> first
  |exact ak hQ
  |(cases u <;> first
    |exact ak hQ
    |(refine ae (zx ho ?_);rw[hc,hd];show wpAny M A (if (["enumerate","zip","dict_itemiterator","dict_reverseitemiterator","odict_iterator","itertools.zip_longest","itertools.pairwise"].contains n && vs[0]? == some (rawInt _))=true then _ else _) Q E s;rw[ax (by intro h;rw[hn,Bool.false_and]at h;cases h)];exact ak hQ))
def rX (K:PySem.W.Frag) (a:Addr):It:=
 ⟨fun i H=>∃xs x,aj K H a xs/\xs[i]? = some x,fun i H x H'=>H'=H /\ ∀xs,aj K H a xs->xs[i]? = some x,fun i H=>∃xs,aj K H a xs/\xs.length<=i⟩
def mY (K:PySem.W.Frag) (a:Addr):It:=
 ⟨fun i H=>∃xs x,aJ K H a xs/\xs[i]? = some x,fun i H x H'=>H'=H /\ ∀xs,aJ K H a xs->xs[i]? = some x,fun i H=>∃xs,aJ K H a xs/\xs.length<=i⟩
def pP (lo:Int) (n:Nat):It:=⟨fun i _=>i < n,fun i H x H'=>H'=H/\x = .int (lo+i),fun i _=>n<=i⟩
theorem Xv (a it:Addr):Turn P w K tg (rX K a) [it] it (fun i h=>h.IsListIter it a i) where
 mem:=by simp
 obj:=fun i h st b hb=>by
  have e:b=it:=by simpa using hb
  subst e;obtain⟨o,e,c,d⟩:=st;exact⟨o,e,fun v z=>by rw[d]at z;cases z⟩
 keep:=fun i h h' st k=>st.at fun o e=>k it (by simp) o e
 item:=by
  intro X hP hw hK hc i pins s σ H E I hf st hg;subst hP hw hK;obtain⟨xs,x,hq,hx⟩:=hg;obtain⟨its,rv,p,hz⟩:=I.list hq;obtain⟨u,hu,ru⟩:=rv.get hx;obtain⟨f0,f1,f2,f3,f4,f5⟩:=hf it (by simp)
  refine Vf st p.isList (x:=u) (by simpa using hu) fun h' gi sb=>?_
  have I1:Inv X pins σ H { s with heap:=h' }:=I.turned (t':=s.toks) (fun b o hb e=>(sb.2 b hb).trans e) f0 f1 f3 f4 f5;obtain⟨o,e,c,d⟩:=id gi;exact⟨u,rfl,uk (s:={ s with heap:=h' }) e c d (by decide) ⟨x,H,I1,ru,⟨rfl,fun ys hy=>by rw[I.Nf hy hq];exact hx⟩,gi,fun b hb=>(hf b hb).1⟩⟩
 done:=by
  intro X hP hw hK hc i pins s σ H E I hf st hg;subst hP hw hK;obtain⟨xs,hq,hx⟩:=hg;obtain⟨its,rv,p,hz⟩:=I.list hq;obtain⟨f0,f1,f2,f3,f4,f5⟩:=hf it (by simp)
  have hl:=rv.length;exact Vg (I.ok.hd hc) st p.isList (by simp;omega) fun h' eb=>⟨rfl,I.turned (t':=s.toks) (fun b o hb e=>eb b o hb e) f0 f1 f3 f4 f5⟩
 self:=fun _ _ _ _ _ st h=>wpAny_pyIter_listiter st h
theorem WZ (a it:Addr):Turn P w K tg (mY K a) [it] it (fun i h=>h.IsTupleIter it a i) where
 mem:=by simp
 obj:=fun i h st b hb=>by
  have e:b=it:=by simpa using hb
  subst e;obtain⟨o,e,c,d⟩:=st;exact⟨o,e,fun v z=>by rw[d]at z;cases z⟩
 keep:=fun i h h' st k=>st.at fun o e=>k it (by simp) o e
 item:=by
  intro X hP hw hK hc i pins s σ H E I hf st hg;subst hP hw hK;obtain⟨xs,x,hq,hx⟩:=hg;obtain⟨its,rv,p,hz⟩:=I.tuple hq;obtain⟨u,hu,ru⟩:=rv.get hx;obtain⟨f0,f1,f2,f3,f4,f5⟩:=hf it (by simp)
  refine wpAny_pyNext_tuple_item st (show s.heap.IsTuple a its.toArray from p) (x:=u) (by simpa using hu) fun h' gi sb=>?_
  have I1:Inv X pins σ H { s with heap:=h' }:=I.turned (t':=s.toks) (fun b o hb e=>(sb.2 b hb).trans e) f0 f1 f3 f4 f5;obtain⟨o,e,c,d⟩:=id gi;exact⟨u,rfl,uk (s:={ s with heap:=h' }) e c d (by decide) ⟨x,H,I1,ru,⟨rfl,fun ys hy=>by rw[I.Xu hy hq];exact hx⟩,gi,fun b hb=>(hf b hb).1⟩⟩
 done:=by
  intro X hP hw hK hc i pins s σ H E I hf st hg;subst hP hw hK;obtain⟨xs,hq,hx⟩:=hg;obtain⟨its,rv,p,hz⟩:=I.tuple hq;obtain⟨f0,f1,f2,f3,f4,f5⟩:=hf it (by simp)
  have hl:=rv.length;exact wpAny_pyNext_tuple_end (I.ok.hd hc) st (show s.heap.IsTuple a its.toArray from p) (by simp;omega) fun h' eb=>⟨rfl,I.turned (t':=s.toks) (fun b o hb e=>eb b o hb e) f0 f1 f3 f4 f5⟩
 self:=fun _ _ _ _ _ st h=>wpAny_pyIter_tupleiter st h
theorem W0 (it:Addr) (lo:Int) (n:Nat):Turn P w K tg (pP lo n) [it] it (fun i h=>IsRangeIter h it (lo+(i:Nat) * 1) ((n:Int) - (i:Nat)) 1) where
 mem:=by simp
 obj:=fun i h st b hb=>by
  have e:b=it:=by simpa using hb
  subst e;exact⟨_,st,fun v z=>by
   have z':Data.fields _=Data.cell v:=z;cases z'⟩
 keep:=fun i h h' st k=>k it (by simp) _ st
 item:=by
  intro X hP hw hK hc i pins s σ H E I hf st hg;subst hP hw hK;obtain⟨f0,f1,f2,f3,f4,f5⟩:=hf it (by simp)
  have W:=Walks.range (prog:=X.prog) (w:=X.w) (I.ok.hd hc) it lo 1 n;refine W.item i s _ _ hg st fun v h' tk hv gi kk=>?_;obtain⟨t,rfl⟩:=hv;have I1:Inv X pins σ H { s with heap:=h',toks:=tk }:=I.turned (fun b o hb e=>kk b o (by simpa using hb) e) f0 f1 f3 f4 f5
  refine⟨_,rfl,uk (s:={ s with heap:=h',toks:=tk }) (n:= "range_iterator") gi rfl rfl (by decide) ⟨.int (lo+i),H,I1,⟨t,?_⟩,⟨rfl,rfl⟩,gi,fun b hb=>(hf b hb).1⟩⟩
  rw[Int.mul_one]
 done:=by
  intro X hP hw hK hc i pins s σ H E I hf st hg;subst hP hw hK;obtain⟨f0,f1,f2,f3,f4,f5⟩:=hf it (by simp)
  exact wpAny_pyNext_range_end (I.ok.hd hc) st (by have:n<=i:=hg;omega) fun h' eb=>⟨rfl,I.turned (t':=s.toks) (fun b o hb e=>eb b o hb e) f0 f1 f3 f4 f5⟩
 self:=fun _ _ _ _ _ st h=>wpAny_pyIter_rangeiter st h
noncomputable def O5 (K:PySem.W.Frag) (tl:TE):TI:=fun σ H R=>tl σ H fun x H1=>∃a,x = .ref a/\(∃xs,aj K H1 a xs)/\R (rX K a) H1
noncomputable def PQ (K:PySem.W.Frag) (tl:TE):TI:=fun σ H R=>tl σ H fun x H1=>∃a,x = .ref a/\(∃xs,aJ K H1 a xs)/\R (mY K a) H1
theorem iK {l:Expr} (hl:PE X l tl):PI X tg l (O5 X.K tl):=by
 intro pins s σ H R I h;refine aD (hl pins s σ H _ I h) fun v s1 hQ9=>?_;obtain⟨x,H1,I1,r1,q1⟩:=hQ9;obtain⟨a,e,⟨xs,hq⟩,q⟩:=q1;subst e;cases r1
 obtain⟨its,rv,p,hz⟩:=I1.list hq;refine zy p.isList ?_;refine⟨s1.heap.objs.size,[s1.heap.objs.size],_,_,H1,rfl,I1.kept (t':=s1.toks) fun b o e=>a8 _ e,Xv a _,⟨_,cj _ rfl,rfl,rfl⟩,fun b hb=>?_,q⟩;have e:b=s1.heap.objs.size:=by simpa using hb
 subst e;exact I1.ko (aO _) (I1.au.fresh (aO _))
theorem qV {l:Expr} (hl:PE X l tl):PI X tg l (PQ X.K tl):=by
 intro pins s σ H R I h;refine aD (hl pins s σ H _ I h) fun v s1 hQ9=>?_;obtain⟨x,H1,I1,r1,q1⟩:=hQ9;obtain⟨a,e,⟨xs,hq⟩,q⟩:=q1;subst e;cases r1
 obtain⟨its,rv,p,hz⟩:=I1.tuple hq;refine wpAny_pyIter_tuple (show s1.heap.IsTuple a its.toArray from p) ?_;refine⟨s1.heap.objs.size,[s1.heap.objs.size],_,_,H1,rfl,I1.kept (t':=s1.toks) fun b o e=>a8 _ e,WZ a _,⟨_,cj _ rfl,rfl,rfl⟩,fun b hb=>?_,q⟩;have e:b=s1.heap.objs.size:=by simpa using hb
 subst e;exact I1.ko (aO _) (I1.au.fresh (aO _))
theorem Ng {R:It->Hp->Prop}{hi:Int}{t u v:Tok}{tk:Nat} (I:Inv X pins σ H s) (h1 : -(2 ^ 62)<=lo) (h2:lo < 2 ^ 62) (h3 : -(2 ^ 62)<=hi) (h4:hi < 2 ^ 62)
  (q:R (pP lo (hi - lo).toNat) H):wpAny (model X.prog X.w) X.A (pyIter (.ref s.heap.objs.size)) (IE X pins σ tg R) E { s with heap:=s.heap.push { cls:= .type "range",data:= .fields #[.int lo t,.int hi u,.int 1 v] },toks:=tk }:=by
 refine wpAny_pyIter_range (IsRange.new ..) (small_one h1 h2 h3 h4) ?_;have I1:Inv X pins σ H { s with heap:=s.heap.push { cls:= .type "range",data:= .fields #[.int lo t,.int hi u,.int 1 v] },toks:=tk }:=I.kept fun b o e=>a8 _ e;refine⟨(s.heap.push { cls:= .type "range",data:= .fields #[.int lo t,.int hi u,.int 1 v] }).objs.size,[(s.heap.push { cls:= .type "range",data:= .fields #[.int lo t,.int hi u,.int 1 v] }).objs.size],_,_,H,rfl,
  I1.kept (t':=tk) fun b o e=>a8 _ e,W0 _ lo (hi - lo).toNat,?_,fun b hb=>?_,q⟩
 ·have e1:lo+((0:Nat):Int) * 1=lo:=by simp
  have e2:(((hi - lo).toNat:Nat):Int) - ((0:Nat):Int)=Builtin.Range.rangeSize lo hi 1:=by rw[rangeSize_one];split <;> omega
  show IsRangeIter _ _ (lo+((0:Nat):Int) * 1) ((((hi - lo).toNat:Nat):Int) - ((0:Nat):Int)) 1;rw[e1,e2];exact cj _ rfl
 ·have e:b=(s.heap.push { cls:= .type "range",data:= .fields #[.int lo t,.int hi u,.int 1 v] }).objs.size:=by simpa using hb
  subst e;exact I1.ko (aO _) (I1.au.fresh (aO _))
noncomputable def abQ (ta:TA):TI:=fun σ H R=>ta σ H fun vs H1=>∃j:Int,vs = [.int j] /\ -(2 ^ 62)<=j/\j < 2 ^ 62/\R (pP 0 j.toNat) H1
noncomputable def abR (ta:TA):TI:=fun σ H R=>ta σ H fun vs H1=>∃i j:Int,vs = [.int i,.int j]/\(-(2 ^ 62)<=i/\i < 2 ^ 62 /\ -(2 ^ 62)<=j/\j < 2 ^ 62)/\R (pP i (j - i).toNat) H1
theorem mj {a:Expr}{ta:TA}{p:Pos} (hg:Gl X "range") (hm:X.mg "range" = none) (ha:PA X [a] ta) (hs:starEach [a] X.env = [(false,eval a X.env)]:=by rfl):PI X tg (.Call (.Name "range" p) [a] [] pos) (abQ ta):=by
 intro pins s σ H R I h;refine Call_ (tW I hg hm boot_range (Le (aD (ha pos pins s σ H _ I h) fun us s1 hQ9=>?_) hs rfl));obtain⟨vs,H1,I1,r1,q1⟩:=hQ9;obtain⟨j,e,q1,q2,q⟩:=q1;subst e;cases r1 with
 |cons r rr =>
  cases rr
  obtain⟨t,rfl⟩:=r;exact call_range_1 (Ng I1 (by omega) (by omega) q1 q2 (by simpa using q))
theorem Xw {a b:Expr}{ta:TA}{p:Pos} (hg:Gl X "range") (hm:X.mg "range" = none) (ha:PA X [a,b] ta) (hs:starEach [a,b] X.env = [(false,eval a X.env),(false,eval b X.env)]:=by rfl) (uU:starEach [b] X.env = [(false,eval b X.env)]:=by rfl) :
  PI X tg (.Call (.Name "range" p) [a,b] [] pos) (abR ta):=by
 intro pins s σ H R I h;refine Call_ (tW I hg hm boot_range (Le (aD (ha pos pins s σ H _ I h) fun us s1 ⟨vs,H1,I1,r1,q1⟩=>?_) (by rw[hs,uU]) (by rw[uU];rfl)))
 obtain⟨i,j,e,⟨q1,q2,q3,q4⟩,q⟩:=q1;subst e;cases r1 with
 |cons r rr =>
  cases rr with
  |cons r' rr =>
   cases rr
   obtain⟨t,rfl⟩:=r;obtain⟨t',rfl⟩:=r';exact call_range_2 (Ng I1 q1 q2 q3 q4 q)
noncomputable def adh (wi:TI) (g:TG) (tb:TS):TS:=fun D σ H=>wi σ H fun J H1=>∃W:Nat->Nat->St->Hp->Prop,(∃m,W 0 m σ H1) /\ ∀i m σ H,W i m σ H ->
 (J.stop i H/\D.nx σ H)\/(J.go i H /\ ∃N:St->Hp->Prop,(∀aS H',N aS H' -> ∃m',m' < m/\W (i+1) m' aS H') /\ ∀x H',J.pO i H x H'->g x σ H' fun ir H2=>tb { D with nx:=N,ct:=N,bk:=D.nx } ir H2)
def tZ (fp:List Addr) (h:Heap):List (Addr×Obj):=fp.filterMap fun b=>(h.get? b).map fun o=>(b,o)
theorem tG (hb:b∈fp) (e:h.get? b=some o):(b,o)∈tZ fp h:=zv.mpr ⟨b,hb,by rw[e];rfl⟩
theorem Xx {p:Addr×Obj} (hp:p∈tZ fp h):p.1∈fp/\h.get? p.1=some p.2:=by
 obtain⟨b,hb,e⟩:=zv.mp hp;cases q:h.get? b with
 |none=>rw[q]at e;cases e
 |some o =>
  rw[q]at e;have e':(b,o)=p:=fc e;subst e';exact⟨hb,q⟩
theorem Inv.pinned (I:Inv X pins σ H s) (hf:∀b∈fp,i9 X pins H b) (ho:∀b∈fp,∃o,s.heap.get? b=some o /\ ∀v,o.data ≠ .cell v):Inv X (pins++tZ fp s.heap) σ H s:=
 I.N2 fun p hp=>(ff.mp hp).elim (fun z=>I.pin p (gr _ z)) fun z=>by
  obtain⟨hb,e⟩:=Xx z;obtain⟨f0,f1,f2,_⟩:=hf p.1 hb;obtain⟨o,e',d⟩:=ho p.1 hb;rw[e]at e';cases e';exact⟨e,f0,f1,f2,d⟩
theorem Inv.wI {pl:List (Addr×Obj)} (I:Inv X (pins++pl) σ H s):Inv X pins σ H s:=I.N2 fun p hp=>I.pin p (gr _ (kQ _ hp))
theorem lj {wi:TI}{g:TG}{tb:TS} (hp:PassesOwn (model X.prog X.w) X.A X.env X.xe) (hc:X.calm=true) (hi:PI X tg iter wi) (hg:PG X tg g) (hb:eY X body tb)
  (hs:∀x,foldedSetIterable iter X.env x=pure x:=by intro _;rfl):PS X (.For tg iter body [] pos) (adh wi g tb):=by
 intro pins s σ H D I h;refine wpAny_For (aD (hi pins s σ H _ I h) fun v s1 h1=>aD h1 fun yk s2 h2=>?_) hs;obtain⟨it,fp,tn,J,H2,e,I2,T,j0,f2,W,⟨m0,w0⟩,turn⟩:=h2;subst e;have lA:∀ {H':Hp},(∀b∈fp,H' b=none) -> ∀b∈fp,i9 X pins H' b:=fun hn b hb=>⟨hn b hb,(f2 b hb).2⟩;refine codeAny_forLoop_any (fun n s'=>∃i aS H',Inv X pins aS H' s'/\tn i s'.heap/\(∀b∈fp,H' b=none)/\W i n aS H') ?_ m0 ⟨0,σ,H2,I2,j0,fun b hb=>(f2 b hb).1,w0⟩;rintro n s3 ⟨i,lI,H3,I3,pQ,RO,w3⟩;rcases turn i n lI H3 w3 with⟨stop,qn⟩|⟨go,N,hN,step⟩
 ·refine vS hp (aD (T.done X rfl rfl rfl hc i pins s3 lI H3 X.xe I3 (lA RO) pQ stop) fun r s4 ⟨hr,I4⟩=>?_)
  subst hr;exact zw ⟨lI,H3,I4,qn⟩
 ·refine vS hp (aD (T.item X rfl rfl rfl hc i pins s3 lI H3 X.xe I3 (lA RO) pQ go) fun r s4 ⟨u,hr,h4⟩=>?_)
  subst hr;refine vS hp (aD h4 fun _ s5 hQ9=>?_);obtain⟨x,H5,I5,r5,y5,oq,rY⟩:=hQ9;have I5':=I5.pinned (lA rY) (T.obj _ _ oq);refine vS hp (aD (hg _ s5 lI H5 x u _ I5' r5 (step x H5 y5)) fun _ s6 hQ9=>?_);obtain⟨σ6,H6,I6,q6⟩:=hQ9;refine vS hp (aD (hb _ s6 σ6 H6 _ I6 q6) fun f s7 q7=>?_);have again:∀ {jd:St}{H7:Hp},Inv X (pins++tZ fp s5.heap) jd H7 s7->N jd H7 -> ∃m,m < n /\ ∃i aS H',Inv X pins aS H' s7/\tn i s7.heap/\(∀b∈fp,H' b=none)/\W i m aS H':=fun {jd H7} I7 n7=>by
   obtain⟨m',hm,w7⟩:=hN jd H7 n7;refine⟨m',hm,i+1,jd,H7,I7.wI,T.keep _ _ _ oq fun b hb o e=>(I7.pin (b,o) (gr _ (gr _ (tG hb e)))).1,fun b hb=>?_,w7⟩;obtain⟨o,e,d⟩:=T.obj _ _ oq b hb;exact(I7.pin (b,o) (gr _ (gr _ (tG hb e)))).2.1
  cases f with
  |next=>obtain⟨jd,H7,I7,n7⟩:=q7;exact again I7 n7
  |cont=>obtain⟨jd,H7,I7,n7⟩:=q7;exact again I7 n7
  |brk=>obtain⟨jd,H7,I7,q7⟩:=q7;exact⟨jd,H7,I7.wI,q7⟩
  |ret v=>obtain⟨x7,jd,H7,I7,r7,q7⟩:=q7;exact⟨x7,jd,H7,I7.wI,r7,q7⟩
theorem Ew {g:TG}{tb:TS} (Pv:Nat->St->Hp->Prop) (h0:Pv 0 σ H) (hl:∀i σ H,i<=xs.length->Pv i σ H->aj K H a xs)
  (hs:∀i x σ H,xs[i]? = some x->Pv i σ H->g x σ H fun ir H2=>tb { D with nx:=Pv (i+1),ct:=Pv (i+1),bk:=D.nx } ir H2) (hd:∀σ H,Pv xs.length σ H->D.nx σ H) :
  ∃W:Nat->Nat->St->Hp->Prop,(∃m,W 0 m σ H) /\ ∀i m σ H,W i m σ H ->
   ((rX K a).stop i H/\D.nx σ H)\/((rX K a).go i H /\ ∃N:St->Hp->Prop,(∀aS H',N aS H' -> ∃m',m' < m/\W (i+1) m' aS H') /\ ∀x H',(rX K a).pO i H x H'->g x σ H' fun ir H2=>tb { D with nx:=N,ct:=N,bk:=D.nx } ir H2):=by
 refine⟨fun i m σ H=>m=xs.length - i/\i<=xs.length/\Pv i σ H,⟨xs.length,by simp,bR _,h0⟩,?_⟩
 rintro i m σ H ⟨rfl,hi,p⟩;have q:=hl i σ H hi p
 by_cases aT:i < xs.length
 ·refine .inr ⟨⟨xs,xs[i],q,by simp[aT]⟩,Pv (i+1),fun aS H' p'=>⟨xs.length - (i+1),by omega,rfl,aT,p'⟩,fun x H' y=>?_⟩
  obtain⟨e,y⟩:=y;subst e;exact hs i x σ _ (y xs q) p
 ·have e:i=xs.length:=by omega
  subst e;exact .inl ⟨⟨xs,q,aO _⟩,hd σ H p⟩
theorem Zt {g:TG}{tb:TS} (Pv:Nat->St->Hp->Prop) (h0:Pv 0 σ H) (hl:∀i σ H,i<=xs.length->Pv i σ H->aJ K H a xs)
  (hs:∀i x σ H,xs[i]? = some x->Pv i σ H->g x σ H fun ir H2=>tb { D with nx:=Pv (i+1),ct:=Pv (i+1),bk:=D.nx } ir H2) (hd:∀σ H,Pv xs.length σ H->D.nx σ H) :
  ∃W:Nat->Nat->St->Hp->Prop,(∃m,W 0 m σ H) /\ ∀i m σ H,W i m σ H ->
   ((mY K a).stop i H/\D.nx σ H)\/((mY K a).go i H /\ ∃N:St->Hp->Prop,(∀aS H',N aS H' -> ∃m',m' < m/\W (i+1) m' aS H') /\ ∀x H',(mY K a).pO i H x H'->g x σ H' fun ir H2=>tb { D with nx:=N,ct:=N,bk:=D.nx } ir H2):=by
 refine⟨fun i m σ H=>m=xs.length - i/\i<=xs.length/\Pv i σ H,⟨xs.length,by simp,bR _,h0⟩,?_⟩
 rintro i m σ H ⟨rfl,hi,p⟩;have q:=hl i σ H hi p
 by_cases aT:i < xs.length
 ·refine .inr ⟨⟨xs,xs[i],q,by simp[aT]⟩,Pv (i+1),fun aS H' p'=>⟨xs.length - (i+1),by omega,rfl,aT,p'⟩,fun x H' y=>?_⟩
  obtain⟨e,y⟩:=y;subst e;exact hs i x σ _ (y xs q) p
 ·have e:i=xs.length:=by omega
  subst e;exact .inl ⟨⟨xs,q,aO _⟩,hd σ H p⟩
theorem tH {n:Nat}{g:TG}{tb:TS} (Pv:Nat->St->Hp->Prop) (h0:Pv 0 σ H)
  (hs:∀i σ H,i < n->Pv i σ H->g (.int (lo+i)) σ H fun ir H2=>tb { D with nx:=Pv (i+1),ct:=Pv (i+1),bk:=D.nx } ir H2) (hd:∀σ H,Pv n σ H->D.nx σ H) :
  ∃W:Nat->Nat->St->Hp->Prop,(∃m,W 0 m σ H) /\ ∀i m σ H,W i m σ H ->
   ((pP lo n).stop i H/\D.nx σ H)\/((pP lo n).go i H /\ ∃N:St->Hp->Prop,(∀aS H',N aS H' -> ∃m',m' < m/\W (i+1) m' aS H') /\ ∀x H',(pP lo n).pO i H x H'->g x σ H' fun ir H2=>tb { D with nx:=N,ct:=N,bk:=D.nx } ir H2):=by
 refine⟨fun i m σ H=>m=n - i/\i<=n/\Pv i σ H,⟨n,by simp,bR _,h0⟩,?_⟩
 rintro i m σ H ⟨rfl,hi,p⟩
 by_cases aT:i < n
 ·refine .inr ⟨aT,Pv (i+1),fun aS H' p'=>⟨n - (i+1),by omega,rfl,aT,p'⟩,fun x H' y=>?_⟩
  obtain⟨e,y⟩:=y;subst e y;exact hs i σ _ aT p
 ·have e:i=n:=by omega
  subst e;exact .inl ⟨aO _,hd σ H p⟩
abbrev R2:=V->V->Hp->VK->Prop
noncomputable def cN (X:Cx) (f:Value->Value->Sem Value) (r:R2):Prop:=
 ∀ (pins:List (Addr×Obj)) (s:Shared) (σ:St) (H:Hp) (x y:V) (v u:Value) (Q:VK),Inv X pins σ H s->RelV x v->RelV y u->r x y H Q ->
  wpAny (model X.prog X.w) X.A (f v u) (EP X pins σ Q) X.xe s
noncomputable def IF (X:Cx) (f:Value->Sem Value) (r:V->Hp->VK->Prop):Prop:=
 ∀ (pins:List (Addr×Obj)) (s:Shared) (σ:St) (H:Hp) (x:V) (v:Value) (Q:VK),Inv X pins σ H s->RelV x v->r x H Q ->
  wpAny (model X.prog X.w) X.A (f v) (EP X pins σ Q) X.xe s
noncomputable def d5 (X:Cx) (f:Value) (r:List V->Hp->VK->Prop):Prop:=
 ∀ (pins:List (Addr×Obj)) (s:Shared) (σ:St) (H:Hp) (xs:List V) (us:List Value) (Q:VK),Inv X pins σ H s->Vals xs us->r xs H Q ->
  wpAny (model X.prog X.w) X.A (call f us) (EP X pins σ Q) X.xe s
noncomputable def adi (X:Cx) (r:V->Hp->(Bool->Hp->Prop)->Prop):Prop:=
 ∀ (pins:List (Addr×Obj)) (s:Shared) (σ:St) (H:Hp) (x:V) (v:Value) (Q:Bool->Hp->Prop),Inv X pins σ H s->RelV x v->r x H Q ->
  wpAny (model X.prog X.w) X.A (truthy v) (TP X pins σ Q) X.xe s
noncomputable def uV (r:R2) (ta tb:TE):TE:=fun σ H Q=>ta σ H fun x H1=>tb σ H1 fun y H2=>r x y H2 Q
noncomputable def tUn (r:V->Hp->VK->Prop) (ta:TE):TE:=fun σ H Q=>ta σ H fun x H1=>r x H1 Q
noncomputable def rI (C:Int->Int->Prop) (g:Int->Int->V):R2:=fun x y H Q=>∃i j,x = .int i/\y = .int j/\C i j/\Q (g i j) H
noncomputable def rZ (g:Int->Int->V):R2:=fun x y H Q=>∃i j,x = .int i/\y = .int j/\Q (g i j) H
def rU (g:Int->V):V->Hp->VK->Prop:=fun x H Q=>∃i,x = .int i/\Q (g i) H
section
variable{a b:Expr}{tc:TE}
theorem GZ (ha:PE X a ta) (hb:PE X b tb) {R:V->V->Hp->Prop} (I:Inv X pins σ H s)
  (h:ta σ H fun x H1=>tb σ H1 fun y H2=>R x y H2) {Q:Value->Shared->Prop}{f:Value->Value->Sem Value}
  (hf:∀v u s2 x y H2,Inv X pins σ H2 s2->RelV x v->RelV y u->R x y H2->wpAny (model X.prog X.w) X.A (f v u) Q X.xe s2) :
  wpAny (model X.prog X.w) X.A (eval a X.env) (fun v bq=>wpAny (model X.prog X.w) X.A (eval b X.env) (fun u lz=>wpAny (model X.prog X.w) X.A (f v u) Q X.xe lz) X.xe bq) X.xe s:=by
 refine aD (ha pins s σ H _ I h) fun v s1 hQ9=>?_;obtain⟨x,H1,I1,r1,q1⟩:=hQ9;refine aD (hb pins s1 σ H1 _ I1 q1) fun u s2 hQ9=>?_;obtain⟨y,H2,I2,r2,q2⟩:=hQ9;exact hf v u s2 x y H2 I2 r1 r2 q2
theorem bA {op:Operator}{r:R2} (ho:cN X (binaryOp op) r) (ha:PE X a ta) (hb:PE X b tb):PE X (.BinOp a op b pos) (uV r ta tb):=by
 intro pins s σ H Q I h;exact wpAny_BinOp (GZ ha hb I h fun v u s2 x y H2 I2 rx ry q=>ho pins s2 σ H2 x y v u Q I2 rx ry q)
theorem FZ {op:UnaryOp}{r:V->Hp->VK->Prop} (ho:IF X (unaryOp op) r) (ha:PE X a ta):PE X (.UnaryOp op a pos) (tUn r ta):=by
 intro pins s σ H Q I h;exact UnaryOp_ (aD (ha pins s σ H _ I h) fun v s1 ⟨x,H1,I1,r1,q1⟩=>ho pins s1 σ H1 x v Q I1 r1 q1)
theorem ym {f:Value->Value->Sem Value}{C:Int->Int->Prop}{g:Int->Int->Int}
  (rule:∀ (i j:Int) (t u:Tok) (s:Shared) (Q:Value->Shared->Prop) (E:Value->Shared->Prop),C i j->Q (.int (g i j) s.toks) { s with toks:=s.toks+1 }->wpAny (model X.prog X.w) X.A (f (.int i t) (.int j u)) Q E s) :
  cN X f (rI C fun i j=>.int (g i j)):=by
 intro pins s σ H x y v u Q I rx ry h;obtain⟨i,j,rfl,rfl,hc,q⟩:=h;obtain⟨t,rfl⟩:=rx;obtain⟨t',rfl⟩:=ry;exact rule i j t t' s _ _ hc ⟨.int (g i j),H,I.tok _,⟨_,rfl⟩,q⟩
theorem PR {f:Value->Value->Sem Value}{g:Int->Int->Int}
  (rule:∀ (i j:Int) (t u:Tok) (s:Shared) (Q:Value->Shared->Prop) (E:Value->Shared->Prop),Q (.int (g i j) s.toks) { s with toks:=s.toks+1 }->wpAny (model X.prog X.w) X.A (f (.int i t) (.int j u)) Q E s) :
  cN X f (rZ fun i j=>.int (g i j)):=by
 intro pins s σ H x y v u Q I rx ry h;obtain⟨i,j,rfl,rfl,q⟩:=h;obtain⟨t,rfl⟩:=rx;obtain⟨t',rfl⟩:=ry;exact rule i j t t' s _ _ ⟨.int (g i j),H,I.tok _,⟨_,rfl⟩,q⟩
theorem G0 {f:Value->Value->Sem Value}{g:Int->Int->Bool}
  (rule:∀ (i j:Int) (t u:Tok) (s:Shared) (Q:Value->Shared->Prop) (E:Value->Shared->Prop),Q (.bool (g i j)) s->wpAny (model X.prog X.w) X.A (f (.int i t) (.int j u)) Q E s) :
  cN X f (rZ fun i j=>.bl (g i j)):=by
 intro pins s σ H x y v u Q I rx ry h;obtain⟨i,j,rfl,rfl,q⟩:=h;obtain⟨t,rfl⟩:=rx;obtain⟨t',rfl⟩:=ry;exact rule i j t t' s _ _ ⟨.bl (g i j),H,I,rfl,q⟩
noncomputable def adj (i j:Int):Prop:=0 < j/\j < 1073741824
noncomputable def adk (i j:Int):Prop:=0<=j/\j<=1000000/\i.natAbs < 2 ^ 64
noncomputable def Ha (i j:Int):Prop:=(-(2 ^ 64) < i/\i < 2 ^ 64)\/(-(2 ^ 64) < j/\j < 2 ^ 64)
theorem Ha.ok {i j:Int} (h:Ha i j):IntMulOk i j:=by
 rcases h with⟨h1,h2⟩|⟨h1,h2⟩
 ·exact .of_left (intBits_le_64 h1 h2)
 ·exact .of_right (intBits_le_64 h1 h2)
theorem iN:cN X (binaryOp .Add) (rZ fun i j=>.int (i+j)):=PR fun _ _ _ _ _ _ _ q=>add_int q
theorem lq:cN X (binaryOp .Sub) (rZ fun i j=>.int (i - j)):=PR fun _ _ _ _ _ _ _ q=>sub_int q
theorem AE:cN X (binaryOp .Mult) (rI Ha fun i j=>.int (i * j)):=ym fun _ _ _ _ _ _ _ hc q=>mul_int q hc.ok
theorem Zu:cN X (binaryOp .FloorDiv) (rI adj fun i j=>.int (i / j)):=ym fun i j _ _ _ _ _ hc q=>by
 have h1:(0:Int) < j:=hc.1;have h2:j < 1073741824:=hc.2;exact floordiv_int (by omega) (by rw[amb i (by omega)];exact q) (.inl (PyProof.noPylong_small (by omega)))
theorem t4:cN X (binaryOp .Mod) (rI (fun _ j=>0 < j) fun i j=>.int (i % j)):=ym fun i j _ _ _ _ _ hc q=>by
 have h1:(0:Int) < j:=hc;exact mod_int' (by omega) (by rw[Int.fmod_eq_emod_of_nonneg i (by omega)];exact q)
theorem Fs:cN X (binaryOp .Pow) (rI adk fun i j=>.int (i ^ j.toNat)):=ym fun _ _ _ _ _ _ _ hc q=>pow_int_small hc.1 hc.2.1 hc.2.2 q
theorem unI {f:Value->Sem Value}{g:Int->Int}
  (rule:∀ (i:Int) (t:Tok) (s:Shared) (Q:Value->Shared->Prop) (E:Value->Shared->Prop),Q (.int (g i) s.toks) { s with toks:=s.toks+1 }->wpAny (model X.prog X.w) X.A (f (.int i t)) Q E s) :
  IF X f (rU fun i=>.int (g i)):=by
 intro pins s σ H x v Q I rx h;obtain⟨i,rfl,q⟩:=h;obtain⟨t,rfl⟩:=rx;exact rule i t s _ _ ⟨.int (g i),H,I.tok _,⟨_,rfl⟩,q⟩
theorem Ft:IF X (unaryOp .USub) (rU fun i=>.int (-i)):=unI fun _ _ _ _ _ q=>neg_int q
end
def PU:V->V->Bool
 |.aI,.aI=>true|.aI,.int _=>true|.int _,.aI=>true|.aI,.bl _=>true|.bl _,.aI=>true|.aI,.str _=>true|.str _,.aI=>true
 |.int _,.int _=>true|.bl _,.bl _=>true|.str _,.str _=>true|.jy _,.jy _=>true
 |.int _,.str _=>true|.str _,.int _=>true|.bl _,.str _=>true|.str _,.bl _=>true
 |_,_=>false
noncomputable def rEq:R2:=fun x y H Q=>PU x y=true/\Q (.bl (decide (x=y))) H
noncomputable def rNe:R2:=fun x y H Q=>PU x y=true/\Q (.bl (!decide (x=y))) H
theorem Ak {i j:Int}:decide (V.int i=V.int j)=(i==j):=by
 rw[vT];simp
theorem OH {i j:Bool}:decide (V.bl i=V.bl j)=(i==j):=by
 rw[vT];simp
theorem N3 {i j:Str}:decide (V.str i=V.str j)=(i==j):=by
 rw[vT];simp
theorem N4 {i j:Array UInt8}:decide (V.jy i=V.jy j)=(i.toList==j.toList):=by
 rw[vT];cases i
 cases j
 simp
section
variable{a b:Expr}{tc:TE}
theorem cR {k k':Bool} (I:Inv X pins σ H s) (q:Q (.bl k) H) (e:k=k'):EP X pins σ Q (.bool k') s:=by
 subst e;exact⟨.bl k,H,I,rfl,q⟩
theorem dw:cN X (compareOp .Eq) rEq:=by
 intro pins s σ H x y v u Q I rx ry h;obtain⟨hs,q⟩:=h;cases x with
 |aI =>
  cases rx
  cases y with
  |aI=>cases ry;exact PySem.EqNone.eq_none_none (cR I q (by simp))
  |bl j=>cases ry;exact PySem.EqNone.eq_none_bool (cR I q (by simp))
  |int j=>obtain⟨t',rfl⟩:=ry;exact PySem.EqNone.eq_none_int (cR I q (by simp))
  |str j=>obtain⟨t',rfl⟩:=ry;exact PySem.EqNone.eq_none_str (cR I q (by simp))
  |_=>exact absurd (show false=true from hs) cD
 |bl i =>
  cases rx
  cases y with
  |aI=>cases ry;exact PySem.EqNone.eq_bool_none (cR I q (by simp))
  |bl j=>cases ry;exact eq_bool (cR I q OH)
  |str j=>obtain⟨t',rfl⟩:=ry;exact PySem.EqMixed.eq_bool_str (cR I q (by simp))
  |_=>exact absurd (show false=true from hs) cD
 |int i =>
  obtain⟨t,rfl⟩:=rx;cases y with
  |aI=>cases ry;exact PySem.EqNone.eq_int_none (cR I q (by simp))
  |int j=>obtain⟨t',rfl⟩:=ry;exact eq_int (cR I q Ak)
  |str j=>obtain⟨t',rfl⟩:=ry;exact PySem.EqMixed.eq_int_str (cR I q (by simp))
  |_=>exact absurd (show false=true from hs) cD
 |str i =>
  obtain⟨t,rfl⟩:=rx;cases y with
  |aI=>cases ry;exact PySem.EqNone.eq_str_none (cR I q (by simp))
  |bl j=>cases ry;exact PySem.EqMixed.eq_str_bool (cR I q (by simp))
  |int j=>obtain⟨t',rfl⟩:=ry;exact PySem.EqMixed.eq_str_int (cR I q (by simp))
  |str j=>obtain⟨t',rfl⟩:=ry;exact eq_str (cR I q N3)
  |_=>exact absurd (show false=true from hs) cD
 |jy i =>
  obtain⟨t,rfl⟩:=rx;cases y with
  |jy j=>obtain⟨t',rfl⟩:=ry;exact PySem.W.eq_bytes (cR I q N4)
  |_=>exact absurd (show false=true from hs) cD
 |_=>cases y <;> exact absurd (show false=true from hs) cD
theorem xr:cN X (compareOp .NotEq) rNe:=by
 intro pins s σ H x y v u Q I rx ry h;obtain⟨hs,q⟩:=h;cases x with
 |aI =>
  cases rx
  cases y with
  |aI=>cases ry;exact PySem.EqNone.ne_none_none (cR I q (by simp))
  |bl j=>cases ry;exact PySem.EqNone.ne_none_bool (cR I q (by simp))
  |int j=>obtain⟨t',rfl⟩:=ry;exact PySem.EqNone.ne_none_int (cR I q (by simp))
  |str j=>obtain⟨t',rfl⟩:=ry;exact PySem.EqNone.ne_none_str (cR I q (by simp))
  |_=>exact absurd (show false=true from hs) cD
 |bl i =>
  cases rx
  cases y with
  |aI=>cases ry;exact PySem.EqNone.ne_bool_none (cR I q (by simp))
  |bl j=>cases ry;exact ne_bool (cR I q (eJ not OH))
  |str j=>obtain⟨t',rfl⟩:=ry;exact PySem.EqMixed.ne_bool_str (cR I q (by simp))
  |_=>exact absurd (show false=true from hs) cD
 |int i =>
  obtain⟨t,rfl⟩:=rx;cases y with
  |aI=>cases ry;exact PySem.EqNone.ne_int_none (cR I q (by simp))
  |int j=>obtain⟨t',rfl⟩:=ry;exact ne_int (cR I q (eJ not Ak))
  |str j=>obtain⟨t',rfl⟩:=ry;exact PySem.EqMixed.ne_int_str (cR I q (by simp))
  |_=>exact absurd (show false=true from hs) cD
 |str i =>
  obtain⟨t,rfl⟩:=rx;cases y with
  |aI=>cases ry;exact PySem.EqNone.ne_str_none (cR I q (by simp))
  |bl j=>cases ry;exact PySem.EqMixed.ne_str_bool (cR I q (by simp))
  |int j=>obtain⟨t',rfl⟩:=ry;exact PySem.EqMixed.ne_str_int (cR I q (by simp))
  |str j=>obtain⟨t',rfl⟩:=ry;exact ne_str (cR I q (eJ not N3))
  |_=>exact absurd (show false=true from hs) cD
 |jy i =>
  obtain⟨t,rfl⟩:=rx;cases y with
  |jy j=>obtain⟨t',rfl⟩:=ry;exact PySem.W.ne_bytes (cR I q (eJ not N4))
  |_=>exact absurd (show false=true from hs) cD
 |_=>cases y <;> exact absurd (show false=true from hs) cD
theorem rq:cN X (compareOp .Lt) (rZ fun i j=>.bl (decide (i < j))):=G0 fun _ _ _ _ _ _ _ q=>lt_int q
theorem xt:cN X (compareOp .LtE) (rZ fun i j=>.bl (decide (i<=j))):=G0 fun _ _ _ _ _ _ _ q=>le_int q
theorem O6:cN X (compareOp .Gt) (rZ fun i j=>.bl (decide (j < i))):=G0 fun _ _ _ _ _ _ _ q=>gt_int q
theorem xf:cN X (compareOp .Is) (fun x y H Q=>y = .aI/\Q (.bl (decide (x = .aI))) H):=by
 intro pins s σ H x y v u Q I rx ry h;obtain⟨rfl,q⟩:=h;cases ry
 refine is_none_gen (cR I q ?_);cases x <;> first
  |(cases rx;rfl)
  |(obtain⟨t,rfl⟩:=rx;rfl)
theorem bz (b:Expr) {op:CmpOp} (h:op ≠ .In:=by decide) (h2:op ≠ .NotIn:=by decide):behindInMarks op b=false:=by
 have e1:(op==CmpOp.In)=false:=by cases op <;> first|rfl|exact absurd rfl h
 have e2:(op==CmpOp.NotIn)=false:=by cases op <;> first|rfl|exact absurd rfl h2
 cases b <;> simp[behindInMarks,e1,e2]
theorem gx {op:CmpOp}{r:R2} (ho:cN X (compareOp op) r) (ha:PE X a ta) (hb:PE X b tb) (hm:behindInMarks op b=false):PE X (.Compare a [op] [b] pos) (uV r ta tb):=by
 intro pins s σ H Q I h;exact wpAny_Compare1 (GZ ha hb I h fun v u s2 x y H2 I2 rx ry q=>ho pins s2 σ H2 x y v u Q I2 rx ry q) hm
noncomputable def O7 (t:TE):TT:=fun σ H Q=>t σ H fun x H'=>∃k,x = .bl k/\Q k H'
theorem bU {op:CmpOp}{r:R2} (ho:cN X (compareOp op) r) (ha:PE X a ta) (hb:PE X b tb) (hm:behindInMarks op b=false):PT X (.Compare a [op] [b] pos) (O7 (uV r ta tb)):=by
 intro pins s σ H Q I h;refine wpAny_isTrue_Compare1 (aD (ha pins s σ H _ I h) fun v s1 ⟨x,H1,I1,r1,q1⟩=>aD (hb pins s1 σ H1 _ I1 q1) fun u s2 ⟨y,H2,I2,r2,q2⟩ =>
  aD (ho pins s2 σ H2 x y v u _ I2 r1 r2 q2) fun c s3 ⟨z,H3,I3,r3,k,e,q3⟩=>?_) hm
 subst e;cases r3
 exact kR ⟨H3,I3,q3⟩
noncomputable def OI (r r':R2) (ta tb tc:TE):TE:=fun σ H Q=>ta σ H fun x H1=>tb σ H1 fun y H2=>r x y H2 fun z H3=>∃k,z = .bl k /\
 (if k=true then tc σ H3 fun w' H4=>r' y w' H4 Q else Q (.bl false) H3)
theorem Nh {op r6:CmpOp}{r r':R2} (ho:cN X (compareOp op) r) (gz:cN X (compareOp r6) r') (ha:PE X a ta) (hb:PE X b tb) (hc:PE X c tc)
  (hm:lastMarks [op,r6] [b,c]=false:=by with_unfolding_all rfl):PE X (.Compare a [op,r6] [b,c] pos) (OI r r' ta tb tc):=by
 intro pins s σ H Q I h;refine Compare_chain (aD (ha pins s σ H _ I h) fun v s1 ⟨x,H1,I1,r1,q1⟩=>chain_link (aD (hb pins s1 σ H1 _ I1 q1) fun u s2 ⟨y,H2,I2,r2,q2⟩ =>
  aD (ho pins s2 σ H2 x y v u _ I2 r1 r2 q2) fun d s3 ⟨z,H3,I3,r3,k,e,q3⟩=>?_)) hm
 subst e;cases r3
 refine kR ?_;cases k with
 |false=>exact ite_ff ⟨.bl false,H3,I3,rfl,q3⟩
 |true=>exact ite_tt (chain_last (aD (hc pins s3 σ H3 _ I3 q3) fun w' s4 ⟨z',H4,I4,r4,q4⟩=>gz pins s4 σ H4 y z' u w' Q I4 r2 r4 q4))
theorem Yn {op r6:CmpOp}{r r':R2} (ho:cN X (compareOp op) r) (gz:cN X (compareOp r6) r') (ha:PE X a ta) (hb:PE X b tb) (hc:PE X c tc)
  (hm:lastMarks [op,r6] [b,c]=false:=by with_unfolding_all rfl):PT X (.Compare a [op,r6] [b,c] pos) (O7 (OI r r' ta tb tc)):=by
 intro pins s σ H Q I h;refine isTrue_chain (aD (ha pins s σ H _ I h) fun v s1 ⟨x,H1,I1,r1,q1⟩=>test_link (aD (hb pins s1 σ H1 _ I1 q1) fun u s2 ⟨y,H2,I2,r2,q2⟩ =>
  aD (ho pins s2 σ H2 x y v u _ I2 r1 r2 q2) fun d s3 ⟨z,H3,I3,r3,k,e,q3⟩=>?_)) hm
 subst e;cases r3
 refine kR ?_;cases k with
 |false =>
  obtain⟨k',e',q'⟩:=q3;cases e'
  exact ite_ff ⟨H3,I3,q'⟩
 |true =>
  refine ite_tt (test_last (aD (hc pins s3 σ H3 _ I3 q3) fun w' s4 ⟨z',H4,I4,r4,q4⟩=>aD (gz pins s4 σ H4 y z' u w' _ I4 r2 r4 q4) fun d' s5 hQ9=>?_));obtain⟨z2,H5,I5,r5,k2,e2,q5⟩:=hQ9;subst e2;cases r5
  exact kR ⟨H5,I5,q5⟩
noncomputable def PV (K:PySem.W.Frag) (x:V) (H:Hp) (k:Bool):Prop:=
 match x with
 |.aI=>k=false
 |.bl b=>k=b
 |.int i=>k=(i != 0)
 |.str y=>y.length<=sizeLine/\k=((y.length:Int) != 0)
 |.jy y=>y.size<=sizeLine/\k=((y.size:Int) != 0)
 |.ref p=>(∃xs,aj K H p xs/\k = !xs.isEmpty)\/(∃xs,aJ K H p xs/\k = !xs.isEmpty) \/ ∃kvs,H p=some (.dK kvs)/\k = !kvs.isEmpty
 |_=>False
theorem W2 {κ:Type}{kvs:List (κ×V)}{vs:List (κ×Value)} (r:KV kvs vs):(!vs.isEmpty) = !kvs.isEmpty:=by
 cases r <;> rfl
theorem DW (r:Vals xs its):(!its.toArray.isEmpty) = !xs.isEmpty:=by
 cases r <;> simp
theorem qW:(sizeLine:Nat) < 2 ^ 63:=by rw[aQ];decide
theorem aaK:adi X (fun x H Q=>∃k,PV X.K x H k/\Q k H):=by
 intro pins s σ H x v Q I rx h;obtain⟨k,e,q⟩:=h;have hl:=qW;have hs:sizeLine=16777216:=aQ;cases x with
 |aI =>
  cases rx
  have e':k=false:=e;subst e';exact truthy_none ⟨H,I,q⟩
 |bl b =>
  cases rx
  have e':k=b:=e;subst e';exact kR ⟨H,I,q⟩
 |int i =>
  obtain⟨t,rfl⟩:=rx;have e':k=(i != 0):=e;subst e';exact PySem.P.truthy_int ⟨H,I,q⟩
 |str y =>
  obtain⟨t,rfl⟩:=rx;obtain⟨hy,e'⟩:y.length<=sizeLine/\k=((y.length:Int) != 0):=e;subst e';exact PySem.P.truthy_str (by omega) ⟨H,I.tok _,q⟩
 |jy y =>
  obtain⟨t,rfl⟩:=rx;obtain⟨hy,e'⟩:y.size<=sizeLine/\k=((y.size:Int) != 0):=e;subst e';exact PySem.W.truthy_bytes (by omega) ⟨H,I.tok _,q⟩
 |ref p =>
  cases rx
  have e':(∃xs,aj X.K H p xs/\k = !xs.isEmpty)\/(∃xs,aJ X.K H p xs/\k = !xs.isEmpty) \/ ∃kvs,H p=some (.dK kvs)/\k = !kvs.isEmpty:=e;rcases e' with⟨xs,hx,e'⟩|⟨xs,hx,e'⟩|⟨kvs,hx,e'⟩
  ·subst e'
   obtain⟨its,r,pl,hz⟩:=I.list hx;have hlen:=r.length;exact wpAny_truthy_list pl.isList (by simp only[cE];omega) ⟨H,I.tok _,by rw[DW r];exact q⟩
  ·subst e'
   obtain⟨its,r,pl,hz⟩:=I.tuple hx;have hlen:=r.length;exact truthy_tuple pl (by simp only[cE];omega) ⟨H,I.tok _,by rw[DW r];exact q⟩
  ·subst e'
   obtain⟨hz,hS,vs,r,m⟩:kvs.length<=sizeLine/\(p==sysModules)=false /\ ∃vs,KV kvs vs/\s.heap.DictOf (cp X.prog X.w) p vs:=I.au p _ hx;have hlen:kvs.length=vs.length:=gV r;exact wpAny_truthy_dict hS m (by omega) ⟨H,I.tok _,by rw[W2 r];exact q⟩
 |_=>exact(show False from e).elim
theorem wJ (ha:PE X a ta) (he:∀whole,isTrue a X.env whole=(do let v <- whole;standAt a.pos;holding [v] (truthy v))) :
  PT X a (fun σ H Q=>ta σ H fun x H'=>∃k,PV X.K x H' k/\Q k H'):=by
 intro pins s σ H Q I h;exact isTrue_plain (aD (ha pins s σ H _ I h) fun v s1 ⟨x,H1,I1,r1,q1⟩=>aaK pins s1 σ H1 x v Q I1 r1 q1) (he _)
theorem zT:cN X (binaryOp .Add) (fun x y H Q=>∃i j,x = .str i/\y = .str j/\i.length+j.length<=sizeLine/\Q (.str (i++j)) H):=by
 intro pins s σ H x y v u Q I rx ry h;obtain⟨i,j,rfl,rfl,hz,q⟩:=h;obtain⟨t,rfl⟩:=rx;obtain⟨t',rfl⟩:=ry;exact add_str (fun t' tk=>⟨.str (i++j),H,I.tok _,⟨_,rfl⟩,q⟩) hz
theorem vals1 {x:V} (r:Vals [x] us):∃u,us = [u]/\RelV x u:=by
 cases r with
 |cons r1 r2=>cases r2;exact⟨_,rfl,r1⟩
theorem vals2 {x:V} (r:Vals [x,y] us):∃u w',us = [u,w']/\RelV x u/\RelV y w':=by
 cases r with
 |cons r1 r2 =>
  cases r2 with
  |cons r3 r4=>cases r4;exact⟨_,_,rfl,r1,r3⟩
theorem Ni:d5 X (.builtin "abs") (fun xs H Q=>∃i,xs = [.int i]/\Q (.int (if i < 0 then -i else i)) H):=by
 intro pins s σ H xs us Q I r h;obtain⟨i,rfl,q⟩:=h;obtain⟨u,rfl,t,rfl⟩:=vals1 r;exact call_abs_int fun u tk=>⟨.int (if i < 0 then -i else i),H,I.tok _,⟨_,rfl⟩,q⟩
theorem Xy (hc:X.calm=true):d5 X (.builtin "max") (fun xs H Q=>∃i j,xs = [.int i,.int j]/\Q (.int (if j > i then j else i)) H):=by
 intro pins s σ H xs us Q I r h;obtain⟨i,j,rfl,q⟩:=h;obtain⟨u,w',rfl,⟨t,rfl⟩,⟨t',rfl⟩⟩:=vals2 r;refine max_two_ints (I.ok.hd hc) fun h' tk k=>⟨_,H,I.kept k,?_,q⟩
 by_cases hj:j > i
 ·rw[aF hj,aF hj];exact⟨_,rfl⟩
 ·rw[ax hj,ax hj];exact⟨_,rfl⟩
theorem MF (hc:X.calm=true):d5 X (.builtin "min") (fun xs H Q=>∃i j,xs = [.int i,.int j]/\Q (.int (if j < i then j else i)) H):=by
 intro pins s σ H xs us Q I r h;obtain⟨i,j,rfl,q⟩:=h;obtain⟨u,w',rfl,⟨t,rfl⟩,⟨t',rfl⟩⟩:=vals2 r;refine min_two_ints (I.ok.hd hc) fun h' tk k=>⟨_,H,I.kept k,?_,q⟩
 by_cases hj:j < i
 ·rw[aF hj,aF hj];exact⟨_,rfl⟩
 ·rw[ax hj,ax hj];exact⟨_,rfl⟩
end
structure rL (h:Heap) (x dx C:Addr) (mA:Str->Option Value):Prop where
 obj:h.get? x=some (PySem.W.instObj C dx)
 ns:h.Ns1 dx mA
 ne:dx≠x
theorem zV (n:h.Ns1 dx mA):∃od,h.get? dx=some od /\ ∀name,PySem.W.lookIn name od=some (mA name):=by
 obtain⟨o,es,ep,ho,hd,hk,_,hm⟩:=n;refine⟨o,ho,fun name=>?_⟩;have e:=hm name;unfold nsFind findBy at e;rw[<-Array.find?_toList]at e;unfold PySem.W.lookIn;rw[hd]
 dsimp only
 split
 ·rename_i y q
  rw[q]at e;exact eJ some e
 ·rename_i q
  rw[q]at e;have a:es.toList.any (·.refKey)=false:=by
   rw[Vh];intro y hy;obtain⟨z,t,kq⟩:=hk y (Array.mem_toList_iff.mp hy);simp[DictEntry.refKey,kq]
  have a' : ¬ es.toList.any (·.refKey)=true:=by rw[a];exact cD
  rw[ax a'];exact eJ some e
theorem rL.look {x:Addr} (I:rL h x dx C mA):∃od,PySem.W.InstAt h x (PySem.W.instObj C dx) C (some od) /\ ∀name,PySem.W.lookIn name od=some (mA name):=
 let ⟨od,ho,hl⟩:=zV I.ns
 ⟨od,⟨I.obj,rfl,rfl,ho⟩,hl⟩
section
variable{x:Addr}{v:Value}
theorem get_map {expr:Bool}{Q:Value->Shared->Prop} (X:K.In s.heap) (I:rL s.heap x dx C mA) (hg:PySem.W.plainGet K C name=true) (hh:PySem.W.hasDictIn K C=true)
  (ha:PySem.W.findIn K (.ref C) name=some none) (hv:mA name=some v) (r9:PySem.W.handedIn v=true) (h:Q v { s with toks:=s.toks+1 }) :
  wpAny (model prog w) A (getAttr (.ref x) name expr) Q E s:=by
 obtain⟨od,J,hl⟩:=I.look;exact PySem.W.get_value X J (Vi hg).1 (PySem.W.findObj_own hh ha rfl (by rw[hl,hv])) r9 h
theorem Yo {pl:Sem Bool}{Q:Value×List Value->Shared->Prop} (X:K.In s.heap) (I:rL s.heap x dx C mA) (hg:PySem.W.plainGet K C name=true)
  (hf:PySem.W.findIn K (.ref C) name=some (some (.ref f))) (ht:PySem.W.isFn K (.ref f)=true) (hv:mA name=none) (h:Q (.ref f,[.ref x]) s) :
  wpAny (model prog w) A (getMethod (.ref x) name pl) Q E s:=by
 obtain⟨od,J,hl⟩:=I.look;exact PySem.W.method_fn X J (Vi hg).1 (Vi hg).2 hf (jG.mp ht) (by show(PySem.W.lookIn name od).map (·.isSome)=some false;rw[hl,hv];rfl) h
theorem Zv {Q:Unit->Shared->Prop} (X:K.In s.heap) (I:rL s.heap x dx C mA)
  (hs:PySem.W.findIn K (.ref C) "__setattr__" = some (some (.builtin "object.__setattr__"))) (hp:PySem.W.plainOver K C=true) (ht:PySem.W.takerIn K C name=some none) (hh:PySem.W.hasDictIn K C=true)
  (hw:PySem.Within mA ns) (hsz:ns.length<=sizeLine)
  (h:∀h',rL h' x dx C (fun y=>if y=name then some v else mA y)->Heap.SameBut dx s.heap h'->Q () { s with heap:=h',toks:=s.toks+2 }) :
  wpAny (model prog w) A (setAttr (.ref x) name v) Q E s:=by
 obtain⟨od,J,hl⟩:=I.look;refine PySem.W.set_plain X J hs (PySem.W.osa_open (s:={ s with toks:=s.toks+1 }) (r:=none) X J hp ht fun b=>?_);obtain⟨cd,hc,rV⟩:=PySem.W.any_some hh;have hx:s.heap.get? x=some ⟨.ref C,some dx,.plain,#[]⟩:=I.obj;refine ae (ak (ae (ae (Vj hx (ae (PySem.W.Looks.here (s:={ s with toks:=s.toks+1 }) (PySem.W.looks_clsIn X hc) ?_))))));rw[rV];refine ak (a:=some dx) (ae (ak (ae ?_)));refine wpAny_nsSet1 (s:={ s with toks:=s.toks+1 }) I.ns fun h' BY uU=>?_;obtain⟨oD,esD,epD,hoD,RP,hcD⟩:=BY.count (PySem.Within.cons name v hw);refine ae (wpAny_lookBehind hoD (by rw[RP];exact pastItsLine_dict (gW hcD (by rw[cO];omega))) ?_)
 exact ak (h _ ⟨(uU.2 _ (ba I.ne)).trans I.obj,BY,I.ne⟩ uU)
theorem Yp {vs:List Value} (X:K.In s.heap) (hm:PySem.W.makesIn K C=true)
  (hi:PySem.W.findIn K (.ref C) "__init__" = some (some (.ref f))) (hf:PySem.W.typeIn K (.ref f)=some (.type "function"))
  (h:codeAny (model prog w) (A.under (.builtin "type.__call__" ⟨.ref C::vs,kw⟩)) (.call (.ref f) ⟨.ref (s.heap.objs.size+1)::vs,kw⟩) (PySem.W.InitBack (s.heap.objs.size+1) R)
   { s with heap:=(s.heap.push PySem.W.emptyDict).push (PySem.W.instObj C s.heap.objs.size) }) :
  codeAny (model prog w) A (.call (.ref C) ⟨vs,kw⟩) R s:=by
 obtain⟨hh,g,d,t,os⟩:=s;exact PySem.W.make_core (PySem.W.makes_of X hm) (PySem.W.looks_findIn X hi) (fun self=>PySem.W.bind_fn X self hf) (.inl rfl) h
end
def eg (f:Str) (v:V):List (Str×V)->List (Str×V)
 |[]=>[(f,v)]
 |(g,x)::r=>if g=f then (g,v)::r else (g,x)::eg f v r
theorem L9 (f g:Str) (v:V):∀fs:List (Str×V),(eg f v fs).lookup g=if g=f then some v else fs.lookup g
 |[]=>by
  show List.lookup g [(f,v)]=_
  by_cases h:g=f
  ·have hb:(g==f)=true:=jG.mpr h
   simp only[List.lookup,hb,aF h]
  ·have hb:(g==f)=false:=lY.mpr h
   simp only[List.lookup,hb,ax h]
 |(k,x)::r=>by
  have ih:=L9 f g v r;rw[show eg f v ((k,x)::r)=(if k=f then (k,v)::r else (k,x)::eg f v r) from rfl]
  by_cases hk:k=f
  ·rw[aF hk]
   by_cases h:g=k
   ·have hb:(g==k)=true:=jG.mpr h
    simp only[List.lookup,hb,aF (h.trans hk)]
   ·have hb:(g==k)=false:=lY.mpr h
    simp only[List.lookup,hb,ax (fun e:g=f=>h (e.trans hk.symm))]
  ·rw[ax hk]
   by_cases h:g=k
   ·have hb:(g==k)=true:=jG.mpr h
    simp only[List.lookup,hb,ax (fun e:g=f=>hk (h.symm.trans e))]
   ·have hb:(g==k)=false:=lY.mpr h
    simp only[List.lookup,hb];exact ih
theorem Ed (f:Str) (v:V):∀fs:List (Str×V),f∈(eg f v fs).map (·.1) /\ ∀g,g∈fs.map (·.1)->g∈(eg f v fs).map (·.1)
 |[]=>⟨by simp[eg],fun g h=>by simp at h⟩
 |(k,x)::r=>by
  obtain⟨i1,i2⟩:=Ed f v r;rw[show eg f v ((k,x)::r)=(if k=f then (k,v)::r else (k,x)::eg f v r) from rfl]
  by_cases hk:k=f
  ·rw[aF hk]
   subst hk;exact⟨by simp,fun g h=>by simpa using h⟩
  ·rw[ax hk]
   refine⟨?_,fun g h=>?_⟩
   ·rw[ck]
    exact bO _ i1
   ·rw[ck]at h ⊢
    rcases bH.mp h with e|e
    ·exact bH.mpr (.inl e)
    ·exact bO _ (i2 g e)
theorem Ma (f:Str) (v:V):∀fs:List (Str×V),(eg f v fs).length<=fs.length+1
 |[]=>by simp[eg]
 |(k,x)::r=>by
  have ih:=Ma f v r;rw[show eg f v ((k,x)::r)=(if k=f then (k,v)::r else (k,x)::eg f v r) from rfl]
  by_cases hk:k=f
  ·rw[aF hk,cO,cO];omega
  ·rw[ax hk,cO,cO];omega
theorem g7.some_of {o:Option Value} (r:g7 (some v) o):∃u,o=some u/\RelV v u:=by
 cases o with
 |none=>exact(show False from r).elim
 |some u=>exact⟨u,rfl,r⟩
theorem g7.none_of {o:Option Value} (r:g7 none o):o=none:=by
 cases o with
 |none=>rfl
 |some u=>exact(show False from r).elim
theorem Xz (r:RelV v u):PySem.W.handedIn u=true:=by
 cases v with
 |aI=>cases (show u=Value.none from r);rfl
 |bl b=>cases (show u=Value.bool b from r);rfl
 |int i=>obtain⟨t,e⟩:=(show ∃t,u=Value.int i t from r);cases e;rfl
 |str x=>obtain⟨t,e⟩:=(show ∃t,u=Value.str x t from r);cases e;rfl
 |jy b=>obtain⟨t,e⟩:=(show ∃t,u=Value.bytes b t from r);cases e;rfl
 |jz b=>obtain⟨t,e⟩:=(show ∃t,u=Value.float b t from r);cases e;rfl
 |ref a=>cases (show u=Value.ref a from r);rfl
 |ty n=>cases (show u=Value.type n from r);rfl
section
variable{fs uR:List (Str×V)}
theorem Al (au:cL P w H h) (e:H a=some (.ins C dx fs)):∃mA,rL h a dx C mA/\(∀f,g7 (fs.lookup f) (mA f))/\PySem.Within mA (fs.map (·.1))/\fs.length<=1000/\H dx=some (.own a):=by
 obtain⟨d,z,ne,ob,mA,n,r,q⟩:=(show bp P w H h a (.ins C dx fs) from au a _ e);exact⟨mA,⟨ob,n,ne⟩,r,q,z,d⟩
end
structure lJ (K:PySem.W.Frag) (C:Addr):Prop where
 pg:PySem.W.plainGet K C Str.empty=true
 hd:PySem.W.hasDictIn K C=true
 po:PySem.W.plainOver K C=true
 sa:PySem.W.findIn K (.ref C) "__setattr__" = some (some (.builtin "object.__setattr__"))
theorem lJ.get (c:lJ K C) (f:Str):PySem.W.plainGet K C f=true:=c.pg
noncomputable def lr (K:PySem.W.Frag) (C:Addr) (f:Str):Prop:=PySem.W.findIn K (.ref C) f=some none
theorem lr.abS {f:Str} (n:lr K C f):PySem.W.takerIn K C f=some none:=by
 unfold PySem.W.takerIn;rw[show PySem.W.findIn K (.ref C) f=some none from n]
 rfl
structure Meth (K:PySem.W.Frag) (C:Addr) (m:Str) (f:Addr):Prop where
 at_:PySem.W.findIn K (.ref C) m=some (some (.ref f))
 fn:PySem.W.isFn K (.ref f)=true
 kp:PySem.W.keepIn K (.ref f)=true
section
variable{fs:List (Str×V)}{f:Str}
theorem Mf {b:Bool}{Q:Value->Shared->Prop} (I:Inv X pins σ H s) (e:H a=some (.ins C dx fs)) (c:lJ X.K C) (n:lr X.K C f) (l:fs.lookup f=some v)
  (h:∀u s',Inv X pins σ H s'->RelV v u->Q u s'):wpAny (model X.prog X.w) A (getAttr (.ref a) f b) Q E s:=by
 obtain⟨mA,O,r,_,_,_⟩:=Al I.au e;obtain⟨u,hu,ru⟩:=g7.some_of (v:=v) (o:=mA f) (by rw[<-l];exact r f)
 exact get_map I.cM O (c.get f) c.hd n hu (Xz ru) (h u _ (I.tok _) ru)
theorem W3 {m:Str}{g:Addr}{pl:Sem Bool}{Q:Value×List Value->Shared->Prop} (I:Inv X pins σ H s) (e:H a=some (.ins C dx fs)) (c:lJ X.K C) (k:Meth X.K C m g) (l:fs.lookup m=none)
  (h:Q (.ref g,[.ref a]) s):wpAny (model X.prog X.w) A (getMethod (.ref a) m pl) Q E s:=by
 obtain⟨mA,O,r,_,_,_⟩:=Al I.au e;have hn:mA m=none:=g7.none_of (by rw[<-l];exact r m)
 exact Yo I.cM O (c.get m) k.at_ k.fn hn h
theorem Mg {Q:Unit->Shared->Prop} (I:Inv X pins σ H s) (e:H a=some (.ins C dx fs)) (c:lJ X.K C) (n:lr X.K C f) (hl:fs.length < 1000) (ry:RelV y u)
  (h:∀s',Inv X pins σ (upd H a (.ins C dx (eg f y fs))) s'->Q () s'):wpAny (model X.prog X.w) A (setAttr (.ref a) f u) Q E s:=by
 obtain⟨mA,O,r,wi,_,ho⟩:=Al I.au e;have hz:(fs.map (·.1)).length<=sizeLine:=by rw[aE,aQ];omega
 refine Zv I.cM O c.sa c.po n.abS c.hd wi hz fun h' O' sb=>h _ ?_;have hd:∃o,h'.get? dx=some o:=let ⟨o,_,_,e',_⟩:=O'.ns;⟨o,e'⟩;refine I.write (x:=a) (e:=dx) (by rw[e];exact True.intro) (.inr ho) (fun b q hb z=>(sb.2 b hb).trans z) hd ?_
 refine⟨by rw[ah O.ne];exact ho,?_,O.ne,O'.obj,_,O'.ns,fun g=>?_,fun g hg=>?_⟩
 ·have:=Ma f y fs;omega
 ·show g7 ((eg f y fs).lookup g) (if g=f then some u else mA g)
  rw[L9]
  by_cases q:g=f
  ·rw[aF q,aF q];exact ry
  ·rw[ax q,ax q];exact r g
 ·by_cases q:g=f
  ·rw[q];exact(Ed f y fs).1
  ·refine(Ed f y fs).2 g (wi g fun z=>hg ?_)
   show(if g=f then some u else mA g)=none;rw[ax q];exact z
theorem Inv.made (I:Inv X pins σ H s):Inv X pins σ (upd (upd H s.heap.objs.size (.own (s.heap.objs.size+1))) (s.heap.objs.size+1) (.ins C s.heap.objs.size []))
  { s with heap:=(s.heap.push PySem.W.emptyDict).push (PySem.W.instObj C s.heap.objs.size) }:=by
 have e1:(s.heap.push PySem.W.emptyDict).get? s.heap.objs.size=some PySem.W.emptyDict:=cj s.heap rfl;have e2:((s.heap.push PySem.W.emptyDict).push (PySem.W.instObj C s.heap.objs.size)).get? (s.heap.objs.size+1)=some (PySem.W.instObj C s.heap.objs.size):=by
  have:=cj (s.heap.push PySem.W.emptyDict) (o:=PySem.W.instObj C s.heap.objs.size) rfl
  rwa [l6]at this
 have e3:(s.heap.push PySem.W.emptyDict).Ns s.heap.objs.size (fun _=>none):=⟨PySem.W.emptyDict,#[],_,e1,rfl,(fun e he=>absurd he (by simp)),fun _=>rfl⟩
 have I1:=I.laid (a:=s.heap.objs.size) (o:= .own (s.heap.objs.size+1)) (h':=s.heap.push PySem.W.emptyDict) (t':=s.toks) (fun b u q=>a8 _ q) (aO _) ⟨_,e1⟩;refine I1.laid (a:=s.heap.objs.size+1) (o:= .ins C s.heap.objs.size []) (t':=s.toks) (fun b u q=>a8 _ q) (Nat.le_of_eq (l6 _ _)) ?_;have ne:s.heap.objs.size≠s.heap.objs.size+1:=bx (vU _);refine⟨by rw[ah ne,ag],bR _,ne,e2,fun _=>none,(Heap.Ns1.of_empty e3).at fun o q=>a8 _ q,fun _=>True.intro,fun y hy=>absurd rfl hy⟩
theorem Zw {f:Str}{Q:Value->Shared->Prop} (hb:attributeBase e f env (eval e env)=eval e env)
  (h:wpAny (model prog w) A (eval e env) (fun o bq=>wpAny (model prog w) A (getAttr o f true) Q E bq) E s):wpAny (model prog w) A (eval (.Attribute e f pos) env) Q E s:=
 Attribute_any_ h (by rw[arm_eval_Attribute,hb])
end
noncomputable def adl (K:PySem.W.Frag) (ta:TE) (f:Str):TE:=fun σ H Q=>ta σ H fun x H1=>∃a C dx fs v,x = .ref a/\H1 a=some (.ins C dx fs)/\lJ K C/\lr K C f/\fs.lookup f=some v/\Q v H1
noncomputable def adm (K:PySem.W.Frag) (ta tv:TE) (f:Str):TS:=fun D σ H=>tv σ H fun y H1=>ta σ H1 fun x H2=>∃a C dx fs,x = .ref a/\H2 a=some (.ins C dx fs)/\lJ K C/\lr K C f/\fs.length < 1000 /\
 D.nx σ (upd H2 a (.ins C dx (eg f y fs)))
noncomputable def PX (X:Cx) (op:Operator) (rd:V->V->Hp->VK->Prop):Prop:=
 ∀ (pins:List (Addr×Obj)) (s:Shared) (σ:St) (H:Hp) (x y:V) (u v:Value) (Q:VK),Inv X pins σ H s->RelV x u->RelV y v->rd x y H Q->wpAny (model X.prog X.w) X.A (inplaceOp op u v) (EP X pins σ Q) X.xe s
noncomputable def Zx (K:PySem.W.Frag) (ta tv:TE) (rd:V->V->Hp->VK->Prop) (f:Str):TS:=fun D σ H=>ta σ H fun x H1=>∃a C dx fs v,x = .ref a/\H1 a=some (.ins C dx fs)/\lJ K C/\lr K C f/\fs.lookup f=some v /\
 tv σ H1 fun y H2=>rd v y H2 fun z H3=>∃yn uR,H3 a=some (.ins C yn uR)/\uR.length < 1000/\D.nx σ (upd H3 a (.ins C yn (eg f z uR)))
section
variable{o:Expr}{f:Str}{PY:Pos}
theorem pj (he:PE X e ta) (hb:attributeBase e f X.env (eval e X.env)=eval e X.env):PE X (.Attribute e f pos) (adl X.K ta f):=by
 intro pins s σ H Q I h;refine Zw hb (aD (he pins s σ H _ I h) fun u s1 hQ9=>?_);obtain⟨x,H1,I1,rx,a,C,dx,fs,v,ex,ea,c,n,l,q⟩:=hQ9;subst ex;obtain rfl:u=Value.ref a:=rx;exact Mf I1 ea c n l fun u' s2 I2 ru=>⟨v,H1,I2,ru,q⟩
theorem AF (ha:PE X o ta) (hv:PE X value tv) (hs:swapsWith value (some (.Attribute o f pos')) pos.line X.env=pure false):PS X (.Assign [.Attribute o f pos'] value pos) (adm X.K ta tv f):=by
 intro pins s σ H D I h;refine plainObj_wpAny_Assign_Attribute (aD (hv pins s σ H _ I h) fun u s1 ⟨y,H1,I1,ry,q⟩=>aD (ha pins s1 σ H1 _ I1 q) fun ov s2 hQ9=>?_) hs;obtain⟨x,H2,I2,rx,a,C,dx,fs,ex,ea,c,n,l,q2⟩:=hQ9;subst ex;obtain rfl:ov=Value.ref a:=rx;exact Mg I2 ea c n l ry fun s3 I3=>⟨σ,_,I3,q2⟩
theorem XA {op:Operator}{rd:V->V->Hp->VK->Prop} (ha:PE X o ta) (hv:PE X value tv) (yo:PX X op rd):PS X (.AugAssign (.Attribute o f PY) op value pos) (Zx X.K ta tv rd f):=by
 intro pins s σ H D I h;refine wpAny_AugAssign_AttributeAny (aD (ha pins s σ H _ I h) fun ov s1 hQ9=>?_);obtain⟨x,H1,I1,rx,a,C,dx,fs,v,ex,ea,c,n,l,q⟩:=hQ9;subst ex;obtain rfl:ov=Value.ref a:=rx;refine Mf I1 ea c n l fun u s2 I2 ru=>aD (hv pins s2 σ H1 _ I2 q) fun w3 s3 ⟨y,H2,I3,ry,q3⟩=>aD (yo pins s3 σ H2 v y u w3 _ I3 ru ry q3) fun w4 s4 hQ9=>?_;obtain⟨z,H3,I4,rz,yn,uR,ea',l',q4⟩:=hQ9;exact Mg I4 ea' c n l' rz fun s5 I5=>⟨σ,_,I5,q4⟩
def adn:V->V->Hp->VK->Prop:=fun x y H Q=>∃i j,x = .int i/\y = .int j/\Q (.int (i+j)) H
theorem aaL:PX X .Add adn:=by
 rintro pins s σ H x y u v Q I rx ry ⟨i,j,rfl,rfl,q⟩;obtain⟨t,rfl⟩:=(show ∃t,u=Value.int i t from rx);obtain⟨t',rfl⟩:=(show ∃t',v=Value.int j t' from ry);exact PyProof.Rows.iadd_int ⟨.int (i+j),H,I.tok _,⟨_,rfl⟩,q⟩
end
section
variable{Q:Value->Shared->Prop}{c:Value}{b:Bool}
inductive js (K:PySem.W.Frag) (H:Hp):V->Value->Prop where
 |aI:js K H .aI (.type "NoneType")
 |bl (x:Bool):js K H (.bl x) (.type "bool")
 |int (i:Int):js K H (.int i) (.type "int")
 |str (x:Str):js K H (.str x) (.type "str")
 |jz (x:UInt64):js K H (.jz x) (.type "float")
 |lst {a:Addr}{xs:List V} (e:H a=some (.lst xs)):js K H (.ref a) (.type "list")
 |aR {a:Addr}{o:Obj}{xs:List V} (e:H a=some (.aR o (.lst xs))):js K H (.ref a) (.type "list")
 |tup {a:Addr}{xs:List V} (e:H a=some (.tup xs)):js K H (.ref a) (.type "tuple")
 |dK {a:Addr}{kvs:List (Key×V)} (e:H a=some (.dK kvs)):js K H (.ref a) (.type "dict")
 |dT {a:Addr}{kvs:List (List Key×V)} (e:H a=some (.dT kvs)):js K H (.ref a) (.type "dict")
 |ins {a C dx:Addr}{fs:List (Str×V)} (e:H a=some (.ins C dx fs)) (cl:lJ K C) (ha:PySem.W.findIn K (.ref C) "__class__" = some (some (.builtin "object.__class__")))
   (hn:PySem.W.specialIn K (.builtin "object.__class__") "__get__" = some (some (.builtin "getset_descriptor.__get__"))) (yp:PySem.W.takesIn K (.builtin "object.__class__")=some true)
   (hm:PySem.W.mroIn K C (.type "object")=some true):js K H (.ref a) (.ref C)
theorem XB {x:V}{t:Value} (I:Inv X pins σ H s) (rx:RelV x u) (ty:js X.K H x t) (e:PySem.W.kitOne X.K t c=some b) (h:∀tk,Q (.bool b) { s with toks:=tk }) :
  wpAny (model X.prog X.w) A (call (.builtin "isinstance") [u,c]) Q E s:=by
 cases ty with
 |aI=>cases (show u=Value.none from rx);exact nJ PySem.W.kitx_none I.cM True.intro e (fun z=>nomatch z) h
 |bl y=>cases (show u=Value.bool y from rx);exact nJ PySem.W.kitx_bool I.cM True.intro e (fun z=>nomatch z) h
 |int i=>obtain⟨t,q⟩:=(show ∃t,u=Value.int i t from rx);cases q;exact nJ PySem.W.kitx_int I.cM True.intro e (fun z=>nomatch z) h
 |str y=>obtain⟨t,q⟩:=(show ∃t,u=Value.str y t from rx);cases q;exact nJ PySem.W.kitx_str I.cM True.intro e (fun z=>nomatch z) h
 |jz y=>obtain⟨t,q⟩:=(show ∃t,u=Value.float y t from rx);cases q;exact nJ PySem.W.kitx_float I.cM True.intro e (fun z=>nomatch z) h
 |@lst a xs ea =>
  cases (show u=Value.ref a from rx)
  obtain⟨_,_,n,_,h1⟩:=(show bp X.prog X.w H s.heap a (.lst xs) from I.au a _ ea);exact nJ PySem.W.kitx_list I.cM ⟨_,h1,rfl⟩ e (fun z=>nomatch z) h
 |@aR a ob xs ea =>
  cases (show u=Value.ref a from rx)
  obtain⟨_,_,_,n,_,h1⟩:=(show bp X.prog X.w H s.heap a (.aR ob (.lst xs)) from I.au a _ ea);exact nJ PySem.W.kitx_list I.cM ⟨_,h1,rfl⟩ e (fun z=>nomatch z) h
 |@tup a xs ea =>
  cases (show u=Value.ref a from rx)
  obtain⟨_,_,_,p⟩:=(show bp X.prog X.w H s.heap a (.tup xs) from I.au a _ ea);obtain⟨o,h1,h2,_⟩:=p;exact nJ PySem.W.kitx_tuple I.cM ⟨o,h1,h2⟩ e (fun z=>nomatch z) h
 |@dK a kvs ea =>
  cases (show u=Value.ref a from rx)
  obtain⟨_,_,vs,_,p⟩:=(show bp X.prog X.w H s.heap a (.dK kvs) from I.au a _ ea);obtain⟨o,es,ep,h1,h2,_⟩:=p;exact nJ PySem.W.kitx_dict I.cM ⟨o,h1,h2.1⟩ e (fun z=>nomatch z) h
 |@dT a kvs ea =>
  cases (show u=Value.ref a from rx)
  obtain⟨_,_,xs,_,o,es,ep,h1,h2,_⟩:=(show bp X.prog X.w H s.heap a (.dT kvs) from I.au a _ ea);exact nJ PySem.W.kitx_dict I.cM ⟨o,h1,h2.1⟩ e (fun z=>nomatch z) h
 |@ins a C dx fs ea cl ha hn yp hm =>
  cases (show u=Value.ref a from rx)
  obtain⟨mA,O,_⟩:=Al I.au ea;obtain⟨od,J,_⟩:=O.look;exact nJ (PySem.W.kitx_own (cl.get _) cl.hd ha hn yp hm) I.cM J e (fun z=>nomatch z) h
end
structure aV (k:Nat) (A:Around):Prop where
 hd:A.handled=none
 dp:A.depth+3 * k+5 < recursionLimit
 un:A.units+16 * k+200 < cLine
 gd:A.guards=some []
theorem aV.mono {k:Nat} (r:aV k A) (h:j<=k):aV j A:=⟨r.hd,by have:=r.dp;omega,by have:=r.un;omega,r.gd⟩
theorem aV.deeper {k:Nat} (r:aV (k+1) A) (env:Env):aV k (A.deeper env):=
 ⟨r.hd,by have:=r.dp;show A.depth+1+3 * k+5 < _;omega,by have:=r.un;show A.units+3+16 * k+200 < _;omega,by first|exact r.gd|simp[Around.deeper,r.gd]⟩
theorem W4:(A.under (.builtin "type.__call__" ⟨.ref C::us,kw⟩)).depth=A.depth+1:=by
 first|rfl|simp[Around.under,Code.weight,Code.isCreation,Code.isGuard,Code.isCaller,Code.frames,Code.isFrame,guardIds]
theorem W5:(A.under (.builtin "type.__call__" ⟨.ref C::us,kw⟩)).units=A.units+1:=by
 first|rfl|simp[Around.under,Code.cUnits,Code.frames,Code.isFrame]
theorem WC (h:A.guards=some []):(A.under (.builtin "type.__call__" ⟨.ref C::us,kw⟩)).guards=some []:=by
 first|exact h|(simp[Around.under,Code.guards,Code.isGuard,guardIds,pushGuards,h])
theorem aV.make {k:Nat} (r:aV (k+1) A) (C:Addr) (us:List Value) (kw:List (Str×Value)):aV k (A.under (.builtin "type.__call__" ⟨.ref C::us,kw⟩)):=
 ⟨r.hd,by have:=r.dp;rw[W4];omega,by have:=r.un;rw[W5];omega,WC r.gd⟩
theorem aV.depth {k:Nat} (r:aV k A):A.depth < recursionLimit:=by have:=r.dp;omega
theorem aV.units {k:Nat} (r:aV k A):A.units+64 < cLine:=by have:=r.un;omega
noncomputable def Hb:TA:=fun _ H Q=>Q [] H
noncomputable def nV (ta:TE) (tr:TA):TA:=fun σ H Q=>ta σ H fun x H1=>tr σ H1 fun xs H2=>Q (x::xs) H2
section
variable{t:TA}
theorem af:PA X [] Hb:=fun _ _ _ _ H Q I h=>Calls.spliced_nil ⟨[],H,I,.nil,h⟩
theorem aa (ha:PE X e te) (hr:PA X es t) (hs:starEach (e::es) X.env=(false,eval e X.env)::starEach es X.env:=by rfl):PA X (e::es) (nV te t):=by
 intro pos pins s σ H Q I h;rw[hs];show wpAny _ _ (spliced ((false,eval e X.env)::backTo pos (starEach es X.env))) _ _ s;refine Calls.spliced_cons (aD (ha pins s σ H _ I h) fun u s1 hQ9=>?_);obtain⟨x,H1,I1,r1,q1⟩:=hQ9;exact aD (hr pos pins s1 σ H1 _ I1 q1) fun us s2 ⟨xs,H2,I2,r2,q2⟩=>⟨x::xs,H2,I2,.cons r1 r2,q2⟩
noncomputable def Bj (t:TA):TE:=fun σ H Q=>t σ H fun xs H1=>xs.length<=sizeLine /\ ∀p,H1 p=none->Q (.ref p) (upd H1 p (.tup xs))
noncomputable def pD (t:TA):TE:=fun σ H Q=>t σ H fun xs H1=>xs.length<=sizeLine /\ ∀p,H1 p=none->Q (.ref p) (upd H1 p (.lst xs))
theorem cg {x1} (h:PA X es t):PE X (.Tuple es x1 pos) (Bj t):=by
 intro pins s σ H Q I hq;refine wpAny_Tuple_spliced (aD (h pos pins s σ H _ I hq) fun us s1 ⟨xs,H1,I1,r,z,q⟩=>⟨by rw[<-r.length];exact z,?_⟩)
 have hf:H1 s1.heap.objs.size=none:=I1.au.fresh (aO _);refine⟨.ref s1.heap.objs.size,upd H1 s1.heap.objs.size (.tup xs),I1.laid (t':=s1.toks) (fun b u e=>a8 _ e) (aO _) ?_,rfl,q _ hf⟩;exact⟨z,us,r,⟨_,cj _ rfl,rfl,_,rfl,rfl⟩⟩
theorem cw (h:PA X es t):PE X (.List es pos) (pD t):=by
 intro pins s σ H Q I hq;refine wpAny_List_spliced (aD (h pos pins s σ H _ I hq) fun us s1 ⟨xs,H1,I1,r,z,q⟩=>⟨by rw[<-r.length];exact z,?_⟩)
 have hf:H1 s1.heap.objs.size=none:=I1.au.fresh (aO _);refine⟨.ref s1.heap.objs.size,upd H1 s1.heap.objs.size (.lst xs),I1.laid (t':=s1.toks) (fun b u e=>a8 _ e) (aO _) ?_,rfl,q _ hf⟩;exact⟨z,us,0,r,cj _ rfl⟩
end
abbrev Sp:=List V->Hp->VK->XK->Prop
end L2
variable{sp:L2.Sp}
namespace L2
open PySem PySem.Spec PyProof.Rows
abbrev j3:=List Env->Hp->Shared->XK->Value->Shared->Prop
structure rM (P:Program) (w:World) (K:PySem.W.Frag) (mg:Str->Option Value) (base:Heap) (A:Around) (outer:List Env) (s:Shared) (H:Hp):Prop where
 frames:A.frames=some outer
 mod:Mod K mg base
 bs:∀b o,base.get? b=some o->s.heap.get? b=some o/\H b=none
 lG:base.objs.size<=s.heap.objs.size
 iR:s.heap.FunFrames base outer
 mU:∀b∈fY outer,H b=none
 au:cL P w H s.heap
 bare:AllBare s.gens
noncomputable def CE (outer:List Env) (P:Program) (w:World) (H:Hp) (s:Shared) (Q:VK) (u:Value) (s':Shared):Prop:=
 ∃v H',s'.os=s.os/\AllBare s'.gens/\Un (fY outer) [] H H' s.heap s'.heap/\cL P w H' s'.heap/\RelV v u/\Q v H'
noncomputable def CR (CX:j3) (outer:List Env) (P:Program) (w:World) (H:Hp) (s:Shared) (Q:VK) (E:XK) (r:Result) (s':Shared):Prop:=
 match r with
 |.ok (.ret u)=>CE outer P w H s Q u s'
 |.ok _=>False
 |.error e=>CX outer H s E e s'
structure a9 (P:Program) (w:World) (K:PySem.W.Frag) (mg:Str->Option Value) (base:Heap) (CX:j3) (k:Nat) (f:Addr) (fd:FuncData) (ps:List Str) (sp:Sp):Prop where
 len:∀vs H Q E,sp vs H Q E->vs.length=ps.length
 run:∀ (A:Around) (outer:List Env) (s:Shared) (H:Hp) (args:Args) (us:List Value) (vs:List V) (Q:VK) (E:XK),aV k A->rM P w K mg base A outer s H->BindsTo s fd args (ps.zip us)->Vals vs us->sp vs H Q E ->
  codeAny (model P w) A (.call (.ref f) args) (CR CX outer P w H s Q E) s
theorem rM.make (e:rM P w K mg base A outer s H) (C:Addr) (us:List Value) (kw:List (Str×Value)) :
  rM P w K mg base (A.under (.builtin "type.__call__" ⟨.ref C::us,kw⟩)) outer s H:=⟨by first|exact e.frames|(simpa [Around.under,Code.envs,Code.isFrame,pushEnvs] using e.frames),e.mod,e.bs,e.lG,e.iR,e.mU,e.au,e.bare⟩
theorem Inv.Hc (I:Inv X pins σ H s):rM X.prog X.w X.K X.mg X.base X.A X.stack s H:=
 ⟨I.ok.frames,I.ok.mod,I.bs,gW I.ok.lG I.sz,I.stack,I.EV,I.au,I.bare⟩
theorem Inv.after (I:Inv X pins σ H s) (h:CE X.stack X.prog X.w H s Q u s'):EP X pins σ Q u s':=by
 obtain⟨v,H',os,bare,un,au,r,q⟩:=h;obtain⟨hh,g,d,t,yq⟩:=s';obtain rfl:yq=s.os:=os;exact⟨v,H',I.call (h':=hh) (g':=g) (d':=d) (t':=t) (ch:= []) un au bare (fun b z=>absurd z (by simp)),r,q⟩
noncomputable def F0 (sp:Sp) (gP:List V) (E:XK) (t:TA):TE:=fun σ H Q=>t σ H fun vs H1=>sp (vs++gP) H1 Q E
noncomputable def abT (C:Addr) (m:Str) (sp:Sp) (gP:List V) (E:XK) (ta:TE) (t:TA):TE:=fun σ H Q=>ta σ H fun x H1=>∃a dx fs,x = .ref a/\H1 a=some (.ins C dx fs)/\fs.lookup m=none /\
 t σ H1 fun vs H2=>sp (x::(vs++gP)) H2 Q E
noncomputable def abU (C:Addr) (sp:Sp) (gP:List V) (E:XK) (t:TA):TE:=fun σ H Q=>t σ H fun vs H1=>∀x dx,H1 x=none->H1 dx=none->dx≠x ->
 sp (.ref x::(vs++gP)) (upd (upd H1 dx (.own x)) x (.ins C dx [])) (fun v H2=>v = .aI/\Q (.ref x) H2) E
noncomputable def Binds (K:PySem.W.Frag) (fd:FuncData) (ps:List Str) (ds:List Value):Prop:=
 ∀ (s:Shared) (us:List Value),K.In s.heap->(us++ds).length=ps.length->BindsTo s fd ⟨us,[]⟩ (ps.zip (us++ds))
theorem Binds.all (h:∀us:List Value,us.length=ps.length->bindArgs fd ⟨us,[]⟩=pure (ps.zip us)):Binds K fd ps []:=fun s us _ hl=>by
 rw[kS]at hl ⊢;exact .of_eq (h us hl)
noncomputable def Passes (CX:j3) (X:Cx) (E:XK):Prop:= ∀ (pins:List (Addr×Obj)) (σ:St) (H:Hp) (s:Shared) (e:Value) (s':Shared),Inv X pins σ H s->CX X.stack H s E e s'->X.xe e s'
section
variable{CX:j3}{k:Nat}{gP:List V}{ds:List Value}{E:XK}{m:Str}{p:Pos}{o:Expr}{t:TA}
theorem OJ (F:a9 X.prog X.w X.K X.mg X.base CX k f fd ps sp) (hr:aV k X.A) (hb:Binds X.K fd ps ds) (hd:Vals gP ds) (hx:Passes CX X E)
  (I:Inv X pins σ H s) (r:Vals vs us) (h:sp (vs++gP) H Q E):wpAny (model X.prog X.w) X.A (call (.ref f) us) (EP X pins σ Q) X.xe s:=by
 have r2:Vals (vs++gP) (us++ds):=r.append hd;have hl:(us++ds).length=ps.length:=by rw[<-r2.length];exact F.len _ _ _ _ h
 refine zA (vV (F.run X.A X.stack s H ⟨us,[]⟩ (us++ds) (vs++gP) Q E hr I.Hc (hb s us I.cM hl) r2 h) fun r s' hq=>?_);cases r with
 |error e=>exact hx pins σ H s e s' I hq
 |ok fl =>
  cases fl with
  |ret u=>exact I.after hq
  |next=>exact False.elim hq
  |brk=>exact False.elim hq
  |cont=>exact False.elim hq
theorem k7 (F:a9 X.prog X.w X.K X.mg X.base CX k f fd ps sp) (hr:aV k X.A) (hg:Gl X x) (hm:X.mg x=some (.ref f)) (hk:PySem.W.keepIn X.K (.ref f)=true) (hb:Binds X.K fd ps ds) (hd:Vals gP ds) (hx:Passes CX X E)
  (ha:PA X (e::es) t) (gj:(x==("__debug__" : Str))=false:=by decide) (he:starEach (e::es) X.env=(false,eval e X.env)::starEach es X.env:=by rfl) (cP:(backTo pos (starEach es X.env)).any (·.1)=false:=by rfl) :
  PE X (.Call (.Name x p) (e::es) [] pos) (F0 sp gP E t):=by
 intro pins s σ H Q I h;refine zB (tQ I hg hm ?_ gj);refine Vk (h₀:=X.base) I.ok.mod.rS hk (aD (ha pos pins s σ H _ I h) fun us s1 ⟨vs,H1,I1,r,q⟩=>⟨I1.cM,?_⟩) he cP;exact OJ F hr hb hd hx I1 r q
theorem EW {pl:Sem Bool} (he:PE X o ta) (c:lJ X.K C) (hm:Meth X.K C m f) (F:a9 X.prog X.w X.K X.mg X.base CX k f fd ps sp) (hr:aV k X.A) (hb:Binds X.K fd ps ds) (hd:Vals gP ds) (hx:Passes CX X E) (ha:PA X (e::es) t)
  (rW:starEach (e::es) X.env=(false,eval e X.env)::starEach es X.env:=by rfl) (cP:(backTo pos (starEach es X.env)).any (·.1)=false:=by rfl)
  (ht:eval (.Call (.Attribute o m apos) (e::es) [] pos) X.env=(do
   let ov <- eval o X.env
   standAt apos.atName
   let (f,first) <- holding [ov] (getMethod ov m pl)
   callWith pos f first (backTo pos (starEach (e::es) X.env)) (backToKw pos (keywordEach [] X.env))):=by rfl) :
  PE X (.Call (.Attribute o m apos) (e::es) [] pos) (abT C m sp gP E ta t):=by
 intro pins s σ H Q I h;refine PySem.W.methodCall_KW (pl:=pl) (aD (he pins s σ H _ I h) fun u s1 hQ9=>?_) ht;obtain⟨x,H1,I1,rx,a,dx,fs,ex,ea,l,q⟩:=hQ9;subst ex;obtain rfl:u=Value.ref a:=rx;refine W3 I1 ea c hm l ?_;refine Vk (first:= [.ref a]) (h₀:=X.base) I.ok.mod.rS hm.kp (aD (ha pos pins s1 σ H1 _ I1 q) fun us s2 ⟨vs,H2,I2,r,q2⟩=>⟨I2.cM,?_⟩) rW cP;exact OJ (us:= .ref a::us) (vs:= .ref a::vs) F hr hb hd hx I2 (.cons rfl r) q2
structure Mk (K:PySem.W.Frag) (C f:Addr):Prop where
 makes:PySem.W.makesIn K C=true
 init:PySem.W.findIn K (.ref C) "__init__" = some (some (.ref f))
 fn:PySem.W.isFn K (.ref f)=true
 kp:PySem.W.keepIn K (.ref C)=true
theorem Yq (M:Mk X.K C f) (F:a9 X.prog X.w X.K X.mg X.base CX k f fd ps sp) (hr:aV (k+1) X.A) (hb:Binds X.K fd ps ds) (hd:Vals gP ds)
  (hx:Passes CX X E) (I:Inv X pins σ H s) (r:Vals vs us)
  (h:∀x dx,H x=none->H dx=none->dx≠x->sp (.ref x::(vs++gP)) (upd (upd H dx (.own x)) x (.ins C dx [])) (fun v H2=>v = .aI/\Q (.ref x) H2) E) :
  wpAny (model X.prog X.w) X.A (call (.ref C) us) (EP X pins σ Q) X.xe s:=by
 have hq:=h (s.heap.objs.size+1) s.heap.objs.size (I.au.fresh (oQ _)) (I.au.fresh (aO _)) (bx (vU _));have I2:=Inv.made (C:=C) I;have r2:Vals (V.ref (s.heap.objs.size+1)::(vs++gP)) (Value.ref (s.heap.objs.size+1)::(us++ds)):= .cons rfl (r.append hd);have hl:(Value.ref (s.heap.objs.size+1)::us++ds).length=ps.length:=by
  have e:=r2.length;rw[F.len _ _ _ _ hq]at e;exact e.symm
 refine zA (Yp (f:=f) I.cM M.makes M.init (jG.mp M.fn) (vV (F.run _ X.stack _ _ ⟨Value.ref (s.heap.objs.size+1)::us,[]⟩ (Value.ref (s.heap.objs.size+1)::(us++ds)) _ _ E (hr.make C us [])
  (I2.Hc.make C us []) (hb _ (Value.ref (s.heap.objs.size+1)::us) I2.cM hl) r2 hq) fun r s' yr=>?_))
 cases r with
 |error e=>exact hx pins σ _ _ e s' I2 yr
 |ok fl =>
  cases fl with
  |ret u =>
   obtain⟨v,H',I3,rv,ev,q3⟩:=I2.after yr;subst ev;exact⟨rv,⟨V.ref (s.heap.objs.size+1),H',I3,rfl,q3⟩⟩
  |next=>exact False.elim yr
  |brk=>exact False.elim yr
  |cont=>exact False.elim yr
theorem Zy (M:Mk X.K C f) (F:a9 X.prog X.w X.K X.mg X.base CX k f fd ps sp) (hr:aV (k+1) X.A) (hg:Gl X x) (hm:X.mg x=some (.ref C)) (hb:Binds X.K fd ps ds) (hd:Vals gP ds) (hx:Passes CX X E)
  (ha:PA X (e::es) t) (gj:(x==("__debug__" : Str))=false:=by decide) (he:starEach (e::es) X.env=(false,eval e X.env)::starEach es X.env:=by rfl) (cP:(backTo pos (starEach es X.env)).any (·.1)=false:=by rfl) :
  PE X (.Call (.Name x p) (e::es) [] pos) (abU C sp gP E t):=by
 intro pins s σ H Q I h;refine zB (tQ I hg hm ?_ gj);refine Vk (h₀:=X.base) I.ok.mod.rS M.kp (aD (ha pos pins s σ H _ I h) fun us s1 ⟨vs,H1,I1,r,q⟩=>⟨I1.cM,?_⟩) he cP;exact Yq M F hr hb hd hx I1 r q
end
structure bK (N P:List Str) (sc:Scope):Prop where
 kind:sc.kind = .function
 co:sc.isCoroutine=false
 gen:sc.isGenerator=false
 nd:N.Nodup
 pre:N.take P.length=P
 par:∀x∈P,sc.names.lookup x=some .local\/sc.names.lookup x=some .cell
 aaM:∀y∈sc.names,y.2 ≠ .free
theorem MG {kindOf:Str->Option NameKind}{x:Str}:∀ {binds:List (Str×Value)}{m:Str->Option Value},(∀v,(x,v) ∉ binds)->bindL kindOf binds m x=m x
 |[],_,_=>rfl
 |(n,v)::r,m,h=>by
  unfold bindL;rw[MG fun w hw=>h w (bO _ hw)];split
  ·have:x≠n:=by rintro rfl;exact h v bu
   simp[this]
  ·rfl
theorem MH {kindOf:Str->Option NameKind}{x:Str}:∀ {binds:List (Str×Value)}{m:Str->Option Value},(∀v,(x,v) ∉ binds)->bindC kindOf binds m x=m x
 |[],_,_=>rfl
 |(n,v)::r,m,h=>by
  unfold bindC;rw[MH fun w hw=>h w (bO _ hw)];split
  ·rfl
  ·have:x≠n:=by rintro rfl;exact h v bu
   simp[this]
theorem MI {kindOf:Str->Option NameKind}{x:Str}{v:Value}:∀ {P:List Str}{vs:List Value}{i:Nat}{m:Str->Option Value},P.Nodup->P[i]? = some x->vs[i]? = some v->kindOf x=some .local ->
  bindL kindOf (P.zip vs) m x=some v
 |[],_,_,_,_,h,_,_=>by simp at h
 |_::_,[],_,_,_,_,h,_=>by simp at h
 |p::P,w::vs,0,m,nd,h1,h2,hk=>by
  simp at h1 h2;subst h1;subst h2;show bindL kindOf ((p,w)::P.zip vs) m p=_;unfold bindL;rw[MG fun v hv=>(iZ.mp nd).1 (Vl hv).1,aF hk];simp
 |p::P,w::vs,i+1,m,nd,h1,h2,hk=>by
  show bindL kindOf ((p,w)::P.zip vs) m x=_;unfold bindL;exact MI (i:=i) (iZ.mp nd).2 (by simpa using h1) (by simpa using h2) hk
theorem MJ {kindOf:Str->Option NameKind}{x:Str}{v:Value}:∀ {P:List Str}{vs:List Value}{i:Nat}{m:Str->Option Value},P.Nodup->P[i]? = some x->vs[i]? = some v->kindOf x≠some .local ->
  bindC kindOf (P.zip vs) m x=some v
 |[],_,_,_,_,h,_,_=>by simp at h
 |_::_,[],_,_,_,_,h,_=>by simp at h
 |p::P,w::vs,0,m,nd,h1,h2,hk=>by
  simp at h1 h2;subst h1;subst h2;show bindC kindOf ((p,w)::P.zip vs) m p=_;unfold bindC;rw[MH fun v hv=>(iZ.mp nd).1 (Vl hv).1,ax hk];simp
 |p::P,w::vs,i+1,m,nd,h1,h2,hk=>by
  show bindC kindOf ((p,w)::P.zip vs) m x=_;unfold bindC;exact MJ (i:=i) (iZ.mp nd).2 (by simpa using h1) (by simpa using h2) hk
def start (N:List Str) (vs:List V):St:=vs.map some++List.replicate (N.length - vs.length) none
def gf (CX:j3) (P:Program) (w:World) (K:PySem.W.Frag) (mg:Str->Option Value) (base:Heap) (N:List Str) (qual:Str) (scope:Scope) (f:Addr) (cd:Value) (A:Around) (outer:List Env) (s:Shared) (H:Hp) (E:XK):Cx where
 prog:=P
 w:=w
 K:=K
 mg:=mg
 base:=base
 A:=A.deeper (envOfC qual scope s.heap.objs.size f cd)
 N:=N
 ee:=s
 kj:=H
 env:=envOfC qual scope s.heap.objs.size f cd
 outer:=outer
 stack:=envOfC qual scope s.heap.objs.size f cd::outer
 ex:= []
 calm:=true
 fn:=fun _=>true
 pn:= []
 xe:=fun e s'=>wpAny (model P w) (A.deeper (envOfC qual scope s.heap.objs.size f cd)) (leaving (envOfC qual scope s.heap.objs.size f cd) e) (fun _ sf=>CX outer H s E e sf) (fun e' sf=>CX outer H s E e' sf) s'
theorem Ex {n:Nat} (h:sc.names.lookup x=some .cell):∃c,(cellsFrom n sc.names []).lookup x=some c:=by
 have q:=amf sc.names n [] (.inl h);exact amg.mp q
theorem XC {CX:j3}{E:XK}
  (S:bK N ps scope) (hd:A.handled=none) (e0:rM P w K mg base A outer s H) (hl:vs.length=ps.length) (r:Vals vs us)
  (x:InCallC s s.heap.objs.size (bindL (envOfC qual scope s.heap.objs.size f cd).kindOf (ps.zip us) fun _=>none) (cellsFrom (s.heap.objs.size+1) scope.names []) (bindC (envOfC qual scope s.heap.objs.size f cd).kindOf (ps.zip us) fun _=>none) s1) :
  Inv (gf CX P w K mg base N qual scope f cd A outer s H E) [] (start N vs) H s1:=by
 have cP:ps.length<=N.length:=by have:=eJ List.length S.pre;rw[cT]at this;omega
 obtain⟨h1,tk,rfl,hk⟩:=x.done;have yt:∀b:Addr,b ∉ (gf CX P w K mg base N qual scope f cd A outer s H E).ex:=fun b z=>absurd (show b∈([]:List Addr) from z) (by simp)
 refine⟨⟨e0.mod,S.kind,rfl,rfl,aO _,fun y z c h1 h2=>?_,fun y hy=>?_,fun y c _ h=>?_,fun _=>hd,Around.frames_deeper e0.frames,.inr ⟨rfl,rfl⟩,fun b z=>absurd z (yt b),e0.bs,e0.lG,fun b _ _=>yt b,fun b z=>absurd z (yt b),e0.iR,e0.mU⟩,
  rfl,e0.bare,Un.kept hk,⟨_,x.toInCall.ns,fun i y v h1 h2 h3=>?_⟩,fun y c h=>⟨_,x.cell y c h⟩,e0.au.fresh (aO _),fun y c h=>?_,fun p hp=>absurd (show p∈([]:List (Addr×Obj)) from hp) (by simp),e0.au.kept hk,?_⟩
 ·exact name_of_addr x.apart (oR h1) (oR h2)
 ·have hy:scope.names.lookup y=some .cell\/scope.names.lookup y=some .free:=hy
  rcases hy with hy|hy
  ·exact Ex hy
  ·exact absurd rfl (S.aaM _ (oR hy))
 ·exact Du (x.above y c (oR h))
 ·have hi:i < vs.length:=by
   unfold start at h2
   by_cases hi:i < vs.length
   ·exact hi
   ·rw[Lf (by simpa using hi)]at h2
    rw[List.getElem?_replicate]at h2;split at h2 <;> cases h2
  have ha:vs[i]? = some v:=by
   unfold start at h2;rw[Vm (by simpa using hi),eK]at h2
   cases e:vs[i]? with
   |none=>rw[e]at h2;cases h2
   |some a=>rw[e]at h2;cases h2;rfl
  obtain⟨u,hu,rv⟩:=r.get ha;have hp:ps[i]? = some y:=by
   rw[<-S.pre,List.getElem?_take_of_lt (by omega)];exact h1
  have RQ:ps.Nodup:=by rw[<-S.pre];exact S.nd.sublist (vW _ _)
  refine⟨u,rv,?_⟩;rcases S.par y (jH hp) with k|k
  ·exact .inl ⟨k,MI RQ hp hu k⟩
  ·obtain⟨c,e⟩:=Ex (n:=s.heap.objs.size+1) k
   refine .inr ⟨.inl k,c,e,?_⟩;have q:=x.cell y c e;rw[MJ RQ hp hu (by show scope.names.lookup y≠_;rw[k];decide)]at q
   exact q
 ·exact e0.au.fresh (Du (x.above y c (oR h)))
 ·unfold start
  show _=N.length;rw[fu,aE,List.length_replicate];omega
theorem F1 {CX:j3}{k:Nat}{params:Arguments}{dV kV:Value} (lk:K.lookup f=some ⟨oc,od,.func (PySem.W.fnOf name qual params body scope dV kV doc pm an aG ct),jc⟩) (d7:PySem.W.codeIn K aG qual=true) (S:bK N ps scope)
  (len:∀vs H Q E,sp vs H Q E->vs.length=ps.length)
  (rC:∀ (A:Around) (outer:List Env) (s:Shared) (H:Hp) (vs:List V) (Q:VK) (E:XK),aV k (A.deeper (envOfC qual scope s.heap.objs.size f aG))->sp vs H Q E ->
   ∃t,eY (gf CX P w K mg base N qual scope f aG A outer s H E) body t/\t { nx:=fun _ H'=>Q .aI H',rt:=Q } (start N vs) H) :
  a9 P w K mg base CX (k+1) f (PySem.W.fnOf name qual params body scope dV kV doc pm an aG ct) ps sp:=by
 refine⟨len,fun A outer s H args us vs Q E hr e0 hb r gk=>?_⟩;have hl:=len _ _ _ _ gk;have KX:K.In s.heap:=e0.mod.rS.keeps fun b o e=>(e0.bs b o e).1;have lim:s.heap.NoLimit:=e0.mod.nolimit.keeps fun b o e=>(e0.bs b o e).1;have abV:∀y∈ps.zip us,scope.names.lookup y.1=some .local\/(scope.names.lookup y.1=some .cell/\((cellsFrom (s.heap.objs.size+1) scope.names []).lookup y.1).isSome=true):=fun⟨n,v⟩ hy=>by
  rcases S.par n (Vl hy).1 with q|q
  ·exact .inl q
  ·exact .inr ⟨q,amf _ _ _ (.inl q)⟩
 refine codeAny_call_function hr.depth (KX _ _ lk) rfl S.co S.gen rfl (PySem.W.codeRec_of KX d7) (hb _ _ _ _ ?_);refine wpAny_newFunctionEnv_cells S.kind abV fun env he s1 x=>?_;subst he;refine⟨lim.keeps x.toInCall.keep,codeAny_func ?_⟩;obtain⟨t,ht,hq⟩:=rC A outer s H vs Q E (hr.deeper _) gk;have I:Inv (gf CX P w K mg base N qual scope f aG A outer s H E) [] (start N vs) H s1:=XC S hr.hd e0 hl r x;refine lZ (ht [] s1 (start N vs) H _ I hq) (fun fl s' hs=>?_) fun e s' hs=>hs;have fin:∀ {aS:St}{H':Hp}{v:V}{u:Value},Inv (gf CX P w K mg base N qual scope f aG A outer s H E) [] aS H' s'->RelV v u->Q v H'->CE outer P w H s Q u s':=
  fun {aS H' v u} J rv q=>⟨v,H',J.os,J.bare,J.base,J.au,rv,q⟩
 cases fl with
 |ret u =>
  obtain⟨v,aS,H',J,rv,q⟩:=hs;exact fin J rv q
 |next =>
  obtain⟨aS,H',J,q⟩:=hs;exact fin (v:=V.aI) (u:=Value.none) J rfl q
 |brk =>
  obtain⟨_,_,_,q⟩:=hs;exact False.elim q
 |cont =>
  obtain⟨_,_,_,q⟩:=hs;exact False.elim q
section
variable{p:Pos}{t:TA}{id:String}{r:List V->Hp->VK->Prop}
noncomputable def RS (r:List V->Hp->VK->Prop) (t:TA):TE:=fun σ H Q=>t σ H fun vs H1=>r vs H1 Q
theorem bJ (hc:d5 X (.builtin id) r) (hg:Gl X x) (hm:X.mg x=none) (hv:bootBuiltins x=some (.builtin id)) (ha:PA X (e::es) t) (hn:x ≠ "__name__" :=by decide) (gj:(x==("__debug__" : Str))=false:=by decide)
  (he:starEach (e::es) X.env=(false,eval e X.env)::starEach es X.env:=by rfl) (cP:(backTo pos (starEach es X.env)).any (·.1)=false:=by rfl):PE X (.Call (.Name x p) (e::es) [] pos) (RS r t):=by
 intro pins s σ H Q I h;refine zB (tW I hg hm hv ?_ hn gj);exact PyProof.Rows.callWith_builtin1 (aD (ha pos pins s σ H _ I h) fun us s1 ⟨vs,H1,I1,r1,q1⟩=>hc pins s1 σ H1 vs us Q I1 r1 q1) he cP
theorem f' (hc:d5 X (.type T) r) (hg:Gl X x) (hm:X.mg x=none) (hv:bootBuiltins x=some (.type T)) (ha:PA X (e::es) t) (hn:x ≠ "__name__" :=by decide) (gj:(x==("__debug__" : Str))=false:=by decide)
  (he:starEach (e::es) X.env=(false,eval e X.env)::starEach es X.env:=by rfl) (cP:(backTo pos (starEach es X.env)).any (·.1)=false:=by rfl):PE X (.Call (.Name x p) (e::es) [] pos) (RS r t):=by
 intro pins s σ H Q I h;refine zB (tW I hg hm hv ?_ hn gj);exact Le (aD (ha pos pins s σ H _ I h) fun us s1 ⟨vs,H1,I1,r1,q1⟩=>hc pins s1 σ H1 vs us Q I1 r1 q1) he cP
end
end L2
namespace HT
open PySem PyProof.Rows
section
open PySem.SeqAt
open PySem.AutoSeq1 (wpAny_loadPart')
open PySem.MeetsSeq PySem.MeetsSeq2 PySem.MeetsSeq3
end
theorem Zz {t:Addr}{vs ws:List Value}{Q:Value->Shared->Prop} (ht:IsTup s.heap t vs.toArray) (hb:IsTup s.heap b ws.toArray) (hv:vs ≠ [])
  (h1:ws = []->Q (.ref t) s) (h2:ws ≠ []->Q (.ref s.heap.objs.size) { s with heap:=s.heap.push { cls:= .type "tuple",data:= .seq (vs++ws).toArray } })
  (hsz:vs.length+ws.length<=sizeLine):wpAny (model prog w) A (binaryOp .Add (.ref t) (.ref b)) Q E s:=by
 obtain⟨⟨cls,dd,data,sl⟩,ho,hc,n,hd⟩:=id ht;obtain⟨⟨PZ,BZ,data2,B5⟩,j5,cU,n2,hd2⟩:=id hb;simp only at hc hd cU hd2;subst hc hd cU hd2;have e:vs.toArray++ws.toArray=(vs++ws).toArray:=by simp
 by_cases hw:ws = []
 ·exact concat_meets ⟨_,ho,rfl⟩ ⟨_,j5,rfl⟩ Vo Vp Vq Vr (Vs _ _)
   (tuple_addW1 t b vs.toArray ws.toArray n n2 dd BZ sl B5 (by simpa using hv) (by simp[hw])) ⟨ho,j5,h1 hw⟩
 ·refine concat_meets ⟨_,ho,rfl⟩ ⟨_,j5,rfl⟩ Vo Vp Vq Vr (Vs _ _)
   (tuple_addW2 t b vs.toArray ws.toArray n n2 dd BZ sl B5 (by simpa using hv) (by simpa using hw) (by rw[cE,cE];exact hsz)) ⟨ho,j5,?_⟩
  rw[e];exact h2 hw
def bj (n d:Nat):Option Int->Nat
 |none=>d
 |some v=>if v < 0 then (v+(n:Int)).toNat else min v.toNat n
theorem Yr (n d:Nat):bj n d none=d:=rfl
theorem ZA (n d k:Nat):bj n d (some (k:Int))=min k n:=by
 show(if (k:Int) < 0 then ((k:Int)+(n:Int)).toNat else min (k:Int).toNat n)=min k n;rw[ax (by omega),nK]
theorem aaN (n d:Nat) (hd:d<=n) (o:Option Int):bj n d o<=n:=by
 cases o with
 |none=>exact hd
 |some v =>
  show(if v < 0 then (v+(n:Int)).toNat else min v.toNat n)<=n
  by_cases hv:v < 0
  ·rw[aF hv];omega
  ·rw[ax hv];exact Nat.min_le_right _ _
theorem N5 (v:Int) (n d:Nat):(if v < 0 then max (v+(n:Int)) 0 else min v (n:Int))=((bj n d (some v):Nat):Int):=by
 show(if v < 0 then max (v+(n:Int)) 0 else min v (n:Int))=(((if v < 0 then (v+(n:Int)).toNat else min v.toNat n):Nat):Int)
 by_cases hv:v < 0
 ·simp only[aF hv];omega
 ·simp only[ax hv];omega
theorem W6 (lo hi:Option Int) (n:Nat):Builtin.Slice.sliceAdjust lo hi 1 (n:Int)=(((bj n 0 lo:Nat):Int),((bj n n hi:Nat):Int)):=by
 have h1 : ¬ ((1:Int) < 0):=by omega
 unfold Builtin.Slice.sliceAdjust;simp only[h1,kT];refine Prod.ext ?_ ?_
 ·cases lo with
  |none=>rfl
  |some v=>exact N5 v n 0
 ·cases hi with
  |none=>rfl
  |some v=>exact N5 v n n
theorem W7 (i j:Nat):Builtin.Slice.slicePlaces (i:Int) (j:Int) 1=j - i:=by
 unfold Builtin.Slice.slicePlaces;have h1:(1:Int) > 0:=by omega
 simp only[h1,j7,Int.ediv_one];split <;> omega
theorem Mh {v:Value}{o:Option Int}{Q:Option Int->Shared->Prop} (p:IsPart v o) (h:Q o s):wpAny (model prog w) A (Builtin.Slice.slicePartIndex v) Q E s:=by
 cases p with
 |none=>exact slicePart_none h
 |int i t=>exact slicePart_int h
theorem LW {sl:Addr}{lo:Option Int}{n:Nat}{Q:Int×Int×Nat->Shared->Prop} (hs:s.heap.IsSliceOf sl vl vu .none) (pl:IsPart vl lo) (pu:IsPart vu hi)
  (h:Q (((bj n 0 lo:Nat):Int),1,bj n n hi - bj n 0 lo) s):wpAny (model prog w) A (Builtin.Slice.sliceApplied (.ref sl) (pure (n:Int))) Q E s:=by
 obtain⟨os,sg,B9,yu⟩:=id hs;unfold Builtin.Slice.sliceApplied Builtin.Slice.sliceFields;refine ae (ae (sS sg yu (x:=vl) rfl (ae (sS sg yu (x:=vu) rfl (ae (sS sg yu (x:= .none) rfl (ak ?_)))))));refine ae (slicePart_none ?_);show wpAny _ _ (if ((1:Int)==0)=true then _ else _) _ _ s;rw[ax (by decide)]
 refine ae (Mh pl (ae (Mh pu (ae (ak ?_)))));show wpAny _ _ (match Builtin.Slice.sliceAdjust lo hi 1 (n:Int) with|(lo,hi)=>pure (lo,(1:Int),Builtin.Slice.slicePlaces lo hi 1)) _ _ s;rw[W6 lo hi n];show wpAny _ _ (pure (((bj n 0 lo:Nat):Int),(1:Int),Builtin.Slice.slicePlaces ((bj n 0 lo:Nat):Int) ((bj n n hi:Nat):Int) 1)) _ _ s;rw[W7];exact ak h
theorem Ys (xs:Array Value) (i k:Nat):((List.range k).filterMap fun(m:Nat)=>xs[((i:Int)+(m:Int) * 1).toNat]?).toArray=((xs.toList.drop i).take k).toArray:=by
 have e:(fun(m:Nat)=>xs[((i:Int)+(m:Int) * 1).toNat]?)=fun m=>xs[i+m]?:=by
  funext m
  have:((i:Int)+(m:Int) * 1).toNat=i+m:=by omega
  rw[this]
 rw[e];have:=pick_run xs i k;rw[List.filterMap_map]at this;have e2:((fun x=>xs[x]?) ∘ fun x=>i+x)=fun m=>xs[i+m]?:=rfl;rw[e2]at this;rw[this]
theorem V5 {t sl:Addr}{lo:Option Int}{Q:Value->Shared->Prop} (ht:IsTup s.heap t items) (hs:s.heap.IsSliceOf sl vl vu .none) (pl:IsPart vl lo) (pu:IsPart vu hi)
  (hw : ¬ (bj items.size 0 lo=0/\bj items.size items.size hi=items.size))
  (h:Q (.ref s.heap.objs.size) { s with heap:=s.heap.push { cls:= .type "tuple",data:= .seq ((items.toList.drop (bj items.size 0 lo)).take (bj items.size items.size hi - bj items.size 0 lo)).toArray } })
  (hsz:items.size<=sizeLine):wpAny (model prog w) A (getItem (.ref t) (.ref sl)) Q E s:=by
 have AZ:sizeOk (.seq ((items.toList.drop (bj items.size 0 lo)).take (bj items.size items.size hi - bj items.size 0 lo)).toArray):=by
  show((items.toList.drop (bj items.size 0 lo)).take (bj items.size items.size hi - bj items.size 0 lo)).toArray.size<=sizeLine;rw[cE,cT,sT,f7];omega
 have hj:bj items.size items.size hi<=items.size:=aaN _ _ (aO _) hi;obtain⟨os,sg,B9,yu⟩:=id hs;have IG:s.TypeIs (.ref sl) "slice" :=⟨os,sg,B9⟩;unfold getItem
 try with_reducible refine eR ?_
 first|refine ae (ak ?_)|skip
 refine ae (wpAny_sequenceKey ht.typeIs (by decide) ?_)
 refine ae (vX (name:=Str.ofString "__getitem__") ht.typeIs zC
  (ji zC ht.typeIs entry_tuple_getitem ?_ (args_tuple_getitem _ _)))
 show wpAny _ _ (Builtin.Tuple.tupleItemsOf (.ref t) >>= _) _ _ s;refine ae (tupleItemsOf_ ht ?_);refine ae (nL IG ?_);rw[aF (by decide)]
 refine ae (LW hs pl pu ?_);have iu : ¬ ((((bj items.size 0 lo:Nat):Int)==0 && (1:Int)==1 && (bj items.size items.size hi - bj items.size 0 lo)==items.size)=true):=by
  intro q;rw[nM,nM]at q;have q1:((bj items.size 0 lo:Nat):Int)=0:=eq_of_beq q.1.1;have q2:bj items.size items.size hi - bj items.size 0 lo=items.size:=eq_of_beq q.2;exact hw ⟨by omega,by omega⟩
 show wpAny _ _ (if (((bj items.size 0 lo:Nat):Int)==0 && (1:Int)==1 && (bj items.size items.size hi - bj items.size 0 lo)==items.size)=true then _ else _) _ _ s;rw[ax iu,Ys]
 first
  |exact ae (m:=Builtin.Tuple.tupleExact _) (gJ (ak ⟨_,rfl,ak h⟩) AZ)
  |exact ae (m:=Builtin.Tuple.tupleExact _) (gJ (ae (ak (ak ⟨_,rfl,ak h⟩))) AZ)
  |exact ae (ae (m:=Builtin.Tuple.tupleExact _) (gJ (ak (ak ⟨_,rfl,ak h⟩)) AZ))
  |exact ae (ae (m:=Builtin.Tuple.tupleExact _) (gJ (ak ⟨_,rfl,ak h⟩) AZ))
end HT
namespace L2
open PySem PySem.Spec PyProof.Rows
abbrev TO:=St->Hp->(Option Int->Hp->Prop)->Prop
noncomputable def PO (X:Cx) (e:Option Expr) (t:TO):Prop:=
 ∀ (pins:List (Addr×Obj)) (s:Shared) (σ:St) (H:Hp) (Q:Option Int->Hp->Prop),Inv X pins σ H s->t σ H Q ->
  wpAny (model X.prog X.w) X.A (evalPart e X.env) (fun u s'=>∃o H',Inv X pins σ H' s'/\IsPart u o/\Q o H') X.xe s
def ZC:TO:=fun _ H Q=>Q none H
def abW (t:TE):TO:=fun σ H Q=>t σ H fun x H1=>∃i,x = .int i/\Q (some i) H1
section
variable{lo hi:Option Expr}{tl th:TO}{p2:Pos}
theorem k9:PO X none ZC:=by
 intro pins s σ H Q I h;rw[evalPart_none];exact ak ⟨none,H,I,.none,h⟩
theorem lg (h:PE X e te):PO X (some e) (abW te):=by
 intro pins s σ H Q I hw;rw[evalPart_some];refine aD (h pins s σ H _ I hw) fun u s1 hQ9=>?_;obtain⟨x,H1,I1,r1,q1⟩:=hQ9;obtain⟨i,rfl,q⟩:=q1;obtain⟨t,rfl⟩:=r1;exact⟨some i,H1,I1,.int i t,q⟩
noncomputable def uW (X:Cx) (r:V->Option Int->Option Int->Hp->VK->Prop):Prop:=
 ∀ (pins:List (Addr×Obj)) (s:Shared) (σ:St) (H:Hp) (x:V) (v vl vu:Value) (lo hi:Option Int) (sl:Addr) (Q:VK),Inv X pins σ H s->RelV x v->s.heap.IsSliceOf sl vl vu .none->IsPart vl lo->IsPart vu hi->r x lo hi H Q ->
  ∃T id,typeLookup (.type T) "__getitem__" = pure (some (.builtin id))/\s.TypeIs v T/\wpAny (model X.prog X.w) X.A (getItem v (.ref sl)) (EP X pins σ Q) X.xe s
noncomputable def tSl (r:V->Option Int->Option Int->Hp->VK->Prop) (te:TE) (tl th:TO):TE:=fun σ H Q=>te σ H fun x H1=>tl σ H1 fun l H2=>th σ H2 fun u H3=>r x l u H3 Q
theorem kY {r:V->Option Int->Option Int->Hp->VK->Prop} (hr:uW X r) (he:PE X e te) (hl:PO X lo tl) (hu:PO X hi th):PE X (.Subscript e (.Slice lo hi none p2) pos) (tSl r te tl th):=by
 intro pins s σ H Q I h;refine Subscript_ (aD (he pins s σ H _ I h) fun v s1 hQ9=>?_);obtain⟨x,H1,I1,r1,q1⟩:=hQ9;refine wpAny_Slice (aD (hl pins s1 σ H1 _ I1 q1) fun vl s2 ⟨l,H2,I2,pl,q2⟩=>aD (hu pins s2 σ H2 _ I2 q2) fun vu s3 hQ9=>?_);obtain⟨u,H3,I3,pu,q3⟩:=hQ9;rw[evalPart_none];refine ak ?_;have I4:Inv X pins σ H3 { s3 with heap:=s3.heap.push { cls:= .type "slice",data:= .fields #[vl,vu,.none] } }:=I3.kept (t':=s3.toks) fun b ob q=>a8 _ q;obtain⟨T,id,hT,ht,hg⟩:=hr pins { s3 with heap:=s3.heap.push { cls:= .type "slice",data:= .fields #[vl,vu,.none] } } σ H3 x v vl vu l u s3.heap.objs.size Q I4 r1 (Heap.IsSliceOf.new ..) pl pu q3;show wpAny (model X.prog X.w) X.A (subscriptTail e (.Slice lo hi none p2) v (.ref s3.heap.objs.size)) (EP X pins σ Q) X.xe { s3 with heap:=s3.heap.push { cls:= .type "slice",data:= .fields #[vl,vu,.none] } };exact tail_any (ops:= [.ref s3.heap.objs.size,v]) ht hT hg (by with_unfolding_all rfl)
def gg (xs:List V) (lo hi:Option Int):List V:=(xs.drop (HT.bj xs.length 0 lo)).take (HT.bj xs.length xs.length hi - HT.bj xs.length 0 lo)
theorem Mb (xs:List V) (lo hi:Option Int):(gg xs lo hi).length<=xs.length:=by
 unfold gg;rw[cT,sT];omega
def ado (K:PySem.W.Frag):V->Option Int->Option Int->Hp->VK->Prop:=fun x lo hi H Q=>∃a xs,x = .ref a/\aJ K H a xs /\
 ¬ (HT.bj xs.length 0 lo=0/\HT.bj xs.length xs.length hi=xs.length) /\ ∀p,H p=none->Q (.ref p) (upd H p (.tup (gg xs lo hi)))
theorem aaO:uW X (ado X.K):=by
 intro pins s σ H x v vl vu lo hi sl Q I rx hs pl pu h;obtain⟨a,xs,rfl,hx,hw,q⟩:=h;cases rx
 obtain⟨its,r,ht,hz⟩:=I.tuple hx;have hlen:its.toArray.size=xs.length:=by rw[cE];exact r.length.symm
 refine⟨"tuple",_,zC.lookup,ht.typeIs,?_⟩;refine HT.V5 ht hs pl pu (by rw[hlen];exact hw) ?_ (by rw[hlen];exact hz)
 rw[hlen];refine⟨.ref s.heap.objs.size,_,I.laid (t':=s.toks) (o:= .tup (gg xs lo hi)) (fun b ob q=>a8 _ q) (aO _) ?_,rfl,q _ (I.au.fresh (aO _))⟩;exact⟨gW (Mb xs lo hi) hz,_,(r.drop (HT.bj xs.length 0 lo)).take (HT.bj xs.length xs.length hi - HT.bj xs.length 0 lo),mJ.new _ _⟩
noncomputable def abX (K:PySem.W.Frag):R2:=fun x y H Q=>∃a b xs ys,x = .ref a/\y = .ref b/\aJ K H a xs/\aJ K H b ys/\xs ≠ []/\xs.length+ys.length<=sizeLine /\
 (ys = []->Q (.ref a) H)/\(ys ≠ [] -> ∀p,H p=none->Q (.ref p) (upd H p (.tup (xs++ys))))
theorem Vals.EX (r:Vals xs us):us = [] ↔ xs = []:=by
 cases r with
 |nil=>simp
 |cons _ _=>simp
theorem ZD:cN X (binaryOp .Add) (abX X.K):=by
 intro pins s σ H x y v u Q I rx ry h;obtain⟨a,b,xs,ys,rfl,rfl,ha,hb,hx,hz,q1,q2⟩:=h;cases rx
 cases ry
 obtain⟨its,r1,p1,_⟩:=I.tuple ha;obtain⟨Bm,r2,p2,_⟩:=I.tuple hb;refine HT.Zz p1 p2 (fun z=>hx (r1.EX.mp z)) (fun z=>⟨.ref a,H,I,rfl,q1 (r2.EX.mp z)⟩) (fun z=>?_) (by rw[<-r1.length,<-r2.length];exact hz)
 refine⟨.ref s.heap.objs.size,_,I.laid (t':=s.toks) (o:= .tup (xs++ys)) (fun b ob q=>a8 _ q) (aO _) ?_,rfl,q2 (fun w=>z (r2.EX.mpr w)) _ (I.au.fresh (aO _))⟩;exact⟨by rw[fu];exact hz,_,r1.append r2,mJ.new _ _⟩
end
def sh (n:Nat) (i:Int):Option Nat:=if 0<=i then (if i < n then some i.toNat else none) else if -(n:Int)<=i then some (i+n).toNat else none
def eu {α:Type} (xs:List α) (i:Int):Option α:=(sh xs.length i).bind fun j=>xs[j]?
theorem N6 {n:Nat}{i:Int} (h:sh n i=some j):seqIndex? i n=some j/\j < n /\ -(n:Int)<=i/\i < n:=by
 unfold sh at h
 by_cases h0:0<=i
 ·rw[aF h0]at h
  by_cases h1:i < n
  ·rw[aF h1]at h
   have e:i.toNat=j:=fc h;exact⟨by rw[Lg h0 h1,e],by omega,by omega,h1⟩
  ·rw[ax h1]at h;cases h
 ·rw[ax h0]at h
  by_cases h1 : -(n:Int)<=i
  ·rw[aF h1]at h
   have e:(i+n).toNat=j:=fc h;exact⟨by rw[seqIndex_neg (by omega) h1,e],by omega,h1,by omega⟩
  ·rw[ax h1]at h;cases h
theorem EY {α:Type}{xs:List α}{i:Int}{v:α} (h:eu xs i=some v):∃j,seqIndex? i xs.length=some j/\xs[j]? = some v/\j < xs.length /\ -(xs.length:Int)<=i/\i < xs.length:=by
 unfold eu at h;cases e:sh xs.length i with
 |none=>rw[e]at h;cases h
 |some j =>
  rw[e]at h;obtain⟨h1,h2,h3,h4⟩:=N6 e;exact⟨j,h1,h,h2,h3,h4⟩
theorem b9 {α:Type}{xs:List α}{v:α} (h:xs[j]? = some v):eu xs (j:Int)=some v:=by
 have hj:j < xs.length:=(cz.mp h).1;have e:sh xs.length (j:Int)=some j:=by
  unfold sh;rw[aF (by omega),aF (by omega)];simp
 unfold eu;rw[e];exact h
noncomputable def ZE (b:Expr):Prop:= ∀o i,subscripted b false o i=operate [o,i] (getItem o i)
noncomputable def uX (X:Cx) (r:R2):Prop:=
 ∀ (value slice:Expr) (pins:List (Addr×Obj)) (s:Shared) (σ:St) (H:Hp) (x y:V) (v u:Value) (Q:VK),Inv X pins σ H s->RelV x v->RelV y u->r x y H Q ->
  subscripted slice false v u=operate [v,u] (getItem v u)->wpAny (model X.prog X.w) X.A (subscriptTail value slice v u) (EP X pins σ Q) X.xe s
noncomputable def yv (X:Cx) (id:String) (r:V->List V->Hp->VK->Prop):Prop:=
 ∀ (pins:List (Addr×Obj)) (s:Shared) (σ:St) (H:Hp) (x:V) (xs:List V) (v:Value) (us:List Value) (Q:VK),Inv X pins σ H s->RelV x v->Vals xs us->r x xs H Q ->
  wpAny (model X.prog X.w) X.A (call (.builtin id) (v::us)) (EP X pins σ Q) X.xe s
section
variable{a b:Expr}
theorem aP {r:R2} (hr:uX X r) (ha:PE X a ta) (hb:PE X b tb) (hs:ZE b:=by exact fun _ _=>rfl):PE X (.Subscript a b pos) (uV r ta tb):=by
 intro pins s σ H Q I h;exact Subscript_ (GZ ha hb I h fun v u s2 x y H2 I2 rx ry q=>hr a b pins s2 σ H2 x y v u Q I2 rx ry q (hs _ _))
noncomputable def nZ (K:PySem.W.Frag):R2:=fun x y H Q=>∃p xs i v,x = .ref p/\y = .int i/\aj K H p xs/\eu xs i=some v/\Q v H
noncomputable def Qa (K:PySem.W.Frag):R2:=fun x y H Q=>∃p xs i v,x = .ref p/\y = .int i/\aJ K H p xs/\eu xs i=some v/\Q v H
noncomputable def adp:R2:=fun x y H Q=>∃z i c,x = .str z/\y = .int i/\z.length<=sizeLine/\eu z.cps.toList i=some c/\Q (.str ⟨#[c]⟩) H
theorem bE:uX X (nZ X.K):=by
 intro value slice pins s σ H x y v u Q I rx ry h hs;obtain⟨p,xs,i,z,rfl,rfl,hq,he,q⟩:=h;cases rx
 obtain⟨t,rfl⟩:=ry;obtain⟨its,r,pl,hz⟩:=I.list hq;obtain⟨j,h1,h2,h3,h4,h5⟩:=EY he;obtain⟨w,ew,gO⟩:=r.get h2;have hl:=r.length;have hn:=qW;have fin:EP X pins σ Q w s:=⟨z,H,I,gO,q⟩
 by_cases h0:0<=i
 ·have hj:i.toNat=j:=by
   rw[Lg h0 h5]at h1;exact fc h1
  exact item_listR pl.isList h0 (by omega) (by rw[hj];simpa using ew) fin hs
 ·have hj:(i+(its.toArray.size:Int)).toNat=j:=by
   rw[seqIndex_neg (by omega) h4]at h1
   rw[cE,<-hl];exact fc h1
  exact subscriptTail_builtinR (x:=w) pl.isList.typeIs slot_list_getitem.lookup
   (wpAny_getItem_list_neg (Q:=fun r s'=>r=w/\EP X pins σ Q r s') pl.isList (by omega) (by rw[cE] <;> omega) (by omega) (by rw[hj];simpa using ew) ⟨rfl,fin⟩) hs
theorem gb:uX X (Qa X.K):=by
 intro value slice pins s σ H x y v u Q I rx ry h hs;obtain⟨p,xs,i,z,rfl,rfl,hq,he,q⟩:=h;cases rx
 obtain⟨t,rfl⟩:=ry;obtain⟨its,r,pl,hz⟩:=I.tuple hq;obtain⟨j,h1,h2,h3,h4,h5⟩:=EY he;obtain⟨w,ew,gO⟩:=r.get h2;have hl:=r.length;have hn:=qW;have fin:EP X pins σ Q w s:=⟨z,H,I,gO,q⟩;exact subscriptTail_builtinR (x:=w) pl.typeIs slot_tuple_getitem.lookup
  (getItem_tuple (j:=j) (Q:=fun r s'=>r=w/\EP X pins σ Q r s') pl (by omega) (by omega) (by rw[cE,<-hl];exact h1) (by simpa using ew) ⟨rfl,fin⟩) hs
theorem OK:uX X adp:=by
 intro value slice pins s σ H x y v u Q I rx ry h hs;obtain⟨z,i,c,rfl,rfl,hz,he,q⟩:=h;obtain⟨t,rfl⟩:=rx;obtain⟨t',rfl⟩:=ry;obtain⟨j,h1,h2,h3,h4,h5⟩:=EY he;have hl:z.cps.toList.length=z.length:=by simp[Str.length]
 rw[hl]at h1 h4 h5;have hn:=qW;exact tail_any (typeIs_str s z t) slot_str_getitem.lookup (getItem_str (c:=c) (by
  have e1:decide (i < -(2 ^ 63:Int))=false:=dZ (by omega)
  have e2:decide (i ≥ 2 ^ 63)=false:=dZ (by omega)
  rw[e1,e2,Vt]) (by rw[h1];simpa using h2) ⟨.str ⟨#[c]⟩,H,I.tok _,⟨_,rfl⟩,q⟩) hs
theorem W8 (its:List Value) (n j:Nat) (u:Value):Obj.mapSeq (·.setIfInBounds j u) { cls:= .type "list",data:= .seq its.toArray n }={ cls:= .type "list",data:= .seq (its.set j u).toArray n }:=by
 simp[Obj.mapSeq]
theorem Inv.lst {pins:List (Addr×Obj)}{σ:St}{H:Hp}{s:Shared}{p:Addr}{xs:List V} (I:Inv X pins σ H s) (h:H p=some (.lst xs)) :
  ∃ (its:List Value) (n:Nat),Vals xs its/\s.heap.get? p=some { cls:= .type "list",data:= .seq its.toArray n }/\xs.length<=sizeLine:=by
 obtain⟨z,its,n,r,e⟩:=I.au p _ h;exact⟨its,n,r,e,z⟩
theorem Inv.aaP {its':List Value}{n n':Nat}{f:Obj->Obj} (I:Inv X pins σ H s) (h:H p=some (.lst xs))
  (ho:s.heap.get? p=some { cls:= .type "list",data:= .seq its.toArray n }) (hf:f { cls:= .type "list",data:= .seq its.toArray n }={ cls:= .type "list",data:= .seq its'.toArray n' }) (r:Vals ys its') (hz:ys.length<=sizeLine) (t:Nat) :
  Inv X pins σ (upd H p (.lst ys)) { s with heap:=s.heap.update p f,toks:=t }:=by
 have e:(s.heap.update p f).get? p=some { cls:= .type "list",data:= .seq its'.toArray n' }:=by
  rw[Dv f ho (by rw[hf] <;> rfl),hf]
 refine I.write (x:=p) (e:=p) (by rw[h];trivial) (.inl rfl) (fun b u hb q=>(zD _ _ (ba hb)).trans q) ⟨_,e⟩ ?_
 exact⟨hz,its',n',r,e⟩
def abY:V->V->V->Hp->(Hp->Prop)->Prop:=fun o i v H Q=>∃p xs k j,o = .ref p/\i = .int k/\H p=some (.lst xs)/\sh xs.length k=some j/\Q (upd H p (.lst (xs.set j v)))
theorem set_list:PM X abY:=by
 intro pins s σ H o i v ov iv u Q I ro ri rv h;obtain⟨p,xs,k,j,rfl,rfl,hp,hj,q⟩:=h;cases ro
 obtain⟨t,rfl⟩:=ri;obtain⟨its,n,r,ho,hz⟩:=I.lst hp;obtain⟨h1,h2,h3,h4⟩:=N6 hj;have hl:=r.length;have hn:=qW;have I':Inv X pins σ (upd H p (.lst (xs.set j v))) { s with heap:=s.heap.update p (Obj.mapSeq (·.setIfInBounds j u)) }:=
  I.aaP hp ho (W8 its n j u) (r.set rv j) (by rw[List.length_set];exact hz) s.toks
 by_cases h0:0<=k
 ·have hk:k.toNat=j:=by
   rw[Lg h0 h4]at h1;exact fc h1
  exact PySem.W.ki_setAt ho h0 (by omega) (by rw[cE,<-hl];exact h4) (by rw[hk];exact⟨_,I',q⟩)
 ·have hk:(k+(its.toArray.size:Int)).toNat=j:=by
   rw[seqIndex_neg (by omega) h3]at h1
   rw[cE,<-hl];exact fc h1
  exact PySem.W.ki_setBack ho (by omega) (by rw[cE,<-hl];exact h3) (by omega) (by rw[hk];exact⟨_,I',q⟩)
theorem Wm (lo hi:Option Int) (n:Nat):(sliceBounds lo hi none n).1=((HT.bj n 0 lo:Nat):Int)/\(sliceBounds lo hi none n).2.1=((HT.bj n n hi:Nat):Int)/\(sliceBounds lo hi none n).2.2=1:=by
 refine⟨?_,?_,rfl⟩
 ·cases lo with
  |none=>simp[sliceBounds,HT.bj]
  |some i =>
   simp only[sliceBounds,HT.bj,Option.getD_none,show(1:Int) > 0 by decide,j7]
   by_cases h:i < 0
   ·simp only[h,j7] <;> omega
   ·simp only[h,kT] <;> omega
 ·cases hi with
  |none=>simp[sliceBounds,HT.bj]
  |some i =>
   simp only[sliceBounds,HT.bj,Option.getD_none,show(1:Int) > 0 by decide,j7]
   by_cases h:i < 0
   ·simp only[h,j7] <;> omega
   ·simp only[h,kT] <;> omega
theorem Wf (its:List Value) (lo hi:Option Int):slicePick its.toArray lo hi none=((its.drop (HT.bj its.length 0 lo)).take (HT.bj its.length its.length hi - HT.bj its.length 0 lo)).toArray:=by
 obtain⟨h1,h2,h3⟩:=Wm lo hi its.toArray.size;unfold slicePick;rw[h1,h2,h3];simp only[sliceRange_one,pick_run,cE] <;> rfl
def Qb (K:PySem.W.Frag):V->Option Int->Option Int->Hp->VK->Prop:=fun x lo hi H Q=>∃a xs,x = .ref a/\aj K H a xs /\ ∀p,H p=none->Q (.ref p) (upd H p (.lst (gg xs lo hi)))
theorem oZ:uW X (Qb X.K):=by
 intro pins s σ H x v vl vu lo hi sl Q I rx hs pl pu h;obtain⟨a,xs,rfl,hx,q⟩:=h;cases rx
 obtain⟨its,r,ht,hz⟩:=I.list hx;have hlen:=r.length;refine⟨"list",_,slot_list_getitem.lookup,ht.isList.typeIs,?_⟩;refine wpAny_getItem_list_slice ht.isList hs pl pu .none (by simp) ?_ (by rw[cE] <;> omega)
 rw[Wf,<-hlen];refine⟨.ref s.heap.objs.size,_,I.laid (t':=s.toks) (o:= .lst (gg xs lo hi)) (fun b ob q=>a8 _ q) (aO _) ?_,rfl,q _ (I.au.fresh (aO _))⟩;exact⟨gW (Mb xs lo hi) hz,_,0,(r.drop (HT.bj xs.length 0 lo)).take (HT.bj xs.length xs.length hi - HT.bj xs.length 0 lo),cj _ rfl⟩
def ki:V->Bool
 |.aI=>true
 |.bl _=>true
 |.int _=>true
 |.str _=>true
 |_=>false
def mZ:V->V->Bool
 |.aI,.aI=>true
 |.bl a,.bl b=>a==b
 |.bl a,.int b=>(if a then 1 else 0)==b
 |.int a,.bl b=>a==(if b then 1 else 0)
 |.int a,.int b=>a==b
 |.str a,.str b=>a==b
 |_,_=>false
theorem aaQ {x:V}{v:Value} (ry:RelV y u) (rx:RelV x v) (fy:ki y=true) (fx:ki x=true):SeqAt.EqAt A s u v (mZ y x):=by
 cases y with
 |aI =>
  cases ry
  cases x with
  |aI=>cases rx;exact SeqAt.EqAt.same _
  |bl b=>cases rx;exact SeqAt.EqAt.none_bool b
  |int b=>obtain⟨t,rfl⟩:=rx;exact SeqAt.EqAt.none_int b t
  |str b=>obtain⟨t,rfl⟩:=rx;exact SeqAt.EqAt.none_str b t
  |_=>exact absurd (show false=true from fx) cD
 |bl a =>
  cases ry
  cases x with
  |aI=>cases rx;exact SeqAt.EqAt.bool_none a
  |bl b=>cases rx;exact SeqAt.EqAt.bool_bool a b
  |int b=>obtain⟨t,rfl⟩:=rx;exact SeqAt.EqAt.bool_int a b t
  |str b=>obtain⟨t,rfl⟩:=rx;exact SeqAt.EqAt.bool_str a b t
  |_=>exact absurd (show false=true from fx) cD
 |int a =>
  obtain⟨t',rfl⟩:=ry;cases x with
  |aI=>cases rx;exact SeqAt.EqAt.int_none a t'
  |bl b=>cases rx;exact SeqAt.EqAt.int_bool a t' b
  |int b=>obtain⟨t,rfl⟩:=rx;exact SeqAt.EqAt.int_int a t' b t
  |str b=>obtain⟨t,rfl⟩:=rx;exact SeqAt.EqAt.int_str a t' b t
  |_=>exact absurd (show false=true from fx) cD
 |str a =>
  obtain⟨t',rfl⟩:=ry;cases x with
  |aI=>cases rx;exact SeqAt.EqAt.str_none a t'
  |bl b=>cases rx;exact SeqAt.EqAt.str_bool a t' b
  |int b=>obtain⟨t,rfl⟩:=rx;exact SeqAt.EqAt.str_int a t' b t
  |str b=>obtain⟨t,rfl⟩:=rx;exact SeqAt.EqAt.str_str a t' b t
  |_=>exact absurd (show false=true from fx) cD
 |_=>exact absurd (show false=true from fy) cD
def gm (x:V) (u:Value):Bool:=match u with
 |.none=>mZ .aI x
 |.bool b=>mZ (.bl b) x
 |.int i _=>mZ (.int i) x
 |.str z _=>mZ (.str z) x
 |_=>false
theorem AG {x:V} (r:RelV y u) (f:ki y=true):gm x u=mZ y x:=by
 cases y with
 |aI=>cases r;rfl
 |bl b=>cases r;rfl
 |int i=>obtain⟨t,rfl⟩:=r;rfl
 |str z=>obtain⟨t,rfl⟩:=r;rfl
 |_=>exact absurd (show false=true from f) cD
theorem wU {x:V}:∀ {xs:List V}{us:List Value},Vals xs us->xs.all ki=true->us.any (gm x)=xs.any fun y=>mZ y x
 |_,_,.nil,_=>rfl
 |y::xs,u::us,.cons r t,f=>by
  rw[List.all_cons,nM]at f;rw[sU,sU,AG r f.1,wU t f.2]
theorem qK {A:Around}{s:Shared}{x:V}{v:Value} (rx:RelV x v) (fx:ki x=true):∀ {xs:List V}{us:List Value},Vals xs us->xs.all ki=true -> ∀u∈us,SeqAt.EqAt A s u v (gm x u)
 |_,_,.nil,_=>fun u hu=>by cases hu
 |y::xs,u::us,.cons r t,f=>fun u' hu=>by
  rw[List.all_cons,nM]at f;rcases bH.mp hu with rfl|hu
  ·rw[AG r f.1];exact aaQ r rx f.1 fx
  ·exact qK rx fx t f.2 u' hu
def pR (x:V) (xs:List V):Bool:=xs.any fun y=>mZ y x
noncomputable def B' (K:PySem.W.Frag) (neg:Bool):R2:=fun x y H Q=>∃p xs,y = .ref p/\(aj K H p xs\/aJ K H p xs)/\ki x=true/\xs.all ki=true/\Q (.bl (if neg then !pR x xs else pR x xs)) H
theorem zW:cN X (compareOp .In) (B' X.K false):=by
 intro pins s σ H x y v u Q I rx ry h;obtain⟨p,xs,rfl,hq,fx,fs,q⟩:=h;cases ry
 rcases hq with hq|hq
 ·obtain⟨its,r,pl,hz⟩:=I.list hq
  refine SeqAt.in_listAt (gm x) pl.isList (fun w hw=>qK rx fx r fs w (by simpa using hw)) ⟨.bl _,H,I,rfl,?_⟩
  rw[show its.toArray.any (gm x)=its.any (gm x) by simp,wU r fs]
  exact q
 ·obtain⟨its,r,pl,hz⟩:=I.tuple hq
  refine SeqAt.in_tupleAt (gm x) pl (fun w hw=>qK rx fx r fs w (by simpa using hw)) ⟨.bl _,H,I,rfl,?_⟩
  rw[show its.toArray.any (gm x)=its.any (gm x) by simp,wU r fs]
  exact q
theorem Wn:cN X (compareOp .NotIn) (B' X.K true):=by
 intro pins s σ H x y v u Q I rx ry h;obtain⟨p,xs,rfl,hq,fx,fs,q⟩:=h;cases ry
 rcases hq with hq|hq
 ·obtain⟨its,r,pl,hz⟩:=I.list hq
  refine SeqAt.notIn_listAt (gm x) pl.isList (fun w hw=>qK rx fx r fs w (by simpa using hw)) ⟨.bl _,H,I,rfl,?_⟩
  rw[show its.toArray.any (gm x)=its.any (gm x) by simp,wU r fs]
  exact q
 ·obtain⟨its,r,pl,hz⟩:=I.tuple hq
  refine SeqAt.notIn_tupleAt (gm x) pl (fun w hw=>qK rx fx r fs w (by simpa using hw)) ⟨.bl _,H,I,rfl,?_⟩
  rw[show its.toArray.any (gm x)=its.any (gm x) by simp,wU r fs]
  exact q
theorem gu:d5 X (.builtin "len") (fun xs H Q=>∃p ys,xs = [.ref p]/\(aj X.K H p ys\/aJ X.K H p ys)/\Q (.int ys.length) H):=by
 intro pins s σ H xs us Q I r h;obtain⟨p,ys,rfl,hq,q⟩:=h;obtain⟨u,rfl,rx⟩:=vals1 r;cases rx
 have hn:=qW;rcases hq with hq|hq
 ·obtain⟨its,r',pl,hz⟩:=I.list hq
  have hlen:=r'.length;exact Calls.call_len_list pl.isList (by simp only[cE] <;> omega) ⟨.int ys.length,H,I.tok _,⟨s.toks+1,by rw[cE,hlen]⟩,q⟩
 ·obtain⟨its,r',pl,hz⟩:=I.tuple hq
  have hlen:=r'.length;exact len_tuple pl (by simp only[cE] <;> omega) ⟨.int ys.length,H,I.tok _,⟨s.toks+1,by rw[cE,hlen]⟩,q⟩
theorem Wo:d5 X (.builtin "len") (fun xs H Q=>∃z,xs = [.str z]/\z.length<=sizeLine/\Q (.int z.length) H):=by
 intro pins s σ H xs us Q I r h;obtain⟨z,rfl,hz,q⟩:=h;obtain⟨u,rfl,t,rfl⟩:=vals1 r;have hn:=qW;exact len_str (by omega) ⟨.int z.length,H,I.tok _,⟨_,rfl⟩,q⟩
theorem wg:d5 X (.type "list") (fun xs H Q=>∃p ys,xs = [.ref p]/\(aj X.K H p ys\/aJ X.K H p ys) /\ ∀l,H l=none->Q (.ref l) (upd H l (.lst ys))):=by
 intro pins s σ H xs us Q I r h;obtain⟨p,ys,rfl,hq,q⟩:=h;obtain⟨u,rfl,rx⟩:=vals1 r;cases rx
 have fin:∀ (its:List Value),Vals ys its->ys.length<=sizeLine -> ∀ (h':Heap) (c':Nat),(∀b o',s.heap.get? b=some o'->h'.get? b=some o') ->
   h'.get? s.heap.objs.size=some { cls:= .type "list",dict:=none,data:= .seq its.toArray c',slots:= #[] }->EP X pins σ Q (.ref s.heap.objs.size) { s with heap:=h' }:=fun its r' hz h' c' kp e =>
  ⟨.ref s.heap.objs.size,_,I.laid (t':=s.toks) kp (aO _) (show bp X.prog X.w _ h' _ (.lst ys) from⟨hz,its,c',r',e⟩),rfl,q _ (I.au.fresh (aO _))⟩
 rcases hq with hq|hq
 ·obtain⟨its,r',pl,hz⟩:=I.list hq
  have hlen:=r'.length;obtain⟨o,ho,hc,n,hd⟩:=pl.isList;exact call_list_seq p (.inl rfl) ho hc hd (fun h' c' kp e=>fin its r' hz h' c' kp e) (by simp only[cE] <;> omega)
 ·obtain⟨its,r',pl,hz⟩:=I.tuple hq
  have hlen:=r'.length;obtain⟨o,ho,hc,n,hd⟩:=pl;exact call_list_seq p (.inr rfl) ho hc hd (fun h' c' kp e=>fin its r' hz h' c' kp e) (by simp only[cE] <;> omega)
theorem qG:d5 X (.type "tuple") (fun xs H Q=>∃p ys,xs = [.ref p]/\((aj X.K H p ys /\ ∀l,H l=none->Q (.ref l) (upd H l (.tup ys)))\/(aJ X.K H p ys/\Q (.ref p) H))):=by
 intro pins s σ H xs us Q I r h;obtain⟨p,ys,rfl,h⟩:=h;obtain⟨u,rfl,rx⟩:=vals1 r;cases rx
 rcases h with⟨hq,q⟩|⟨hq,q⟩
 ·obtain⟨its,r',pl,hz⟩:=I.list hq
  have hlen:=r'.length;refine call_tuple_list pl.isList (fun h' kp=>?_) (by simp only[cE] <;> omega)
  have I1:Inv X pins σ H { s with heap:=h' }:=I.kept (t':=s.toks) kp;have I2:Inv X pins σ (upd H h'.objs.size (.tup ys)) { s with heap:=h'.push { cls:= .type "tuple",data:= .seq its.toArray } }:=
   I1.laid (t':=s.toks) (fun b o e=>a8 _ e) (aO _) (show bp X.prog X.w _ _ _ (.tup ys) from⟨hz,its,r',mJ.new _ _⟩)
  exact⟨.ref h'.objs.size,_,I2,rfl,q _ (I1.au.fresh (aO _))⟩
 ·obtain⟨its,r',pl,hz⟩:=I.tuple hq
  exact call_tuple_same pl ⟨.ref p,H,I,rfl,q⟩
noncomputable def IH (K:PySem.W.Frag) (T:String) (x:V) (H:Hp):Prop:=match x with
 |.str _=>T = "str"
 |.int _=>T = "int"
 |.ref p=>(T = "list" /\ ∃xs,aj K H p xs)\/(T = "tuple" /\ ∃o,K.lookup p=some o/\o.cls = .type "tuple" /\ o.dict=none) \/
   (T = "dict" /\ ((∃kvs,H p=some (.dK kvs)) \/ ∃kvs,H p=some (.dT kvs)))\/(T = "set" /\ ∃S n,H p=some (.set S n))\/(T = "tuple" /\ ∃xs,Rd H p (.tup xs))
 |_=>False
theorem OL {x:V}{v:Value} (I:Inv X pins σ H s) (r:RelV x v) (ty:IH X.K T x H) :
  s.TypeIs v T /\ ∀a,v = .ref a -> ∃ob,s.heap.get? a=some ob/\ob.dict=none:=by
 cases x with
 |str z =>
  obtain⟨t,rfl⟩:=r;cases (show T = "str" from ty)
  exact⟨typeIs_str s z t,fun _ e=>nomatch e⟩
 |int i =>
  obtain⟨t,rfl⟩:=r;cases (show T = "int" from ty)
  exact⟨typeIs_int s i t,fun _ e=>nomatch e⟩
 |ref p =>
  cases r
  rcases ty with⟨rfl,xs,hq⟩|⟨rfl,o,hk,hc,hd⟩|⟨rfl,hk⟩|⟨rfl,S,n,hk⟩|⟨rfl,xs,hq⟩
  ·obtain⟨its,_,pl,_⟩:=I.list hq
   refine⟨pl.isList.typeIs,fun a e=>?_⟩;cases e
   obtain⟨o,n,e,c,hd,_⟩:=pl;exact⟨o,e,hd⟩
  ·refine⟨⟨o,I.cM p o hk,hc⟩,fun a e=>?_⟩
   cases e
   exact⟨o,I.cM _ o hk,hd⟩
  ·have z:∃o,s.heap.get? p=some o/\o.ExactDict:=by
    rcases hk with⟨kvs,hk⟩|⟨kvs,hk⟩
    ·obtain⟨_,_,_,_,o,_,_,e,ex,_⟩:=I.au p _ hk
     exact⟨o,e,ex⟩
    ·obtain⟨_,_,_,_,o,_,_,e,ex,_⟩:=I.au p _ hk
     exact⟨o,e,ex⟩
   obtain⟨o,e,ex⟩:=z;refine⟨⟨o,e,ex.1⟩,fun a e2=>?_⟩;cases e2
   exact⟨o,e,ex.2.1⟩
  ·obtain⟨o,_,_,_,e,ex,_⟩:=I.au p _ hk
   refine⟨⟨o,e,ex.1⟩,fun a e2=>?_⟩;cases e2
   exact⟨o,e,ex.2.1⟩
  ·obtain⟨_,_,_,o,e,c,_,_,hd⟩:=hq.ok I.au
   refine⟨⟨o,e,c⟩,fun a e2=>?_⟩;cases e2
   exact⟨o,e,hd⟩
 |_=>exact False.elim ty
noncomputable def adq (K:PySem.W.Frag) (T:String) (r:V->List V->Hp->VK->Prop) (to:TE):TE:=fun σ H Q=>to σ H fun x H1=>IH K T x H1/\r x [] H1 Q
noncomputable def RT (K:PySem.W.Frag) (T:String) (r:V->List V->Hp->VK->Prop) (to:TE) (t:TA):TE:=fun σ H Q=>to σ H fun x H1=>IH K T x H1/\t σ H1 fun xs H2=>r x xs H2 Q
variable{o:Expr}{t:TA}{id:String}{r:V->List V->Hp->VK->Prop}
theorem OM (pa:PlainAttrs T) (slot:Slot T name id) (yw:typeOf (.builtin id)=pure (.type "method_descriptor")) (hm:yv X id r) (ho:PE X o to)
  (rD:attributeBase o name X.env (eval o X.env)=eval o X.env:=by rfl) (rE:(apos.endLine==iQ.line)=true:=by rfl):PE X (.Call (.Attribute o name apos) [] [] iQ) (adq X.K T r to):=by
 intro pins s σ H Q I h;refine wpAny_Call_method0_late rD rE (aD (ho pins s σ H _ I h) fun v s1 hQ9=>?_);obtain⟨x,H1,I1,r1,ty,q1⟩:=hQ9;obtain⟨h1,h2⟩:=OL I1 r1 ty;exact⟨T,id,pa,slot,yw,h1,h2,Calls.callWith_builtin rfl (amk (hm pins s1 σ H1 x [] v [] Q I1 r1 .nil q1))⟩
theorem mE (pa:PlainAttrs T) (slot:Slot T name id) (yw:typeOf (.builtin id)=pure (.type "method_descriptor")) (hm:yv X id r) (ho:PE X o to) (ha:PA X (e::es) t)
  (rD:attributeBase o name X.env (eval o X.env)=eval o X.env:=by rfl)
  (Hd:((backTo iQ (starEach (e::es) X.env)).all (fun x=>!x.1) && (backToKw iQ (keywordEach [] X.env)).all (fun x=>x.1.isSome)
   && decide ((e::es).length+([]:List Keyword).length+(if ([]:List Keyword).isEmpty then 0 else 1) < 30))=true:=by rfl)
  (rE:(apos.endLine==iQ.line)=true:=by rfl) (hs:starEach (e::es) X.env=(false,eval e X.env)::starEach es X.env:=by rfl) (Fu:(backTo iQ (starEach es X.env)).any (·.1)=false:=by rfl) :
  PE X (.Call (.Attribute o name apos) (e::es) [] iQ) (RT X.K T r to t):=by
 intro pins s σ H Q I h;refine wpAny_Call_method_late rD Hd rE rfl (aD (ho pins s σ H _ I h) fun v s1 hQ9=>?_);obtain⟨x,H1,I1,r1,ty,q1⟩:=hQ9;obtain⟨h1,h2⟩:=OL I1 r1 ty;refine⟨T,id,pa,slot,yw,h1,h2,?_⟩;have hA:=ha iQ pins s1 σ H1 _ I1 q1;rw[hs]at hA ⊢;refine Calls.callWith_builtin (by show(false || (backTo iQ (starEach es X.env)).any (·.1))=false;rw[Fu] <;> rfl) (Calls.evalArgs_plain ?_)
 exact aD hA fun us s2 ⟨vs,H2,I2,r2,q2⟩=>hm pins s2 σ H2 x vs v us Q I2 r1 r2 q2
end
noncomputable def yx (X:Cx) (id:String) (r:V->List V->Hp->VK->Prop):Prop:=
 ∀ (pins:List (Addr×Obj)) (s:Shared) (σ:St) (H:Hp) (x:V) (xs:List V) (v:Value) (us:List Value) (Q:VK),Inv X pins σ H s->RelV x v->Vals xs us->r x xs H Q ->
  wpAny (model X.prog X.w) X.A (call (.builtin id) (v::us)) (EP X pins σ Q) X.xe s
theorem Vals.one:∀ {x:V}{us:List Value},Vals [x] us -> ∃u,us = [u]/\RelV x u:=by
 intro _ _ h;cases h with|cons r h=>cases h;exact⟨_,rfl,r⟩
theorem Vals.two:∀ {x y:V}{us:List Value},Vals [x,y] us -> ∃u v,us = [u,v]/\RelV x u/\RelV y v:=by
 intro _ _ _ h;cases h with|cons r h=>cases h with|cons q h=>cases h;exact⟨_,_,rfl,r,q⟩
theorem Vals.eraseIdx:∀ {xs:List V}{us:List Value} (i:Nat),Vals xs us->Vals (xs.eraseIdx i) (us.eraseIdx i)
 |_,_,_,.nil=>.nil
 |_,_,0,.cons _ t=>t
 |_,_,i+1,.cons r t=>.cons r (Vals.eraseIdx i t)
theorem MK {α:Type}:∀ (l:List α) (i:Nat),(l.eraseIdx i).length<=l.length
 |[],_=>aO _
 |_::_,0=>oQ _
 |_::r,i+1=>Nat.succ_le_succ (MK r i)
section
variable{zs:List V}
theorem Inv.Qc {its':List Value}{n:Nat}{f:Array Value->Array Value} (I:Inv X pins σ H s) (hH:H l=some (.lst xs))
  (e:s.heap.get? l=some { cls:= .type "list",data:= .seq its.toArray n }) (hf:f its.toArray=its'.toArray) (hv:Vals ys its') (hz:ys.length<=sizeLine) :
  Inv X pins σ (upd H l (.lst ys)) { s with heap:=s.heap.update l (Obj.mapSeq f),toks:=t' }:=by
 have q:=PySem.IsL.update e f;rw[hf]at q;refine I.write (x:=l) (e:=l) (by rw[hH];exact trivial) (.inl rfl) (fun b' u hb hu=>(zD s.heap (Obj.mapSeq f) (ba hb)).trans hu) ⟨_,q⟩ ?_
 exact⟨hz,its',_,hv,q⟩
theorem Inv.Qd (I:Inv X pins σ H s) (hv:Vals ys its) (hz:ys.length<=sizeLine) :
  Inv X pins σ (upd H s.heap.objs.size (.lst ys)) { s with heap:=s.heap.push { cls:= .type "list",data:= .seq its.toArray },toks:=t' }:=
 I.laid (fun _ _ q=>a8 _ q) (aO _) ⟨hz,its,0,hv,cj _ rfl⟩
theorem Inv.fresh (I:Inv X pins σ H s):H s.heap.objs.size=none:=I.au.fresh (aO _)
theorem Inv.uF (I:Inv X pins σ H s) (hH:H l=some (.lst xs)):xs.length<=sizeLine /\ ∃ (its:List Value) (n:Nat),Vals xs its/\xs.length=its.length/\s.heap.get? l=some { cls:= .type "list",data:= .seq its.toArray n }:=by
 obtain⟨z,its,n,r,e⟩:=I.au l _ hH;exact⟨z,its,n,r,r.length,e⟩
end
def ZF:V->List V->Hp->VK->Prop:=fun x vs H Q=>∃l xs y,x = .ref l/\vs = [y]/\H l=some (.lst xs)/\xs.length < sizeLine/\Q .aI (upd H l (.lst (xs ++ [y])))
theorem tI:yx X "list.append" ZF:=by
 intro pins s σ H x vs v us Q I rx rv h;obtain⟨l,xs,y,rfl,rfl,hH,hz,q⟩:=h;cases rx
 obtain⟨u,rfl,ru⟩:=rv.one;obtain⟨z,its,n,r,hl,e⟩:=I.uF hH;refine sV F.slot_list_append ⟨_,e,rfl⟩ F.entry_list_append (F.args_list_append_2 _ _) (PySem.list_append l its.toArray n u (by rw[cE];omega)) ⟨e,?_⟩
 refine⟨.aI,_,I.Qc (its':=its ++ [u]) hH e (by simp) (r.append (.cons ru .nil)) ?_,rfl,q⟩
 rw[fu,nN];omega
def aaR:V->List V->Hp->VK->Prop:=fun x vs H Q=>∃l xs i k y,x = .ref l/\vs = [.int i]/\H l=some (.lst xs) /\ -(2 ^ 63)<=i/\i < 2 ^ 63/\seqIndex? i xs.length=some k/\xs[k]? = some y/\Q y (upd H l (.lst (xs.eraseIdx k)))
theorem Yt:yx X "list.pop" aaR:=by
 intro pins s σ H x vs v us Q I rx rv h;obtain⟨l,xs,i,k,y,rfl,rfl,hH,h1,h2,hk,hy,q⟩:=h;cases rx
 obtain⟨u,rfl,ru⟩:=rv.one;obtain⟨t,rfl⟩:=ru;obtain⟨z,its,n,r,hl,e⟩:=I.uF hH;obtain⟨w,hw,gO⟩:=r.get hy;refine sV F.slot_list_pop ⟨_,e,rfl⟩ F.entry_list_pop (F.args_list_pop_2 _ _)
  (MeetsSeq.list_pop_at l its.toArray n i t k w (fitsIndex_both h1 h2) (by rw[cE,<-hl];exact hk) (by rw[<-zE];exact hw) (by rw[cE];omega)) ⟨e,?_⟩
 refine⟨y,_,I.Qc (its':=its.eraseIdx k) hH e ?_ (r.eraseIdx k) ?_,gO,q⟩
 ·show its.toArray.eraseIdxIfInBounds k=(its.eraseIdx k).toArray
  rw[List.eraseIdxIfInBounds_toArray]
 ·have:=MK xs k
  omega
noncomputable def ads:R2:=fun x y H Q=>∃l b xs zs,x = .ref l/\y = .ref b/\H l=some (.lst xs)/\H b=some (.lst zs)/\xs.length+zs.length<=sizeLine /\ ∀p,H p=none->Q (.ref p) (upd H p (.lst (xs++zs)))
theorem qX:cN X (binaryOp .Add) ads:=by
 intro pins s σ H x y v u Q I rx ry h;obtain⟨l,b,xs,zs,rfl,rfl,hH,hB,hz,q⟩:=h;cases rx
 cases ry
 obtain⟨z,its,n,r,hl,e⟩:=I.uF hH;obtain⟨z2,Bm,n2,r2,gQ,e2⟩:=I.uF hB;refine PySem.P.add_list e e2 ?_ (by rw[cE,cE];omega)
 have ea:its.toArray++Bm.toArray=(its++Bm).toArray:=by simp
 rw[ea];exact⟨.ref _,_,I.Qd (t':=s.toks) (r.append r2) (by rw[fu];omega),rfl,q _ I.fresh⟩
section
set_option maxRecDepth 100000 in
end
end L2
namespace RU
open PySem PySem.W PySem.Calls PyProof.Rows
theorem V9 {P:Params}:∀ (ns:List Int) (vs:List Value),WellAll P h vs (ns.map WData.int)->IntsAre vs ns:=by
 intro ns
 induction ns with
 |nil =>
  intro vs w;rw[List.map_nil]at w;cases w
  exact .nil
 |cons n ns ih =>
  intro vs w;rw[ck]at w;cases w with
  |cons a b =>
   cases a
   exact .cons _ _ (ih _ b)
theorem XD {l:OpenLaw}{n:Nat} (hn:l.most=some n) {P:Params}{args:List WData}{vals:List Value}
  (Bn:l.row.toRowW.claim.pre args=true) (II:WellAll P h vals args) :
  ∃a vs ns,vals = [Value.ref a]/\args = [WData.list (ns.map WData.int)]/\h.get? a=some { cls:= .type "list",data:= .seq vs.toArray }/\IntsAre vs ns/\ns.length<=n:=by
 have hsh:WShape.hasAll [] args [.list .int]=true:=(pre_splitW Bn).1;have hc:l.pre.holds [] { args:=args }=true:=(pre_splitW Bn).2;obtain⟨d,r,rfl,h1,h2⟩:=hasAllW_cons hsh;obtain rfl:=hasAllW_nil h2;obtain⟨xs,rfl,h3⟩:=hasW_list h1;obtain⟨ns,rfl⟩:=items_int h3;have hlen:ns.length<=n:=by
  unfold OpenLaw.pre at hc;have h4:(WTm.not (.lt (.lit (.int (n:Int))) (.len (.arg 0)))).holds [] { args:= [.list (ns.map .int)] }=true:=by
   have h4:=(holds_andW hc).1;rw[hn]at h4;exact h4
  have h5:=condW_of h4 (w_not (w_lt w_lit (w_len_list (w_arg rfl))));rw[aE]at h5;refine Nat.le_of_not_lt fun q=>?_;have q':(n:Int) < ((ns.length:Nat):Int):=by omega
  first
   |(rw[cm q']at h5;exact absurd h5 (by decide))
   |(simp at h5;omega)
 cases II with
 |cons w1 w2 =>
  cases w2
  cases w1 with
  |list ho adt=>exact⟨_,_,ns,rfl,rfl,ho,V9 ns _ adt,hlen⟩
theorem XE (l:OpenLaw) (args:List WData):l.row.toRowW.claim.post args (.bool true) args=true:=
 postW_of (r:=l.row.toRowW) (X:=(true==true))
  (show WShape.has [] (.bool true) .bool=true by first|rfl|decide|simp[WShape.has,WShape.arms,WShape.armsAll])
  (show(WTm.eq .res (.lit (.bool true))).value [] { args:=args,res:=some (.bool true),after:=args }=some (.bool (true==true)) from w_eq_bool (w_res rfl) w_lit) rfl
theorem WD {l:OpenLaw}{n:Nat}{q:Program}{d:DefRec}
  (hn:l.most=some n) (yy:d.params.defaults = [])
  (call:∀ (w:World) (ee bq:Shared) (mg mb:Str->Option Value) (fa:Addr) (o:Obj) (pm cd doc:Value) (a:Addr) (vs:List Value) (ns:List Int),
   Ground q loose [] XP w ee mg mb bq.heap->YP w bq.heap ->
   bq.heap.get? fa=some o->o.data = .func (docDef d.name d.params d.body d.scope pm cd doc)->bq.heap.CodeRec cd d.name->mg d.name=some (.ref fa) ->
   bq.heap.get? a=some { cls:= .type "list",data:= .seq vs.toArray }->IntsAre vs ns->ns.length<=n->bq.gens = #[] ->
   codeAny (model l.prog w) callerA (.call (.ref fa) ⟨[.ref a],[]⟩) (fun r s'=>r = .ok (.ret (.bool true))/\OldK bq.heap s'.heap/\s'.os=bq.os/\AllBare s'.gens) bq) :
  WalkO q loose XP YP l.row.toRowW d [] (fun f vs=>PySem.call f vs):=by
 intro w ee bq mg mb G Y fa o pm cd doc dV kV ho hd d7 hD si hg args vals as Bn xP yz II IJ;obtain rfl:dV = .none:=Dflts.none hD yy;obtain rfl:kV = .none:=Dflts.noKw hD;obtain⟨a,vs,ns,rfl,rfl,He,hints,hlen⟩:=XD hn Bn II;refine enter_call (vV (call w ee bq mg mb fa o pm cd doc a vs ns G Y ho (fd_plain hd) d7 si He hints hlen hg) fun r s' hq=>?_);obtain⟨rfl,h2,h3,h4⟩:=hq;exact⟨.inl ⟨.bool true,.bool true,[],rfl,fun _=>rfl,.bool true,XE l _,fun _=>⟨List.Pairwise.nil,fun _ hm=>(nomatch hm)⟩⟩,h2,h3,h4⟩
end RU
namespace L2
open PySem PySem.Spec PyProof.Rows
theorem MM:∀ {vs:List Value}{ns:List Int},IntsAre vs ns->Vals (ns.map V.int) vs
 |_,_,.nil=>.nil
 |_,_,.cons n t h=>.cons ⟨t,rfl⟩ (MM h)
noncomputable def Hf (H:Hp):Prop:= ∀b,H b=none \/ ∃o xs,H b=some (.aR o (.lst xs))
theorem Yu {mb:Str->Option Value}{CX:j3}{k:Nat}{fa:Addr}{bq:Shared}{vs:List Value}{ns:List Int}
  (KX:K.In bq.heap) (yA:bq.heap.Ns mainGlobals mg) (hb:bq.heap.Ns builtinsNs mb) (uY:∀x:Str,x ≠ "__name__" -> mb x=bootBuiltins x) (adu:bq.heap.NoLimit) (hg:bq.gens = #[])
  (ha:bq.heap.get? a=some { cls:= .type "list",data:= .seq vs.toArray }) (hi:IntsAre vs ns) (hl:ns.length<=sizeLine) (hr:aV k callerA)
  (F:∀base:Heap,K.In base->base.Ns mainGlobals mg->a9 P w K mg base CX k fa fd [x] sp) (abZ:∀ (s:Shared) (u:Value),BindsTo s fd ⟨[u],[]⟩ [(x,u)])
  (gk:∀H:Hp,Hf H->aj K H a (ns.map V.int)->sp [.ref a] H (fun v _=>v = .bl true) fun _ _ _=>False)
  (IK:∀H e s',CX [] H bq (fun _ _ _=>False) e s'->False) :
  codeAny (model P w) callerA (.call (.ref fa) ⟨[.ref a],[]⟩) (fun r s'=>r = .ok (.ret (.bool true))/\OldK bq.heap s'.heap/\s'.os=bq.os/\AllBare s'.gens) bq:=by
 have rv:=MM hi;have adv:=hi.length;have core:∀H:Hp,Hf H->aj K H a (ns.map V.int)->cL P w H bq.heap->(∀b,H b≠none->b=a)->(H a≠none->K.lookup a=none) ->
   codeAny (model P w) callerA (.call (.ref fa) ⟨[.ref a],[]⟩) (fun r s'=>r = .ok (.ret (.bool true))/\OldK bq.heap s'.heap/\s'.os=bq.os/\AllBare s'.gens) bq:=by
  intro H hO hS au hA hK;have N7:∀ {b:Addr}{o:Obj},bq.heap.get? b=some o->H b=none->(nX bq.heap H).get? b=some o:=fun e n=>Yi e n;have yt:∀ {b:Addr}{o:Obj}{es:Array DictEntry}{ep:Nat},bq.heap.get? b=some o->o.data = .dict es ep->H b=none:=fun {b o es ep} e d=>by
   cases q:H b with
   |none=>rfl
   |some u =>
    have e':b=a:=hA b (by rw[q];simp)
    subst e';rw[ha]at e;cases e;have d':Data.seq vs.toArray _=Data.dict es ep:=d;cases d'
  have Ca:∀ {b:Addr}{m:Str->Option Value},bq.heap.Ns b m->(nX bq.heap H).Ns b m:=fun {b m} ⟨o,es,ep,e,d,r⟩=>⟨o,es,ep,N7 e (yt e d),d,r⟩;have RV:K.In (nX bq.heap H):=fun b o e=>N7 (KX b o e) (by
   cases q:H b with
   |none=>rfl
   |some u =>
    have e':b=a:=hA b (by rw[q];simp)
    subst e';rw[hK (by rw[q];simp)]at e;cases e)
  have hM:Mod K mg (nX bq.heap H):=⟨RV,Ca yA,⟨mb,Ca hb,uY⟩,let ⟨mc,h1,h2⟩:=adu;⟨mc,Ca h1,h2⟩⟩;have e0:rM P w K mg (nX bq.heap H) callerA [] bq H:=⟨rfl,hM,fun b o e=>Zs e,Nat.le_of_eq (Xt _ _),trivial,fun b hb=>absurd (show b∈([]:List Addr) from hb) (by simp),au,.of_eq hg⟩
  refine vV ((F _ RV (Ca yA)).run callerA [] bq H ⟨[.ref a],[]⟩ [.ref a] [.ref a] _ _ hr e0 (abZ bq (.ref a)) (.cons rfl .nil) (gk H hO hS)) fun r s' h=>?_;cases r with
  |error e=>exact(IK H e s' h).elim
  |ok fl =>
   cases fl with
   |next=>exact False.elim h
   |brk=>exact False.elim h
   |cont=>exact False.elim h
   |ret u =>
    obtain⟨v,H',os,bare,un,adw,r',q⟩:=h;have q':v = .bl true:=q;subst q';obtain rfl:u=Value.bool true:=r';refine⟨rfl,OldK.of_keep fun b o e=>?_,os,bare⟩;cases q:H b with
    |none=>exact un.keep b o e q (by intro z;exact absurd (show b∈([]:List Addr) from z) (by simp)) (by simp)
    |some u =>
     rcases hO b with z|⟨ob,xs,z⟩
     ·rw[q]at z;cases z
     ·have z2:=un.jr b ob _ z
      obtain⟨e1,_⟩:=au b _ z;obtain⟨e2,_⟩:=adw b _ z2;rw[e]at e1;cases e1;exact e2
 cases hk:K.lookup a with
 |some o =>
  have e:=KX a o hk;rw[ha]at e;cases e
  refine core (fun _=>none) (fun _=>.inl rfl) (.inr ⟨_,vs.toArray,_,hk,rfl,rfl,rfl,by rw[cE,adv];exact hl,by simpa using rv⟩) (fun b u z=>by have z':(none:Option HO)=some u:=z;cases z') (fun b z=>absurd rfl z) fun z=>absurd rfl z
 |none =>
  refine core (fun b=>if b=a then some (.aR { cls:= .type "list",data:= .seq vs.toArray } (.lst (ns.map V.int))) else none) (fun b=>?_) (.inl (.inr ⟨{ cls:= .type "list",data:= .seq vs.toArray },aF rfl⟩)) (fun b u z=>?_) (fun b z=>?_) fun _=>hk
  ·by_cases hb:b=a
   ·exact .inr ⟨_,_,aF hb⟩
   ·exact .inl (ax hb)
  ·by_cases hb:b=a
   ·have z':=(aF hb).symm.trans z
    cases z'
    subst hb;exact⟨ha,by rw[aE];exact hl,vs,_,rv,ha⟩
   ·have z':=(ax hb).symm.trans z
    cases z'
  ·by_cases hb:b=a
   ·exact hb
   ·exact absurd (ax hb) z
theorem ZG {l:PySem.W.OpenLaw}{n k:Nat}{q:Program}{d:DefRec}{K:Params->PySem.W.Frag}{CX:World->j3}{sp:World->Sp}
  (hn:l.most=some n) (BY:n<=sizeLine) (yy:d.params.defaults = []) (hr:aV k callerA)
  (hY:∀ (w:World) (h:Heap),YP w h->(K w.params).In h)
  (F:∀ (w:World) (mg:Str->Option Value) (fa:Addr) (h:Heap),(K w.params).In h->h.Ns mainGlobals mg->mg d.name=some (.ref fa) ->
   ∃fd:FuncData,(∀ (s:Shared) (u:Value),BindsTo s fd ⟨[u],[]⟩ [(x,u)]) /\
    ∀base:Heap,(K w.params).In base->base.Ns mainGlobals mg->a9 l.prog w (K w.params) mg base (CX w) k fa fd [x] (sp w))
  (gk:∀ (w:World) (H:Hp) (a:Addr) (ns:List Int),ns.length<=n->Hf H->aj (K w.params) H a (ns.map V.int)->sp w [.ref a] H (fun v _=>v = .bl true) fun _ _ _=>False)
  (IK:∀ (w:World) (H:Hp) (s:Shared) (e:Value) (s':Shared),CX w [] H s (fun _ _ _=>False) e s'->False) :
  PySem.W.WalkO q loose XP YP l.row.toRowW d [] (fun f vs=>PySem.call f vs):=by
 refine RU.WD hn yy fun w ee bq mg mb fa o pm cd doc a vs ns G Y ho hd d7 si He hints hlen hg=>?_;have KX:=hY w _ Y;obtain⟨fd,hb,hF⟩:=F w mg fa _ KX G.T.g si;exact Yu KX G.T.g G.T.b G.T.builtins G.T.nolimit hg He hints (gW hlen BY) hr hF hb (fun H hO hS=>gk w H a ns hlen hO hS) fun H e s'=>IK w H bq e s'
def inClass (s:Stmt) (j:Nat):Stmt:=match s with
 |.ClassDef _ _ _ body _ _ _ _ _ _ _=>body.getD j (.Pass ⟨0,0,0,0⟩)
 |_=>.Pass ⟨0,0,0,0⟩
def gL (s:Stmt):Arguments:=match s with
 |.FunctionDef _ a _ _ _ _ _ _ _ _=>a
 |_=>{ posonlyargs:= [],args:= [],vararg:=none,kwonlyargs:= [],kw_defaults:= [],kwarg:=none,defaults:= [] }
def b4 (s:Stmt):List Stmt:=match s with
 |.FunctionDef _ _ b _ _ _ _ _ _ _=>b
 |_=>[]
def aM (s:Stmt):Scope:=match s with
 |.FunctionDef _ _ _ _ _ _ sc _ _ _=>sc
 |_=>{ kind:= .function,names:= [],isGenerator:=false,isCoroutine:=false }
abbrev aK:j3:=fun _ _ _ _ _ _=>False
abbrev E0:XK:=fun _ _ _=>False
theorem jo:Passes aK X E0:=fun _ _ _ _ _ _ _ h=>h.elim
structure a6 (K:PySem.W.Frag) (x qual:Str) (st:Stmt) (f:Addr) (fd:FuncData):Prop where
 ex:∃ (oc:Value) (od:Option Addr) (kV doc pm:Value) (an:Option Addr) (aG ct:Value) (jc:Array (Option Value)),
  fd=PySem.W.fnOf x qual (gL st) (b4 st) (aM st) .none kV doc pm an aG ct/\K.lookup f=some ⟨oc,od,.func fd,jc⟩/\PySem.W.codeIn K aG qual=true
 kp:PySem.W.keepIn K (.ref f)=true
theorem a6.ok {k:Nat} (F:a6 K x qual st f fd) (S:bK N ps (aM st)) (len:∀vs H Q E,sp vs H Q E->vs.length=ps.length)
  (rC:∀ (aG:Value) (A:Around) (outer:List Env) (s:Shared) (H:Hp) (vs:List V) (Q:VK) (E:XK),aV k (A.deeper (envOfC qual (aM st) s.heap.objs.size f aG))->sp vs H Q E ->
   ∃t,eY (gf aK P w K mg base N qual (aM st) f aG A outer s H E).uS (b4 st) t/\t { nx:=fun _ H'=>Q .aI H',rt:=Q } (start N vs) H):a9 P w K mg base aK (k+1) f fd ps sp:=by
 obtain⟨oc,od,kV,doc,pm,an,aG,ct,jc,rfl,lk,d7⟩:=F.ex;refine F1 lk d7 S len fun A outer s H vs Q E hr gk=>?_;obtain⟨t,h,q⟩:=rC aG A outer s H vs Q E hr gk;exact⟨t,h.uS,q⟩
theorem a6.binds (F:a6 K x qual st f fd)
  (h:∀ (kV doc pm:Value) (an:Option Addr) (aG ct:Value) (us:List Value),us.length=ps.length->bindArgs (PySem.W.fnOf x qual (gL st) (b4 st) (aM st) .none kV doc pm an aG ct) ⟨us,[]⟩=pure (ps.zip us)):Binds K fd ps []:=by
 obtain⟨oc,od,kV,doc,pm,an,aG,ct,jc,rfl,lk,d7⟩:=F.ex;exact .all (h kV doc pm an aG ct)
theorem AH {kV:Value} (l:K.lookup f=some ⟨oc,od,.func (PySem.W.fnOf x qual (gL st) (b4 st) (aM st) .none kV doc pm an aG ct),jc⟩)
  (c:PySem.W.codeIn K aG qual=true) (k:PySem.W.keepIn K (.ref f)=true):a6 K x qual st f (PySem.W.fnOf x qual (gL st) (b4 st) (aM st) .none kV doc pm an aG ct):=⟨⟨oc,od,kV,doc,pm,an,aG,ct,jc,rfl,l,c⟩,k⟩
theorem pv (i:Nat) (hN:X.N[i]? = some x:=by rfl) (hv:IA X.env.scope x:=by first|exact Or.inl rfl|exact Or.inr (Or.inl rfl)|exact Or.inr (Or.inr rfl)) (hd:(x==("__debug__" : Str))=false:=by decide)
  (d7:(x==("__classdict__" : Str))=false:=by decide):PE X (.Name x pos) (km i):=aaG hN hv hd d7
theorem cG {c A:Prop} [Decidable c] (h1:c->A) (h2 : ¬ c->B):if c then A else B:=by
 by_cases h:c
 ·rw[aF h]
  exact h1 h
 ·rw[ax h]
  exact h2 h
noncomputable def aq (H H':Hp):Prop:= ∀b o,H b=some o->H' b=some o
theorem aq.refl (H:Hp):aq H H:=fun _ _ h=>h
theorem aq.trans (a:aq H H1) (b:aq H1 H2):aq H H2:=fun c o h=>b c o (a c o h)
theorem aq.free (e:aq H H') (h:H' l=Option.none):H l=Option.none:=by
 cases q:H l with
 |none=>rfl
 |some o =>
  rw[e l o q]at h;cases h
end L2
namespace L2
open PySem
theorem Paired.both {α β γ δ:Type}{F:α->β->Prop}{G:α->γ->Prop}{f:β->δ}{g:γ->δ}{l:List α}{m:List β} (h:Paired F l m) (k:∀a b c,F a b->G a c->g c=f b):∀ {n:List γ},Paired G l n->n.map g=m.map f:=by
 induction h with
 |nil=>intro n t;cases t;rfl
 |cons p _ ih=>intro n t;cases t with|cons q t=>rw[ck,ck,k _ _ _ p q,ih t]
theorem Paired.Qe {α β:Type}{F G:α->β->Prop}{l:List α}{m:List β} (h:Paired F l m):(∀a b,b∈m->F a b->G a b)->Paired G l m:=by
 induction h with
 |nil=>exact fun _=>.nil
 |cons p _ ih=>exact fun k=>.cons (k _ _ bu p) (ih fun a b e=>k a b (bO _ e))
end L2
namespace L2
open PySem PySem.Spec PyProof.Rows
def gZ (cells:List (Str×Addr)):List (Str×NameKind)->List (Str×Addr)->List (Str×Addr)
 |[],acc=>acc
 |(n,k)::r,acc=>if k == .free then gZ cells r ((n,(cells.lookup n).getD 0)::acc) else gZ cells r acc
theorem DO (h:∀n,(n,NameKind.free)∈scope.names -> ∃c,env.cells.lookup n=some c) :
  closureFor scope env=pure (gZ env.cells scope.names []):=by
 have key:∀ (names:List (Str×NameKind)) (acc:List (Str×Addr)),(∀n,(n,NameKind.free)∈names -> ∃c,env.cells.lookup n=some c) ->
   (forIn (m:=Sem) names acc fun x r=>match x with|(name,kind)=>if (kind==NameKind.free)=true then (do let a <- cellOf env name;pure (ForInStep.yield ((name,a)::r))) else pure (ForInStep.yield r))=pure (gZ env.cells names acc):=by
  intro names
  induction names with
  |nil=>intro acc _;rfl
  |cons x r ih =>
   intro acc hx;obtain⟨n,k⟩:=x;rw[List.forIn_cons];unfold gZ
   by_cases hk:k = .free
   ·subst hk
    obtain⟨c,hc⟩:=hx n bu;simp only[Vu,j7];have e:cellOf env n=pure c:=by unfold cellOf;rw[hc]
    rw[e,hc];exact ih _ fun m hm=>hx m (bO _ hm)
   ·have hb:(k==NameKind.free)=false:=by simpa using hk
    simp only[hb,zF,kT];exact ih _ fun m hm=>hx m (bO _ hm)
 unfold closureFor;have:=key scope.names [] h;show((forIn (m:=Sem) scope.names [] fun x r=>match x with|(name,kind)=>if (kind==NameKind.free)=true then (do let a <- cellOf env name;pure (ForInStep.yield ((name,a)::r))) else pure (ForInStep.yield r)) >>= fun cs=>pure cs)=_;rw[this]
 rfl
theorem tw:∀ (names:List (Str×NameKind)) (n:Nat) (acc:List (Str×Addr)),cellsFrom n names acc=cellsFrom n names []++acc
 |[],_,_=>rfl
 |(name,kind)::r,n,acc=>by
  unfold cellsFrom;split
  ·rw[tw r (n+1) ((name,n)::acc),tw r (n+1) [(name,n)],Vv];rfl
  ·exact tw r n acc
theorem zQ {cells:List (Str×Addr)}:∀ (names:List (Str×NameKind)) (acc:List (Str×Addr)) (x:Str) (c:Addr),(gZ cells names acc).lookup x=some c ->
  (acc.lookup x=some c)\/((x,NameKind.free)∈names/\c=(cells.lookup x).getD 0)
 |[],acc,x,c,h=>.inl h
 |(n,k)::r,acc,x,c,h=>by
  unfold gZ at h;split at h
  ·rename_i hk
   have jA:k = .free:=by simpa using hk
   subst jA;rcases zQ r _ x c h with z|⟨z,e⟩
   ·rw[iI]at z
    cases hb:x==n with
    |true=>rw[hb]at z;cases z;rw[jG.mp hb];exact .inr ⟨bu,rfl⟩
    |false=>rw[hb]at z;exact .inl z
   ·exact .inr ⟨bO _ z,e⟩
  ·rcases zQ r _ x c h with z|⟨z,e⟩
   ·exact .inl z
   ·exact .inr ⟨bO _ z,e⟩
theorem Ee {cells:List (Str×Addr)}:∀ (names:List (Str×NameKind)) (acc:List (Str×Addr)) (x:Str),(∃c,acc.lookup x=some c) -> ∃c,(gZ cells names acc).lookup x=some c
 |[],acc,x,h=>h
 |(n,k)::r,acc,x,h=>by
  unfold gZ;split
  ·refine Ee r _ x ?_
   obtain⟨c,h⟩:=h;rw[iI];cases hb:x==n with
   |true=>exact⟨_,rfl⟩
   |false=>exact⟨c,h⟩
  ·exact Ee r _ x h
theorem zX {cells:List (Str×Addr)}:∀ (names:List (Str×NameKind)) (acc:List (Str×Addr)) (x:Str),(x,NameKind.free)∈names -> ∃c,(gZ cells names acc).lookup x=some c
 |[],acc,x,h=>by simp at h
 |(n,k)::r,acc,x,h=>by
  unfold gZ;rcases bH.mp h with e|h
  ·cases e
   simp only[Vu,j7];exact Ee r _ _ ⟨(cells.lookup n).getD 0,by rw[iI];simp⟩
  ·split
   ·exact zX r _ x h
   ·exact zX r _ x h
theorem zP:∀ (names:List (Str×NameKind)) (n:Nat) (acc:List (Str×Addr)) (x:Str) (c:Addr),(x,c)∈cellsFrom n names acc->(x,c)∈acc\/(x,NameKind.cell)∈names
 |[],_,_,_,_,h=>.inl h
 |(name,kind)::r,n,acc,x,c,h=>by
  unfold cellsFrom at h;split at h
  ·rename_i hk
   have jA:kind = .cell:=by simpa using hk
   subst jA;rcases zP r _ _ x c h with z|z
   ·rcases bH.mp z with e|z
    ·cases e;exact .inr bu
    ·exact .inl z
   ·exact .inr (bO _ z)
  ·rcases zP r _ _ x c h with z|z
   ·exact .inl z
   ·exact .inr (bO _ z)
structure b8 (N:List Str) (uZ:Scope) (N':List Str) (b7:List (Option Nat)) (sc:Scope):Prop where
 kind:sc.kind = .function
 keys:(sc.names.map (·.1)).Nodup
 nd:N'.Nodup
 len:b7.length=N'.length
 fv:∀ (j i:Nat),b7[j]? = some (some i) -> ∃x,N[i]? = some x/\N'[j]? = some x/\sc.names.lookup x=some .free
 free:∀p∈sc.names,p.2 = .free->uZ.names.lookup p.1=some .cell\/uZ.names.lookup p.1=some .free
theorem tx {α:Type}:∀ {l:List (Str×α)},(l.map (·.1)).Nodup -> ∀ {x:Str}{k:α},(x,k)∈l->l.lookup x=some k
 |(n,v)::r,hn,x,k,h=>by
  obtain⟨h1,h2⟩:=iZ.mp hn;rw[iI];rcases bH.mp h with e|hm
  ·cases e;simp
  ·have:(x==n)=false:=by
    rw[lY];intro e;exact h1 (bT.mpr ⟨_,hm,e⟩)
   rw[this];exact tx h2 hm
def Ey (scope:Scope) (L:Addr) (env:Env):Env:=
 { scope:=relabel scope env,locals:=L,globals:=env.globals,cells:=cellsFrom (L+1) scope.names (gZ env.cells scope.names []),qual:=env.qual,func:=none,code:=env.code,frame:=env.frame,builtins:=env.builtins }
theorem Mc {M:Model}{globals:Addr}{cl:List (Str×Addr)}{Q:Env->Shared->Prop}
  (hQ:∀h',h'.Ns s.heap.objs.size (fun _=>none)->(∀b o,s.heap.get? b=some o->h'.get? b=some o)->(∀x c,(x,c)∈cellsFrom (s.heap.objs.size+1) scope.names []->h'.IsCell c none/\s.heap.objs.size < c) ->
   ((cellsFrom (s.heap.objs.size+1) scope.names []).Pairwise fun x y=>x.2≠y.2) ->
   Q { scope:=scope,locals:=s.heap.objs.size,globals:=globals,cells:=cellsFrom (s.heap.objs.size+1) scope.names cl,qual:=qual,func:=none,code:=env.code,frame:=env.frame,builtins:=env.builtins } { s with heap:=h' }) :
  wpAny M A (newFunctionEnv scope globals cl [] qual none .none (some env)) Q E s:=by
 simp only[newFunctionEnv,Option.isSome_some,j7];refine ae (wpAny_alloc ?_);refine ae (wpAny_layCells _ (fun name kind cells=>by cases hkc:kind==NameKind.cell <;> simp[hkc]) _ _ _ _ ?_)
 have ok:=cellsFrom_ok scope.names (s.heap.push { cls:= .type "dict",data:= .dict #[] }) (s.heap.objs.size+1) [] ⟨fun _ _ hm=>(nomatch hm),List.Pairwise.nil⟩ (by rw[l6];exact aO _)
 rw[l6]at ok;rw[show({ s with heap:=s.heap.push { cls:= .type "dict",data:= .dict #[] } }:Shared).heap.objs.size=s.heap.objs.size+1 from l6 ..];rw[List.forIn_nil];refine ae (ak (ak ?_));exact hQ _ ((Heap.Ns.new s.heap (.type "dict")).keeps (pushCells_keeps _ _)) (fun b o e=>pushCells_keeps _ _ b o (a8 _ e)) (fun x c hm=>⟨(ok.empty x c hm).1,(ok.empty x c hm).2⟩) ok.apart
def cA (X:Cx) (N':List Str) (scope:Scope) (s2:Shared) (H2:Hp) (fp:List Addr):Cx:=
 { X with N:=N',ee:=s2,kj:=H2,env:=Ey scope s2.heap.objs.size X.env,outer:=X.stack,stack:=X.stack,ex:=fp,fn:=fun x=>scope.names.lookup x==some .cell,pn:= [],xe:=fun _ _=>False }
theorem DN {env:Env}:∀ {names:List (Str×NameKind)}{x:Str}{k:NameKind},
  (names.map fun(n,k)=>if (k==NameKind.free && env.scope.kind == .function && env.kindOf n==some .cell) then (n,NameKind.cell) else (n,k)).lookup x=some k ->
  ∃k0,names.lookup x=some k0/\(k=k0\/(k0 = .free/\k = .cell))
 |[],_,_,h=>by simp at h
 |(n,k0)::r,x,k,h=>by
  have ih:=@DN env r x k;have h':List.lookup x ((if (k0==NameKind.free && env.scope.kind == .function && env.kindOf n==some .cell)=true then (n,NameKind.cell) else (n,k0))::_)=some k:=h;rw[iI]
  by_cases hc:(k0==NameKind.free && env.scope.kind == .function && env.kindOf n==some .cell)=true
  ·rw[aF hc,iI]at h'
   cases hx:x==n with
   |true =>
    rw[hx]at h';cases h';have:k0 = .free:=by
     have z:=hc;rw[nM,nM]at z
     simpa using z.1.1
    exact⟨k0,rfl,.inr ⟨this,rfl⟩⟩
   |false=>rw[hx]at h';exact ih h'
  ·rw[ax hc,iI]at h'
   cases hx:x==n with
   |true=>rw[hx]at h';cases h';exact⟨k0,rfl,.inl rfl⟩
   |false=>rw[hx]at h';exact ih h'
theorem DL {env:Env}:∀ {names:List (Str×NameKind)}{x:Str},names.lookup x=some .free ->
  (names.map fun(n,k)=>if (k==NameKind.free && env.scope.kind == .function && env.kindOf n==some .cell) then (n,NameKind.cell) else (n,k)).lookup x=some .cell \/
  (names.map fun(n,k)=>if (k==NameKind.free && env.scope.kind == .function && env.kindOf n==some .cell) then (n,NameKind.cell) else (n,k)).lookup x=some .free
 |[],_,h=>by simp at h
 |(n,k0)::r,x,h=>by
  have ih:=@DL env r x;show List.lookup x ((if (k0==NameKind.free && env.scope.kind == .function && env.kindOf n==some .cell)=true then (n,NameKind.cell) else (n,k0))::_)=_\/List.lookup x ((if (k0==NameKind.free && env.scope.kind == .function && env.kindOf n==some .cell)=true then (n,NameKind.cell) else (n,k0))::_)=_;rw[iI]at h;cases hx:x==n with
  |true =>
   rw[hx]at h;cases h
   by_cases hc:(NameKind.free==NameKind.free && env.scope.kind == .function && env.kindOf n==some .cell)=true
   ·rw[aF hc,iI,hx];exact .inl rfl
   ·rw[ax hc,iI,hx];exact .inr rfl
  |false =>
   rw[hx]at h
   by_cases hc:(k0==NameKind.free && env.scope.kind == .function && env.kindOf n==some .cell)=true
   ·rw[aF hc,iI,hx];exact ih h
   ·rw[ax hc,iI,hx];exact ih h
def pick (b7:List (Option Nat)) (σ:St):St:=b7.map fun o=>o.bind fun i=>(σ[i]?).join
theorem zY (I:Inv X pins σ H s2) (S:b8 X.N X.env.scope N' b7 scope) (hx:(x,NameKind.free)∈scope.names):∃c,X.env.cells.lookup x=some c:=
 I.ok.has x (S.free _ hx rfl)
theorem W9 (I:Inv X pins σ H s2) (S:b8 X.N X.env.scope N' b7 scope) {n:Nat}{c:Addr} (h:(cellsFrom n scope.names (gZ X.env.cells scope.names [])).lookup x=some c) :
  ((x,c)∈cellsFrom n scope.names []/\(x,NameKind.cell)∈scope.names)\/((x,NameKind.free)∈scope.names/\X.env.cells.lookup x=some c):=by
 rw[tw,Vw]at h;cases e:(cellsFrom n scope.names []).lookup x with
 |some d =>
  rw[e]at h;have z:d=c:=by simpa using h
  subst z;have m:=oR e;rcases zP _ _ _ _ _ m with z|z
  ·simp at z
  ·exact .inl ⟨m,z⟩
 |none =>
  rw[e]at h;have h':(gZ X.env.cells scope.names []).lookup x=some c:=by simpa using h
  rcases zQ _ _ _ _ h' with z|⟨z,e2⟩
  ·simp at z
  ·obtain⟨c0,h0⟩:=zY I S z
   rw[h0]at e2;exact .inr ⟨z,by rw[h0,e2];rfl⟩
theorem Nj (I:Inv X pins σ H s2) (S:b8 X.N X.env.scope N' b7 scope) (yB:∀b∈fp,i9 X pins H b) (hfo:∀b∈fp,∃o,s2.heap.get? b=some o)
  (hn:h'.Ns s2.heap.objs.size (fun _=>none)) (hk:∀b o,s2.heap.get? b=some o->h'.get? b=some o)
  (hc:∀x c,(x,c)∈cellsFrom (s2.heap.objs.size+1) scope.names []->h'.IsCell c none/\s2.heap.objs.size < c) (hp:(cellsFrom (s2.heap.objs.size+1) scope.names []).Pairwise fun x y=>x.2≠y.2) :
  Inv (cA X N' scope s2 H fp) [] (pick b7 σ) H { s2 with heap:=h' }:=by
 have old:∀ {x:Str}{c:Addr},X.env.cells.lookup x=some c->c < s2.heap.objs.size:=fun {x c} e=>let ⟨_,q⟩:=I.cell x c e;q.lt;have cc:∀ {x:Str}{c:Addr},(cA X N' scope s2 H fp).env.cells.lookup x=some c->((x,c)∈cellsFrom (s2.heap.objs.size+1) scope.names []/\(x,NameKind.cell)∈scope.names)\/((x,NameKind.free)∈scope.names/\X.env.cells.lookup x=some c):=
  fun {x c} e=>W9 I S e
 have isc:∀ {x:Str}{c:Addr},(cA X N' scope s2 H fp).env.cells.lookup x=some c -> ∃v,h'.IsCell c v:=fun {x c} e=>by
  rcases cc e with⟨m,_⟩|⟨_,e0⟩
  ·exact⟨_,(hc x c m).1⟩
  ·obtain⟨v,q⟩:=I.cell x c e0
   exact⟨v,q.keeps hk⟩
 have jz:∀b∈fp,b < s2.heap.objs.size:=fun b hb=>let ⟨_,e⟩:=hfo b hb;bo e;refine⟨⟨I.ok.mod,S.kind,I.ok.glob,I.ok.blt,aO _,fun x y c e1 e2=>?_,fun x hx=>?_,fun x c hx e=>?_,I.ok.hd,I.ok.frames,.inl rfl,fun b hb=>⟨bx (jz b hb),fun x c e z=>?_⟩,I.bs,?_,fun b o e hb=>?_,fun b hb u0=>?_,I.stack,I.EV⟩,
  rfl,I.bare,Un.kept hk,⟨_,hn,fun j x v e1 e2 e3=>?_⟩,fun x c e=>isc e,I.au.fresh (aO _),fun x c e=>?_,fun p hp=>absurd (show p∈([]:List (Addr×Obj)) from hp) (by simp),I.au.kept hk,?_⟩
 ·rcases cc e1 with⟨m1,_⟩|⟨_,o1⟩ <;> rcases cc e2 with⟨m2,_⟩|⟨_,o2⟩
  ·exact name_of_addr hp m1 m2
  ·exact absurd (nO (hc _ _ m1).2 (old o2)) (qA _)
  ·exact absurd (nO (hc _ _ m2).2 (old o1)) (qA _)
  ·exact I.ok.inj x y c o1 o2
 ·have hk0:∃k0,scope.names.lookup x=some k0/\(k0 = .cell\/k0 = .free):=by
   rcases hx with hx|hx
   ·obtain⟨k0,e,z⟩:=DN (env:=X.env) hx
    refine⟨k0,e,?_⟩;rcases z with z|z
    ·exact .inl z.symm
    ·exact .inr z.1
   ·obtain⟨k0,e,z⟩:=DN (env:=X.env) hx
    refine⟨k0,e,?_⟩;rcases z with z|z
    ·exact .inr z.symm
    ·exact .inr z.1
  obtain⟨k0,e,z⟩:=hk0;show ∃c,(cellsFrom (s2.heap.objs.size+1) scope.names (gZ X.env.cells scope.names [])).lookup x=some c;rw[tw,Vw];rcases z with rfl|rfl
  ·obtain⟨c,om⟩:=Ex (n:=s2.heap.objs.size+1) e
   exact⟨c,by rw[om];rfl⟩
  ·cases q:(cellsFrom (s2.heap.objs.size+1) scope.names []).lookup x with
   |some d=>exact⟨d,rfl⟩
   |none =>
    obtain⟨c,om⟩:=zX (cells:=X.env.cells) scope.names [] x (oR e);exact⟨c,by rw[om];rfl⟩
 ·have eO:scope.names.lookup x=some .cell:=by simpa [cA] using hx
  rcases cc e with⟨m,_⟩|⟨m,_⟩
  ·exact Du (hc _ _ m).2
  ·rw[tx S.keys m]at eO;cases eO
 ·rcases cc e with⟨m,_⟩|⟨_,o1⟩
  ·have:=jz b hb
   rw[<-z]at this;exact absurd (nO (hc _ _ m).2 this) (qA _)
  ·exact(yB b hb).2.2.2.2.1 x c o1 z
 ·exact gW I.ok.lG I.sz
 ·rcases (yB b hb).2.2.2.1 with z|z
  ·exact I.ok.pC b o e z
  ·exact absurd (gI (bo (I.ok.bs b o e).1) z) (qA _)
 ·have:=I.AD b u0
  rcases bH.mp this with z|z
  ·exact(yB b hb).2.1 z
  ·exact(yB b hb).2.2.1 z
 ·
  have iT:(b7[j]?).bind (fun o=>some (o.bind fun i=>(σ[i]?).join))=some (some v):=by
   have yC:(b7.map fun o=>o.bind fun i=>(σ[i]?).join)[j]? = some (some v):=e2;rw[eK]at yC;cases q:b7[j]? with
   |none=>rw[q]at yC;cases yC
   |some o=>rw[q]at yC;exact yC
  cases q:b7[j]? with
  |none=>rw[q]at iT;cases iT
  |some o =>
   rw[q]at iT;cases o with
   |none=>simp at iT
   |some i =>
    have ot:(σ[i]?).join=some v:=by simpa using iT
    have e4:σ[i]? = some (some v):=by
     cases q2:σ[i]? with
     |none=>rw[q2]at ot;cases ot
     |some z=>rw[q2]at ot;rw[show z=some v from ot]
    obtain⟨y,hy1,sj,pS⟩:=S.fv j i q;have exy:x=y:=by
     have iw:N'[j]? = some x:=e1;rw[sj]at iw;exact(fc iw).symm
    subst exy;obtain⟨m,hm,hl⟩:=I.loc;have hf:=S.free _ (oR pS) rfl;obtain⟨u,r,lk⟩:=hl i x v hy1 e4 (by rcases hf with z|z;exact .inr (.inl z);exact .inr (.inr z))
    refine⟨u,r,.inr ⟨DL pS,?_⟩⟩;rcases lk with⟨k,_⟩|⟨_,c,ec,ic⟩
    ·have k':X.env.scope.names.lookup x=some .local:=k
     rcases hf with z|z <;> (rw[z]at k';cases k')
    ·refine⟨c,?_,ic.keeps hk⟩
     show(cellsFrom (s2.heap.objs.size+1) scope.names (gZ X.env.cells scope.names [])).lookup x=some c;rw[tw,Vw];cases q3:(cellsFrom (s2.heap.objs.size+1) scope.names []).lookup x with
     |some d =>
      rcases zP _ _ _ _ _ (oR q3) with z|z
      ·simp at z
      ·rw[tx S.keys z]at pS;cases pS
     |none =>
      obtain⟨c',om⟩:=zX (cells:=X.env.cells) scope.names [] x (oR pS);rcases zQ _ _ _ _ om with z|⟨_,e5⟩
      ·simp at z
      ·rw[ec]at e5
       rw[om,e5];rfl
 ·rcases cc e with⟨m,_⟩|⟨_,o1⟩
  ·exact I.au.fresh (Du (hc _ _ m).2)
  ·exact I.gY x c o1
 ·show(b7.map _).length=N'.length
  rw[aE,S.len]
noncomputable def n4 (X:Cx) (ifs:List Expr) (t:TT):Prop:=
 ∀ (pins:List (Addr×Obj)) (s:Shared) (σ:St) (H:Hp) (Q:Bool->Hp->Prop),Inv X pins σ H s->t σ H Q ->
  wpAny (model X.prog X.w) X.A (forIn ifs true fun c r=>if r=true then do let ok <- isTrue c X.env (eval c X.env);pure (ForInStep.yield ok) else pure (ForInStep.yield r)) (TP X pins σ Q) X.xe s
noncomputable def xu:TT:=fun _ H Q=>Q true H
theorem gv:n4 X [] xu:=fun _ _ _ H _ I h=>wpAny_tests_nil ⟨H,I,h⟩
theorem jL {t:TT} (h:PT X c t):n4 X [c] t:=fun pins s σ H Q I hw=>wpAny_tests_one (h pins s σ H Q I hw)
theorem V6 {target:Expr}{it:Value} (I:Nat->Shared->Prop)
  (turn:∀n s,I n s->wpAny (model prog w) A (pyNext it) (fun r s1=>match r with
   |none=>R (.ok .next) s1
   |some v=>wpAny (model prog w) A (letOwnedTupleGo target it v) (fun _ s2=>wpAny (model prog w) A (assign target env v) (fun _ s3 =>
     wpAny (model prog w) A (forIn ifs true fun c r=>if r=true then do let ok <- isTrue c env (eval c env);pure (ForInStep.yield ok) else pure (ForInStep.yield r)) (fun ok s4 =>
      if ok=true then wpAny (model prog w) A (eval elt env) (fun x s5 =>
       wpAny (model prog w) A (call (.builtin "list.append") [acc,x]) (fun _ s6=>∃m,m < n/\I m s6) (fun _ _=>False) s5) (fun _ _=>False) s4
      else ∃m,m < n/\I m s4) (fun _ _=>False) s3) (fun _ _=>False) s2) (fun _ _=>False) s1) (fun _ _=>False) s)
  (n:Nat) (h:I n s) :
  codeAny (model prog w) A (.compLoop (.ListComp elt [⟨target,iter,ifs,0⟩] scope pos) 0 it acc env) R s:=by
 refine codeAny_loop rfl I (fun n s hI=>?_) n h;show wpAny _ A ((compTurn (.ListComp elt [⟨target,iter,ifs,0⟩] scope pos) 0 it acc env).onRaise (fun x=>do noteFrame x env;theTreesLotGoes x)) _ _ s;refine wpAny_noted (Lh ?_);rw[compTurn_list];refine ae (nG (ae (aD (turn n s hI) fun r s1 h1=>?_)));cases r with
 |none=>exact ak h1
 |some v =>
  refine ae (aD h1 fun _ s2 h2=>ae (aD h2 fun _ s3 h3=>ae (aD h3 fun ok s4 h4=>?_)));cases ok with
  |false=>exact ak ⟨rfl,h4⟩
  |true=>exact ae (ae (aD h4 fun x s5 h5=>ae (aD h5 fun _ s6 h6=>ak (ak ⟨rfl,h6⟩))))
noncomputable def jR (J:It) (g:TG) (ti:TT) (te:TE) (gB:St) (Q:VK) (p:Addr) (H1:Hp):Prop:=
 ∃W:Nat->Nat->List V->St->Hp->Prop,(∃m,W 0 m [] gB (upd H1 p (.lst []))) /\ ∀i m ys τ H2,W i m ys τ H2->H2 p=some (.lst ys) /\
  ((J.stop i H2/\Q (.ref p) H2)\/(J.go i H2 /\ ∀x H3,J.pO i H2 x H3->g x τ H3 fun bS H4=>ti bS H4 fun b H5 =>
   if b=true then te bS H5 fun y H6=>H6 p=some (.lst ys)/\ys.length < sizeLine /\ ∃m',m' < m/\W (i+1) m' (ys ++ [y]) bS (upd H6 p (.lst (ys ++ [y])))
   else ∃m',m' < m/\W (i+1) m' ys bS H5))
noncomputable def O8 (wi:TI) (b7:List (Option Nat)) (g:TG) (ti:TT) (te:TE):TE:=fun σ H Q=>wi σ H fun J H1=>∀p,H1 p=none->jR J g ti te (pick b7 σ) Q p H1
noncomputable def CompEnd (X:Cx) (pins:List (Addr×Obj)) (σ:St) (Q:VK) (acc:Value) (C:Addr) (s':Shared):Prop:=
 ∃ (p:Addr) (H':Hp),acc = .ref p/\Inv X pins σ H' s'/\i9 X pins H' C/\(∃m,s'.heap.Ns C m)/\Q (.ref p) H'
theorem MN {J:It}{tn:Nat->Heap->Prop}{g:TG}{RR:Value->Addr->Result->Shared->Prop} (hc:X.calm=true) (S:b8 X.N X.env.scope N' b7 scope)
  (I2:Inv X pins σ H2 s2) (T:Turn X.prog X.w X.K tg J fp it tn) (st:tn 0 s2.heap) (hf:∀b∈fp,i9 X pins H2 b)
  (hb:∀s H fp,PG (cA X N' scope s H fp) tg g/\n4 (cA X N' scope s H fp) ifs ti/\PE (cA X N' scope s H fp) elt te)
  (hw:∀p,H2 p=none->jR J g ti te (pick b7 σ) Q p H2) (hR:∀acc C s',CompEnd X pins σ Q acc C s'->RR acc C (.ok .next) s') :
  wpAny (model X.prog X.w) X.A (newList []) (fun acc s3=>wpAny (model X.prog X.w) X.A (newFunctionEnv scope X.env.globals (gZ X.env.cells scope.names []) [] X.env.qual none .none (some X.env)) (fun xQ s4 =>
   codeAny (model X.prog X.w) X.A (.compStart (.ListComp elt [⟨tg,iter,ifs,0⟩] scope pos) 0 (.ref it) acc { xQ with scope:=relabel scope X.env }) (RR acc xQ.locals) s4) E s3) E s2:=by
 refine gJ ?_;have I3:Inv X pins σ (upd H2 s2.heap.objs.size (.lst [])) { s2 with heap:=s2.heap.push { cls:= .type "list",data:= .seq ([]:List Value).toArray } }:=
  I2.Qd (its:= []) (t':=s2.toks) .nil (bR _)
 have hp:=hw s2.heap.objs.size I2.fresh;generalize e3:({ s2 with heap:=s2.heap.push { cls:= .type "list",data:= .seq ([]:List Value).toArray } }:Shared)=s3 at I3 ⊢;generalize eH:upd H2 s2.heap.objs.size (.lst [])=H3 at I3 hp;have jz:∀b∈fp,b < s2.heap.objs.size:=fun b hb=>let ⟨_,e,_⟩:=T.obj _ _ st b hb;bo e;have get3:∀b o,s2.heap.get? b=some o->s3.heap.get? b=some o:=fun b o e=>by rw[<-e3];exact a8 _ e
 have pQ:tn 0 s3.heap:=T.keep _ _ _ st fun b _ o e=>get3 b o e;have ix:∀b∈fp,i9 X pins H3 b:=fun b hb=>⟨by rw[<-eH,ah (bx (jz b hb))];exact(hf b hb).1,(hf b hb).2⟩
 have yD:∀b∈fp,∃o,s3.heap.get? b=some o:=fun b hb=>let ⟨o,e,_⟩:=T.obj _ _ pQ b hb;⟨o,e⟩;refine Mc fun h4 hn hk hV IL=>?_;have I4:Inv (cA X N' scope s3 H3 fp) [] (pick b7 σ) H3 { s3 with heap:=h4 }:=Nj I3 S ix yD hn hk hV IL;have yE:tn 0 ({ s3 with heap:=h4 }:Shared).heap:=T.keep _ _ _ pQ fun b _ o e=>hk b o e;obtain⟨hG,hI,hE⟩:=hb s3 H3 fp;obtain⟨W,⟨m0,w0⟩,turn⟩:=hp;rw[eH]at w0;have lA:∀ {H':Hp},(∀b∈fp,H' b=none) -> ∀b∈fp,i9 (cA X N' scope s3 H3 fp) [] H' b:=fun hn b hb =>
  ⟨hn b hb,(I4.ok.oj b hb).1,I4.ok.nY b hb,.inl hb,fun x c e=>(I4.ok.oj b hb).2 x c e,fun p hp=>absurd (show p∈([]:List (Addr×Obj)) from hp) (by simp)⟩
 have loop:codeAny (model X.prog X.w) X.A (.compLoop (.ListComp elt [⟨tg,iter,ifs,0⟩] scope pos) 0 (.ref it) (.ref s2.heap.objs.size) (Ey scope s3.heap.objs.size X.env))
   (RR (.ref s2.heap.objs.size) s3.heap.objs.size) { s3 with heap:=h4 }:=by
  refine V6 (fun n s'=>∃i ys τ H',Inv (cA X N' scope s3 H3 fp) [] τ H' s'/\tn i s'.heap/\(∀b∈fp,H' b=none)/\W i n ys τ H') ?_ m0 ⟨0,[],_,H3,I4,yE,fun b hb=>(ix b hb).1,w0⟩;rintro n s5 ⟨i,ys,τ,H5,I5,oq,rY,w5⟩;obtain⟨hp5,w5⟩:=turn i n ys τ H5 w5;rcases w5 with⟨stop,qn⟩|⟨go,step⟩
  ·refine aD (T.done (cA X N' scope s3 H3 fp) rfl rfl rfl hc i [] s5 τ H5 _ I5 (lA rY) oq stop) fun r s6 ⟨hr,I6⟩=>?_
   subst hr;refine hR _ _ _ ⟨_,H5,rfl,?_,?_,?_,qn⟩
   ·exact I3.AY (s':=s6) (ch:=fp) I6.os I6.base I6.au I6.bare fun b hb=>⟨(ix b hb).2.2.2.1,(ix b hb).2.1,(ix b hb).2.2.2.2.1,(ix b hb).2.2.2.2.2⟩
   ·exact I3.ko (aO _) I6.free
   ·obtain⟨m,hm,_⟩:=I6.loc
    exact⟨m,hm⟩
  ·refine aD (T.item (cA X N' scope s3 H3 fp) rfl rfl rfl hc i [] s5 τ H5 _ I5 (lA rY) oq go) fun r s6 ⟨u,hr,h6⟩=>?_
   subst hr;refine aD h6 fun _ s7 hQ9=>?_;obtain⟨x,H7,I7,r7,y7,sq,IM⟩:=hQ9;have IP:=I7.pinned (lA IM) (T.obj _ _ sq);refine aD (hG _ s7 τ H7 x u _ IP r7 (step x H7 y7)) fun _ s8 hQ9=>?_;obtain⟨u6,H8,I8,q8⟩:=hQ9;refine aD (hI _ s8 u6 H8 _ I8 q8) fun b s9 ⟨H9,I9,q9⟩=>?_;have again:∀ {eZ:St}{H':Hp}{s':Shared}{dM:List V}{m':Nat},Inv (cA X N' scope s3 H3 fp) ([]++tZ fp s7.heap) eZ H' s'->m' < n->W (i+1) m' dM eZ H' ->
     ∃m,m < n /\ ∃i ys τ H',Inv (cA X N' scope s3 H3 fp) [] τ H' s'/\tn i s'.heap/\(∀b∈fp,H' b=none)/\W i m ys τ H':=fun {eZ H' s' dM m'} I' hm w'=>by
    refine⟨m',hm,i+1,dM,eZ,H',I'.wI,T.keep _ _ _ sq fun b hb o e=>(I'.pin (b,o) (gr _ (gr _ (tG hb e)))).1,fun b hb=>?_,w'⟩;obtain⟨o,e,d⟩:=T.obj _ _ sq b hb;exact(I'.pin (b,o) (gr _ (gr _ (tG hb e)))).2.1
   cases b with
   |false =>
    obtain⟨m',hm,w'⟩:=q9;exact again I9 hm w'
   |true =>
    refine aD (hE _ s9 u6 H9 _ I9 q9) fun y RW hQ9=>?_;obtain⟨z,u7,IQ,r10,adx,ady,m',hm,w'⟩:=hQ9;refine aD (tI _ RW u6 u7 (.ref s2.heap.objs.size) [z] (.ref s2.heap.objs.size) [y] (fun _ H'=>H'=upd u7 s2.heap.objs.size (.lst (ys ++ [z]))) IQ rfl (.cons r10 .nil) ⟨_,_,_,rfl,rfl,adx,ady,rfl⟩) fun _ s11 hQ9=>?_;obtain⟨_,RX,I11,_,Cb⟩:=hQ9;subst Cb;exact again I11 hm w'
 exact codeAny_compStart_list loop (T.self X.A 0 _ _ _ yE loop)
theorem eV {wi:TI}{g:TG} (hc:X.calm=true) (S:b8 X.N X.env.scope N' b7 scope) (hi:PI X tg iter wi)
  (hb:∀s H fp,PG (cA X N' scope s H fp) tg g/\n4 (cA X N' scope s H fp) ifs ti/\PE (cA X N' scope s H fp) elt te)
  (hs:∀x,foldedSetIterable iter X.env x=pure x:=by intro _;rfl):PE X (.ListComp elt [⟨tg,iter,ifs,0⟩] scope pos) (O8 wi b7 g ti te):=by
 intro pins s σ H Q I h;rw[eval_ListComp];refine Vx (use:=none) rfl hs (DO fun n hn=>zY I S hn) S.kind (fun x hx hl=>tx S.keys (by rw[<-hl];exact hx)) ?_
 refine aD (hi pins s σ H _ I h) fun v s1 h1=>aD h1 fun yk s2 h2=>?_;obtain⟨it,fp,tn,J,H2,e,I2,T,j0,f2,hw⟩:=h2;subst e;refine MN (RR:=fun acc C=>compPost (model X.prog X.w) X.A X.xe none (EP X pins σ Q) acc C) hc S I2 T j0 f2 hb hw ?_;rintro acc C s' ⟨p,H',rfl,I',fC,⟨m,hm⟩,q⟩;refine⟨m,hm,fun h' pT=>⟨.ref p,H',?_,rfl,q⟩⟩;exact I'.turned (it:=C) (t':=s'.toks) (fun b o hb e=>(pT.2 b hb).trans e) fC.1 fC.2.1 fC.2.2.2.1 fC.2.2.2.2.1 fC.2.2.2.2.2
theorem qI {wi:TI}{g:TG}{Qf:Pos} (hc:X.calm=true) (S:b8 X.N X.env.scope N' b7 scope) (hN:X.N.Nodup) (hx:X.N[i]? = some x) (hl:X.env.scope.names.lookup x=some .local) (hi:PI X tg iter wi)
  (hb:∀s H fp,PG (cA X N' scope s H fp) tg g/\n4 (cA X N' scope s H fp) ifs ti/\PE (cA X N' scope s H fp) elt te)
  (hsw:swapsWith (.ListComp elt [⟨tg,iter,ifs,0⟩] scope pos) (some (.Name x pos')) Qf.line X.env=pure true:=by rfl)
  (hs:∀x,foldedSetIterable iter X.env x=pure x:=by intro _;rfl):PS X (.Assign [.Name x pos'] (.ListComp elt [⟨tg,iter,ifs,0⟩] scope pos) Qf) (xO (O8 wi b7 g ti te) (mC i)):=by
 intro pins s σ H D I h;rw[exec_Assign_Name_used _ _ _ _ hsw];refine ae (nG (ae ?_));show wpAny _ X.A (do let _ <- comprehension (.ListComp elt [⟨tg,iter,ifs,0⟩] scope pos) scope X.env _ (newList []) false (eval iter X.env) (some (assign (.Name x pos') X.env))) _ _ s;refine ae (aD (Vx (use:=some (assign (.Name x pos') X.env)) (Q:=fun _ s'=>SP X pins D .next s') rfl hs (DO fun n hn=>zY I S hn) S.kind (fun x hx hl=>tx S.keys (by rw[<-hl];exact hx)) ?_) fun _ s' hq=>ak (ak hq))
 refine aD (hi pins s σ H _ I h) fun v s1 h1=>aD h1 fun yk s2 h2=>?_;obtain⟨it,fp,tn,J,H2,e,I2,T,j0,f2,hw⟩:=h2;subst e;refine MN (Q:=fun v H'=>D.nx (σ.set i (some v)) H') (RR:=fun acc C=>compPost (model X.prog X.w) X.A X.xe (some (assign (.Name x pos') X.env)) (fun _ s'=>SP X pins D .next s') acc C) hc S I2 T j0 f2 hb hw ?_;rintro acc C s' ⟨p,H',rfl,I',fC,⟨m,hm⟩,q⟩;show wpAny (model X.prog X.w) X.A (assign (.Name x pos') X.env (.ref p)) _ _ s';refine wpAny_assign_Name (ME (v:= .ref p) I' hN hx (.inl hl) rfl (fun sf I'' ⟨a,hsb,ha⟩=>?_) (.inr hl));have IS:C≠a:=by
  rcases ha with ha|ha
  ·rw[ha];exact fC.2.1
  ·exact fun z=>fC.2.2.2.2.1 _ _ ha z.symm
 refine⟨m,hm.sameBut hsb IS,fun h' pT=>⟨_,H',?_,q⟩⟩;exact I''.turned (it:=C) (t':=sf.toks) (fun b o hb e=>(pT.2 b hb).trans e) fC.1 fC.2.1 fC.2.2.2.1 fC.2.2.2.2.1 fC.2.2.2.2.2
end L2
namespace L2
open PySem PySem.Spec PyProof.Rows PySem.W PySem.Builtin.ObjectAttr
abbrev IT:List Value:= [.type "ValueError",.type "Exception",.type "BaseException",.type "object"]
def jm (K:Frag) (C:Addr) (i:Option Value):Bool:=
  match K.lookup C with
  |some ⟨.type "type",_,.cls cls,slots⟩ =>
    (match cls.mro,slots.toList with
     |.ref C'::up,[_,_,_,_,some (.builtin n),_]=>C'==C && (n == "ValueError.__new__" && (!cls.hasDel && (tailIn K IT up && (nsOkIn K cls.ns && nsIn K cls.ns "__init__" == some i))))
     |_,_=>false)
  |_=>false
theorem W' {N:Addr}{mp:Str->Option Value}{v:Value} (X:K.In h) (G:h.Ns N mp) (e:nsIn K N n=some (some v)):mp n=some v:=by
 obtain⟨ob,ens,_,at_,da,_,look⟩:=G;unfold nsIn at e;split at e
 next _ _ _ _ _ q =>
  have two:=X _ _ q;rw[at_]at two;cases two;cases da
  split at e
  next en he =>
   cases e
   rw[<-look,nsFind,findBy,<-Array.find?_toList,he];rfl
  next=>split at e <;> cases e
 next=>cases e
structure ExcAt (h:Heap) (C:Addr) (i:Option Value):Prop where
 ex:∃bm N nm q bs Hg sn sub ab col dd k0 k1 k2 k3 k5 mN,h.get? C=some (excClassObj nm q C N bs bm Hg sn sub ab col dd k0 k1 k2 k3 k5 "ValueError.__new__")/\h.Ns N mN/\mN "__init__" = i/\OwnTail h IT bm
theorem Ef {i:Option Value} (X:K.In h) (q:jm K C i=true):ExcAt h C i:=by
 unfold jm at q;split at q
 next od cls slots at_ =>
  split at q
  next C' up a0 a1 a2 a3 n a5 em es =>
   obtain⟨p1,q⟩:=l7.mp q;obtain⟨p2,q⟩:=l7.mp q;obtain⟨p3,q⟩:=l7.mp q;obtain⟨p4,q⟩:=l7.mp q;obtain⟨p5,p6⟩:=l7.mp q;have e1:=jG.mp p1;have e2:=jG.mp p2;have e3:cls.hasDel=false:=by simpa using p3
   have e6:=jG.mp p6;subst e1 e2;obtain⟨nm,bs,mro,ns,qn,hd,sn,sb,ab,col,del⟩:=cls;have em':mro=_:=em;have ot:del=false:=e3;subst em' ot;obtain rfl:slots = #[a0,a1,a2,a3,some (.builtin "ValueError.__new__"),a5]:=by cases slots;exact eJ Array.mk es
   refine⟨⟨up,ns,nm,qn,bs,hd,sn,sb,ab,col,od,a0,a1,a2,a3,a5,h.nsMap ns,X _ _ at_,.of_isNs (isNs_of_in X p5),?_,tail_of_in X p4⟩⟩;cases i with
   |none=>exact nsMap_none_of_in X p5 e6
   |some v=>exact W' X (.of_isNs (isNs_of_in X p5)) e6
  next=>cases q
 next=>cases q
def F4:List Value->Bool
 |.ref _::r=>F4 r
 |l=>l==IT
structure jU (K:Frag) (C:Addr):Prop where
 ga:findIn K (.ref C) "__getattribute__" = some (some (.builtin "BaseException.__getattribute__"))
 gh:findIn K (.ref C) "__getattr__" = some none
 sa:findIn K (.ref C) "__setattr__" = some (some (.builtin "object.__setattr__"))
 hd:hasDictIn K C=true
 ov:((clsIn K C).any fun cd=>F4 cd.mro)=true
 be:mroIn K C (.type "BaseException")=some true
 ve:mroIn K C (.type "ValueError")=some true
 ob:mroIn K C (.type "object")=some true
 ka:findIn K (.ref C) "__class__" = some (some (.builtin "object.__class__"))
 kn:specialIn K (.builtin "object.__class__") "__get__" = some (some (.builtin "getset_descriptor.__get__"))
 kt:takesIn K (.builtin "object.__class__")=some true
section
variable{x:Addr}{od:Option Obj}
theorem XF {fill expr:Bool}{Q:Value->Shared->Prop} (X:K.In s.heap) (I:InstAt s.heap x ox C od) (c:jU K C)
  (h:wpAny (model prog w) A.in1 (Builtin.«object.__getattribute__» ⟨[.ref x,.str name tk],[]⟩) (fun fin s'=>match fin with|.done (.ret v)=>wpAny (model prog w) A (handedOut v) Q E s'|_=>False) (fun _ _=>False) s) :
  wpAny (model prog w) A (getAttrBy (.ref x) (.str name tk) fill expr) Q E s:=by
 have L0:=I.type (M:=model prog w);have L1:=looks_findIn (M:=model prog w) X c.ga;have L2:=looks_findIn (M:=model prog w) X c.gh;have sub:Looks (model prog w) s.heap (isInstance (.ref x) (.type "BaseException")) true:=I.type.andThen (looks_mroIn X c.be);have ou:(Value.builtin "BaseException.__getattribute__" == Value.builtin "object.__getattribute__")=false:=by decide +kernel
 have va:(onTheHeap (Value.ref C) && Value.builtin "BaseException.__getattribute__" == Value.builtin "object.__getattribute__")=false:=by rw[ou];rfl
 have hk:builtinKind "BaseException.__getattribute__" = some .slot:=by decide +kernel
 have aaS:splitId "BaseException.__getattribute__" = some ("BaseException","__getattribute__"):=by decide +kernel
 unfold getAttrBy;refine eR (ae (L0.here (ae (L1.here ?_))))
 dsimp only
 rw[va];show wpAny _ _ (getAttrByItsOwn _ _ _ _ _ _) _ _ _;unfold getAttrByItsOwn hookBefore;refine ae ?_;rw[aF (show onTheHeap (Value.ref C)=true from rfl)];refine L2.here (ae (vY (eR ?_)));unfold callGetattribute;rw[ax (show ¬ (expr && onTheHeap (Value.builtin "BaseException.__getattribute__"))=true by cases expr <;> decide)]
 unfold boundAndCalled;rw[amn.ga.bind];refine ae (ak (zA (codeAny_call_builtin amn.ga.plain PySem.F.entry_bexc_ga (@check_slot (model prog w) _ _ s "BaseException.__getattribute__" "BaseException" "__getattribute__" (.ref x) [.str name tk] [] _ hk aaS sub (PySem.F.args_bexc_ga _ _) ?_))));refine lZ h (fun fin s' z=>?_) fun _ _ z=>z.elim;rcases fin with(_|_|_|_)|_ <;> first|exact z|exact z.elim
theorem XG {Q:Option Value->Shared->Prop} (X:K.In s.heap) (I:InstAt s.heap x ox C od) (c:jU K C) (h:Q (some (.ref C)) { s with toks:=s.toks+1 }):wpAny (model prog w) A (getAttr? (.ref x) "__class__") Q E s:=by
 have hf:findObj K C od "__class__" = some (.bind (.builtin "getset_descriptor.__get__") (.builtin "object.__class__")):=by
  obtain⟨cd,hc,_⟩:=any_some c.hd;unfold findObj;rw[hc,Li,c.ka,Li]
  dsimp only
  rw[c.kn,Li]
  dsimp only
  rw[c.kt,Li]
 unfold getAttr? getAttrBy?;refine ae (wpAny_mkText (ae (vY ?_)));have L0:=I.type (M:=model prog w);have L1:=looks_find (M:=model prog w) X I hf;refine XF (s:={ s with toks:=s.toks+1 }) X I c ?_;refine ae (ak (ae (ak (ae (Looks.here (s:={ s with toks:=s.toks+1 }) L0 (ae (Looks.here (s:={ s with toks:=s.toks+1 }) L1 ?_)))))));show wpAny _ _ (holding [.builtin "object.__class__"] (call (.builtin "getset_descriptor.__get__") [.builtin "object.__class__",.ref x,.ref C]) >>= ret) _ _ _;refine ae (eR (zA (class_get (s:={ s with toks:=s.toks+1 }) (ox:=ox) (od:=od) X I c.ob ?_)));exact ak (handed_on rfl (ak h))
theorem Xa {M:Model} (X:K.In h) (c:jU K C):Looks M h (isType (.ref C)) true:=by
 obtain⟨cls,ic,_⟩:=any_some c.hd;unfold clsIn at ic;split at ic
 next at_ =>
  intro A' Q' E' s' k q;exact ae (Vj (part:=some headPart) (k _ _ (X _ _ at_)) (ak q))
 next=>cases ic
theorem Aa (c:jU K C):KitX K (.ref x) (.ref C) (fun h=>InstAt h x ox C od) where
 ty:=fun _ _ _ I=>I.type
 it:=fun _ _ X _=>Xa X c
 ne:=fun h tp _ _ _ _ X tup=>by
  obtain⟨cls,ic,_⟩:=any_some c.hd;cases q:(Value.ref C == .ref tp) with
  |false=>rfl
  |true =>
   have e:C=tp:=Value.ref.inj (jG.mp q);unfold clsIn at ic;split at ic
   next at_ =>
    have two:=(X _ _ at_).symm;rw[e,tup]at two;cases two
   next=>cases ic
 ca:=fun X I k=>XG X I c k
end
theorem bp.there {o:HO} (x:bp P w H h a o):∃ob,h.get? a=some ob:=by
 cases o with
 |lst xs=>obtain⟨_,_,_,_,e⟩:=x;exact⟨_,e⟩
 |tup xs=>obtain⟨_,_,_,ob,e,_⟩:=x;exact⟨_,e⟩
 |dK kvs=>obtain⟨_,_,_,_,o,_,_,e,_⟩:=x;exact⟨_,e⟩
 |dT kvs=>obtain⟨_,_,_,_,o,_,_,e,_⟩:=x;exact⟨_,e⟩
 |set S n=>obtain⟨o,_,_,_,e,_⟩:=x;exact⟨_,e⟩
 |ins C dx fs=>obtain⟨_,_,_,e,_⟩:=x;exact⟨_,e⟩
 |own y=>exact x
 |xd fs=>obtain⟨_,⟨_,_,_,e,_⟩,_⟩:=x;exact⟨_,e⟩
 |yf lo hi=>obtain⟨_,_,_,e⟩:=x;exact⟨_,e⟩
 |aR ob u=>obtain⟨e,_⟩:=x;exact⟨_,e⟩
 |oh ps=>exact⟨_,x⟩
 |met f y=>exact⟨_,x⟩
 |ext φ=>exact x.2.1
section
variable{o:HO}
theorem Inv.ON (I:Inv X pins σ H s) (e:s.heap.get? a=none):H a=none:=by
 cases q:H a with
 |none=>rfl
 |some u =>
  obtain⟨ob,z⟩:=(I.au a u q).there;rw[e]at z;cases z
theorem Inv.put (I:Inv X pins σ H s) (k:∀b u,s.heap.get? b=some u->h'.get? b=some u) (e:s.heap.get? a=none) (new:bp X.prog X.w (upd H a o) h' a o):Inv X pins σ (upd H a o) { s with heap:=h' }:=by
 have hn:=I.ON e;have ne:∀b u,s.heap.get? b=some u->b≠a:=fun b u q z=>by rw[z,e]at q;cases q
 refine I.un (t':=s.toks) ⟨fun b u q n _ _=>k b u q,fun b u q n _ _=>⟨u.slots,k b u q⟩,fun b u q n _=>by rw[ah (ne b u q)];exact n,fun b u q _=>⟨u,k b u q⟩,fun b xs q=>by rw[ah (aA q hn)];exact q,
  fun b u v q=>by rw[ah (aA q hn)];exact q,fun b ps q=>⟨#[],by rw[ah (aA q hn),q];simp⟩⟩ fun b u q=>?_
 by_cases hb:b=a
 ·subst hb;rw[ag]at q;cases q;exact new
 ·rw[ah hb]at q
  exact(I.au b u q).gy (fun c v _ z=>k c v z) (fun c z=>by rw[ah (aA z hn)];exact z) fun c xs z=>by rw[ah (aA z hn)];exact z
end
def lB (C:Addr) (dx:Option Addr) (a:Addr):HO:= .ext fun h=>∃t,h.get? a=some { cls:= .ref C,dict:=dx,data:= .fields #[.ref t,.none,.none,.none,.bool false,.none] }
def rN (d:Addr) (fs:List (Str×V)):HO:= .ext fun h=>fs.length<=100 /\ ∃mA,h.Ns1 d mA/\(∀f,g7 (fs.lookup f) (mA f))/\PySem.Within mA (fs.map (·.1))
section
variable{dx:Option Addr}{fs:List (Str×V)}
theorem ZH {t:Addr} (e:h.get? a=some { cls:= .ref C,dict:=dx,data:= .fields #[.ref t,.none,.none,.none,.bool false,.none] }):bp P w H h a (lB C dx a):=
 ⟨⟨t,e⟩,⟨_,e⟩,fun _ _ ⟨t,q⟩ k=>⟨t,k _ q⟩⟩
end
section
variable{dx:Option Addr}{fs:List (Str×V)}{f:Str}
theorem Inv.excAt (I:Inv X pins σ H s) (e:H a=some (lB C dx a)):∃t,s.heap.get? a=some { cls:= .ref C,dict:=dx,data:= .fields #[.ref t,.none,.none,.none,.bool false,.none] }:=(I.au a _ e).1
theorem Inv.EZ (I:Inv X pins σ H s) (e:H d=some (rN d fs)):fs.length<=100 /\ ∃mA,s.heap.Ns1 d mA/\(∀f,g7 (fs.lookup f) (mA f))/\PySem.Within mA (fs.map (·.1)):=(I.au d _ e).1
end
end L2
namespace L2
open PySem PySem.Spec PyProof.Rows PySem.W
mutual
inductive Rep (H:Hp):V->PyData->Prop where
 |aI:Rep H .aI .none
 |bl (b:Bool):Rep H (.bl b) (.bool b)
 |int (i:Int):Rep H (.int i) (.int i)
 |str (x:Str):Rep H (.str x) (.str x)
 |lst {a:Addr}{xs:List V}{ds:List PyData}:H a=some (.lst xs)->cB H xs ds->Rep H (.ref a) (.list ds)
 |tup {a:Addr}{xs:List V}{ds:List PyData}:H a=some (.tup xs)->cB H xs ds->Rep H (.ref a) (.tuple ds)
inductive cB (H:Hp):List V->List PyData->Prop where
 |nil:cB H [] []
 |cons {x:V}{d:PyData}{xs:List V}{ds:List PyData}:Rep H x d->cB H xs ds->cB H (x::xs) (d::ds)
end
section
mutual
theorem Rep.reads (I:Inv X pins σ H s):∀ {v:V}{d:PyData}{u:Value},Rep H v d->RelV v u -> ∃as,Reads s.heap u d as
 |_,_,_,.aI,r=>by cases r;exact⟨_,.none⟩
 |_,_,_,.bl b,r=>by cases r;exact⟨_,.bool b⟩
 |_,_,_,.int i,r=>by obtain⟨t,rfl⟩:=r;exact⟨_,.int i t⟩
 |_,_,_,.str x,r=>by obtain⟨t,rfl⟩:=r;exact⟨_,.str x t⟩
 |_,_,_,.lst (a:=a) (xs:=xs) e rs,r=>by
  cases r
  obtain⟨_,its,n,rv,at_⟩:=(show bp X.prog X.w H s.heap a (.lst xs) from I.au a _ e);obtain⟨as,ra⟩:=cB.reads I rs rv;exact⟨_,.list at_ rfl rfl ra⟩
 |_,_,_,.tup (a:=a) (xs:=xs) e rs,r=>by
  cases r
  obtain⟨_,its,rv,ob,at_,hc,n,hd,_⟩:=(show bp X.prog X.w H s.heap a (.tup xs) from I.au a _ e);obtain⟨as,ra⟩:=cB.reads I rs rv;exact⟨_,.tuple at_ hc hd ra⟩
theorem cB.reads (I:Inv X pins σ H s):∀ {vs:List V}{ds:List PyData}{us:List Value},cB H vs ds->Vals vs us -> ∃as,ReadsAll s.heap us ds as
 |_,_,_,.nil,r=>by cases r;exact⟨_,.nil⟩
 |_,_,_,.cons r rs,rv=>by
  cases rv with
  |cons q qs =>
   obtain⟨as,h1⟩:=Rep.reads I r q;obtain⟨bs,h2⟩:=cB.reads I rs qs;exact⟨_,.cons h1 h2⟩
end
mutual
theorem Rep.same:∀ {v:V}{d:PyData},Rep H v d->aq H H'->Rep H' v d
 |_,_,.aI,_=>.aI
 |_,_,.bl b,_=>.bl b
 |_,_,.int i,_=>.int i
 |_,_,.str x,_=>.str x
 |_,_,.lst e rs,k=>.lst (k _ _ e) (cB.same rs k)
 |_,_,.tup e rs,k=>.tup (k _ _ e) (cB.same rs k)
theorem cB.same:∀ {vs:List V}{ds:List PyData},cB H vs ds->aq H H'->cB H' vs ds
 |_,_,.nil,_=>.nil
 |_,_,.cons r rs,k=>.cons (Rep.same r k) (cB.same rs k)
end
end
noncomputable def Qg:R2:=fun x y H Q=>∃da db,Rep H x da/\Rep H y db/\da.canLay0=true/\db.canLay0=true/\da.depth<=60/\Q (.bl (PyData.eqv da db)) H
noncomputable def Qh:R2:=fun x y H Q=>∃da db,Rep H x da/\Rep H y db/\da.canLay0=true/\db.canLay0=true/\da.depth<=60/\Q (.bl (!PyData.eqv da db)) H
theorem AI (hu:X.A.units+64 < cLine):cN X (compareOp .Eq) Qg:=by
 intro pins s σ H x y v u Q I rx ry h;obtain⟨da,db,r1,r2,l1,l2,dp,q⟩:=h;obtain⟨as,h1⟩:=r1.reads I rx;obtain⟨bs,h2⟩:=r2.reads I ry;exact SeqAt.compareEq_reads h1 h2 l1 l2 (by omega) ⟨.bl _,H,I,rfl,q⟩
theorem t5 (hu:X.A.units+64 < cLine):cN X (compareOp .NotEq) Qh:=by
 intro pins s σ H x y v u Q I rx ry h;obtain⟨da,db,r1,r2,l1,l2,dp,q⟩:=h;obtain⟨as,h1⟩:=r1.reads I rx;obtain⟨bs,h2⟩:=r2.reads I ry;exact SeqAt.compareNe_reads h1 h2 l1 l2 (by omega) ⟨.bl _,H,I,rfl,q⟩
noncomputable def ab0 (H:Hp) (x:V):Prop:=(∃z:Str,x = .str z/\z.length<=100000)\/x = .aI \/ ∃a d,x = .ref a/\Rep H x d/\d.showable=true/\d.hasDict=false/\d.depth<=50/\d.shown.length<=100000
noncomputable def adz (te:TE):TE:=fun σ H Q=>te σ H fun x H1=>ab0 H1 x /\ ∀y:Str,y.length<=100000->Q (.str y) H1
theorem OO (hu:X.A.units+64 < cLine) (hg:X.A.guards=some []) (he:PE X e te):PE X (.FormattedValue e (-1) none pos) (adz te):=by
 intro pins s σ H Q I h;refine wpAny_FormattedValue_plain (aD (he pins s σ H _ I h) fun v s1 hQ9=>?_);obtain⟨x,H1,I1,rx,f,q⟩:=hQ9;rcases f with⟨z,rfl,hz⟩|rfl|⟨a,d,rfl,rd,hs,hd,hp,hl⟩
 ·obtain⟨t,rfl⟩:=rx
  exact wpAny_formatField_str ⟨.str z,H1,I1,⟨_,rfl⟩,q z hz⟩ ⟨.str z,H1,I1.tok _,⟨_,rfl⟩,q z hz⟩ (by rw[aQ];omega)
 ·cases rx
  exact wpAny_formatField_none ⟨.str "None",H1,I1.tok _,⟨_,rfl⟩,q _ (by decide)⟩
 ·obtain⟨as,r⟩:=rd.reads I1 rx
  cases rx
  exact formatField_of_reads r hs (fun z=>by rw[hd]at z;cases z) hg (by omega) (fun _ _ z=>z) (fun h' u tk k=>⟨.str d.shown,H1,I1.kept k,⟨_,rfl⟩,q _ hl⟩) (by rw[aQ];omega)
noncomputable def PJ (X:Cx) (vs:List Expr) (n:Nat) (t:St->Hp->(Hp->Prop)->Prop):Prop:=
 ∀ (pins:List (Addr×Obj)) (s:Shared) (σ:St) (H:Hp) (acc:Str) (Q:Hp->Prop),acc.length+n * 100000<=2000000->Inv X pins σ H s->t σ H Q ->
  Joins (model X.prog X.w) X.A X.xe (evalEach vs X.env) acc (fun out s1=>out.length<=2000000 /\ ∃H1,Inv X pins σ H1 s1/\Q H1) s
def aaT (te:TE) (tr:St->Hp->(Hp->Prop)->Prop):St->Hp->(Hp->Prop)->Prop:=fun σ H Q=>te σ H fun x H1=>(∃y:Str,x = .str y/\y.length<=100000)/\tr σ H1 Q
def aaU:St->Hp->(Hp->Prop)->Prop:=fun _ H Q=>Q H
theorem aaV:PJ X [] 0 aaU:=fun pins s σ H acc Q hz I h=>⟨by omega,H,I,h⟩
theorem Am {v:Expr}{vs:List Expr}{n:Nat}{tr:St->Hp->(Hp->Prop)->Prop} (hv:PE X v te) (hr:PJ X vs n tr):PJ X (v::vs) (n+1) (aaT te tr):=by
 intro pins s σ H acc Q hz I h;refine aD (hv pins s σ H _ I h) fun u s1 ⟨x,H1,I1,rx,⟨y,e,hy⟩,q⟩=>?_;subst e;obtain⟨t,rfl⟩:=rx;have hl:(acc++y).length=acc.length+y.length:=strLen_append ..;exact⟨y,t,rfl,by rw[hl,aQ];omega,hr pins s1 σ H1 (acc++y) Q (by rw[hl];omega) I1 q⟩
noncomputable def ab1 (tr:St->Hp->(Hp->Prop)->Prop):TE:=fun σ H Q=>tr σ H fun H1=>∀y:Str,y.length<=2000000->Q (.str y) H1
theorem ZI {v1 v2:Expr}{rest:List Expr}{n:Nat}{tr:St->Hp->(Hp->Prop)->Prop} (hr:PJ X (v1::v2::rest) n tr) (hn:n<=20:=by decide):PE X (.JoinedStr (v1::v2::rest) pos) (ab1 tr):=by
 intro pins s σ H Q I h;have z:=hr pins s σ H Str.empty _ (by have:Str.empty.length=0:=rfl;omega) I h
 refine wpAny_JoinedStr ?_;have mono:∀ (l:List (Sem Value)) (acc:Str) (P P':Str->Shared->Prop) (s:Shared),(∀o s,P o s->P' o s)->Joins (model X.prog X.w) X.A X.xe l acc P s->Joins (model X.prog X.w) X.A X.xe l acc P' s:=by
  intro l
  induction l with
  |nil=>intro acc P P' s k q;exact k _ _ q
  |cons a l ih=>intro acc P P' s k q;exact aD q fun v s1 ⟨y,t,e,hz,q'⟩=>⟨y,t,e,hz,ih _ P P' s1 k q'⟩
 refine mono _ _ _ _ _ ?_ z;rintro o s1 ⟨hz,H1,I1,q⟩;exact⟨by rw[aQ];omega,.str o,H1,I1.tok _,⟨_,rfl⟩,q o hz⟩
end L2
namespace L2
open PySem PySem.Spec PyProof.Rows PySem.W
section
variable{CX:j3}{k:Nat}{E:XK}{p:Pos}{t:TA}
theorem Yv (q:jm X.K C none=true) (I:Inv X pins σ H s) (bV:us.length<=100) (h:∀e,H e=none->Q (.ref e) (upd H e (lB C none e))):wpAny (model X.prog X.w) X.A (call (.ref C) us) (EP X pins σ Q) X.xe s:=by
 obtain⟨⟨up,N,nm,qn,bs,hd,sn,sb,ab,col,od,a0,a1,a2,a3,a5,mN,at_,ns,ni,T⟩⟩:=Ef I.cM q;obtain⟨hp,g,d,tk,os⟩:=s;refine wpAny_call_exc_subT PySem.F.excBase_ValueError T at_ ns ni (fun h' e m=>?_) (by rw[aQ];omega)
 obtain⟨kp,new,t,at2,_,_⟩:=m;exact⟨.ref e,_,Inv.put (s:=⟨hp,g,d,tk,os⟩) I kp new (ZH at2),rfl,h e (Inv.ON (s:=⟨hp,g,d,tk,os⟩) I new)⟩
noncomputable def ab2 (C:Addr) (t:TA):TE:=fun σ H Q=>t σ H fun vs H1=>vs.length<=100 /\ ∀e,H1 e=none->Q (.ref e) (upd H1 e (lB C none e))
theorem wV (q:jm X.K C none=true) (kp:keepIn X.K (.ref C)=true) (hg:Gl X x) (hm:X.mg x=some (.ref C)) (ha:PA X (e::es) t) (gj:(x==("__debug__" : Str))=false:=by decide)
  (he:starEach (e::es) X.env=(false,eval e X.env)::starEach es X.env:=by rfl) (cP:(backTo pos (starEach es X.env)).any (·.1)=false:=by rfl):PE X (.Call (.Name x p) (e::es) [] pos) (ab2 C t):=by
 intro pins s σ H Q I h;refine zB (tQ I hg hm ?_ gj);refine callWith_K (h₀:=X.base) I.ok.mod.rS kp (aD (ha pos pins s σ H _ I h) fun us s1 ⟨vs,H1,I1,r,bV,q1⟩=>⟨I1.cM,?_⟩) he cP;exact Yv q I1 (by show us.length<=100;rw[<-r.length];exact bV) q1
end
section
variable{o:Expr}{f:Str}
def Qi (K:Frag):List V->Hp->VK->Prop:=fun xs H Q=>∃x c t cv b,xs = [x,c]/\RelV c cv/\(js K H x t \/ ∃a C dx,x = .ref a/\t = .ref C/\H a=some (lB C dx a)/\jU K C/\(∀d,dx=some d -> ∃fs,H d=some (rN d fs)))/\kitOne K t cv=some b/\Q (.bl b) H
theorem qL:d5 X (.builtin "isinstance") (fun xs H Q=>(∃x,(∃C,xs = [x,.ref C])\/(∃T,xs = [x,.ty T]))/\Qi X.K xs H Q):=by
 intro pins s σ H xs us Q I r h;obtain⟨hx,x,c,t,cv,b,rfl,rc,ty,e,q⟩:=h;obtain⟨u,w',rfl,ru,gO⟩:=r.two;have IU:w'=cv:=by
  obtain⟨x',⟨C,z⟩|⟨T,z⟩⟩:=hx
  ·cases z;cases rc;cases gO;rfl
  ·cases z;cases rc;cases gO;rfl
 subst IU;rcases ty with ty|⟨a,C,dx,rfl,rfl,ea,c,hd⟩
 ·exact XB I ru ty e fun tk=>⟨.bl b,H,I.tok _,rfl,q⟩
 ·cases ru
  obtain⟨t,at_⟩:=I.excAt ea;cases dx with
  |none =>
   have J:InstAt s.heap a _ C none:=⟨at_,rfl,rfl,True.intro⟩;exact kia_one (Aa c) I.cM J e (fun z=>nomatch z) fun tk=>⟨.bl b,H,I.tok _,rfl,q⟩
  |some d =>
   obtain⟨fs,ed⟩:=hd d rfl;obtain⟨_,mA,n,_⟩:=I.EZ ed;obtain⟨od,gR,_⟩:=zV n;have J:InstAt s.heap a _ C (some od):=⟨at_,rfl,rfl,gR⟩;exact kia_one (Aa c) I.cM J e (fun z=>nomatch z) fun tk=>⟨.bl b,H,I.tok _,rfl,q⟩
end
def yF (K:Frag) (l:Addr):It:=
 ⟨fun i H=>∃xs x,aj K H l xs/\xs[i]? = some x,fun i H x H'=>∃t v,H t=none/\x = .ref t/\(∀xs,aj K H l xs->xs[i]? = some v)/\H'=upd H t (.tup [.int i,v]),fun i H=>∃xs,aj K H l xs/\xs.length<=i⟩
theorem XH (l e it:Addr) (bc:e≠it) :
  Turn P w K (.Tuple elts n1 tp) (yF K l) [e,it] e (fun i h=>(∃old,IsEnum h e it i old)/\h.IsListIter it l i) where
 mem:=by simp
 obj:=fun i h st b hb=>by
  obtain⟨⟨old,h1⟩,h2⟩:=st;rcases bH.mp hb with z|z
  ·subst z;exact⟨_,h1,fun v q=>by cases q⟩
  ·have z':b=it:=by simpa using z
   subst z';obtain⟨o,q,_,d⟩:=h2;exact⟨o,q,fun v z=>by rw[d]at z;cases z⟩
 keep:=fun i h h' st k=>by
  obtain⟨⟨old,h1⟩,h2⟩:=st;exact⟨⟨old,k e (by simp) _ h1⟩,h2.at fun o q=>k it (by simp) o q⟩
 item:=by
  intro X hP hw hK hc i pins s σ H E I hf st hg;subst hP hw hK;obtain⟨xs,x,hq,hx⟩:=hg;obtain⟨its,rv,p,hz⟩:=I.list hq;obtain⟨u,hu,ru⟩:=rv.get hx;obtain⟨⟨old,h1⟩,h2⟩:=st;have fe:=hf e (by simp)
  have fi:=hf it (by simp)
  refine wpAny_pyNext_enum_item h1 h2 p.isList (x:=u) (by simpa using hu) bc fun h' e1 i1 t1 z1 k1=>⟨_,rfl,?_⟩
  refine wpAny_letOwnedTupleGo_enum (s:={ s with heap:=h',toks:=s.toks+1 }) e1 fun iy e2 sb=>?_;have eS:e≠s.heap.objs.size:=bx (bo h1);have k2:∀b o,b≠e->b≠it->s.heap.get? b=some o->iy.get? b=some o:=fun b o n1 n2 q=>(sb.2 b n1).trans (k1 b o n1 n2 q);have t2:iy.get? s.heap.objs.size=some { cls:= .type "tuple",data:= .seq #[.int i s.toks,u] }:=(sb.2 _ (ba eS)).trans t1;have hn:H s.heap.objs.size=none:=I.au.fresh (aO _);have lt:∀b o,s.heap.get? b=some o->b≠s.heap.objs.size:=fun b o q=>bx (bo q);have kB:∀b o,H b=some o->b≠e/\b≠it:=fun b o q=>⟨(fun z=>by rw[z,fe.1]at q;cases q),(fun z=>by rw[z,fi.1]at q;cases q)⟩
  have g9:∀b,b ∉ [e,it]->b≠e/\b≠it:=fun b hb=>⟨fun z=>hb (by simp[z]),fun z=>hb (by simp[z])⟩
  have J:Inv X pins σ (upd H s.heap.objs.size (.tup [.int i,x])) { s with heap:=iy,toks:=s.toks+1 }:=by
   refine I.step (g':=s.gens) (d':=s.drawn) (t':=s.toks+1) (ch:= [e,it]) (fun b hb=>?_) (fun b o _ _ hc q _=>k2 b o (g9 b hc).1 (g9 b hc).2 q) (fun b o _ _ hc q _=>⟨o.slots,k2 b o (g9 b hc).1 (g9 b hc).2 q⟩)
    (fun b o _ q n=>by rw[ah (lt b o q)];exact n) (fun b o hc q=>⟨o,k2 b o (g9 b hc).1 (g9 b hc).2 q⟩) (fun b ys q=>by rw[ah (aA q hn)];exact q) (fun b o v q=>by rw[ah (aA q hn)];exact q)
    (fun b ps q=>⟨#[],by rw[ah (aA q hn),q];simp⟩) (fun m hm=>?_) (fun b o q=>?_) I.bare
   ·rcases bH.mp hb with z|z
    ·subst z;exact⟨fe.2.2.2.1,fe.2.1,fe.2.2.2.2.1,fe.2.2.2.2.2⟩
    ·have z':b=it:=by simpa using z
     subst z';exact⟨fi.2.2.2.1,fi.2.1,fi.2.2.2.2.1,fi.2.2.2.2.2⟩
   ·obtain⟨o,es,ep,ho,r⟩:=hm
    exact⟨o,es,ep,k2 _ o (ba fe.2.1) (ba fi.2.1) ho,r⟩
   ·by_cases hb:b=s.heap.objs.size
    ·subst hb
     rw[ag]at q;cases q;exact⟨by rw[aQ];show 2<=_;decide,[.int i s.toks,u],.cons ⟨_,rfl⟩ (.cons ru .nil),_,t2,rfl,_,rfl,rfl⟩
    ·rw[ah hb]at q
     refine(I.au b o q).gy (fun c v hc z=>?_) (fun c z=>by rw[ah (aA z hn)];exact z) fun c ys z=>by rw[ah (aA z hn)];exact z
     rcases hc with hc|hc
     ·subst hc;exact k2 _ v (kB _ _ q).1 (kB _ _ q).2 z
     ·exact k2 c v (kB _ _ hc).1 (kB _ _ hc).2 z
  refine⟨.ref s.heap.objs.size,_,J,rfl,⟨s.heap.objs.size,x,hn,rfl,fun ys hy=>by rw[I.Nf hy hq];exact hx,rfl⟩,⟨⟨u,e2⟩,?_⟩,fun b hb=>?_⟩
  ·exact i1.extBut sb.extBut (ba bc)
  ·have:b≠s.heap.objs.size:=by
    rcases bH.mp hb with z|z
    ·rw[z];exact eS
    ·have z':b=it:=by simpa using z
     obtain⟨o,q,_⟩:=h2;rw[z'];exact lt _ _ q
   rw[ah this];exact(hf b hb).1
 done:=by
  intro X hP hw hK hc i pins s σ H E I hf st hg;subst hP hw hK;obtain⟨xs,hq,hx⟩:=hg;obtain⟨its,rv,p,hz⟩:=I.list hq;obtain⟨⟨old,h1⟩,h2⟩:=st;have fi:=hf it (by simp)
  have hl:=rv.length;exact wpAny_pyNext_enum_end (I.ok.hd hc) h1 h2 p.isList (by simp;omega) fun h' eb=>⟨rfl,I.turned (t':=s.toks) (fun b o hb q=>eb b o hb q) fi.1 fi.2.1 fi.2.2.2.1 fi.2.2.2.2.1 fi.2.2.2.2.2⟩
 self:=fun _ _ _ _ _ st h=>let ⟨⟨_,h1⟩,_⟩:=st;wpAny_pyIter_enum h1 h
noncomputable def ab3 (K:Frag) (ta:TA):TI:=fun σ H R=>ta σ H fun vs H1=>∃a,vs = [.ref a]/\(∃xs,aj K H1 a xs)/\R (yF K a) H1
theorem ZJ {a:Expr}{ta:TA}{p:Pos} (hg:Gl X "enumerate") (hm:X.mg "enumerate" = none) (ha:PA X [a] ta) (hs:starEach [a] X.env = [(false,eval a X.env)]:=by rfl) :
  PI X (.Tuple elts n1 tp) (.Call (.Name "enumerate" p) [a] [] pos) (ab3 X.K ta):=by
 intro pins s σ H R I h;refine Call_ (tW I hg hm (show bootBuiltins "enumerate" = some (.type "enumerate") by decide +kernel) (Le (aD (ha pos pins s σ H _ I h) fun us s1 hQ9=>?_) hs rfl));obtain⟨vs,H1,I1,r1,q1⟩:=hQ9
 obtain⟨l,e,⟨xs,hq⟩,q⟩:=q1;subst e;obtain⟨u,rfl,ru⟩:=r1.one;cases ru
 obtain⟨its,rv,pl,hz⟩:=I1.list hq;refine call_enumerate_list pl.isList fun h' e1 i1 z1 k1=>?_;have I2:Inv X pins σ H1 { s1 with heap:=h' }:=I1.kept (t':=s1.toks) k1;refine wpAny_pyIter_enum (s:={ s1 with heap:=h' }) e1 ?_;refine⟨s1.heap.objs.size+1,[s1.heap.objs.size+1,s1.heap.objs.size],_,_,H1,rfl,I2,XH l (s1.heap.objs.size+1) s1.heap.objs.size (Nat.succ_ne_self _),⟨⟨.none,e1⟩,i1⟩,fun b hb=>?_,q⟩;rcases bH.mp hb with z|z
 ·subst z;exact I1.ko (oQ _) (I1.au.fresh (oQ _))
 ·have z':b=s1.heap.objs.size:=by simpa using z
  subst z';exact I1.ko (aO _) (I1.au.fresh (aO _))
theorem zU:∀ {ys:List Str}{us:List Value},Vals (ys.map V.str) us->StrsAre us ys:=by
 intro ys
 induction ys with
 |nil=>intro us r;cases r;exact .nil
 |cons y ys ih =>
  intro us r;cases r with
  |cons q qs =>
   obtain⟨t,rfl⟩:=q;exact .cons _ _ (ih qs)
def rJoin (K:Frag):V->List V->Hp->VK->Prop:=fun x vs H Q=>∃ (z:Str) (p:Addr) (ys:List Str),x = .str z/\vs = [.ref p]/\(aj K H p (ys.map V.str)\/aJ K H p (ys.map V.str))/\(ys.map (·.length)).sum+ys.length * z.length<=1000000/\Q (.str (Txt.join z ys)) H
theorem ZK:yv X "str.join" (rJoin X.K):=by
 intro pins s σ H x xs v us Q I rx rv h;obtain⟨z,p,ys,rfl,rfl,hp,hz,q⟩:=h;obtain⟨t,rfl⟩:=rx;obtain⟨u,rfl,ru⟩:=rv.one;cases ru
 rcases hp with hp|hp
 ·obtain⟨its,r,pl,_⟩:=I.list hp
  exact join_list pl.isList (by simpa using zU r) (by omega) fun t' k=>⟨.str _,H,I.tok _,⟨_,rfl⟩,q⟩
 ·obtain⟨its,r,pl,_⟩:=I.tuple hp
  exact join_tuple pl (by simpa using zU r) (by omega) fun t' k=>⟨.str _,H,I.tok _,⟨_,rfl⟩,q⟩
def adA:V->Option Int->Option Int->Hp->VK->Prop:=fun x lo hi H Q=>∃z:Str,x = .str z/\z.length<=1000000/\Q (.str (Txt.slice z lo hi)) H
theorem aaW:uW X adA:=by
 intro pins s σ H x v vl vu lo hi sl Q I rx hs pl pu h;obtain⟨z,rfl,hz,q⟩:=h;obtain⟨t,rfl⟩:=rx;have fz:(Txt.slice z lo hi).length<=sizeLine:=gW (Txt.slice_le z _ _) (by rw[aQ];omega)
 refine⟨"str",_,PySem.F.slot_str_getitem.lookup,typeIs_str _ _ _,?_⟩;cases pl with
 |none =>
  cases pu with
  |none=>exact Lj (l:=none) (u:=none) (st:=none) hs rfl (Lk ⟨fz,fun t' k=>⟨.str _,H,I.tok _,⟨_,rfl⟩,q⟩⟩)
  |int j tj=>exact Lj (l:=none) (u:=some (j,tj)) (st:=none) hs rfl (Lk ⟨fz,fun t' k=>⟨.str _,H,I.tok _,⟨_,rfl⟩,q⟩⟩)
 |int i ti =>
  cases pu with
  |none=>exact Lj (l:=some (i,ti)) (u:=none) (st:=none) hs rfl (Lk ⟨fz,fun t' k=>⟨.str _,H,I.tok _,⟨_,rfl⟩,q⟩⟩)
  |int j tj=>exact Lj (l:=some (i,ti)) (u:=some (j,tj)) (st:=none) hs rfl (Lk ⟨fz,fun t' k=>⟨.str _,H,I.tok _,⟨_,rfl⟩,q⟩⟩)
noncomputable def CW (Pv:Nat->List V->St->Hp->Prop) (n i m:Nat) (ys:List V) (τ:St) (H:Hp):Prop:=m=n - i/\i<=n/\Pv i ys τ H
theorem cw_next {Pv:Nat->List V->St->Hp->Prop}{n:Nat}{τ:St} (h:i < n) (p:Pv (i+1) ys τ H):∃m',m' < n - i/\CW Pv n (i+1) m' ys τ H:=⟨n - (i+1),by omega,rfl,h,p⟩
theorem wo {n:Nat}{g:TG} (Pv:Nat->List V->St->Hp->Prop) (h0:Pv 0 [] gB (upd H1 p (.lst []))) (hl:∀i ys τ H,Pv i ys τ H->H p=some (.lst ys))
  (hs:∀i ys τ H,i < n->Pv i ys τ H->g (.int (lo+i)) τ H fun bS H4=>ti bS H4 fun b H5=>if b=true then te bS H5 fun y H6=>H6 p=some (.lst ys)/\ys.length < sizeLine /\ ∃m',m' < n - i/\CW Pv n (i+1) m' (ys ++ [y]) bS (upd H6 p (.lst (ys ++ [y]))) else ∃m',m' < n - i/\CW Pv n (i+1) m' ys bS H5)
  (hd:∀ys τ H,Pv n ys τ H->Q (.ref p) H):jR (pP lo n) g ti te gB Q p H1:=by
 refine⟨CW Pv n,⟨n,by simp,bR _,h0⟩,?_⟩
 rintro i m ys τ H ⟨rfl,hi,pv⟩;refine⟨hl i ys τ H pv,?_⟩
 by_cases aT:i < n
 ·refine .inr ⟨aT,fun x H3 y3=>?_⟩
  obtain⟨e3,ex⟩:=y3;subst e3 ex;exact hs i ys τ _ aT pv
 ·have e:i=n:=by omega
  subst e;exact .inl ⟨aO _,hd ys τ H pv⟩
theorem i4 {g:TG} (Pv:Nat->List V->St->Hp->Prop) (h0:Pv 0 [] gB (upd H1 p (.lst []))) (hl:∀i ys τ H,Pv i ys τ H->H p=some (.lst ys)/\aj K H a xs)
  (hs:∀i x ys τ H,xs[i]? = some x->Pv i ys τ H->g x τ H fun bS H4=>ti bS H4 fun b H5=>if b=true then te bS H5 fun y H6=>H6 p=some (.lst ys)/\ys.length < sizeLine /\ ∃m',m' < xs.length - i/\CW Pv xs.length (i+1) m' (ys ++ [y]) bS (upd H6 p (.lst (ys ++ [y]))) else ∃m',m' < xs.length - i/\CW Pv xs.length (i+1) m' ys bS H5)
  (hd:∀ys τ H,Pv xs.length ys τ H->Q (.ref p) H):jR (rX K a) g ti te gB Q p H1:=by
 refine⟨CW Pv xs.length,⟨xs.length,by simp,bR _,h0⟩,?_⟩
 rintro i m ys τ H ⟨rfl,hi,pv⟩;obtain⟨hp,hq⟩:=hl i ys τ H pv;refine⟨hp,?_⟩
 by_cases aT:i < xs.length
 ·refine .inr ⟨⟨xs,xs[i],hq,by simp[aT]⟩,fun x H3 y3=>?_⟩
  obtain⟨e3,ex⟩:=y3;subst e3;exact hs i x ys τ _ (ex xs hq) pv
 ·have e:i=xs.length:=by omega
  subst e;exact .inl ⟨⟨xs,hq,aO _⟩,hd ys τ H pv⟩
theorem wK {g:TG} (Pv:Nat->List V->St->Hp->Prop) (h0:Pv 0 [] gB (upd H1 p (.lst []))) (hl:∀i ys τ H,Pv i ys τ H->H p=some (.lst ys)/\aJ K H a xs)
  (hs:∀i x ys τ H,xs[i]? = some x->Pv i ys τ H->g x τ H fun bS H4=>ti bS H4 fun b H5=>if b=true then te bS H5 fun y H6=>H6 p=some (.lst ys)/\ys.length < sizeLine /\ ∃m',m' < xs.length - i/\CW Pv xs.length (i+1) m' (ys ++ [y]) bS (upd H6 p (.lst (ys ++ [y]))) else ∃m',m' < xs.length - i/\CW Pv xs.length (i+1) m' ys bS H5)
  (hd:∀ys τ H,Pv xs.length ys τ H->Q (.ref p) H):jR (mY K a) g ti te gB Q p H1:=by
 refine⟨CW Pv xs.length,⟨xs.length,by simp,bR _,h0⟩,?_⟩
 rintro i m ys τ H ⟨rfl,hi,pv⟩;obtain⟨hp,hq⟩:=hl i ys τ H pv;refine⟨hp,?_⟩
 by_cases aT:i < xs.length
 ·refine .inr ⟨⟨xs,xs[i],hq,by simp[aT]⟩,fun x H3 y3=>?_⟩
  obtain⟨e3,ex⟩:=y3;subst e3;exact hs i x ys τ _ (ex xs hq) pv
 ·have e:i=xs.length:=by omega
  subst e;exact .inl ⟨⟨xs,hq,aO _⟩,hd ys τ H pv⟩
def Hh (N N':List Str) (b7:List (Option Nat)) (sc:Scope):Bool:=(List.range b7.length).all fun j=>match b7[j]? with
 |some (some i)=>(match N[i]? with|some x=>N'[j]? == some x && sc.names.lookup x==some .free|none=>false)
 |_=>true
theorem O9 (h:Hh N N' b7 sc=true) (j i:Nat) (e:b7[j]? = some (some i)):∃x,N[i]? = some x/\N'[j]? = some x/\sc.names.lookup x=some .free:=by
 have hj:j < b7.length:=(cz.mp e).1;have z:=j8.mp h j (kO.mpr hj);rw[e]at z
 dsimp only at z
 split at z
 ·rename_i x q
  obtain⟨z1,z2⟩:=l7.mp z;exact⟨x,q,jG.mp z1,jG.mp z2⟩
 ·cases z
structure Nm (x:Str):Prop where
 lo:1<=x.length
 hi:x.length<=8
 az:∀c∈x.cps.toList,97<=c/\c<=122
def sign (c:Nat):Str:=⟨#[c]⟩
theorem Mi:∀ (cs:List Nat) (acc:Array Nat),(cs.map sign).foldl (fun acc p=>acc++("" : Str).cps++p.cps) acc=acc++cs.toArray
 |[],acc=>by simp
 |c::cs,acc=>by
  rw[ck,List.foldl_cons,Mi cs];have e:("" : Str).cps = #[]:=rfl;rw[e]
  apply Ll.mp
  simp[sign]
theorem Xb (cs:List Nat):Txt.join ("" : Str) (cs.map sign)=⟨cs.toArray⟩:=by
 unfold Txt.join Builtin.Str.glued;cases cs with
 |nil=>rfl
 |cons c cs =>
  rw[ck];show(⟨(cs.map sign).foldl _ (sign c).cps⟩:Str)=_;rw[Mi]
  apply eJ Str.mk
  apply Ll.mp
  simp[sign]
theorem Xc {z:Str}{c:Nat} (h:c∈(Txt.slice z none (some 6)).cps.toList):c∈z.cps.toList:=by
 unfold Txt.slice at h;split at h
 ·exact h
 ·simp only[zv]at h
  obtain⟨i,_,e⟩:=h;obtain⟨_,e2⟩:=Lm.mp e;rw[<-e2];simp
theorem Mj (z:Str):(Txt.slice z none (some 6)).length<=6:=by
 have hi:(Builtin.Str.strSliceIndices none (some 6) 1 z.length).length<=6:=by
  unfold Builtin.Str.strSliceIndices sliceRange;simp only[show(1:Int) > 0 by decide,j7,aE,Dw]
  split <;> (try split) <;> omega
 unfold Txt.slice;split
 ·rename_i h
  have e:(Builtin.Str.strSliceIndices none (some 6) 1 z.length).length=z.length:=by simpa using h
  omega
 ·show(List.filterMap _ _).toArray.size<=6
  rw[cE];exact gW (List.length_filterMap_le _ _) hi
theorem xg (a b:Str):(a++b).cps=a.cps++b.cps:=rfl
theorem ZL {z:Str}{c:Nat} (hz:∀c∈z.cps.toList,97<=c/\c<=122) (hc:97<=c/\c<=122):Nm (Txt.slice z none (some 6)++sign c++("q" : Str)):=by
 have hq:("q" : Str).cps = #[113]:=by decide +kernel
 have hl:=Mj z;have e:(Txt.slice z none (some 6)++sign c++("q" : Str)).length=(Txt.slice z none (some 6)).length+2:=by
  show(_:Array Nat).size=_;rw[xg,xg,hq];show(_ ++ #[c] ++ #[113]).size=_;rw[Ln,Ln];rfl
 refine⟨by omega,by omega,fun d hd=>?_⟩
 rw[xg,xg,hq]at hd;have rV:d∈(Txt.slice z none (some 6)).cps.toList\/d=c\/d=113:=by
  have:d∈((Txt.slice z none (some 6)).cps ++ #[c] ++ #[113]).toList:=hd;simp at this;rcases this with h|h|h
  ·exact .inl (by simpa using h)
  ·exact .inr (.inl h)
  ·exact .inr (.inr h)
 rcases rV with h|h|h
 ·exact hz d (Xc h)
 ·rw[h];exact hc
 ·rw[h];omega
theorem Yw {p:Str}{c d:Nat} (h:p++sign c++("q" : Str)=p++sign d++("q" : Str)):c=d:=by
 have h1:=eJ (fun s:Str=>s.cps.toList) h;simp only[xg]at h1;have h2:p.cps.toList++([c]++("q" : Str).cps.toList)=p.cps.toList++([d]++("q" : Str).cps.toList):=by
  simpa [sign,Array.toList_append] using h1
 have h3:=List.append_cancel_left h2
 simpa using h3
theorem Fv:∀ {ys found:List Str},ys.Nodup->found.length < ys.length -> ∃y∈ys,y ∉ found
 |[],found,_,h=>by simp at h
 |y::ys,found,nd,h=>by
  obtain⟨n1,n2⟩:=iZ.mp nd
  by_cases hy:y∈found
  ·have hl:=Vy hy
   have hp:=Vz hy;obtain⟨z,hz,hn⟩:=Fv (found:=found.erase y) n2 (by rw[hl];rw[cO]at h;omega)
   refine⟨z,bO _ hz,fun q=>hn ?_⟩;have ne:z≠y:=fun e=>n1 (by rw[<-e];exact hz)
   exact(VA ne).mpr q
  ·exact⟨y,bu,hy⟩
theorem wW (K:Frag) (h:X.K=K):cN X (compareOp .In) (B' K false):=by subst h;exact zW
theorem Ml (K:Frag) (h:X.K=K):cN X (compareOp .NotIn) (B' K true):=by subst h;exact Wn
theorem gX (K:Frag) (h:X.K=K):uX X (nZ K):=by subst h;exact bE
theorem Ez (K:Frag) (h:X.K=K):uX X (Qa K):=by subst h;exact gb
theorem Eg {l:Expr} (K:Frag) (h:X.K=K) (hl:PE X l tl):PI X tg l (O5 K tl):=by subst h;exact iK hl
theorem Nk {l:Expr} (K:Frag) (h:X.K=K) (hl:PE X l tl):PI X tg l (PQ K tl):=by subst h;exact qV hl
theorem oV (x:Str) (ys:List Str):pR (.str x) (ys.map V.str)=decide (x∈ys):=by
 unfold pR;rw[Lo]
 induction ys with
 |nil=>simp
 |cons y ys ih =>
  rw[sU,ih];show((y==x) || decide (x∈ys))=decide (x∈y::ys)
  by_cases h:y=x
  ·subst h;simp
  ·have h':(y==x)=false:=lY.mpr h
   rw[h',VB];have:x∈y::ys ↔ x∈ys:=by simp[ba h]
   simp[this]
theorem mq (ys:List Str):(ys.map V.str).all ki=true:=by
 rw[j8];intro v hv;obtain⟨y,_,rfl⟩:=bT.mp hv
 rfl
def ly (H:Hp) (a:Addr):Hp:=fun b=>if b=a then none else H b
theorem tL (n:b≠a):ly H a b=H b:=by unfold ly;rw[ax n]
theorem Xd {o:HO} (e:ly H a b=some o):b≠a/\H b=some o:=by
 unfold ly at e;split at e
 ·cases e
 next n=>exact⟨n,e⟩
theorem Xe (e:H b=none):ly H a b=none:=by
 unfold ly;split
 ·rfl
 ·exact e
section
variable{dx:Option Addr}
theorem Inv.ZM (I:Inv X pins σ H s) (e:H a=some (lB C dx a)) (hd:∀d,dx=some d -> ∃fs,H d=some (rN d fs)):∃ox od t,InstAt s.heap a ox C od/\ox={ cls:= .ref C,dict:=dx,data:= .fields #[.ref t,.none,.none,.none,.bool false,.none] }:=by
 obtain⟨t,at_⟩:=I.excAt e;cases dx with
 |none=>exact⟨_,none,t,⟨at_,rfl,rfl,True.intro⟩,rfl⟩
 |some d =>
  obtain⟨fs,ed⟩:=hd d rfl;obtain⟨_,mA,n,r,_⟩:=I.EZ ed;obtain⟨od,gR,_⟩:=zV n;exact⟨_,some od,t,⟨at_,rfl,rfl,gR⟩,rfl⟩
theorem Inv.hidden (I:Inv X pins σ H s) (hx:X.ex = []) (hs:X.stack=X.env::X.outer) (hf:X.env.frame=some X.env.locals) (ha:H a=some (lB C dx a)) (h0:X.kj a=none)
  (k:(hideAll s.heap (a::fY X.stack)).StaysIn h') (up:s.heap.UpToSlots h'):Un X.fs [] X.kj (ly H a) X.ee.heap h'/\cL X.prog X.w (ly H a) h':=by
 have ub:Un X.fs [] X.kj H X.ee.heap s.heap:=by have:=I.base;rw[hx]at this;exact this
 have Qj:∀b,b∈fY X.stack->b=X.env.locals\/b∈X.fs:=fun b hb=>by
  have:=I.AD b hb;rcases bH.mp this with z|z
  ·exact .inl z
  ·exact .inr z
 have nA:∀ {b:Addr},H b=none->b≠a:=fun e z=>by subst z;rw[ha]at e;cases e
 have get:∀b o,s.heap.get? b=some o->b≠a->b ∉ fY X.stack->h'.get? b=some o:=fun b o e n m=>k b o (hideAll_get _ e fun z=>by
  rcases bH.mp z with z|z
  ·exact n z
  ·exact m z)
 have Qk:∀b o,X.ee.heap.get? b=some o->b≠X.env.locals:=fun b o e z=>by
  have h1:=bo e;have h2:=I.ok.above;subst z;exact absurd h1 (VC.mpr h2)
 have Pa:∀b o,b∈X.fs->s.heap.get? b=some o -> ∃sl,h'.get? b=some { o with slots:=sl }:=fun b o m e=>by
  obtain⟨_,o',e',nf⟩:=(I.iR).mem m;rw[e]at e';cases e'
  exact up b o e nf
 refine⟨⟨fun b o e n m _=>?_,fun b o e n m _=>?_,fun b o e n _=>Xe (ub.free b o e n (by simp)),fun b o e _=>?_,fun b xs e=>?_,fun b o u e=>?_,fun b ps e=>?_⟩,fun b o e=>?_⟩
 ·have e1:=ub.keep b o e n m (by simp)
  refine get b o e1 (nA (ub.free b o e n (by simp))) fun z=>?_
  rcases Qj b z with z|z
  ·exact Qk b o e z
  ·exact m z
 ·obtain⟨sl,e1⟩:=ub.slot b o e n m (by simp)
  obtain⟨IB,e2⟩:=Pa b _ m e1;exact⟨IB,e2⟩
 ·obtain⟨o',e1⟩:=ub.there b o e (by simp)
  by_cases m:b∈X.fs
  ·obtain⟨sl,e2⟩:=Pa b _ m e1
   exact⟨_,e2⟩
  ·refine⟨o',get b o' e1 (fun z=>?_) fun z=>?_⟩
   ·subst z
    have:=ub.free b o e h0 (by simp)
    rw[ha]at this;cases this
   ·rcases Qj b z with z|z
    ·exact Qk b o e z
    ·exact m z
 ·have e1:=ub.i8 b xs e
  rw[tL (aX e1 ha)];exact e1
 ·have e1:=ub.jr b o u e
  rw[tL (aX e1 ha)];exact e1
 ·obtain⟨mo,e1⟩:=ub.jT b ps e
  exact⟨mo,by rw[tL (aX e1 ha)];exact e1⟩
 ·obtain⟨n,e1⟩:=Xd e
  have Bg:∀ {c:Addr}{u:HO},H c=some u->c ∉ fY X.stack:=fun q m=>by
   have:=I.EV _ m;rw[q]at this;cases this
  refine(I.au b o e1).gy (fun c u hc q=>?_) (fun c q=>?_) fun c xs q=>?_
  ·rcases hc with rfl|q1
   ·exact get _ u q n (Bg e1)
   ·exact get c u q (aX q1 ha) (Bg q1)
  ·rw[tL (aX q ha)];exact q
  ·rw[tL (aX q ha)];exact q
end
def Cx.qY (X:Cx) (a:Addr):Cx:={ X with A:=X.A.mark (some (.ref a)),calm:=false,xe:=fun _ _=>False }
theorem Inv.qY (I:Inv X pins σ H s) (a:Addr):Inv (X.qY a) pins σ H s:=
 ⟨⟨I.ok.mod,I.ok.kind,I.ok.glob,I.ok.blt,I.ok.above,I.ok.inj,I.ok.has,I.ok.pM,(fun z=>Bool.noConfusion (show false=true from z)),I.ok.frames,I.ok.rT,I.ok.oj,I.ok.bs,I.ok.lG,I.ok.pC,I.ok.nY,I.ok.iR,I.ok.mU⟩,I.os,I.bare,I.base,I.loc,I.cell,I.free,I.gY,I.pin,I.au,I.len⟩
theorem Inv.uncaught {Y:Cx} (ok:X.Ok) (I:Inv (X.qY a) pins σ H s):Inv X pins σ H s:=
 ⟨ok,I.os,I.bare,I.base,I.loc,I.cell,I.free,I.gY,I.pin,I.au,I.len⟩
theorem Yx {its:Array Value} (tr:Nat->Bool) (hh:A.in1.handled=none) (bc:l≠it) (hl:g.IsList l its)
  (ht:∀i v,its[i]? = some v -> ∃a ws,v = .ref a/\a≠it/\IsTup g a ws/\ws.size<=sizeLine/\tr i = !ws.isEmpty):∀ (k i:Nat) (s:Shared),its.size - i=k->i<=its.size->(∀b o,b≠it->g.get? b=some o->s.heap.get? b=some o)->s.heap.IsListIter it l i ->
  (∀h' tk,(∀b o,b≠it->g.get? b=some o->h'.get? b=some o)->R (.ok (.ret (.bool (((List.range its.size).drop i).any tr)))) { s with heap:=h',toks:=tk }) ->
  codeAny (model P w) A (.builtin "any.loop" ⟨[.ref it],[]⟩) R s:=by
 intro k
 induction k with
 |zero =>
  intro i s hk hi kp hit hR;obtain rfl:i=its.size:=by omega
  refine j9 F.entry_any_loop (?_:wpAny _ _ _ _ _ _);rw[show A.under (.builtin "any.loop" ⟨[.ref it],[]⟩)=A.in1 from kU Lp _];show wpAny _ _ (pyNext (.ref it) >>= _) _ _ s;have yG:s.heap.IsList l its:=hl.at fun o e=>kp l o bc e;refine ae (Vg hh hit yG (by simp) fun h' ex=>ae (nH (ak ?_)))
  have:=hR h' s.toks fun b o n e=>ex b o n (kp b o n e);rw[amo (by simp)]at this
  exact this
 |succ k ih =>
  intro i s hk hi kp hit hR;have aT:i < its.size:=by omega
  have hd:(List.range its.size).drop i=i::(List.range its.size).drop (i+1):=by rw[zG (by simpa using aT),List.getElem_range]
  refine j9 F.entry_any_loop (?_:wpAny _ _ _ _ _ _);rw[show A.under (.builtin "any.loop" ⟨[.ref it],[]⟩)=A.in1 from kU Lp _];show wpAny _ _ (pyNext (.ref it) >>= _) _ _ s;have yG:s.heap.IsList l its:=hl.at fun o e=>kp l o bc e;have hx:its[i]? = some its[i]:=by simp[aT]
  obtain⟨a,ws,ea,na,adB,hz,htr⟩:=ht i _ hx;refine ae (Vf hit yG hx fun h' Bo sb=>?_);have lK:∀b o,b≠it->g.get? b=some o->h'.get? b=some o:=fun b o n e=>sb.extBut b o n (kp b o n e);have ab4:IsTup h' a ws:=by
   obtain⟨o,ho,r⟩:=adB;exact⟨o,lK a o na ho,r⟩
  rw[ea];refine ae (eR (truthy_tuple (s:={ s with heap:=h' }) ab4 (by rw[aQ]at hz;omega) (ae (wpAny_letGo ?_))))
  rw[<-htr];cases hb:tr i with
  |false =>
   refine ak ⟨l8 Lp _,ih (i+1) _ (by omega) aT lK Bo fun h2 IV k2=>?_⟩
   have:=hR h2 IV k2;rw[hd,sU,hb,VB]at this;exact this
  |true =>
   refine ae (nH (ak ?_));have:=hR h' (s.toks+1+1) lK;rw[hd,sU,hb,Bool.true_or]at this;exact this
theorem XI (hc:X.calm=true):d5 X (.builtin "any") (fun xs H Q=>∃ (p:Addr) (ys:List V) (rs:List (List V)),xs = [.ref p]/\aj X.K H p ys/\Paired (fun y r=>∃a,y=V.ref a/\aJ X.K H a r) ys rs/\Q (.bl (rs.any fun r=>!r.isEmpty)) H):=by
 intro pins s σ H xs us Q I r h;obtain⟨p,ys,rs,rfl,hq,pr,q⟩:=h;obtain⟨u,rfl,rx⟩:=vals1 r;cases rx
 obtain⟨its,rv,pl,hz⟩:=I.list hq;have hlen:=rv.length;have all:∀i v,its[i]? = some v -> ∃a ws,v = .ref a/\IsTup s.heap a ws/\ws.size<=sizeLine/\(rs.map fun r=>!r.isEmpty).getD i false = !ws.isEmpty:=by
  intro i v e;clear q hq pl hz r
  induction rv generalizing rs i with
  |nil=>simp at e
  |cons r1 rt ih =>
   cases pr with
   |cons p1 pt =>
    cases i with
    |zero =>
     simp at e;subst e;obtain⟨a,rfl,ha⟩:=p1;cases r1
     obtain⟨ws,r2,ht,RY⟩:=I.tuple ha;have gQ:=r2.length;exact⟨a,_,rfl,ht,by rw[cE];omega,by rw[DW r2];rfl⟩
    |succ i=>exact ih _ pt (by simpa using hlen) i (by simpa using e)
 have hsz:its.toArray.size=rs.length:=by rw[cE,<-hlen];exact gV pr
 have fin:(List.range its.toArray.size).any (fun i=>(rs.map fun r=>!r.isEmpty).getD i false)=rs.any fun r=>!r.isEmpty:=by
  rw[hsz]
  apply vT.mpr
  simp only[zH,kO]
  constructor
  ·rintro⟨i,hi,e⟩
   refine⟨rs[i],f9 hi,?_⟩
   simpa [List.getD,hi] using e
  ·rintro⟨r,hr,e⟩
   obtain⟨i,hi,rfl⟩:=Lq hr;exact⟨i,hi,by simpa [List.getD,hi] using e⟩
 refine call_function_tree F.kind_any F.plain_any F.entry_any (F.args_any1 (.ref p)) (?_:wpAny _ _ _ _ _ _);unfold Builtin.«any»;refine ae (m:=oneArg "any" _) (ak (ae (zy pl.isList ?_)));have new:∀b o,s.heap.get? b=some o->b≠s.heap.objs.size:=fun b o e=>bx (bo e);obtain⟨ol,pU,_⟩:=id pl.isList;refine ak ⟨l8 Lp _,Yx (g:=s.heap) (fun i=>(rs.map fun r=>!r.isEmpty).getD i false) (I.ok.hd hc) (new p ol pU) pl.isList (fun i v e=>?_) _ 0 _ rfl (bR _) (fun b o n e=>a8 _ e) ⟨_,cj _ rfl,rfl,rfl⟩ fun h' tk kp=>?_⟩
 ·obtain⟨a,ws,ea,ht,RY,e2⟩:=all i v (by simpa using e)
  obtain⟨o,ho,_⟩:=id ht;exact⟨a,ws,ea,new a o ho,ht,RY,e2⟩
 ·rw[Lr,fin]
  exact⟨.bl _,H,I.kept (t':=tk) fun b o e=>kp b o (new b o e) e,rfl,q⟩
theorem Eh (hc:X.calm=true):d5 X (.builtin "all") (fun xs H Q=>∃ (p:Addr) (bs:List Bool),xs = [.ref p]/\aj X.K H p (bs.map V.bl)/\Q (.bl (bs.all id)) H):=by
 intro pins s σ H xs us Q I r h;obtain⟨p,bs,rfl,hq,q⟩:=h;obtain⟨u,rfl,rx⟩:=vals1 r;cases rx
 obtain⟨its,rv,pl,hz⟩:=I.list hq;have hlen:=rv.length;have vals:its=bs.map Value.bool:=by
  clear q hq pl hz r hlen
  induction bs generalizing its with
  |nil=>cases rv;rfl
  |cons b bs ih =>
   cases rv with
   |cons r1 rt=>cases r1;rw[ih _ rt];rfl
 have new:∀b o,s.heap.get? b=some o->b≠s.heap.objs.size:=fun b o e=>bx (bo e);obtain⟨ol,pU,_⟩:=id pl.isList;refine call_all_walk (zy pl.isList ?_);refine⟨s.heap.objs.size,_,_,_,_,_,fun i=>bs.getD i true,rfl,Walks.list (A:=X.A.in1) (I.ok.hd hc) s.heap.objs.size p (new p ol pU) its.toArray,⟨⟨_,cj _ rfl,rfl,rfl⟩,pl.isList.at fun o e=>a8 _ e⟩,fun i v s2 Q2 E2 hv sr=>?_,fun h' tk kp=>?_⟩
 ·rw[vals]at hv
  have:bs[i]?.map Value.bool=some v:=by simpa using hv
  obtain⟨b,hb,rfl⟩:=kW.mp this;refine kR ?_;have e:bs.getD i true=b:=by rw[jI,hb];rfl
  exact e ▸ sr
 ·have fin:(List.range its.toArray.size).all (fun i=>bs.getD i true)=bs.all id:=by
   have hs:its.toArray.size=bs.length:=by rw[vals];simp
   rw[hs]
   apply vT.mpr
   simp only[j8,kO]
   constructor
   ·intro h b hb
    obtain⟨i,hi,rfl⟩:=Lq hb
    simpa [List.getD,hi] using h i hi
   ·intro h i hi
    simpa [List.getD,hi] using h bs[i] (f9 hi)
  rw[fin];exact⟨.bl _,H,I.kept (t':=tk) fun b o e=>kp b o (by simpa using new b o e) (a8 _ e),rfl,q⟩
def ZN:V->List V->Hp->VK->Prop:=fun x vs H Q=>∃ (l:Addr) (ys:List Str) (y:Str) (j:Nat),x = .ref l/\vs = [.str y]/\H l=some (.lst (ys.map V.str))/\ys[j]? = some y/\(∀m,m < j->ys[m]? ≠ some y)/\Q (.int j) H
theorem Yy:yx X "list.index" ZN:=by
 intro pins s σ H x vs v us Q I rx rv h;obtain⟨l,ys,y,j,rfl,rfl,hH,hj,iu,q⟩:=h;cases rx
 obtain⟨u,rfl,t,rfl⟩:=rv.one;obtain⟨z,its,n,r,hl,e⟩:=I.uF hH;have bX:j < its.length:=by
  have:=(cz.mp hj).1;rw[<-hl,aE];exact this
 have at_:∀m (hm:m < its.length),∃ (w:Str) (t':Tok),ys[m]? = some w/\its[m] = .str w t':=fun m hm=>by
  have je:m < ys.length:=by rw[<-hl,aE]at hm;exact hm
  obtain⟨u,hu,t',ht⟩:=r.get (i:=m) (x:= .str ys[m]) (by rw[eK,bC je];rfl)
  rw[bC hm]at hu;exact⟨ys[m],t',bC je,by rw[fc hu];exact ht⟩
 have fl:(ys.map V.str).all ki=true:=mq ys;refine sV F.slot_list_index ⟨_,e,rfl⟩ F.entry_list_index (F.args_list_index_2 _ _) (SeqAt.list_indexAt l its.toArray n none #[] (.str y t) (gm (.str y)) j (by simpa using bX) ?_ ?_ ?_) ⟨e,?_,?_⟩
 ·rw[aQ]at z;have:=hl;omega
 ·obtain⟨w,t',hw,ew⟩:=at_ j bX
  rw[hj]at hw;cases hw;show gm (.str y) (its.toArray[j])=true;rw[Ls,ew,AG (y:= .str y) ⟨t',rfl⟩ rfl];show decide _=true;exact cm rfl
 ·intro m hm IW
  have je:m < its.length:=by simpa using hm
  obtain⟨w,t',hw,ew⟩:=at_ m je;show gm (.str y) (its.toArray[m])=false;rw[Ls,ew,AG (y:= .str w) ⟨t',rfl⟩ rfl];have ne:=iu m IW;rw[hw]at ne;show decide _=false;exact dZ fun z=>ne (by rw[z])
 ·intro u hu
  exact qK (x:= .str y) ⟨t,rfl⟩ rfl r fl u (by simpa using hu)
 ·exact⟨.int j,H,I.tok _,⟨_,rfl⟩,q⟩
end L2
namespace L2
open PySem PySem.Spec PyProof.Rows
section
variable{κ:Type} [DecidableEq κ]
def bQ (kvs:List (κ×V)) (k:κ):Option V:=(kvs.find? fun kv=>decide (kv.1=k)).map (·.2)
def putK (kvs:List (κ×V)) (k:κ) (v:V):List (κ×V):=
 if (kvs.any fun kv=>decide (kv.1=k))=true then kvs.map (fun kv=>if kv.1=k then (kv.1,v) else kv) else kvs ++ [(k,v)]
def iP (kvs:List (κ×V)) (k:κ):List (κ×V):=kvs.filter fun kv=>decide (kv.1≠k)
theorem jM {p:κ×V}{r:List (κ×V)}{k:κ} (e:p.1=k):bQ (p::r) k=some p.2:=by simp[bQ,zI,e]
theorem i5 {p:κ×V}{r:List (κ×V)}{k:κ} (e : ¬ p.1=k):bQ (p::r) k=bQ r k:=by simp[bQ,zI,e]
theorem qM (k:κ):∀kvs:List (κ×V),(kvs.any fun kv=>decide (kv.1=k))=(bQ kvs k).isSome
 |[]=>rfl
 |p::r=>by
  rw[sU]
  by_cases e:p.1=k
  ·simp only[jM e,cm e,Bool.true_or,Option.isSome_some]
  ·rw[i5 e,dZ e,VB];exact qM k r
theorem Nl (k j:κ) (y:V):∀kvs:List (κ×V),bQ (kvs.map fun kv=>if kv.1=k then (kv.1,y) else kv) j=(bQ kvs j).map fun x=>if j=k then y else x
 |[]=>rfl
 |p::r=>by
  have ih:=Nl k j y r;rw[ck]
  by_cases h:p.1=k
  ·rw[aF h]
   by_cases e:p.1=j
   ·rw[jM (p:=(p.1,y)) e,jM e,Ds,aF (e.symm.trans h)]
   ·rw[i5 (p:=(p.1,y)) e,i5 e,ih]
  ·rw[ax h]
   by_cases e:p.1=j
   ·rw[jM (p:=p) e,jM e,Ds,ax (fun z=>h (e.trans z))]
   ·rw[i5 (p:=p) e,i5 e,ih]
theorem MO (k j:κ) (y:V):∀kvs:List (κ×V),bQ kvs k=none->bQ (kvs ++ [(k,y)]) j=if j=k then some y else bQ kvs j
 |[],_=>by
  by_cases e:k=j
  ·rw[aF e.symm];exact jM (p:=(k,y)) e
  ·rw[ax (fun z=>e z.symm)];exact i5 (p:=(k,y)) e
 |p::r,hn=>by
  rw[List.cons_append];have hk : ¬ p.1=k:=fun z=>by rw[jM z]at hn;cases hn
  rw[i5 hk]at hn;have ih:=MO k j y r hn
  by_cases e:p.1=j
  ·rw[jM e,jM e,ax (fun z=>hk (e.trans z))]
  ·rw[i5 e,i5 e,ih]
theorem qN (kvs:List (κ×V)) (k j:κ) (y:V):bQ (putK kvs k y) j=if j=k then some y else bQ kvs j:=by
 unfold putK
 by_cases a:(kvs.any fun kv=>decide (kv.1=k))=true
 ·rw[aF a,Nl]
  rw[qM]at a
  by_cases e:j=k
  ·obtain⟨x,hx⟩:=amg.mp a
   rw[aF e,e,hx,Ds,aF rfl]
  ·rw[ax e]
   cases bQ kvs j with
   |none=>rfl
   |some x=>rw[Ds,ax e]
 ·rw[ax a]
  refine MO k j y kvs ?_;rw[qM]at a;cases q:bQ kvs k with
  |none=>rfl
  |some x=>rw[q]at a;exact(a rfl).elim
theorem wj (kvs:List (κ×V)) (k:κ) (v:V):(putK kvs k v).length<=kvs.length+1:=by
 unfold putK;split
 ·rw[aE];omega
 ·rw[fu,cO,sX];omega
theorem EA {kvs:List (κ×V)}{k:κ} (v:V) (h:bQ kvs k=none):putK kvs k v=kvs ++ [(k,v)]:=by
 unfold putK;rw[qM,h];exact ax (by decide)
theorem g7.wu {o:Option V}{u:Option Value} (r:g7 o u):o.isSome=u.isSome:=by
 cases o with
 |none=>cases u with
  |none=>rfl
  |some _=>exact(show False from r).elim
 |some _=>cases u with
  |none=>exact(show False from r).elim
  |some _=>rfl
theorem KV.val {kvs:List (κ×V)}{vs:List (κ×Value)} (r:KV kvs vs) (k:κ):g7 (bQ kvs k) (valueAt vs k):=by
 unfold KV at r
 induction r with
 |nil=>exact True.intro
 |@cons p q ps qs h t ih =>
  obtain⟨h1,h2⟩:=h
  by_cases e:p.1=k
  ·have e':q.1=k:=h1.symm.trans e
   have b:valueAt (q::qs) k=some q.2:=by simp[valueAt,zI,e']
   rw[jM e,b];exact h2
  ·have e' : ¬ q.1=k:=fun z=>e (h1.trans z)
   have b:valueAt (q::qs) k=valueAt qs k:=by simp[valueAt,zI,e']
   rw[i5 e,b];exact ih
theorem KV.any {kvs:List (κ×V)}{vs:List (κ×Value)} (r:KV kvs vs) (k:κ):(kvs.any fun kv=>decide (kv.1=k))=vs.any fun kv=>decide (kv.1=k):=by
 unfold KV at r
 induction r with
 |nil=>rfl
 |cons h t ih=>rw[sU,sU,ih,h.1]
theorem KV.Hi {kvs:List (κ×V)}{vs:List (κ×Value)} (r:KV kvs vs) (k:κ) (ry:RelV y u) :
  KV (kvs.map fun kv=>if kv.1=k then (kv.1,y) else kv) (vs.map fun kv=>if kv.1=k then (kv.1,u) else kv):=by
 unfold KV at r ⊢
 induction r with
 |nil=>exact .nil
 |@cons p q ps qs h t ih =>
  rw[ck,ck];refine .cons ?_ ih;obtain⟨h1,h2⟩:=h
  by_cases e:p.1=k
  ·rw[aF e,aF (h1.symm.trans e)];exact⟨h1,ry⟩
  ·rw[ax e,ax (fun z=>e (h1.trans z))];exact⟨h1,h2⟩
theorem KV.put {kvs:List (κ×V)}{vs:List (κ×Value)} (r:KV kvs vs) (k:κ) (ry:RelV y u):KV (putK kvs k y) (stored vs k u):=by
 unfold putK stored;rw[r.any k]
 by_cases e:(vs.any fun kv=>decide (kv.1=k))=true
 ·rw[aF e,aF e];exact r.Hi k ry
 ·rw[ax e,ax e];exact oS r ⟨rfl,ry⟩
theorem KV.keys {kvs:List (κ×V)}{vs:List (κ×Value)} (r:KV kvs vs):kvs.map (·.1)=vs.map (·.1):=by
 unfold KV at r
 induction r with
 |nil=>rfl
 |cons h t ih=>rw[ck,ck,ih,h.1]
theorem KV.length {kvs:List (κ×V)}{vs:List (κ×Value)} (r:KV kvs vs):kvs.length=vs.length:=gV r
end
theorem um {k:Key} (r:RelV (kV k) u):(cp P w).is k u=true:=by
 cases k with
 |inl i=>obtain⟨t,e⟩:=(show ∃t,u=Value.int i t from r);subst e;exact WA P w i t
 |inr x=>obtain⟨t,e⟩:=(show ∃t,u=Value.str x t from r);subst e;exact WB P w x t
theorem MP {P:Program}{w:World}:∀ {ks:List Key}{us:List Value},Vals (ks.map kV) us->ItemsAre (cp P w) ks us
 |[],_,r=>by rw[List.map_nil]at r;cases r;exact .nil
 |k::ks,_,r=>by
  rw[ck]at r;cases r with
  |cons h t=>exact .cons (um h) (MP t)
abbrev KT (H:Hp):List (List Key×V)->List (List Key×Addr×Value)->Prop:=Paired fun p q=>p.1=q.1/\H q.2.1=some (.tup (p.1.map kV))/\RelV p.2 q.2.2
theorem KT.val {xs:List (List Key×Addr×Value)} (r:KT H kvs xs) (k:List Key):g7 (bQ kvs k) ((atKey xs k).map (·.2)):=by
 induction r with
 |nil=>exact True.intro
 |@cons p q ps qs h t ih =>
  obtain⟨h1,_,h2⟩:=h
  by_cases e:p.1=k
  ·have e':q.1=k:=h1.symm.trans e
   have b:atKey (q::qs) k=some q.2:=by simp[atKey,zI,e']
   rw[jM e,b];exact h2
  ·have e' : ¬ q.1=k:=fun z=>e (h1.trans z)
   have b:atKey (q::qs) k=atKey qs k:=by simp[atKey,zI,e']
   rw[i5 e,b];exact ih
theorem KT.Hi {xs:List (List Key×Addr×Value)} (r:KT H kvs xs) (k:List Key) (ry:RelV y u) :
  KT H (kvs.map fun kv=>if kv.1=k then (kv.1,y) else kv) (xs.map (putAt k u)):=by
 induction r with
 |nil=>exact .nil
 |@cons p q ps qs h t ih =>
  rw[ck,ck];refine .cons ?_ ih;obtain⟨h1,h2,h3⟩:=h;unfold putAt
  by_cases e:p.1=k
  ·rw[aF e,aF (h1.symm.trans e)];exact⟨h1,h2,ry⟩
  ·rw[ax e,ax (fun z=>e (h1.trans z))];exact⟨h1,h2,h3⟩
theorem KT.put {xs:List (List Key×Addr×Value)} (r:KT H kvs xs) (k:List Key) (hb:H b=some (.tup (k.map kV))) (ry:RelV y u) :
  KT H (putK kvs k y) (storedH xs k b u):=by
 have e:(kvs.any fun kv=>decide (kv.1=k))=(atKey xs k).isSome:=by
  rw[qM,(r.val k).wu,VD]
 unfold putK storedH;rw[e]
 by_cases q:(atKey xs k).isSome=true
 ·rw[aF q,aF q];exact r.Hi k ry
 ·rw[ax q,ax q];exact oS r ⟨rfl,hb,ry⟩
theorem KT.keeps {xs:List (List Key×Addr×Value)} (r:KT H kvs xs) (ht:∀b ys,H b=some (.tup ys)->H' b=some (.tup ys)):KT H' kvs xs:=
 Paired.Bf r fun _ _ z=>⟨z.1,ht _ _ z.2.1,z.2.2⟩
theorem Pb {u:HO} (ok:cL P w H h) (e:Rd H a u):bp P w H h a u:=e.ok ok
theorem rF {kvs:List (Key×V)} (ok:cL P w H h) (e:Rd H a (.dK kvs)):kvs.length<=sizeLine/\(a==sysModules)=false /\ ∃vs,KV kvs vs/\h.DictOf (cp P w) a vs:=
 show bp P w H h a (.dK kvs) from Pb ok e
theorem Pd {kvs:List (Key×V)} (ok:cL P w H h) (e:H a=some (.dK kvs)):kvs.length<=sizeLine/\(a==sysModules)=false /\ ∃vs,KV kvs vs/\h.DictOf (cp P w) a vs:=rF ok (.inl e)
theorem qZ {ks:List Key} (ok:cL P w H h) (e:H a=some (.tup (ks.map kV))):(tupleKind (cp P w)).is h ks a:=by
 obtain⟨_,its,r,o,h1,h2,n,h3,_⟩:=(show bp P w H h a (.tup (ks.map kV)) from ok a _ e);exact⟨o,its.toArray,n,h1,h2,h3,by simpa using MP r⟩
theorem xv (ok:cL P w H h) (e:Rd H a (.dT kvs)):kvs.length<=sizeLine/\(a==sysModules)=false /\
  ∃xs,KT H kvs xs/\h.DictOfH (tupleKind (cp P w)) a xs:=by
 obtain⟨z,y,xs,r,o,es,ep,h1,h2,h3,h4,h5⟩:=(show bp P w H h a (.dT kvs) from Pb ok e);refine⟨z,y,xs,r,o,es,ep,h1,h2,h3,h4,fun x hx=>?_,h5⟩;have all:∀ {l:List (List Key×V)}{m:List (List Key×Addr×Value)},KT H l m -> ∀x∈m,(tupleKind (cp P w)).is h x.1 x.2.1:=by
  intro l m q
  induction q with
  |nil=>intro x hx;exact nomatch hx
  |@cons p q ps qs hq t ih =>
   intro x hx;rcases bH.mp hx with e|hx
   ·subst e
    exact qZ ok (by rw[<-hq.1];exact hq.2.1)
   ·exact ih x hx
 exact all r x hx
theorem Pe (ok:cL P w H h) (e:H a=some (.dT kvs)):kvs.length<=sizeLine/\(a==sysModules)=false /\
  ∃xs,KT H kvs xs/\h.DictOfH (tupleKind (cp P w)) a xs:=xv ok (.inl e)
noncomputable def eM (H:Hp) (a:Addr) (y:V) (r:Option V):Prop:=
 (∃kvs k,Rd H a (.dK kvs)/\y=kV k/\r=bQ kvs k) \/ ∃kvs k b,Rd H a (.dT kvs)/\y = .ref b/\H b=some (.tup (k.map kV))/\r=bQ kvs k
noncomputable def kr (H:Hp) (a:Addr) (y v:V) (H':Hp):Prop:=
 (∃kvs k,H a=some (.dK kvs)/\y=kV k/\kvs.length < sizeLine/\H'=upd H a (.dK (putK kvs k v))) \/
 ∃kvs k b,H a=some (.dT kvs)/\y = .ref b/\H b=some (.tup (k.map kV))/\kvs.length < sizeLine/\H'=upd H a (.dT (putK kvs k v))
theorem eM.k {kvs:List (Key×V)}{k:Key} (e:H a=some (.dK kvs)):eM H a (kV k) (bQ kvs k):= .inl ⟨kvs,k,.inl e,rfl,rfl⟩
theorem eM.t {k:List Key} (e:H a=some (.dT kvs)) (eb:H b=some (.tup (k.map kV))):eM H a (.ref b) (bQ kvs k):= .inr ⟨kvs,k,b,.inl e,rfl,eb,rfl⟩
theorem kr.k {kvs:List (Key×V)}{k:Key} (e:H a=some (.dK kvs)) (hl:kvs.length < sizeLine):kr H a (kV k) v (upd H a (.dK (putK kvs k v))):= .inl ⟨kvs,k,e,rfl,hl,rfl⟩
theorem kr.t {k:List Key} (e:H a=some (.dT kvs)) (eb:H b=some (.tup (k.map kV))) (hl:kvs.length < sizeLine) :
  kr H a (.ref b) v (upd H a (.dT (putK kvs k v))):= .inr ⟨kvs,k,b,e,rfl,eb,hl,rfl⟩
section
variable{r:Value}{o:Option V}
theorem Inv.big (I:Inv X pins σ H s):sysModules < s.heap.objs.size:=by
 have h:mainGlobals < s.heap.objs.size:=(I.mod.glob.keeps I.bk).lt;exact nO (by decide) h
theorem XJ {Q:Value->Shared->Prop} (hu:A.units+1 < cLine) (I:Inv X pins σ H s) (g:eM H a y (some v)) (ry:RelV y u) (h:∀w' s',Inv X pins σ H s'->RelV v w'->Q w' s') :
  wpAny (model X.prog X.w) A (getItem (.ref a) u) Q E s:=by
 rcases g with⟨kvs,k,e,ey,l⟩|⟨kvs,k,b,e,ey,eb,l⟩
 ·subst ey
  obtain⟨z,hd,vs,rel,dd⟩:=rF I.au e;obtain⟨w',hw,gO⟩:=g7.some_of (v:=v) (o:=valueAt vs k) (by rw[l];exact rel.val k)
  exact wpAny_getItem_of (um ry) dd.mapOf hw (h w' _ (I.tok _) gO)
 ·subst ey
  cases (show u=Value.ref b from ry)
  obtain⟨z,hd,xs,rel,dd⟩:=xv I.au e;obtain⟨w',hw,gO⟩:=g7.some_of (v:=v) (o:=(atKey xs k).map (·.2)) (by rw[l];exact rel.val k)
  obtain⟨p,hp,kC⟩:=kW.mp hw;refine wpAny_getItem_heap (Lu hu) (qZ I.au eb) dd hp ?_;rw[kC];exact h w' _ (I.tok _) gO
theorem adC {Q:Value->Shared->Prop} (hu:A.units+1 < cLine) (I:Inv X pins σ H s) (g:eM H a y o) (ry:RelV y u) (h:∀s',Inv X pins σ H s'->Q (.bool o.isSome) s') :
  wpAny (model X.prog X.w) A (compareOp .In u (.ref a)) Q E s:=by
 rcases g with⟨kvs,k,e,ey,l⟩|⟨kvs,k,b,e,ey,eb,l⟩
 ·subst ey
  obtain⟨z,hd,vs,rel,dd⟩:=rF I.au e;refine wpAny_in_of (um ry) hd dd.mapOf ?_;rw[<-(rel.val k).wu,<-l];exact h _ (I.tok _)
 ·subst ey
  cases (show u=Value.ref b from ry)
  obtain⟨z,hd,xs,rel,dd⟩:=xv I.au e;refine wpAny_in_heap (Lu hu) (qZ I.au eb) hd dd ?_;have q:=(rel.val k).wu;rw[VD]at q;rw[<-q,<-l];exact h _ (I.tok _)
theorem ZO {Q:Value->Shared->Prop} (hu:A.units+1 < cLine) (I:Inv X pins σ H s) (g:eM H a y o) (ry:RelV y u) (h:∀s',Inv X pins σ H s'->Q (.bool (!o.isSome)) s') :
  wpAny (model X.prog X.w) A (compareOp .NotIn u (.ref a)) Q E s:=by
 rcases g with⟨kvs,k,e,ey,l⟩|⟨kvs,k,b,e,ey,eb,l⟩
 ·subst ey
  obtain⟨z,hd,vs,rel,dd⟩:=rF I.au e;refine wpAny_notIn_of (um ry) hd dd.mapOf ?_;rw[<-(rel.val k).wu,<-l];exact h _ (I.tok _)
 ·subst ey
  cases (show u=Value.ref b from ry)
  obtain⟨z,hd,xs,rel,dd⟩:=xv I.au e;refine wpAny_notIn_heap (Lu hu) (qZ I.au eb) hd dd ?_;have q:=(rel.val k).wu;rw[VD]at q;rw[<-q,<-l];exact h _ (I.tok _)
theorem An {ob:HO} (I:Inv X pins σ H s) (mu:yg (H a)) (hs:Heap.SameBut a s.heap h') (he:∃q,h'.get? a=some q) (new:bp X.prog X.w (upd H a ob) h' a ob) :
  Inv X pins σ (upd H a ob) { s with heap:=h',toks:=t' }:=
 I.write (x:=a) (e:=a) mu (.inl rfl) (fun b q hb z=>(hs.2 b hb).trans z) he new
theorem OP {kvs:List (Key×V)}{vs:List (Key×Value)} (z:kvs.length<=sizeLine) (hd:(a==sysModules)=false) (rel:KV kvs vs) (dd:h'.DictOf (cp P w) a vs) :
  bp P w H' h' a (.dK kvs):=⟨z,hd,vs,rel,dd⟩
theorem XM {Q:Unit->Shared->Prop} (hu:A.units+1 < cLine) (I:Inv X pins σ H s) (g:kr H a y v H') (ry:RelV y u) (rv:RelV v r) (h:∀s',Inv X pins σ H' s'->Q () s') :
  wpAny (model X.prog X.w) A (setItem (.ref a) u r) Q E s:=by
 rcases g with⟨kvs,k,e,ey,l,eH⟩|⟨kvs,k,b,e,ey,eb,l,eH⟩
 ·subst ey eH
  obtain⟨z,hd,vs,rel,dd⟩:=Pd I.au e;have hz:vs.length<=sizeLine:=by rw[<-rel.length];exact z
  have hl:(putK kvs k v).length<=sizeLine:=by have:=wj kvs k v;omega
  refine wpAny_setItem_pairs (hsz:=hz) (um ry) dd fun h' iU hs=>h _ ?_;have he:∃q,h'.get? a=some q:=let ⟨q,_,_,hq,_⟩:=iU;⟨q,hq⟩;exact An I (by rw[e];exact True.intro) hs he (OP hl hd (rel.put k rv) iU)
 ·subst ey eH
  cases (show u=Value.ref b from ry)
  obtain⟨z,hd,xs,rel,dd⟩:=Pe I.au e;have hz:xs.length<=sizeLine:=by rw[<-gV rel];exact z
  have hl:(putK kvs k v).length<=sizeLine:=by have:=wj kvs k v;omega
  refine wpAny_setItem_heap (hsz:=hz) (Lu hu) (qZ I.au eb) dd fun h' iU hs=>h _ ?_;obtain⟨q,es,ep,hq,h2,h3,h4,_,h5⟩:=iU;refine An I (by rw[e];exact True.intro) hs ⟨q,hq⟩ ⟨hl,hd,_,(rel.put k eb rv).keeps fun c ys ec=>?_,q,es,ep,hq,h2,h3,h4,h5⟩
  rw[ah (aX ec e (fun z=>nomatch z))];exact ec
end
section
variable{kvs:List (Key×V)}{k:Key}
theorem ab5 {Q:Value->Shared->Prop} (I:Inv X pins σ H s) (e:Rd H a (.dK kvs)) (h:∀t s',Inv X pins σ H s'->Q (.int kvs.length t) s'):wpAny (model X.prog X.w) A (call (.builtin "len") [.ref a]) Q E s:=by
 obtain⟨z,hd,vs,rel,dd⟩:=rF I.au e;refine call_len_dict hd dd (by rw[<-rel.length];rw[aQ]at z;omega) ?_
 rw[<-rel.length];exact h _ _ (I.tok _)
end
noncomputable def Ql (i:Expr):Prop:= ∀ov iv,subscripted i false ov iv=operate [ov,iv] (getItem ov iv)
theorem ZP {slice:Expr}{id:String}{Q:Value->Shared->Prop}
  (hl:typeLookup (.type T) "__getitem__" = pure (some (.builtin id))) (hs:Ql slice)
  (h:wpAny (model prog w) A (eval value env) (fun o bq=>wpAny (model prog w) A (eval slice env) (fun i lz=>lz.TypeIs o T/\wpAny (model prog w) A (getItem o i) Q E lz) E bq) E s) :
  wpAny (model prog w) A (eval (.Subscript value slice pos) env) Q E s:=by
 refine Subscript_ (lZ h (fun o bq mO=>lZ mO (fun i lz n5=>?_) fun _ _ x=>x) fun _ _ x=>x);obtain⟨hT,n5⟩:=n5;unfold subscriptTail;refine ae ?_;rw[getitemInPython_of_ne hT.not_modules];refine ae (wpAny_specialOf hT hl ?_);have fin:wpAny (model prog w) A (subscripted slice false o i) (fun r Qm=>wpAny (model prog w) A (letTemporaryGo value o r >>= fun _=>pure r) Q E Qm) E lz:=by
  rw[hs o i];exact wpAny_operating (lZ n5 (fun r Qm xR=>ae (wpAny_letTemporaryGo (ak xR))) fun _ _ x=>x)
 first
  |exact ak (ae fin)
  |exact ae (ak (ae fin))
  |exact ae fin
theorem WE {o:Option V} (I:Inv X pins σ H s) (g:eM H a y o):s.TypeIs (.ref a) "dict" :=by
 rcases g with⟨kvs,k,e,_,_⟩|⟨kvs,k,b,e,_,_,_⟩
 ·obtain⟨_,_,vs,_,dd⟩:=rF I.au e
  exact dd.typeIs
 ·obtain⟨_,_,xs,_,dd⟩:=xv I.au e
  exact dd.typeIs
noncomputable def F6 (td ty:TE):TE:=fun σ H Q=>td σ H fun x H1=>ty σ H1 fun y H2=>∃a v,x = .ref a/\eM H2 a y (some v)/\Q v H2
noncomputable def Qn (ty td:TE):TE:=fun σ H Q=>ty σ H fun y H1=>td σ H1 fun x H2=>∃a o,x = .ref a/\eM H2 a y o/\Q (.bl o.isSome) H2
noncomputable def ZQ (ty td:TE):TE:=fun σ H Q=>ty σ H fun y H1=>td σ H1 fun x H2=>∃a o,x = .ref a/\eM H2 a y o/\Q (.bl (!o.isSome)) H2
noncomputable def ab6 (td ty tv:TE):TS:=fun D σ H=>tv σ H fun v H1=>td σ H1 fun x H2=>ty σ H2 fun y H3=>∃a H4,x = .ref a/\kr H3 a y v H4/\D.nx σ H4
section
variable{o i:Expr}{PY:Pos}{td ty:TE}
theorem jl (hu:X.A.units+1 < cLine) (ho:PE X o td) (hi:PE X i ty) (hs:Ql i:=by exact fun _ _=>rfl):PE X (.Subscript o i pos) (F6 td ty):=by
 intro pins s σ H Q I h;refine ZP PySem.F.slot_dict_getitem.lookup hs (aD (ho pins s σ H _ I h) fun u s1 ⟨x,H1,I1,rx,q1⟩=>aD (hi pins s1 σ H1 _ I1 q1) fun iv s2 hQ9=>?_);obtain⟨y,H2,I2,ry,a,v,ex,g,q2⟩:=hQ9;subst ex;obtain rfl:u=Value.ref a:=rx;exact⟨WE I2 g,XJ hu I2 g ry fun w' s3 I3 gO=>⟨v,H2,I3,gO,q2⟩⟩
theorem xh (hu:X.A.units+1 < cLine) (hi:PE X i ty) (ho:PE X o td):PC X .In i o (Qn ty td):=by
 intro pins s σ H Q I h;refine aD (hi pins s σ H _ I h) fun iv s1 ⟨y,H1,I1,ry,q1⟩=>aD (ho pins s1 σ H1 _ I1 q1) fun u s2 hQ9=>?_;obtain⟨x,H2,I2,rx,a,ov,ex,g,q2⟩:=hQ9;subst ex;obtain rfl:u=Value.ref a:=rx;exact adC hu I2 g ry fun s3 I3=>⟨.bl ov.isSome,H2,I3,rfl,q2⟩
theorem Ei (hu:X.A.units+1 < cLine) (hi:PE X i ty) (ho:PE X o td):PC X .NotIn i o (ZQ ty td):=by
 intro pins s σ H Q I h;refine aD (hi pins s σ H _ I h) fun iv s1 ⟨y,H1,I1,ry,q1⟩=>aD (ho pins s1 σ H1 _ I1 q1) fun u s2 hQ9=>?_;obtain⟨x,H2,I2,rx,a,ov,ex,g,q2⟩:=hQ9;subst ex;obtain rfl:u=Value.ref a:=rx;exact ZO hu I2 g ry fun s3 I3=>⟨.bl (!ov.isSome),H2,I3,rfl,q2⟩
theorem tR (hu:X.A.units+1 < cLine) (ho:PE X o td) (hi:PE X i ty) (hv:PE X value tv) (hs:swapsWith value (some (.Subscript o i pos')) pos.line X.env=pure false) :
  PS X (.Assign [.Subscript o i pos'] value pos) (ab6 td ty tv):=by
 intro pins s σ H D I h;refine wpAny_Assign_Subscript (aD (hv pins s σ H _ I h) fun r s1 ⟨v,H1,I1,rv,q1⟩=>aD (ho pins s1 σ H1 _ I1 q1) fun u s2 ⟨x,H2,I2,rx,q2⟩=>aD (hi pins s2 σ H2 _ I2 q2) fun iv s3 hQ9=>?_) hs;obtain⟨y,H3,I3,ry,a,H4,ex,g,q3⟩:=hQ9;subst ex;obtain rfl:u=Value.ref a:=rx;exact XM hu I3 g ry rv fun s4 I4=>⟨σ,H4,I4,q3⟩
end
theorem Yz (h:Heap) (hb:sysModules < h.objs.size):bp P w H (h.push { cls:= .type "dict",data:= .dict #[] }) h.objs.size (.dK []):=
 ⟨bR _,lY.mpr (ba (bx hb)),[],.nil,Heap.DictOf.new h⟩
theorem Nn (h:Heap) (hb:sysModules < h.objs.size):bp P w H (h.push { cls:= .type "dict",data:= .dict #[] }) h.objs.size (.dT []):=
 ⟨bR _,lY.mpr (ba (bx hb)),[],.nil,_,#[],0,cj _ rfl,⟨rfl,rfl,rfl⟩,rfl,rfl,qC⟩
noncomputable def aaX:TE:=fun _ H Q=>∀p,H p=none->Q (.ref p) (upd H p (.dK []))
noncomputable def aaY:TE:=fun _ H Q=>∀p,H p=none->Q (.ref p) (upd H p (.dT []))
theorem EB:PE X (.Dict [] [] pos) aaX:=fun pins s σ H Q I h =>
 wpAny_Dict_empty ⟨.ref s.heap.objs.size,_,I.laid (a:=s.heap.objs.size) (o:= .dK []) (t':=s.toks) (fun _ _ q=>a8 _ q) (aO _) (Yz s.heap I.big),rfl,h _ (I.au.fresh (aO _))⟩
theorem Np:PE X (.Dict [] [] pos) aaY:=fun pins s σ H Q I h =>
 wpAny_Dict_empty ⟨.ref s.heap.objs.size,_,I.laid (a:=s.heap.objs.size) (o:= .dT []) (t':=s.toks) (fun _ _ q=>a8 _ q) (aO _) (Nn s.heap I.big),rfl,h _ (I.au.fresh (aO _))⟩
end L2
namespace HT
open PySem PyProof.Rows
theorem V7 {t sl:Addr}{lo:Option Int}{Q:Value->Shared->Prop} (ht:IsTup s.heap t items) (hs:s.heap.IsSliceOf sl vl vu .none) (pl:IsPart vl lo) (pu:IsPart vu hi)
  (h0:bj items.size 0 lo=0) (h1:bj items.size items.size hi=items.size) (h:Q (.ref t) s):wpAny (model prog w) A (getItem (.ref t) (.ref sl)) Q E s:=by
 obtain⟨os,sg,B9,yu⟩:=id hs;have IG:s.TypeIs (.ref sl) "slice" :=⟨os,sg,B9⟩;unfold getItem
 try with_reducible refine eR ?_
 first|refine ae (ak ?_)|skip
 refine ae (wpAny_sequenceKey ht.typeIs (by decide) ?_)
 refine ae (vX (name:=Str.ofString "__getitem__") ht.typeIs zC
  (ji zC ht.typeIs entry_tuple_getitem ?_ (args_tuple_getitem _ _)))
 show wpAny _ _ (Builtin.Tuple.tupleItemsOf (.ref t) >>= _) _ _ s;refine ae (tupleItemsOf_ ht ?_);refine ae (nL IG ?_);rw[aF (by decide)]
 refine ae (LW hs pl pu ?_);rw[h0,h1];have adD:((((0:Nat):Int)==0 && (1:Int)==1 && (items.size - 0)==items.size)=true):=by simp
 show wpAny _ _ (if ((((0:Nat):Int)==0 && (1:Int)==1 && (items.size - 0)==items.size)=true) then _ else _) _ _ s;rw[aF adD];refine ae (ae (nL ht.typeIs (ak ?_)));rw[aF (by decide)]
 exact ae (nH (ak ⟨_,rfl,ak h⟩))
theorem YA {t:Addr}{ws:List Value}{Q:Value->Shared->Prop} (ht:IsTup s.heap t ([]:List Value).toArray) (hb:IsTup s.heap b ws.toArray) (h:Q (.ref b) s):wpAny (model prog w) A (binaryOp .Add (.ref t) (.ref b)) Q E s:=by
 obtain⟨⟨cls,dd,data,sl⟩,ho,hc,n,hd⟩:=id ht;obtain⟨⟨PZ,BZ,data2,B5⟩,j5,cU,n2,hd2⟩:=id hb;obtain rfl:cls = .type "tuple" :=hc;obtain rfl:data = .seq #[] n:=hd;obtain rfl:PZ = .type "tuple" :=cU;obtain rfl:data2 = .seq ws.toArray n2:=hd2;exact concat_meets ⟨_,ho,rfl⟩ ⟨_,j5,rfl⟩ Vo Vp Vq Vr (Vs _ _) (tuple_addW0 t b #[] ws.toArray n n2 dd BZ sl B5 rfl) ⟨ho,j5,h⟩
end HT
namespace L2
open PySem PySem.Spec PyProof.Rows PySem.W
theorem Nq {o:HO} (hq:H q=none):aq H (upd H q o):=fun b u e=>by rw[ah (aA e hq)];exact e
def adE:V->Option Int->Option Int->Hp->VK->Prop:=fun x lo hi H Q=>∃a xs,x = .ref a/\H a=some (.tup xs) /\ ∀p H',aq H H'->H' p=some (.tup (gg xs lo hi))->Q (.ref p) H'
theorem N8:uW X adE:=by
 intro pins s σ H x v vl vu lo hi sl Q I rx hs pl pu h;obtain⟨a,xs,rfl,hx,q⟩:=h
 by_cases hw:HT.bj xs.length 0 lo=0/\HT.bj xs.length xs.length hi=xs.length
 ·cases rx
  obtain⟨its,r,ht,hz⟩:=I.tuple (aJ.of hx);have hlen:its.toArray.size=xs.length:=by rw[cE];exact r.length.symm
  refine⟨"tuple",_,zC.lookup,ht.typeIs,HT.V7 ht hs pl pu (by rw[hlen];exact hw.1) (by rw[hlen];exact hw.2) ?_⟩
  refine⟨.ref a,H,I,rfl,q a H (aq.refl _) ?_⟩;unfold gg;rw[hw.1,hw.2,Lr,VE,cQ];exact hx
 ·exact aaO pins s σ H (.ref a) v vl vu lo hi sl Q I rx hs pl pu ⟨a,xs,rfl,aJ.of hx,hw,fun p hp=>q p _ (Nq hp) ag⟩
noncomputable def ab7:R2:=fun x y H Q=>∃a b xs ys,x = .ref a/\y = .ref b/\H a=some (.tup xs)/\H b=some (.tup ys)/\xs.length+ys.length<=sizeLine /\ ∀p H',aq H H'->H' p=some (.tup (xs++ys))->Q (.ref p) H'
theorem E1:cN X (binaryOp .Add) ab7:=by
 intro pins s σ H x y v u Q I rx ry h;obtain⟨a,b,xs,ys,rfl,rfl,ha,hb,hz,q⟩:=h;cases xs with
 |nil =>
  cases rx
  cases ry
  obtain⟨its,r1,p1,_⟩:=I.tuple (aJ.of ha);obtain⟨Bm,r2,p2,_⟩:=I.tuple (aJ.of hb);cases r1
  exact HT.YA p1 p2 ⟨.ref b,H,I,rfl,q b H (aq.refl _) hb⟩
 |cons z xs=>exact ZD pins s σ H (.ref a) (.ref b) v u Q I rx ry ⟨a,b,_,ys,rfl,rfl,aJ.of ha,aJ.of hb,by simp,hz,fun e=>q a H (aq.refl _) (by rw[e,kS];exact ha),fun _ p hp=>q p _ (Nq hp) ag⟩
theorem N9 {k:Key} (h:(cp P w).is k u=true):RelV (kV k) u:=by
 cases k with
 |inl i=>exact Value.isInt_shape (show Value.isInt i u=true from h)
 |inr x=>exact U' (show Value.isStrOf x u=true from h)
theorem Oa:∀ {xs:List V}{us:List Value},xs.length=us.length->(∀ (i:Nat) x u,xs[i]? = some x->us[i]? = some u->RelV x u)->Vals xs us
 |[],[],_,_=>.nil
 |[],_::_,h,_=>by simp at h
 |_::_,[],h,_=>by simp at h
 |x::xs,u::us,h,f=>.cons (f 0 x u rfl rfl) (Oa (by simpa using h) fun i y v a b=>f (i+1) y v (by simpa using a) (by simpa using b))
theorem DX (hc:X.calm=true):d5 X (.type "list") (fun xs H Q=>∃d kvs,xs = [.ref d]/\H d=some (.dK kvs) /\ ∀l,H l=none->Q (.ref l) (upd H l (.lst (kvs.map fun kv=>kV kv.1)))):=by
 intro pins s σ H xs us Q I r h;obtain⟨d,kvs,rfl,hd,q⟩:=h;obtain⟨u,rfl,rx⟩:=vals1 r;cases rx
 obtain⟨hz,lo,vs,kv,dd⟩:=Pd I.au hd;obtain⟨ep,da⟩:=dd.dictAt;have hlen:kvs.length=vs.length:=kv.length;refine kdl_call (kdl_dict (kvs:=vs) (ep:=ep) lo) (I.ok.hd hc) da (by rw[<-hlen];exact hz) fun h' tk acc c kp e it=>?_
 refine⟨.ref s.heap.objs.size,_,I.laid (t':=tk) kp (aO _) (show bp X.prog X.w _ h' _ (.lst (kvs.map fun kv=>kV kv.1)) from⟨by rw[aE];exact hz,acc.toList,c,?_,by rw[Array.toArray_toList];exact e⟩),rfl,q _ (I.au.fresh (aO _))⟩
 refine Oa (by rw[aE,f7];exact hlen.trans it.1.symm) fun i x v hx hv=>?_
 obtain⟨k,y,hk,hi⟩:=it.2 i v (by rw[<-zE];exact hv)
 obtain⟨IX,dc,rfl⟩:=kW.mp (by rw[<-eK];exact hx)
 have e:IX.1=k:=by
  clear it hx hv hlen da dd q hz hd
  induction kv generalizing i with
  |nil=>simp at dc
  |cons p _ ih =>
   cases i with
   |zero =>
    simp at dc hk;subst dc;rw[p.1,hk]
   |succ i=>exact ih i (by simpa using hk) (by simpa using dc)
 rw[e];exact N9 hi
end L2
namespace HT
open PySem PyProof.Rows
section
open PySem.SeqAt
open PySem.AutoSeq1 (wpAny_loadPart')
open PySem.MeetsSeq PySem.MeetsSeq2 PySem.MeetsSeq3
end
end HT
namespace L2
open PySem PySem.Spec PyProof.Rows PySem.W HT
theorem tT {α β:Type}{F:α->β->Prop}:∀ {l:List α}{m:List β}{i:Nat}{x:α},Paired F l m->l[i]? = some x -> ∃y,m[i]? = some y/\F x y
 |_,_,i,x,.nil,e=>by simp at e
 |_,_,0,x,.cons p _,e=>by simp at e;subst e;exact⟨_,rfl,p⟩
 |_,_,i+1,x,.cons _ t,e=>by simpa using tT (i:=i) t (by simpa using e)
end L2
namespace HT
open PySem PyProof.Rows
open PySem.AutoSeq1 (wpAny_loadPart')
end HT
namespace L2
open PySem PySem.Spec PyProof.Rows PySem.W HT
end L2
namespace HT
open PySem PyProof.Rows
end HT
namespace HT
open PySem PyProof.Rows PySem.W
end HT
namespace HT
open PySem PyProof.Rows PySem.W L2
theorem oU:plainId "dict.update.loop" = true:=by decide +kernel
theorem zZ:entryFor table "dict.update.loop" = some Builtin.«dict.update.loop» :=entryFor_of_fast (by kernel_rfl)
theorem stored_new {K:Type} [DecidableEq K] {kvs:List (K×Value)}{k:K}{v:Value} (h:k ∉ kvs.map (·.1)):stored kvs k v=kvs ++ [(k,v)]:=by
 unfold stored;rw[ax];intro z;obtain⟨p,hp,e⟩:=zH.mp z;exact h (bT.mpr ⟨p,hp,by simpa using e⟩)
end HT
namespace HT
open PySem PyProof.Rows
section
open PySem.SeqAt
open PySem.AutoSeq1 (wpAny_loadPart')
open PySem.MeetsSeq PySem.MeetsSeq2 PySem.MeetsSeq3
end
end HT
namespace L2
open PySem PySem.Spec PyProof.Rows PySem.W HT
theorem dH {uZ:Scope} (h:(sc.names.map (·.1)).Nodup/\N'.Nodup/\Hh N N' b7 sc=true /\ ∀p∈sc.names,p.2 = .free->uZ.names.lookup p.1=some .cell\/uZ.names.lookup p.1=some .free:=by decide +kernel) (a:sc.kind = .function:=by rfl) (b:b7.length=N'.length:=by rfl):b8 N uZ N' b7 sc:=⟨a,h.1,h.2.1,b,O9 h.2.2.1,h.2.2.2⟩
theorem b6 {P:List Str} (h:N.Nodup/\(∀x∈P,sc.names.lookup x=some .local\/sc.names.lookup x=some .cell) /\ ∀y∈sc.names,y.2 ≠ .free:=by decide +kernel) (a:sc.kind = .function:=by rfl) (b:sc.isCoroutine=false:=by rfl) (c:sc.isGenerator=false:=by rfl) (d:N.take P.length=P:=by rfl):bK N P sc:=⟨a,b,c,h.1,d,h.2.1,h.2.2⟩
theorem t6 {xs:List Str} (h:(xs.map V.str)[i]? = some v):i < (xs.map V.str).length /\ ∃hl:i < xs.length,V.str xs[i]=v/\xs.take (i+1)=xs.take i ++ [xs[i]]:=by
 have h1:=(cz.mp h).1;have h2:i < xs.length:=by simpa using h1
 exact⟨h1,h2,by simpa [h2] using h,by rw[dg,bC h2];rfl⟩
theorem iS {n:Nat} (h:n+64 < cLine):n+1 < cLine:=by omega
theorem oz:3<=sizeLine:=by rw[aQ];decide
theorem cH:2<=sizeLine:=Nat.le_of_succ_le oz
theorem hW:1<=sizeLine:=Nat.le_of_succ_le cH
end L2
namespace L2
open PySem PySem.W
structure bh (P:Program) (w:World) (K:Frag) (mg:Str->Option Value) (base:Heap) (CX:j3) (k:Nat) (f:Addr) (fd:FuncData) (ps:List Str) (sp:Sp) (x:Str):Prop where
 G:a9 P w K mg base CX k f fd ps sp
 k:keepIn K (.ref f)=true
 b:Binds K fd ps []
 m:mg x=some (.ref f)
section
variable{k:Nat}{p:Pos}{t:TA}
theorem aU (C:bh X.prog X.w X.K X.mg X.base aK k f fd ps sp x) (hr:aV k X.A) (ha:PA X (e::es) t) (hg:Gl X x:=by rfl) (gj:(x==("__debug__" : Str))=false:=by decide) (he:starEach (e::es) X.env=(false,eval e X.env)::starEach es X.env:=by rfl) (cP:(backTo pos (starEach es X.env)).any (·.1)=false:=by rfl):PE X (.Call (.Name x p) (e::es) [] pos) (F0 sp [] E0 t):=k7 C.G hr hg C.m C.k C.b .nil jo ha gj he cP
end
end L2
namespace L2
open PySem PySem.Spec PyProof.Rows PySem.W HT
theorem YB {h0:ExceptHandler}{hs:List ExceptHandler}{t:TS} (h:eY X body t) (hx:X.xe=fun _ _=>False):PS X (.Try body (h0::hs) [] [] pos) t:=by
 intro pins s σ H D I hw;have nr:∀ {α:Type}{tt:Sem α}{Q:α->Shared->Prop}{E:Value->Shared->Prop}{s':Shared},wpAny (model X.prog X.w) X.A tt Q X.xe s'->wpAny (model X.prog X.w) X.A tt Q E s':=fun z=>by rw[hx]at z;exact Lh z
 refine wpAny_Try_except (aD (nr (h pins s σ H D I hw)) fun f s1 z=>?_);cases f with
 |next=>exact zw z
 |brk=>exact z
 |cont=>exact z
 |ret u=>exact z
theorem z5 (hc:X.calm=true):d5 X (.builtin "any") (fun xs H Q=>∃ (p:Addr) (bs:List Bool),xs = [.ref p]/\aj X.K H p (bs.map V.bl)/\Q (.bl (bs.any id)) H):=by
 intro pins s σ H xs us Q I r h;obtain⟨p,bs,rfl,hq,q⟩:=h;obtain⟨u,rfl,rx⟩:=vals1 r;cases rx
 obtain⟨its,rv,pl,hz⟩:=I.list hq;have hlen:=rv.length;have vals:its=bs.map Value.bool:=by
  clear q hq pl hz r hlen
  induction bs generalizing its with
  |nil=>cases rv;rfl
  |cons b bs ih =>
   cases rv with
   |cons r1 rt=>cases r1;rw[ih _ rt];rfl
 have new:∀b o,s.heap.get? b=some o->b≠s.heap.objs.size:=fun b o e=>bx (bo e);obtain⟨ol,pU,_⟩:=id pl.isList;refine call_any_walk (zy pl.isList ?_);refine⟨s.heap.objs.size,_,_,_,_,_,fun i=>bs.getD i false,rfl,Walks.list (A:=X.A.in1) (I.ok.hd hc) s.heap.objs.size p (new p ol pU) its.toArray,⟨⟨_,cj _ rfl,rfl,rfl⟩,pl.isList.at fun o e=>a8 _ e⟩,fun i v s2 Q2 E2 hv sr=>?_,fun h' tk kp=>?_⟩
 ·rw[vals]at hv
  have:bs[i]?.map Value.bool=some v:=by simpa using hv
  obtain⟨b,hb,rfl⟩:=kW.mp this;refine kR ?_;have e:bs.getD i false=b:=by rw[jI,hb];rfl
  exact e ▸ sr
 ·have fin:(List.range its.toArray.size).any (fun i=>bs.getD i false)=bs.any id:=by
   have hs:its.toArray.size=bs.length:=by rw[vals];simp
   rw[hs]
   apply vT.mpr
   simp only[zH,kO]
   constructor
   ·rintro⟨i,hi,e⟩
    exact⟨bs[i],f9 hi,by simpa [List.getD,hi] using e⟩
   ·rintro⟨b,hb,e⟩
    obtain⟨i,hi,rfl⟩:=Lq hb;exact⟨i,hi,by simpa [List.getD,hi] using e⟩
  rw[fin];exact⟨.bl _,H,I.kept (t':=tk) fun b o e=>kp b o (by simpa using new b o e) (a8 _ e),rfl,q⟩
def IY (x:Str):It:=⟨fun i _=>i < x.cps.size,fun i H v H'=>H'=H /\ ∃c,x.cps[i]? = some c/\v = .str ⟨#[c]⟩,fun i _=>x.cps.size<=i⟩
theorem Nr (it:Addr) (x:Str) (t:Tok) (T:String) (hT : ["enumerate","zip","dict_itemiterator","dict_reverseitemiterator","odict_iterator","itertools.zip_longest","itertools.pairwise"].contains T=false)
  (W:∀A':Around,A'.handled=none->Walks P w A' it [it] [it] x.cps.size (SignAt x) (fun i h=>h.IsStrIter it T x t i))
  (hs:∀ (A:Around) (i:Nat) (s:Shared) (Q:Value->Shared->Prop) (E:Value->Shared->Prop),s.heap.IsStrIter it T x t i->Q (.ref it) s->wpAny (model P w) A (pyIter (.ref it)) Q E s):Turn P w K tg (IY x) [it] it (fun i h=>i<=x.cps.size/\h.IsStrIter it T x t i) where
 mem:=by simp
 obj:=fun i h st b hb=>by
  obtain rfl:b=it:=by simpa using hb
  obtain⟨_,o,e,c,d⟩:=st;exact⟨o,e,fun v z=>by rw[d]at z;cases z⟩
 keep:=fun i h h' st k=>by
  obtain⟨l,o,e,r⟩:=st;exact⟨l,o,k it (by simp) _ e,r⟩
 item:=by
  intro X hP hw hK hc i pins s σ H E I hf st hg;subst hP hw hK;obtain⟨f0,f1,f2,f3,f4,f5⟩:=hf it (by simp)
  refine(W X.A (I.ok.hd hc)).item i s _ _ hg st.2 fun v h' tk hv gi kk=>?_;obtain⟨c,u,hcx,rfl⟩:=hv;have I1:Inv X pins σ H { s with heap:=h',toks:=tk }:=I.turned (fun b o hb e=>kk b o (by simpa using hb) e) f0 f1 f3 f4 f5
  obtain⟨o,e,cl,d⟩:=id gi;exact⟨_,rfl,uk (s:={ s with heap:=h',toks:=tk }) e cl d hT ⟨.str ⟨#[c]⟩,H,I1,⟨u,rfl⟩,⟨rfl,c,hcx,rfl⟩,⟨hg,gi⟩,fun b hb=>(hf b hb).1⟩⟩
 done:=by
  intro X hP hw hK hc i pins s σ H E I hf st hg;subst hP hw hK;obtain⟨f0,f1,f2,f3,f4,f5⟩:=hf it (by simp)
  have ei:i=x.cps.size:=Lv st.1 hg;subst ei;exact(W X.A (I.ok.hd hc)).done s _ _ st.2 fun h' tk kk=>⟨rfl,I.turned (fun b o hb e=>kk b o (by simpa using hb) e) f0 f1 f3 f4 f5⟩
 self:=fun A i s Q E st h=>hs A i s Q E st.2 h
noncomputable def adF (te:TE):TI:=fun σ H R=>te σ H fun v H1=>∃x,v = .str x/\R (IY x) H1
theorem aaZ (he:PE X e te):PI X tg e (adF te):=by
 intro pins s σ H R I h;refine aD (he pins s σ H _ I h) fun v s1 hQ9=>?_;obtain⟨y,H1,I1,r1,x,ey,q⟩:=hQ9;subst ey;obtain⟨t,rfl⟩:=r1;have I2:∀o:Obj,Inv X pins σ H1 { s1 with heap:=s1.heap.push o }:=fun o=>I1.kept (t':=s1.toks) fun b ob z=>a8 _ z;have fp:∀b ∈ [s1.heap.objs.size],i9 X pins H1 b:=fun b hb=>by
  obtain rfl:b=s1.heap.objs.size:=by simpa using hb
  exact I1.ko (aO _) (I1.au.fresh (aO _))
 cases ha:x.cps.all (· < 128)
 ·refine wpAny_pyIter_wide ha ?_
  exact⟨s1.heap.objs.size,[s1.heap.objs.size],_,_,H1,rfl,I2 _,Nr s1.heap.objs.size x t "str_iterator" (by decide) (fun A' hA=>Walks.strWide hA _ x t) (fun _ _ _ _ _ st h=>wpAny_pyIter_striter_wide st h),⟨bR _,_,cj _ rfl,rfl,rfl⟩,fp,q⟩
 ·refine wpAny_pyIter_ascii ha ?_
  exact⟨s1.heap.objs.size,[s1.heap.objs.size],_,_,H1,rfl,I2 _,Nr s1.heap.objs.size x t "str_ascii_iterator" (by decide) (fun A' hA=>Walks.strAscii hA _ x t) (fun _ _ _ _ _ st h=>wpAny_pyIter_striter_ascii st h),⟨bR _,_,cj _ rfl,rfl,rfl⟩,fp,q⟩
theorem YC {g:TG} (Pv:Nat->List V->St->Hp->Prop) (h0:Pv 0 [] gB (upd H1 p (.lst []))) (hl:∀i ys τ H,Pv i ys τ H->H p=some (.lst ys))
  (hs:∀i c ys τ H,x.cps[i]? = some c->Pv i ys τ H->g (.str ⟨#[c]⟩) τ H fun bS H4=>ti bS H4 fun b H5=>if b=true then te bS H5 fun y H6=>H6 p=some (.lst ys)/\ys.length < sizeLine /\ ∃m',m' < x.cps.size - i/\CW Pv x.cps.size (i+1) m' (ys ++ [y]) bS (upd H6 p (.lst (ys ++ [y]))) else ∃m',m' < x.cps.size - i/\CW Pv x.cps.size (i+1) m' ys bS H5)
  (hd:∀ys τ H,Pv x.cps.size ys τ H->Q (.ref p) H):jR (IY x) g ti te gB Q p H1:=by
 refine⟨CW Pv x.cps.size,⟨x.cps.size,by simp,bR _,h0⟩,?_⟩
 rintro i m ys τ H ⟨rfl,hi,pv⟩;refine⟨hl i ys τ H pv,?_⟩
 by_cases aT:i < x.cps.size
 ·refine .inr ⟨aT,fun v H3 y3=>?_⟩
  obtain⟨e3,c,hc,rfl⟩:=y3;subst e3;exact hs i c ys τ _ hc pv
 ·have e:i=x.cps.size:=by omega
  subst e;exact .inl ⟨aO _,hd ys τ H pv⟩
end L2
namespace HT
open PySem PyProof.Rows PySem.W L2
theorem Wa (a:Addr) (vs:Array Value) (n:Nat) (u:Tok) (sl:Array (Option Value)) :
  Meets (Builtin.«object.__getattribute__» ⟨[.ref a,.str "keys" u],[]⟩) (fun A R s=>s.heap.get? a=some { cls:= .type "tuple",dict:=none,data:= .seq vs n,slots:=sl }/\raisesAttr (.ref a) "keys" A R s):=
 meets_getattribute_miss_tuple a vs n sl "keys" u (by rw[Lw,Lx];kernel_rfl) (by decide +kernel) (by rw[aQ];decide +kernel)
theorem YD {vs:Array Value}{n:Nat}{Q:Option Value->Shared->Prop} (hx:s.heap.get? a=some { cls:= .type "tuple",dict:=none,data:= .seq vs n,slots:=sl }) (hA:A.handled=none)
  (h:∀h' tk,(∀b o,s.heap.get? b=some o->h'.get? b=some o)->Q none { s with heap:=h',toks:=tk }):wpAny (model prog w) A (getAttr? (.ref a) "keys") Q E s:=by
 obtain⟨hp,g,d,tk,os⟩:=s;have hT:∀oA,(⟨hp,g,d,oA,os⟩:Shared).TypeIs (.ref a) "tuple" :=fun _=>⟨_,hx,rfl⟩;have f1:=sub_AttributeError;have f3:=VF.lookup;have f4:=VF.bind (.ref a);have f5:=am_tuple_getattr_none;unfold getAttr? getAttrBy? getAttrBy
 repeat (any_goals (first|assumption|exact hT _|((with_reducible show wpAny _ _ (call (Value.builtin "tuple.__getattribute__") _ _) _ _ _);refine sV VF (hT _) am_entry_tuple_getattribute (F.args_tuple_getattribute_2 _ _) (Wa a vs n _ sl) ⟨hx,hA,fun h' oA e eO=>?_⟩)|wp_step))
 obtain⟨t',u',he⟩:=eO.there;show wpAny _ _ (getattributeRaised _ _ _ _ _ _ _) _ _ _;unfold getattributeRaised
 repeat (any_goals (first|assumption|wp_step))
 exact h h' oA eO.keeps
section
variable{t:Addr}{vs:Array Value}
theorem YE {Q:Unit->Shared->Prop}{T:Addr}{x y:Value}{k:Key}{kvs:List (Key×Value)}{i:Int} (hT:IsTup s.heap T #[x,y]) (hk:(cp prog w).is k x=true) (hd:s.heap.DictOf (cp prog w) d kvs) (new:k ∉ kvs.map (·.1)) (hz:kvs.length<=sizeLine)
  (q:∀h' tk,h'.DictOf (cp prog w) d (kvs ++ [(k,y)])->Heap.SameBut d s.heap h'->Q () { s with heap:=h',toks:=tk }) :
  wpAny (model prog w) A (holding [Value.ref T] (do
   let pair <- (Builtin.Dict.pairItems (.ref T)).tryCatch fun e=>do
    if !(<- isInstance e (.type "TypeError")) then throw e
    rule "dict.update.element-no-sequence"
    raiseError "TypeError" s!"cannot convert dictionary update sequence element #{i} to a sequence"
   match pair with
   |[k,v]=>holding [k,v] (dictSet d k v)
   |l =>
    rule "dict.update.element-length"
    raiseError "ValueError" s!"dictionary update sequence element #{i} has length {l.length}; 2 is required")) Q E s:=by
 refine eR (ae (wpAny_tryCatch ?_));unfold Builtin.Dict.pairItems;refine ae (nL hT.typeIs ?_);rw[aF (by decide)]
 obtain⟨o,ho,_,n,dQ⟩:=hT;refine ae (wpAny_seqItems ho dQ (ak ?_));show wpAny _ _ (holding [x,y] (dictSet d x y)) _ _ _;refine eR (wpAny_dictSet_pairs (hsz:=hz) hk hd fun h' dd sb=>?_);rw[stored_new new]at dd;exact q h' _ dd sb
theorem ZR (hh:A.in1.handled=none) (su:d≠it) (Cc:d≠t) (Cd:t≠it) (ps:List (Key×Value)) (nd:(ps.map (·.1)).Nodup) (hz:ps.length<=sizeLine) (hsz:vs.size=ps.length) (hv:IsTup g t vs)
  (gT:∀ (i:Nat) p,ps[i]? = some p -> ∃a x,vs[i]? = some (.ref a)/\a≠it/\a≠d/\IsTup g a #[x,p.2]/\(cp prog w).is p.1 x=true) :
  ∀ (m k:Nat) (s:Shared),ps.length - k=m->k<=ps.length->IsTupIter s.heap it t k->s.heap.DictOf (cp prog w) d (ps.take k) ->
   (∀b o,b≠it->b≠d->g.get? b=some o->s.heap.get? b=some o) ->
   (∀h' tk,h'.DictOf (cp prog w) d ps->(∀b o,b≠it->b≠d->g.get? b=some o->h'.get? b=some o)->R (.ok (.ret .none)) { s with heap:=h',toks:=tk }) ->
   codeAny (model prog w) A (.builtin "dict.update.loop" ⟨[.ref d,.ref it,rawInt k,.none],[]⟩) R s:=by
 have up:∀ {b:Addr}{us:Array Value}{h:Heap},b≠it->b≠d->(∀b o,b≠it->b≠d->g.get? b=some o->h.get? b=some o)->IsTup g b us->IsTup h b us:=fun n1 n2 kp ⟨o,ho,r⟩=>⟨o,kp _ _ n1 n2 ho,r⟩;intro m
 induction m with
 |zero =>
  intro k s hm hk t1 dd kp hR;have ek:k=ps.length:=by omega
  refine j9 zZ (?_:wpAny _ _ _ _ _ _);rw[kU oU _];show wpAny _ A.in1 (pyNext (.ref it) >>= _) _ _ s;refine ae (next_tuple_end hh t1 (up Cd Cc.symm kp hv) (by simp;omega) fun h' k'=>?_)
  refine ae (m:=Builtin.Dict.addKeywords d []) (ak (ak ?_));have iU:h'.DictOf (cp prog w) d (ps.take k):=dd.at fun o e=>k' d o su e;rw[ek,cQ]at iU;exact hR h' s.toks iU fun b o a1 a2 e=>k' b o a1 (kp b o a1 a2 e)
 |succ m ih =>
  intro k s hm hk t1 dd kp hR;have aT:k < ps.length:=by omega
  have hp:ps[k]? = some ps[k]:=bC aT;obtain⟨a,x,IZ,vc,I0,F7,kq⟩:=gT k _ hp;have Ja:ps.take (k+1)=ps.take k ++ [ps[k]]:=by rw[dg,hp];rfl
  have new:ps[k].1 ∉ (ps.take k).map (·.1):=fun w=>by
   have e:ps.map (·.1)=(ps.take k).map (·.1)++(ps.drop k).map (·.1):=by rw[<-bZ,Ly]
   rw[e,l9]at nd;refine nd.2.2 _ w _ ?_ rfl;rw[zG aT];exact bu
  refine j9 zZ (?_:wpAny _ _ _ _ _ _);rw[kU oU _];show wpAny _ A.in1 (pyNext (.ref it) >>= _) _ _ s;refine ae (next_tuple_item t1 (up Cd Cc.symm kp hv) IZ fun h' Jb sb=>?_);have lK:∀b o,b≠it->b≠d->g.get? b=some o->h'.get? b=some o:=fun b o a1 a2 e=>sb.extBut b o a1 (kp b o a1 a2 e);have iU:h'.DictOf (cp prog w) d (ps.take k):=dd.at fun o e=>sb.extBut d o su e;refine ae (YE (s:={ s with heap:=h' }) (k:=ps[k].1) (up vc I0 lK F7) kq iU new (by rw[cT];omega) fun iy tk Hj yH=>?_)
  rw[show((k:Int)+1)=((k+1:Nat):Int) from rfl];exact ak ⟨l8 oU _,ih (k+1) _ (by omega) aT (Jb.extBut yH.extBut su.symm) (by rw[Ja];exact Hj) (fun b o a1 a2 e=>yH.extBut b o a2 (lK b o a1 a2 e)) hR⟩
theorem Wg {Q:Value->Shared->Prop} (hh:A.handled=none) (ps:List (Key×Value)) (nd:(ps.map (·.1)).Nodup) (hz:ps.length<=sizeLine) (hsz:vs.size=ps.length) {n:Nat}
  (hv:s.heap.get? t=some { cls:= .type "tuple",dict:=none,data:= .seq vs n,slots:=sl })
  (gT:∀ (i:Nat) p,ps[i]? = some p -> ∃a x,vs[i]? = some (.ref a)/\IsTup s.heap a #[x,p.2]/\(cp prog w).is p.1 x=true)
  (q:∀d h' tk,s.heap.objs.size<=d->h'.DictOf (cp prog w) d ps->(∀b o,s.heap.get? b=some o->h'.get? b=some o)->Q (.ref d) { s with heap:=h',toks:=tk }) :
  wpAny (model prog w) A (call (.type "dict") [.ref t]) Q E s:=by
 refine callType_codes (Q₁:=fun obj bq=>obj = .ref s.heap.objs.size/\bq={ s with heap:=s.heap.push { cls:= .type "dict",data:= .dict #[] } }) F.kt_called_dict (F.kt_typeCall_dict_1 _) F.entry_dict_init (kt_code_dict_new _ ⟨rfl,rfl⟩) ?_;rintro obj bq ⟨rfl,rfl⟩;have dn:(s.heap.push { cls:= .type "dict",data:= .dict #[] }).DictOf (cp prog w) s.heap.objs.size []:=Heap.DictOf.new s.heap;have k2:∀b o,s.heap.get? b=some o->(s.heap.push { cls:= .type "dict",data:= .dict #[] }).get? b=some o:=fun b o e=>a8 _ e;generalize s.heap.push { cls:= .type "dict",data:= .dict #[] }=h2 at dn k2 ⊢;refine⟨dn.typeIs,F.args_dict_init_2 _ _,?_⟩;unfold Builtin.«dict.__init__»;refine ae ?_;unfold Builtin.Dict.selfAndRest;refine ae (Lz dn.typeIs ?_);refine(ak ?_:wpAny _ _ (pure (s.heap.objs.size,[Value.ref t])) _ _ _);show wpAny _ _ (Builtin.Dict.updateFrom "dict.__init__" s.heap.objs.size (.ref t) [] .none) _ _ _;unfold Builtin.Dict.updateFrom;have v2:=k2 _ _ hv;refine ae (nL (T:= "tuple") ⟨_,v2,rfl⟩ ?_);rw[aF (by decide)]
 refine ae (YD v2 hh fun h3 tk3 k3=>?_);rw[aF (by decide)]
 have Jc:IsTup h3 t vs:=⟨_,k3 _ _ v2,rfl,n,rfl⟩;refine ae (nH (ae (iter_tuple Jc ?_)));refine ak ⟨l8 oU _,?_⟩;have up:∀b o,s.heap.get? b=some o->h3.get? b=some o:=fun b o e=>k3 b o (k2 b o e);have m3:s.heap.objs.size < h3.objs.size:=by
  obtain⟨o,_,_,ho,_⟩:=dn;exact bo (k3 _ _ ho)
 have dd3:h3.DictOf (cp prog w) s.heap.objs.size []:=dn.at fun o e=>k3 _ o e;have lt:∀ {b:Addr}{o:Obj},s.heap.get? b=some o->b < s.heap.objs.size:=fun e=>bo e;refine ZR (A:=A.in1) (g:=s.heap) (it:=h3.objs.size) hh (bx m3) (nI (lt hv)) (bx (nO (lt hv) m3)) ps nd hz hsz ⟨_,hv,rfl,n,rfl⟩ (fun i p hp=>?_) _ 0 _ rfl (bR _) ⟨_,cj _ rfl,rfl,rfl⟩ (dd3.at fun o e=>a8 _ e) (fun b o _ _ e=>a8 _ (up b o e)) fun h' tk dd kp=>?_
 ·obtain⟨a,x,h1,m4,Jd⟩:=gT i p hp
  obtain⟨o,ho,_⟩:=id m4;exact⟨a,x,h1,bx (nO (lt ho) m3),bx (lt ho),m4,Jd⟩
 ·exact⟨rfl,q _ h' tk (aO _) dd fun b o e=>kp b o (bx (nO (lt e) m3)) (bx (lt e)) e⟩
end
end HT
namespace L2
open PySem PySem.Spec PyProof.Rows PySem.W HT
theorem MQ:cN X (compareOp .LtE) (fun x y H Q=>∃i j,x = .str i/\y = .str j/\Q (.bl (!decide (j.cps.toList < i.cps.toList))) H):=by
 rintro pins s σ H x y v u Q I rx ry ⟨i,j,ex,ey,q⟩;subst ex ey;obtain⟨t,rfl⟩:=rx;obtain⟨t',rfl⟩:=ry;exact P.le_str (cR I q rfl)
noncomputable def t7 (H:Hp) (vs:List V) (kvs:List (Str×V)):Prop:=Paired (fun y p=>∃a,y=V.ref a/\H a=some (.tup [.str p.1,p.2])) vs kvs
theorem t7.same {kvs:List (Str×V)} (h:t7 H vs kvs) (s:aq H H'):t7 H' vs kvs:=Paired.imp' (fun _ _ ⟨a,e,q⟩=>⟨a,e,s _ _ q⟩) h
def pq (kvs:List (Str×V)):List (Key×V):=kvs.map fun p=>(Sum.inr p.1,p.2)
theorem Ob:∀ (kvs:List (Str×V)) (ys:List Value),ys.length=kvs.length->(∀ (i:Nat) (hi:i < kvs.length),∃y,ys[i]? = some y/\RelV kvs[i].2 y)->KV (pq kvs) ((kvs.map fun p=>(Sum.inr p.1:Key)).zip ys)
 |[],ys,h,_=>.nil
 |p::kvs,[],h,_=>by simp at h
 |p::kvs,y::ys,h,f=>by
  obtain⟨y',e,r⟩:=f 0 (by simp)
  obtain rfl:y=y':=by simpa using e
  exact .cons ⟨rfl,r⟩ (Ob kvs ys (by simpa using h) fun i hi=>by
   obtain⟨y2,e2,r2⟩:=f (i+1) (Nat.succ_lt_succ hi);exact⟨y2,by simpa using e2,r2⟩)
theorem Wb:d5 X (.type "tuple") (fun xs H Q=>∃p ys,xs = [.ref p]/\aj X.K H p ys /\ ∀l o,H l=none->o.dict=none->Q (.ref l) (upd H l (.aR o (.tup ys)))):=by
 rintro pins s σ H xs us Q I r ⟨p,ys,ex,hq,q⟩;subst ex;obtain⟨u,rfl,rx⟩:=vals1 r;cases rx
 obtain⟨its,r',pl,hz⟩:=I.list hq;have hlen:=r'.length;refine call_tuple_list pl.isList (fun h' kp=>?_) (by simp only[cE] <;> omega)
 have I1:Inv X pins σ H { s with heap:=h' }:=I.kept (t':=s.toks) kp;refine⟨.ref h'.objs.size,_,I1.laid (o:= .aR { cls:= .type "tuple",data:= .seq its.toArray } (.tup ys)) (t':=s.toks) (fun b o e=>a8 _ e) (aO _) ⟨cj _ rfl,hz,its,r',mJ.new _ _⟩,rfl,q _ _ (I1.au.fresh (aO _)) rfl⟩
theorem Xf (hc:X.calm=true):d5 X (.type "dict") (fun xs H Q=>∃t o vs kvs,xs = [.ref t]/\H t=some (.aR o (.tup vs))/\o.dict=none/\t7 H vs kvs/\(kvs.map (·.1)).Nodup /\ ∀d,H d=none->Q (.ref d) (upd H d (.dK (pq kvs)))):=by
 intro pins s σ H xs us Q I r h;obtain⟨t,o,vs,kvs,rfl,ht,gR,pr,nd,q⟩:=h;obtain⟨u,rfl,ru⟩:=vals1 r;cases ru
 obtain⟨ho,hz,its,rv,o',gz,hV,n,dQ,_⟩:=(show bp X.prog X.w H s.heap t (.aR o (.tup vs)) from I.au t _ ht);rw[ho]at gz;cases gz
 obtain⟨cl,dd,dt,sl⟩:=o;obtain rfl:cl = .type "tuple" :=hV;obtain rfl:dd=none:=gR;obtain rfl:dt = .seq its.toArray n:=dQ;have iz:vs.length=kvs.length:=gV pr;have gQ:=rv.length;have pairs:∀ (i:Nat) p,kvs[i]? = some p -> ∃a x y,its.toArray[i]? = some (.ref a)/\IsTup s.heap a #[x,y]/\RelV (.str p.1) x/\RelV p.2 y:=by
  intro i p hp;have hi:i < vs.length:=by rw[iz];exact(cz.mp hp).1
  obtain⟨p',kE,a,ey,ha⟩:=tT pr (show vs[i]? = some vs[i] from bC hi);rw[hp]at kE;cases kE;obtain⟨u,hu,ru⟩:=rv.get (show vs[i]? = some (V.ref a) by rw[bC hi,ey])
  cases ru
  obtain⟨i2,r2,t2,_⟩:=I.tuple (aJ.of ha);obtain⟨x,y,rfl,rx,ry⟩:=r2.two;exact⟨a,x,y,by simpa using hu,t2,rx,ry⟩
 have ch:∀i:Fin kvs.length,∃y,∃a x,its.toArray[i.1]? = some (.ref a)/\IsTup s.heap a #[x,y]/\RelV (.str kvs[i].1) x/\RelV kvs[i].2 y:=fun i=>by
  obtain⟨a,x,y,h1,h2,h3,h4⟩:=pairs i.1 kvs[i] (bC i.2);exact⟨y,a,x,h1,h2,h3,h4⟩
 obtain⟨ys,RZ,R0⟩:∃ys:List Value,ys.length=kvs.length /\ ∀ (i:Nat) (hi:i < kvs.length),∃y,ys[i]? = some y /\ ∃a x,its.toArray[i]? = some (.ref a)/\IsTup s.heap a #[x,y]/\RelV (.str kvs[i].1) x/\RelV kvs[i].2 y:=
  ⟨List.ofFn fun i=>Classical.choose (ch i),List.length_ofFn,fun i hi=>⟨Classical.choose (ch ⟨i,hi⟩),by simp[List.getElem?_ofFn,hi],amu (ch ⟨i,hi⟩)⟩⟩
 have kps:((kvs.map fun p=>(Sum.inr p.1:Key)).zip ys).map (·.1)=kvs.map fun p=>(Sum.inr p.1:Key):=by
  rw[List.map_fst_zip];rw[aE];omega
 have R1:((kvs.map fun p=>(Sum.inr p.1:Key)).zip ys).length=kvs.length:=by rw[List.length_zip,aE];omega
 have inj:(kvs.map fun p=>(Sum.inr p.1:Key)).Nodup:=by
  have:(kvs.map fun p=>(Sum.inr p.1:Key))=(kvs.map (·.1)).map Sum.inr:=by rw[md];rfl
  rw[this,LA,LC];exact(LA.mp nd).imp fun h z=>h (oP z)
 refine Wg (I.ok.hd hc) ((kvs.map fun p=>(Sum.inr p.1:Key)).zip ys) (by rw[kps];exact inj) (by rw[R1];omega) (by rw[cE,R1];omega) ho (fun i p hp=>?_) fun d h' tk dl dd kp=>?_
 ·obtain⟨h1,h2⟩:=List.getElem?_zip_eq_some.mp hp
  rw[eK]at h1;obtain⟨kv,hk,ek⟩:=kW.mp h1;obtain⟨hi,rfl⟩:=cz.mp hk;obtain⟨y,hy,a,x,g1,g2,g3,g4⟩:=R0 i hi;rw[hy]at h2;cases h2
  exact⟨a,x,g1,g2,by rw[<-ek];exact um (k:=Sum.inr kvs[i].1) g3⟩
 ·have big:=I.big
  refine⟨.ref d,_,I.laid (a:=d) (o:= .dK (pq kvs)) (t':=tk) kp dl (OP (by unfold pq;rw[aE];omega) (lY.mpr (ba (bx (gI big dl)))) ?_ dd),rfl,q d (I.au.fresh dl)⟩
  exact Ob kvs ys RZ fun i hi=>by
   obtain⟨y,hy,a,x,_,_,_,g4⟩:=R0 i hi;exact⟨y,hy,g4⟩
end L2
namespace L2
open PySem PySem.W
noncomputable def ab8 (_ j:Int):Prop:=0 < j/\j < 4611686018427387904
theorem YF:cN X (binaryOp .FloorDiv) (rI ab8 fun i j=>.int (i / j)):=ym fun i j _ _ _ _ _ hc q=>by
 have h1:(0:Int) < j:=hc.1;have h2:j < 4611686018427387904:=hc.2;refine PyProof.Rows.floordiv_int (by omega) (by rw[amb i (by omega)];exact q) (.inl (PyProof.noPylong_of_log2 ?_))
 have h3:j.natAbs < 2 ^ 62:=by omega
 have h4:j.natAbs.log2 < 62:=(Nat.log2_lt (by omega)).mpr h3
 omega
end L2
namespace L2
open PySem PySem.W PySem.Calls PyProof.Rows
section
variable{α β:Type}{n:Nat}
noncomputable def Pm (n:Nat) (p:Array Nat):Prop:=p.toList.Perm (List.range n)
theorem Pm.lt {p:Array Nat} (h:Pm n p) (hn:0 < n) (i:Nat):p.getD i 0 < n:=by
 rw[nP];cases e:p[i]? with
 |none=>exact hn
 |some x =>
  have:x∈p.toList:=Array.mem_def.mp (Array.mem_of_getElem? e);exact kO.mp (h.mem_iff.mp this)
theorem Pm.rev {p:Array Nat} (h:Pm n p) (i j:Nat):Pm n (kas_rev p i j):=(amv.mp (mirror_perm p i j _)).trans h
theorem Pm.bub {p:Array Nat} (h:Pm n p) (i j:Nat):Pm n (bubble p i j):=(amv.mp (bubble_perm p i j)).trans h
theorem OQ {γ:Type}{p:Array Nat}{vs:List γ} (d:γ) (h:Pm vs.length p):(p.toList.map fun i=>vs.getD i d).Perm vs:=by
 have h1:=List.Perm.map (fun i=>vs.getD i d) h;refine h1.trans (List.Perm.of_eq ?_)
 apply VG
 ·simp
 ·intro i h1 h2
  simp[List.getD,h2]
end
theorem Md {α β:Type}{F:α->β->Prop}{l l':List α} (h:l'.Perm l):∀ {m:List β},Paired F l m -> ∃m',m'.Perm m/\Paired F l' m':=by
 induction h with
 |nil=>intro m p;exact⟨m,.refl _,p⟩
 |cons x _ ih =>
  intro m p;cases p with
  |cons q t =>
   obtain⟨m',e,r⟩:=ih t;exact⟨_::m',e.cons _,.cons q r⟩
 |swap x y l =>
  intro m p;cases p with
  |cons q t =>
   cases t with
   |cons q2 t=>exact⟨_,List.Perm.swap _ _ _,.cons q2 (.cons q t)⟩
 |trans _ _ Je Jf =>
  intro m p;obtain⟨m2,e2,p2⟩:=Jf p;obtain⟨m1,e1,p1⟩:=Je p2;exact⟨m1,e1.trans e2,p1⟩
theorem aa0 {o:HO} (x:bp P w H h a o):∃q,h.get? a=some q:=by
 cases o with
 |lst xs=>obtain⟨_,_,_,_,e⟩:=x;exact⟨_,e⟩
 |tup xs=>obtain⟨_,_,_,q,e,_⟩:=x;exact⟨q,e⟩
 |dK kvs=>obtain⟨_,_,_,_,o,_,_,e,_⟩:=x;exact⟨o,e⟩
 |dT kvs=>obtain⟨_,_,_,_,o,_,_,e,_⟩:=x;exact⟨o,e⟩
 |set S n=>obtain⟨o,_,_,_,e,_⟩:=x;exact⟨o,e⟩
 |ins C dx fs=>obtain⟨_,_,_,e,_⟩:=x;exact⟨_,e⟩
 |own y=>exact x
 |xd fs=>obtain⟨_,⟨o,_,_,e,_⟩,_⟩:=x;exact⟨o,e⟩
 |yf lo hi=>obtain⟨_,_,_,e⟩:=x;exact⟨_,e⟩
 |aR q u=>exact⟨q,x.1⟩
 |oh ps=>exact⟨_,x⟩
 |met f y=>exact⟨_,x⟩
 |ext φ=>exact x.2.1
theorem Inv.sorted {σ:List (Option V)}{m:Str->Option Value}{D:Addr}{out:List Value}{c:Nat} (I:Inv X pins σ H s) (hm:s.heap.Ns X.env.locals m) (je:h'.Ns X.env.locals m)
  (k:∀b o,b≠X.env.locals->s.heap.get? b=some o->h'.get? b=some o) (hD:∀b o,s.heap.get? b=some o->b≠D) (new:h'.get? D=some (listOf out.toArray c)) (r:Vals ys out) (hz:ys.length<=sizeLine) :
  H D=none/\Inv X pins σ (upd H D (.lst ys)) { s with heap:=h',toks:=t' }:=by
 have there:∀b u,H b=some u -> ∃o,s.heap.get? b=some o:=fun b u e=>aa0 (I.au b u e);have hn:H D=none:=by
  cases q:H D with
  |none=>rfl
  |some u =>
   obtain⟨o,e⟩:=there D u q;exact absurd rfl (hD D o e)
 have yI:∀b u,H b=some u->b≠D:=fun b u e z=>by rw[z,hn]at e;cases e
 have yh:∀b u,H b=some u->b≠X.env.locals:=fun b u e z=>by rw[z,I.free]at e;cases e
 refine⟨hn,I.step (g':=s.gens) (d':=s.drawn) (ch:= []) (fun _ z=>nomatch z) (fun b o hL _ _ e _=>k b o hL e) (fun b o hL _ _ e _=>⟨o.slots,k b o hL e⟩) (fun b o _ e n=>by rw[ah (hD b o e)];exact n) (fun b o _ e=>?_)
  (fun b xs e=>by rw[ah (yI b _ e)];exact e) (fun b o u e=>by rw[ah (yI b _ e)];exact e) (fun b ps e=>⟨#[],by rw[ah (yI b _ e),e];simp⟩) (fun m' q=>?_) (fun b u e=>?_) I.bare⟩
 ·by_cases hb:b=X.env.locals
  ·obtain⟨o',es,ep,ho,_⟩:=je
   exact⟨o',by rw[hb];exact ho⟩
  ·exact⟨o,k b o hb e⟩
 ·obtain⟨o,es,ep,ho,hd,hs,hf⟩:=hm
  obtain⟨o2,Jg,ep2,j5,hd2,uU,yJ⟩:=q;rw[ho]at j5;cases j5;rw[hd]at hd2;cases hd2;have:m'=m:=funext fun x=>(yJ x).symm.trans (hf x);rw[this];exact je
 ·by_cases hb:b=D
  ·subst hb
   rw[ag]at e;cases e;exact⟨hz,out,c,r,new⟩
  ·rw[ah hb]at e
   refine(I.au b u e).gy (fun a v hc q=>k a v ?_ q) (fun a q=>by rw[ah (yI a _ q)];exact q) fun a xs q=>by rw[ah (yI a _ q)];exact q
   rcases hc with z|z
   ·rw[z];exact yh b u e
   ·exact yh a _ z
theorem XN {B:Around}{n:Nat}{R:PySem.Fin->Shared->Prop} (at_:s.heap.get? a=some (seqObj "list" us.toArray n)) (bV:us.length < 2)
  (k:∀c g,(∀b o,b≠a->s.heap.get? b=some o->g.get? b=some o)->g.get? a=some (listOf us.toArray c)->R (.done (.ret .none)) { s with heap:=g }):wpAny (model P w) B (Builtin.«list.sort» ⟨[.ref a],[]⟩) R E s:=by
 obtain⟨ep,gone⟩:∃ep,(s.heap.update a (Obj.mapSeq fun _=>(#[]:Array Value))).get? a=some (seqObj "list" #[] ep):=⟨_,get?_update_seq at_ fun _=>#[]⟩;have fits:us.toArray.size<=sizeLine:=by rw[aQ,cE];omega
 have small:us.toArray.size < 2:=by simpa using bV
 rw[list_sort_plain];refine ae (listItems_at at_ rfl (ae (listUpdate_at at_ rfl (ae (seqEpoch_at gone rfl (ae (wpAny_newTuple (ae (LD (eR ?_) (bR _))) (by simpa using fits))))) fits (bR _))))
 have two:∀b o,(s.heap.update a (Obj.mapSeq fun _=>(#[]:Array Value))).get? b=some o->(((s.heap.update a (Obj.mapSeq fun _=>(#[]:Array Value))).push (seqObj "tuple" us.toArray 0)).push (seqObj "list" #[] 0)).get? b=some o:=fun b o q=>a8 _ (a8 _ q)
 change wpAny (model P w) B _ R E { s with heap:=((s.heap.update a (Obj.mapSeq fun _=>(#[]:Array Value))).push (seqObj "tuple" us.toArray 0)).push (seqObj "list" #[] 0) }
 have A0:=two _ _ gone;have others:∀b o,b≠a->s.heap.get? b=some o->(((s.heap.update a (Obj.mapSeq fun _=>(#[]:Array Value))).push (seqObj "tuple" us.toArray 0)).push (seqObj "list" #[] 0)).get? b=some o:=fun b o nb q=>two b o (((vZ s.heap a _).2 b nb).trans q);generalize (((s.heap.update a (Obj.mapSeq fun _=>(#[]:Array Value))).push (seqObj "tuple" us.toArray 0)).push (seqObj "list" #[] 0))=g at A0 others ⊢
 dsimp only
 rw[aF small,aF small];refine ae (ak (ae (ak ?_)));have same:(arrOf (SortSt.mk' general' (us.toArray.zip us.toArray) #[] 7 none)).map (·.2)=us.toArray:=Ll.mp (by show((us.toArray.zip us.toArray).map (·.2)).toList=_;simp[List.map_snd_zip])
 dsimp only
 rw[same];refine ae (seqEpoch_at A0 rfl (ae (listUpdate_at A0 rfl ?_ (bR _) (Nat.le_succ_of_le fits))));obtain⟨c,back⟩:∃c,(g.update a (Obj.mapSeq fun _=>us.toArray)).get? a=some (seqObj "list" us.toArray c):=⟨_,get?_update_seq A0 fun _=>us.toArray⟩;simp only[bne_self_eq_false,kT,zF];exact ak (k c _ (fun b o nb q=>((vZ g a _).2 b nb).trans (others b o nb q)) back)
theorem MR {γ:Type}{f:γ->V}{g:γ->Value} (h:∀x,RelV (f x) (g x)):∀l:List γ,Vals (l.map f) (l.map g)
 |[]=>.nil
 |x::l=>.cons (h x) (MR h l)
end L2
namespace L2
open PySem PySem.W PySem.Spec PyProof.Rows
def Ce (d:Addr) (o:Obj) (kvs:List (Key×V)):It:=⟨fun i H=>H d=some (.aR o (.dK kvs))/\i < kvs.length,fun i H v H'=>H'=H /\ ∃kv,kvs[i]? = some kv/\v=kV kv.1,fun i H=>H d=some (.aR o (.dK kvs))/\kvs.length<=i⟩
theorem MS (d it:Addr) (bc:d≠it) (o:Obj) (kvs:List (Key×V)) (vs:List (Key×Value)) (ep:Nat) (rk:KV kvs vs) (hD:∀h:Heap,h.get? d=some o->h.DictAt (cp P w) d vs ep) :
  Turn P w K tg (Ce d o kvs) [it] it (fun i h=>i<=kvs.length/\h.IsKeyIter it d i vs.length ep) where
 mem:=by simp
 obj:=fun i h st b hb=>by
  obtain rfl:b=it:=by simpa using hb
  obtain⟨_,o,e,c,d⟩:=st;exact⟨o,e,fun v z=>by rw[d]at z;cases z⟩
 keep:=fun i h h' st k=>by
  obtain⟨l,o,e,r⟩:=st;exact⟨l,o,k it (by simp) _ e,r⟩
 item:=by
  intro X hP hw hK hc i pins s σ H E I hf st hg;subst hP hw hK;obtain⟨f0,f1,f2,f3,f4,f5⟩:=hf it (by simp)
  have hl:kvs.length=vs.length:=rk.length;have hd:=hD s.heap (show bp X.prog X.w H s.heap d (.aR o (.dK kvs)) from I.au d _ hg.1).1;refine(Walks.dictKeys (knd:=cp X.prog X.w) (I.ok.hd hc) it d bc vs ep).item i s _ _ (by have:=hg.2;omega) ⟨st.2,hd⟩ fun v h' tk hv gi kk=>?_
  obtain⟨k,x,hx,hk⟩:=hv;have I1:Inv X pins σ H { s with heap:=h',toks:=tk }:=I.turned (fun b o hb e=>kk b o (by simpa using hb) e) f0 f1 f3 f4 f5
  obtain⟨ob,e,cl,dt⟩:=id gi.1;have eQ:i < kvs.length:=hg.2;have kF:kvs[i]? = some kvs[i]:=bC eQ;have ek:kvs[i].1=k:=by
   have h1:=eJ (fun l=>l[i]?) rk.keys;simp only[eK,kF,hx]at h1;exact fc h1
  exact⟨_,rfl,uk (s:={ s with heap:=h',toks:=tk }) e cl dt (by decide) ⟨kV k,H,I1,N9 hk,⟨rfl,kvs[i],kF,by rw[ek]⟩,⟨hg.2,gi.1⟩,fun b hb=>(hf b hb).1⟩⟩
 done:=by
  intro X hP hw hK hc i pins s σ H E I hf st hg;subst hP hw hK;obtain⟨f0,f1,f2,f3,f4,f5⟩:=hf it (by simp)
  have ei:i=kvs.length:=Lv st.1 hg.2;have hl:kvs.length=vs.length:=rk.length;have hd:=hD s.heap (show bp X.prog X.w H s.heap d (.aR o (.dK kvs)) from I.au d _ hg.1).1;have j0:=st.2;rw[ei,hl]at j0;exact(Walks.dictKeys (knd:=cp X.prog X.w) (I.ok.hd hc) it d bc vs ep).done s _ _ ⟨j0,hd⟩ fun h' tk kk=>⟨rfl,I.turned (fun b o hb e=>kk b o (by simpa using hb) e) f0 f1 f3 f4 f5⟩
 self:=fun A i s Q E st h=>wpAny_pyIter_keyiter st.2 h
theorem Inv.freeze {σ:List (Option V)}{kvs:List (Key×V)} (I:Inv X pins σ H s) (hd:H d=some (.dK kvs)) (ho:s.heap.get? d=some o):Inv X pins σ (upd H d (.aR o (.dK kvs))) s:=by
 have ok:bp X.prog X.w H s.heap d (.dK kvs):=I.au d _ hd;have nd:∀ {b:Addr}{u:HO},H b=some u->u ≠ .dK kvs->b≠d:=fun e n z=>by rw[z,hd]at e;exact n (fc e).symm
 refine I.un (h':=s.heap) (t':=s.toks) ⟨fun b ob q _ _ _=>q,fun b ob q _ _ _=>⟨ob.slots,q⟩,fun b ob q n _=>?_,fun b ob q _=>⟨ob,q⟩,fun b xs e=>?_,fun b ob u e=>?_,fun b ps e=>⟨#[],?_⟩⟩ fun b u e=>?_
 ·rw[ah (fun z=>by rw[z,hd]at n;cases n)];exact n
 ·rw[ah (nd e (by intro z;cases z))];exact e
 ·rw[ah (nd e (by intro z;cases z))];exact e
 ·rw[ah (nd e (by intro z;cases z)),e];simp
 ·by_cases hb:b=d
  ·subst hb
   rw[ag]at e;cases e
   exact⟨ho,ok.gy (fun _ _ _ q=>q) (fun c q=>by rw[ah (nd q (by intro z;cases z))];exact q) fun c xs q=>by rw[ah (nd q (by intro z;cases z))];exact q⟩
  ·rw[ah hb]at e
   exact(I.au b u e).gy (fun _ _ _ q=>q) (fun c q=>by rw[ah (nd q (by intro z;cases z))];exact q) fun c xs q=>by rw[ah (nd q (by intro z;cases z))];exact q
noncomputable def ab9 (te:TE):TI:=fun σ H R=>te σ H fun v H1=>∃d kvs,v = .ref d/\((H1 d=some (.dK kvs) /\ ∀o,R (Ce d o kvs) (upd H1 d (.aR o (.dK kvs)))) \/ ∃o,H1 d=some (.aR o (.dK kvs))/\R (Ce d o kvs) H1)
theorem Oc (he:PE X e te):PI X tg e (ab9 te):=by
 intro pins s σ H R I h;refine aD (he pins s σ H _ I h) fun v s1 hQ9=>?_;obtain⟨y,H1,I1,r1,d,kvs,ey,q⟩:=hQ9;subst ey;cases r1
 have rd:Rd H1 d (.dK kvs):=by
  rcases q with⟨e,_⟩|⟨o,e,_⟩
  ·exact .inl e
  ·exact .inr ⟨o,e⟩
 obtain⟨hz,hs,vs,rk,hdo⟩:=rF I1.au rd;obtain⟨o,es,ep,ho,hx,dQ,hk,hp,hn⟩:=id hdo;refine wpAny_pyIter_dict (knd:=cp X.prog X.w) (kvs:=vs) (ep:=ep) hs ⟨o,es,ho,hx,dQ,hk,hp,hn⟩ ?_;have bc:d≠s1.heap.objs.size:=bx (bo ho);have hD:∀h:Heap,h.get? d=some o->h.DictAt (cp X.prog X.w) d vs ep:=fun h e=>⟨o,es,e,hx,dQ,hk,hp,hn⟩;have I2:Inv X pins σ H1 { s1 with heap:=s1.heap.push { cls:= .type "dict_keyiterator",data:= .fields #[.ref d,.int 0 0,.int vs.length 0,.int ep 0] } }:=I1.kept (t':=s1.toks) fun b ob z=>a8 _ z;have st:0<=kvs.length/\Heap.IsKeyIter (s1.heap.push { cls:= .type "dict_keyiterator",data:= .fields #[.ref d,.int 0 0,.int vs.length 0,.int ep 0] }) s1.heap.objs.size d 0 vs.length ep:=⟨bR _,_,cj _ rfl,rfl,rfl⟩;have lL:H1 s1.heap.objs.size=none:=I1.au.fresh (aO _);rcases q with⟨e,q⟩|⟨o',e,q⟩
 ·refine⟨s1.heap.objs.size,[s1.heap.objs.size],_,_,_,rfl,I2.freeze e (a8 _ ho),MS d s1.heap.objs.size bc o kvs vs ep rk hD,st,fun b hb=>?_,q o⟩
  obtain rfl:b=s1.heap.objs.size:=by simpa using hb
  exact I1.ko (aO _) (by rw[ah (ba bc)];exact lL)
 ·obtain rfl:o'=o:=by
   have:=(show bp X.prog X.w H1 s1.heap d (.aR o' (.dK kvs)) from I1.au d _ e).1;rw[ho]at this;exact(fc this).symm
  refine⟨s1.heap.objs.size,[s1.heap.objs.size],_,_,H1,rfl,I2,MS d s1.heap.objs.size bc o' kvs vs ep rk hD,st,fun b hb=>?_,q⟩;obtain rfl:b=s1.heap.objs.size:=by simpa using hb
  exact I1.ko (aO _) lL
def ZS:V->List V->Hp->VK->Prop:=fun x vs H Q=>∃ (l:Addr) (ys:List Bool) (y:Bool) (j:Nat),x = .ref l/\vs = [.bl y]/\H l=some (.lst (ys.map V.bl))/\ys[j]? = some y/\(∀m,m < j->ys[m]? ≠ some y)/\Q (.int j) H
theorem YG (ys:List Bool):(ys.map V.bl).all ki=true:=by
 rw[Dx,j8];intro x _;rfl
theorem XO:yx X "list.index" ZS:=by
 intro pins s σ H x vs v us Q I rx rv h;obtain⟨l,ys,y,j,rfl,rfl,hH,hj,iu,q⟩:=h;cases rx
 obtain⟨u,rfl,ru⟩:=rv.one;obtain rfl:u = .bool y:=ru;obtain⟨z,its,n,r,hl,e⟩:=I.uF hH;have bX:j < its.length:=by
  have:=(cz.mp hj).1;rw[<-hl,aE];exact this
 have at_:∀m (hm:m < its.length),∃w:Bool,ys[m]? = some w/\its[m] = .bool w:=fun m hm=>by
  have je:m < ys.length:=by rw[<-hl,aE]at hm;exact hm
  obtain⟨u,hu,ht⟩:=r.get (i:=m) (x:= .bl ys[m]) (by rw[eK,bC je];rfl)
  rw[bC hm]at hu;exact⟨ys[m],bC je,by rw[fc hu];exact ht⟩
 have fl:(ys.map V.bl).all ki=true:=YG ys;refine sV F.slot_list_index ⟨_,e,rfl⟩ F.entry_list_index (F.args_list_index_2 _ _) (SeqAt.list_indexAt l its.toArray n none #[] (.bool y) (gm (.bl y)) j (by simpa using bX) ?_ ?_ ?_) ⟨e,?_,?_⟩
 ·rw[aQ]at z;have:=hl;omega
 ·obtain⟨w,hw,ew⟩:=at_ j bX
  rw[hj]at hw;cases hw;show gm (.bl y) (its.toArray[j])=true;rw[Ls,ew];show mZ (.bl y) (.bl y)=true;cases y <;> rfl
 ·intro m hm IW
  have je:m < its.length:=by simpa using hm
  obtain⟨w,hw,ew⟩:=at_ m je;show gm (.bl y) (its.toArray[m])=false;rw[Ls,ew];have ne:=iu m IW;rw[hw]at ne;show mZ (.bl w) (.bl y)=false;cases w <;> cases y <;> first|rfl|exact absurd rfl ne
 ·intro u hu
  exact qK (x:= .bl y) rfl rfl r fl u (by simpa using hu)
 ·exact⟨.int j,H,I.tok _,⟨_,rfl⟩,q⟩
noncomputable def vd (a b:Str):Prop:=a.cps.toList<=b.cps.toList
theorem Nt {a b:Str} (h1:vd a b) (h2:vd b a):a=b:=by
 have e:a.cps.toList=b.cps.toList:=List.le_antisymm h1 h2;cases a;cases b
 exact eJ Str.mk (Ll.mp e)
theorem Mm:∀ {r:List Str}{p:Str},risingS p r=true->(∀x∈r,vd p x)/\r.Pairwise vd
 |[],p,_=>⟨by simp,.nil⟩
 |x::r,p,h=>by
  obtain⟨h1,h2⟩:=l7.mp (show(!ltCps x.cps.toList p.cps.toList && risingS x r)=true from h);obtain⟨h3,h4⟩:=Mm h2;have hp:vd p x:=by
   rw[ltCps_eq]at h1;have : ¬ (x.cps.toList < p.cps.toList):=by simpa using h1
   exact this
  refine⟨fun y hy=>?_,.cons h3 h4⟩;rcases bH.mp hy with rfl|hy
  ·exact hp
  ·exact List.le_trans hp (h3 y hy)
theorem Mn {l:List Str} (h:sortedS l=true):l.Pairwise vd:=by
 cases l with
 |nil=>exact .nil
 |cons x r=>obtain⟨h1,h2⟩:=Mm (show risingS x r=true from h);exact .cons h1 h2
theorem MT:∀ {us:List Value}{ss:List Str},StrsAre us ss->Vals (ss.map V.str) us
 |_,_,.nil=>.nil
 |_,_,.cons _ t r=>.cons ⟨t,rfl⟩ (MT r)
theorem MU {kvs:List (Key×V)}{g:TG} (Pv:Nat->List V->St->Hp->Prop) (h0:Pv 0 [] gB (upd H1 p (.lst []))) (hl:∀i ys τ H,Pv i ys τ H->H p=some (.lst ys)/\H d=some (.aR o (.dK kvs)))
  (hs:∀i kv ys τ H,kvs[i]? = some kv->Pv i ys τ H->g (kV kv.1) τ H fun bS H4=>ti bS H4 fun b H5=>if b=true then te bS H5 fun y H6=>H6 p=some (.lst ys)/\ys.length < sizeLine /\ ∃m',m' < kvs.length - i/\CW Pv kvs.length (i+1) m' (ys ++ [y]) bS (upd H6 p (.lst (ys ++ [y]))) else ∃m',m' < kvs.length - i/\CW Pv kvs.length (i+1) m' ys bS H5)
  (hd:∀ys τ H,Pv kvs.length ys τ H->Q (.ref p) H):jR (Ce d o kvs) g ti te gB Q p H1:=by
 refine⟨CW Pv kvs.length,⟨kvs.length,by simp,bR _,h0⟩,?_⟩
 rintro i m ys τ H ⟨rfl,hi,pv⟩;obtain⟨hp,hq⟩:=hl i ys τ H pv;refine⟨hp,?_⟩
 by_cases aT:i < kvs.length
 ·refine .inr ⟨⟨hq,aT⟩,fun x H3 y3=>?_⟩
  obtain⟨e3,kv,dc,ex⟩:=y3;subst e3;subst ex;exact hs i kv ys τ _ dc pv
 ·have e:i=kvs.length:=by omega
  subst e;exact .inl ⟨⟨hq,aO _⟩,hd ys τ H pv⟩
end L2
namespace HS
open PySem PySem.Spec PyProof.Rows
theorem ZT (t:SetTable) (es:Array (Int×Value)) (z:Int) (x:Value):(layNew t es z x).2.1.led=t.led:=by
 unfold layNew;split
 ·dsimp only
  unfold SetTable.orStandIn;split <;> rfl
 ·rfl
theorem Xg {t u:SetTable}{zs:Array Int}{n:Nat}{ord:Array Nat} (e:t.relaid zs n=some (u,ord)):u.led=t.led/\u.plain=t.plain:=by
 unfold SetTable.relaid SetTable.laid at e;cases c:SetTable.layClean (SetTable.sizeAbove n - 1) zs with
 |none=>rw[c]at e;cases e
 |some ow =>
  rw[c]at e;have e2:=fc e;have e3:=eJ Prod.fst e2
  dsimp only at e3
  rw[<-e3];exact⟨rfl,rfl⟩
theorem WG (t:SetTable) (es:Array (Int×Value)) (n:Nat):(relayAll t es n).2.1.led=t.led/\(t.plain=false->(relayAll t es n).2.1.plain=false):=by
 unfold relayAll;split
 ·rename_i u ord e
  obtain⟨h1,h2⟩:=Xg e
  dsimp only
  split
  ·exact⟨h1,fun z=>h2.trans z⟩
  ·exact⟨rfl,fun _=>rfl⟩
 ·exact⟨rfl,fun _=>rfl⟩
noncomputable def fJ (P:Program) (w:World) (h:Heap) (a:Addr) (xs:List Str):Prop:=
 ∃o es ep t,h.get? a=some o/\o.ExactSet/\o.data = .set es ep t/\ElemsOf (strKind P w) es.toList/\(∀k,k∈xs ↔ ∃e∈es.toList,(strKind P w).is k e.2=true) /\
  es.size < scanBound/\t.fits es.size=true/\es.size=xs.length/\t.led=(!w.params.followText "set-order")/\(es.size≠0->t.plain=false)
theorem fJ.keep {xs:List Str} (x:fJ P w h a xs) (k:∀o,h.get? a=some o->h'.get? a=some o):fJ P w h' a xs:=let ⟨o,es,ep,t,e,r⟩:=x;⟨o,es,ep,t,k o e,r⟩
theorem fJ.lt {xs:List Str} (x:fJ P w h a xs):a < h.objs.size:=let ⟨_,_,_,_,e,_⟩:=x;bo e
theorem fJ.typeIs {xs:List Str} (x:fJ P w s.heap a xs):s.TypeIs (.ref a) "set" :=let ⟨o,_,_,_,e,c,_⟩:=x;⟨o,e,c.1⟩
theorem Nu (e:h.get? a=some { cls:= .type "set",dict:=none,data:= .set #[] 0 (.fresh 0 0 (!w.params.followText "set-order")) }):fJ P w h a []:=
 ⟨_,#[],0,_,e,⟨rfl,rfl,rfl⟩,rfl,fun z hz=>(by simp at hz),fun k=>(by simp),by decide,by rfl,rfl,rfl,fun z=>absurd rfl z⟩
def ik (xs:List Str) (k:Str):List Str:=if k∈xs then xs else xs ++ [k]
section
variable{xs:List Str}
theorem Nv {es gA:Array (Int×Value)}{t t':SetTable}{ys:List Str} (ho:h.get? a=some o) (hx:o.ExactSet) (hd:o.data = .set es ep t) (oB:ElemsOf (strKind P w) gA.toList)
  (hm:∀k,k∈ys ↔ ∃e∈gA.toList,(strKind P w).is k e.2=true) (hb:gA.size < scanBound) (hf:t'.fits gA.size=true) (hn:gA.size=ys.length) (hl:t'.led=(!w.params.followText "set-order")) (hp:t'.plain=false) :
  (h.update a (Obj.putSet gA t')).get? a=some { o with data:= .set gA (ep+1) t' }/\fJ P w (h.update a (Obj.putSet gA t')) a ys:=by
 have hg:(h.update a (Obj.putSet gA t')).get? a=some { o with data:= .set gA (ep+1) t' }:=by
  have z:=Dv (Obj.putSet gA t') ho (by rw[putSet_of gA t' hd];rfl)
  rw[putSet_of gA t' hd]at z;exact z
 exact⟨hg,_,gA,ep+1,t',hg,hx,rfl,oB,hm,hb,hf,hn,hl,fun _=>hp⟩
theorem Nw {k:Str}{Q:Bool->Shared->Prop} (hS:fJ P w s.heap a xs) (room:xs.length+1 < scanBound) (h:∀h',Heap.SameBut a s.heap h'->fJ P w h' a (ik xs k) -> ∀b,Q b { s with heap:=h' }) :
  wpAny (model P w) A (setAddHashed a (.str k tk) (hashStr w k)) Q E s:=by
 obtain⟨o,es,ep,t,ho,hex,hd,oB,jt,hb,hf,hn,xS,cP⟩:=hS;have kq:(strKind P w).is k (.str k tk)=true:=by show Value.isStrOf k (.str k tk)=true;simp[Value.isStrOf]
 have Jh:(Value.str k tk).scannable=true:=rfl;have anb:es.size+1 < scanBound:=by omega
 unfold setAddHashed setAddHashedIn;refine eR (ae (kX ho hd hf ?_));dsimp only;rw[byScan_of (knd:=strKind P w) Jh hb oB,aF rfl];refine ae ?_;unfold setAddByScan;refine ae (nH (ae (wpAny_setScan_of (knd:=strKind P w) (k:=k) kq ho hd hf oB ?_)));cases hr:List.findIdx? (fun e=>(strKind P w).is k e.2) es.toList with
 |some j =>
  obtain⟨hj,hpj,_⟩:=List.findIdx?_eq_some_iff_getElem.mp hr;have hk:k∈xs:=(jt k).mpr ⟨es.toList[j],f9 hj,hpj⟩;refine ak (ak ?_);have e0:s={ s with heap:=s.heap }:=by cases s;rfl
  rw[e0];refine h s.heap (Heap.SameBut.refl a s.heap) ?_ _;unfold ik;rw[aF hk];exact⟨o,es,ep,t,ho,hex,hd,oB,jt,hb,hf,hn,xS,cP⟩
 |none =>
  dsimp only
  have hk:k ∉ xs:=fun z=>by
   obtain⟨e,he,hp⟩:=(jt k).mp z;have:=List.findIdx?_eq_none_iff.mp hr e he;rw[hp]at this;cases this
  have gw:∀ (b:Bool) {bq:Shared}{Q':Unit->Shared->Prop},Q' () bq->wpAny (model P w) A (match b with|true=>rule "set.scan.the-table-gave-way" | false=>pure ()) Q' E bq:=fun b bq Q' hq=>by
   cases b
   ·exact ak hq
   ·exact nH hq
  have fg:=layNew_perm t es ((strKind P w).hash k) (.str k tk);have A1:=layNew_fits t es ((strKind P w).hash k) (.str k tk);have xP:=ZT t es ((strKind P w).hash k) (.str k tk);generalize hL:layNew t es (hashStr w k) (.str k tk)=L;rw[show(strKind P w).hash k=hashStr w k from rfl,hL]at fg A1 xP;obtain⟨gn,t1,wd,ang⟩:=L
  dsimp only at fg A1 xP ⊢
  rw[Array.toList_push]at fg;have Qo:ElemsOf (strKind P w) gn.toList:=(oB.push (k:=k) kq Jh).perm fg;have anh:gn.size=es.size+1:=by rw[<-f7,fg.length_eq,fu,f7];rfl
  have Pf:∀k',k'∈ik xs k ↔ ∃e∈gn.toList,(strKind P w).is k' e.2=true:=fun k'=>by
   unfold ik;rw[ax hk,ff,fw,jt k']
   constructor
   ·rintro(⟨e,he,hp⟩|rfl)
    ·exact⟨e,fg.mem_iff.mpr (kQ _ he),hp⟩
    ·exact⟨_,fg.mem_iff.mpr (gr _ (fw.mpr rfl)),kq⟩
   ·rintro⟨e,he,hp⟩
    rcases ff.mp (fg.mem_iff.mp he) with he|he
    ·exact .inl ⟨e,he,hp⟩
    ·rw[fw]at he;subst he
     exact .inr ((strKind P w).inj _ k' k hp kq)
  have Ji:gn.size=(ik xs k).length:=by unfold ik;rw[ax hk,fu,nN];omega
  have iA:gn.size < scanBound:=by omega
  refine ae (gw _ ?_);have tail:∀t2:SetTable,t2.fits gn.size=true->t2.led=t.led->t2.plain=false->wpAny (model P w) A (do
    storeSet a gn t2
    if (!wd && t2.tooFull)=true then do
      let r:=relayAll t2 gn (SetTable.grown gn.size)
      (match r.2.2 with|true=>rule "set.scan.the-table-gave-way" | false=>pure ())
      storeSet a r.1 r.2.1
      pure (some true)
     else pure (some true)) (fun r s'=>wpAny (model P w) A (match r with|some added=>pure added|none=>setAddHashedIn a (.str k tk) (hashStr w k) 99999) Q E s') E s:=by
   intro t2 yJ gQ kC;obtain⟨oC,hS1⟩:=Nv (P:=P) (w:=w) ho hex hd Qo Pf iA yJ Ji (gQ.trans xS) kC;have R3:=vZ s.heap a (Obj.putSet gn t2);refine ae (wpAny_storeSet_of ho hd ?_ (LF iA));split
   ·have q1:=relayAll_perm t2 gn (SetTable.grown gn.size)
    have q2:=relayAll_fits t2 gn (SetTable.grown gn.size);have q3:=WG t2 gn (SetTable.grown gn.size)
    dsimp only
    generalize relayAll t2 gn (SetTable.grown gn.size)=R at q1 q2 q3 ⊢;obtain⟨Jg,t3,g2⟩:=R
    dsimp only at q1 q2 q3 ⊢
    have cH:Jg.size=gn.size:=by rw[<-f7,q1.length_eq,f7]
    have hm2:∀k',k'∈ik xs k ↔ ∃e∈Jg.toList,(strKind P w).is k' e.2=true:=fun k'=>(Pf k').trans ⟨fun⟨e,he,q⟩=>⟨e,q1.mem_iff.mpr he,q⟩,fun⟨e,he,q⟩=>⟨e,q1.mem_iff.mp he,q⟩⟩;obtain⟨_,hS2⟩:=Nv (P:=P) (w:=w) oC hex rfl (Qo.perm q1) hm2 (by omega) q2 (by omega) (q3.1.trans (gQ.trans xS)) (q3.2 kC)
    refine ae (gw _ (ae (wpAny_storeSet_of oC rfl ?_ (LF (by omega)))))
    exact ak (ak (h _ (R3.trans (vZ _ a _)) hS2 _))
   ·exact ak (ak (h _ R3 hS1 _))
  by_cases pV:t1.plain=true
  ·rw[aF pV]
   refine ae ?_;rw[hashByValue_scannable 8 Jh];refine ak ?_;show wpAny (model P w) A (do
    storeSet a gn { t1 with plain:=false }
    _) _ E s
   exact tail { t1 with plain:=false } (SetTable.fits_plain_off A1) xP rfl
  ·rw[ax pV]
   refine ae (ak ?_);show wpAny (model P w) A (do
    storeSet a gn t1
    _) _ E s
   exact tail t1 A1 xP (by simpa using pV)
end
def jV (val:Nat->Str) (i:Nat):List Str:=((List.range i).map val).foldl ik []
theorem z6 (val:Nat->Str) (i:Nat):jV val (i+1)=ik (jV val i) (val i):=by
 unfold jV;rw[LG,bZ,List.foldl_append];rfl
theorem Nx (xs:List Str) (k:Str):(ik xs k).length<=xs.length+1:=by
 unfold ik;split
 ·omega
 ·rw[fu,nN];omega
theorem E3 {xs:List Str} (h:xs.Nodup) (k:Str):(ik xs k).Nodup:=by
 unfold ik;split
 ·exact h
 ·rename_i hn
  rw[l9];exact⟨h,by simp,fun a ha b hb e=>hn (by rw[<-(fw.mp hb),<-e];exact ha)⟩
theorem Ny {xs:List Str}{k y:Str}:y∈ik xs k ↔ y∈xs\/y=k:=by
 unfold ik;split
 ·rename_i h
  exact⟨.inl,fun z=>z.elim id fun e=>e ▸ h⟩
 ·rw[ff,fw]
theorem Nz (val:Nat->Str):∀i,(jV val i).length<=i
 |0=>aO _
 |i+1=>by rw[z6];have:=Nx (jV val i) (val i);have:=Nz val i;omega
theorem Od (val:Nat->Str):∀i,(jV val i).Nodup
 |0=>qC
 |i+1=>by rw[z6];exact E3 (Od val i) _
theorem NA (val:Nat->Str) (y:Str):∀i,y∈jV val i ↔ ∃j,j < i/\val j=y
 |0=>⟨fun h=>(by cases h),fun⟨_,h,_⟩=>absurd h (zJ _)⟩
 |i+1=>by
  rw[z6,Ny,NA val y i]
  constructor
  ·rintro(⟨j,h,e⟩|e)
   ·exact⟨j,by omega,e⟩
   ·exact⟨i,by omega,e.symm⟩
  ·rintro⟨j,h,e⟩
   by_cases c:j=i
   ·exact .inr (by rw[<-e,c])
   ·exact .inl ⟨j,by omega,e⟩
section
variable{wr:List Addr}{G:Array GenState->Array GenState->Prop}{n:Nat}{Pv:Nat->Value->Prop}{St:Nat->Shared->Prop}
theorem YH (W:WalksS P w A.in1 I fp wr G n Pv St) (S:Addr) (hS:S ∉ fp) (val:Nat->Str) (hv:∀i v,Pv i v -> ∃t,v = .str (val i) t) (hb:n+1 < scanBound) :
  ∀ (k i:Nat) (s:Shared),n - i=k->i<=n->St i s->fJ P w s.heap S (jV val i)->(∀s',Moved (S::wr) G s s'->fJ P w s'.heap S (jV val n)->R (.ok (.ret .none)) s') ->
   codeAny (model P w) A (.builtin "set.update.loop" ⟨[.ref S,.ref I],[]⟩) R s:=by
 have hw:S ∉ wr:=fun z=>hS (W.sub _ z);have up:∀b∈wr,b∈S::wr:=fun b z=>bO _ z;intro k
 induction k with
 |zero =>
  intro i s hk hi st x q;obtain rfl:i=n:=by omega
  refine j9 F.entry_set_update_loop ?_;rw[kU VI _];show wpAny _ A.in1 (pyNext (.ref I) >>= _) _ _ s;refine ae (W.done s _ _ st fun s' m=>?_);show wpAny _ A.in1 (ret Value.none) _ _ s';exact ak (q s' (m.mono up) (x.keep fun o e=>m.heap S o hw e))
 |succ k ih =>
  intro i s hk hi st x q;have lt:i < n:=by omega
  refine j9 F.entry_set_update_loop ?_;rw[kU VI _];show wpAny _ A.in1 (pyNext (.ref I) >>= _) _ _ s;refine ae (W.item i s _ _ lt st fun v s' hP gi m=>?_);obtain⟨t,rfl⟩:=hv i v hP;have x':fJ P w s'.heap S (jV val i):=x.keep fun o e=>m.heap S o hw e;show wpAny _ A.in1 (holding [Value.str (val i) t] (setAdd S (.str (val i) t)) >>= _) _ _ s';refine ae (eR ?_);unfold setAdd;have kq:(strKind P w).is (val i) (.str (val i) t)=true:=by show Value.isStrOf (val i) (.str (val i) t)=true;simp[Value.isStrOf]
  refine eR (ae ((strKind P w).pyHash (k:=val i) kq ?_));have room:(jV val i).length+1 < scanBound:=by have:=Nz val i;omega
  refine Nw (s:={ s' with toks:=s'.toks+1 }) x' room fun h' sb x2 b=>?_;rw[<-z6]at x2;refine ak ⟨l8 VI _,ih (i+1) _ (by omega) lt (W.frame _ s' _ _ gi (oQ _) fun c hc o e=>?_) x2 fun sf m'' x''=>?_⟩
  ·rw[sb.2 c (fun z:c=S=>hS (by rw[<-z];exact hc))];exact e
  ·refine q sf (Moved.trans W.gtrans ((m.mono up).then_heap (oQ _) fun c o hc e=>?_) m'') x''
   rw[sb.2 c (fun z:c=S=>hc (by rw[z];exact bu))];exact e
end
abbrev n8 (w:World):Obj:={ cls:= .type "set",dict:=none,data:= .set #[] 0 (.fresh 0 0 (!w.params.followText "set-order")) }
theorem WH (a:Value) {Q₁:Value->Shared->Prop} (h:Q₁ (.ref s.heap.objs.size) { s with heap:=s.heap.push (n8 w) }) :
  codeAny (model P w) A (.call (.builtin "set.__new__") ⟨[.type "set",a],[]⟩) (wants Q₁ E) s:=by
 refine VJ ?_;show wpAny _ A.in1 (do checkBuiltinCall "set.__new__" ⟨[.type "set",a],[]⟩;again (.builtin "set.__new__" ⟨[.type "set",a],[]⟩)) _ _ s;refine ae (LH (F.newCall_set_1 a) (ak ⟨l8 F.plain_set_new _,j9 F.entry_set_new ?_⟩));rw[kU F.plain_set_new _];unfold Builtin.«set.__new__» Builtin.Frozenset.newClass;have ss:=sub_set_self;obtain⟨hp,g,d,tk,os⟩:=s;dsimp only
 wp_walk
 refine mf (ak ?_);dsimp only;simp only[newObj];refine ae (wpAny_alloc (ak ?_));exact ak h
structure Src (P:Program) (w:World) (T:String) (l:Addr) (ol:Obj) (n:Nat) (Pv:Nat->Value->Prop):Prop where
 cls:ol.cls = .type T
 ns:isSubtype (.type T) (.type "set")=pure false
 nf:isSubtype (.type T) (.type "frozenset")=pure false
 nd:(Value.type T==Value.type "dict")=false
 iter:∀ (A:Around) (s:Shared),A.handled=none->s.heap.get? l=some ol -> ∃ (oI:Obj) (St:Nat->Heap->Prop),
  (∀ (E:Value->Shared->Prop) (Q:Value->Shared->Prop),Q (.ref s.heap.objs.size) { s with heap:=s.heap.push oI }->wpAny (model P w) A (pyIter (.ref l)) Q E s) /\
  Walks P w A s.heap.objs.size [s.heap.objs.size,l] [s.heap.objs.size] n Pv St/\St 0 (s.heap.push oI)
theorem XQ {n:Nat}{Pv:Nat->Value->Prop}{val:Nat->Str}{Q:Value->Shared->Prop} (hh:A.handled=none) (C:Src P w T l ol n Pv) (hl:s.heap.get? l=some ol) (hv:∀i v,Pv i v -> ∃t,v = .str (val i) t) (hb:n+1 < scanBound)
  (h:∀ (h':Heap) (tk:Nat),fJ P w h' s.heap.objs.size (jV val n)->(∀b o,b < s.heap.objs.size->s.heap.get? b=some o->h'.get? b=some o)->Q (.ref s.heap.objs.size) { s with heap:=h',toks:=tk }) :
  wpAny (model P w) A (call (.type "set") [.ref l]) Q E s:=by
 obtain⟨c0,tl0,ani⟩:=sY.mro;have anc:=sY.made;have anj:=sY.sub;refine zA (VJ ?_);show wpAny _ _ (callAny (.type "set") _) _ _ _;refine ak ⟨Code.quiet_builtin _ (by decide +kernel),j9 F.entry_type_call ?_⟩;rw[Around.under_plain (weight_type_call_type "set" [.ref l] []) rfl]
 have f1:=sY.notType;have f2:=sY.canCreate;have f3:=F.typeCall_set_1 (.ref l)
 repeat (any_goals (first|assumption|wp_step))
 refine vV (WH (.ref l) (E:=E) (Q₁:=fun obj bq=>obj = .ref s.heap.objs.size/\bq={ s with heap:=s.heap.push (n8 w) }) ⟨rfl,rfl⟩) fun r bq hr=>?_;cases r with
 |error e=>exact hr
 |ok fl =>
  cases fl with
  |ret obj =>
   obtain⟨rfl,rfl⟩:=hr;have gS:(s.heap.push (n8 w)).get? s.heap.objs.size=some (n8 w):=cj _ rfl;have tS:Shared.TypeIs { s with heap:=s.heap.push (n8 w) } (.ref s.heap.objs.size) "set" :=⟨_,gS,rfl⟩;have i1:=sY.init.lookup;have i2:=sY.init.bind (.ref s.heap.objs.size)
   repeat (any_goals (first|assumption|wp_step))
   refine vV (codeAny_call_builtin (R:=wants (fun r lz=>r = .none /\ ∃h' tk,lz={ s with heap:=h',toks:=tk }/\fJ P w h' s.heap.objs.size (jV val n)/\(∀b o,b < s.heap.objs.size->s.heap.get? b=some o->h'.get? b=some o)) E) sY.init.plain F.entry_set_init (check_set_init_1 tS ?_)) fun adG lz F8=>?_
   ·have iz:(s.heap.push (n8 w)).get? l=some ol:=a8 _ hl
    obtain⟨adH,ane,anf,ana⟩:=ol;have adI:adH = .type T:=C.cls;subst adI;have ns:=C.ns;have nf:=C.nf;have nd:=C.nd;unfold Builtin.«set.__init__» noKeywords Builtin.Frozenset.updateFrom;generalize hPI:pyIter=PI
    wp_walk
    subst hPI;obtain⟨oI,St,it,W,st⟩:=C.iter A.in1.in1.in1 { s with heap:=s.heap.push (n8 w) } (by simp[hh]) iz
    refine wpAny_of_in1 (it _ _ ?_);refine ae (VL ?_);have lS:l < s.heap.objs.size:=bo hl;have nS:s.heap.objs.size ∉ [(s.heap.push (n8 w)).objs.size,l]:=by
     rw[l6];simp only[bH,fw,mh,mi,not_or];exact⟨bx (vU _),nI lS⟩
    refine YH W.toS s.heap.objs.size nS val hv hb (n - 0) 0 _ (by omega) (bR _) st (Nu (a8 _ gS)) ?_
    intro s' m x';obtain⟨h',g',d',oA,yq⟩:=s';have e1:g'=s.gens:=m.gens;have e2:d'=s.drawn:=m.drawn;have e3:yq=s.os:=m.os;subst e1;subst e2;subst e3;show wpAny _ _ _ _ _ _;refine ak ?_;show wpAny _ _ (ret Value.none) _ _ _;refine ak ⟨rfl,h',oA,rfl,x',fun b o hb e=>?_⟩;have b1:b≠s.heap.objs.size:=bx hb;have b2:b≠(s.heap.push (n8 w)).objs.size:=by rw[l6];exact bx (v8 hb)
    exact m.heap b o (by simp only[bH,fw,mh,mi,not_or];exact⟨b1,b2⟩) (a8 _ (a8 _ e))
   ·cases adG with
    |error e=>exact F8
    |ok aca =>
     cases aca with
     |ret r =>
      obtain⟨rfl,h',tk,rfl,x',k'⟩:=F8
      repeat (any_goals (first|assumption|wp_step))
      exact h _ _ x' k'
     |_=>exact F8.elim
  |_=>exact hr.elim
theorem src_list (cl:ol.cls = .type "list") (dt:∃n,ol.data = .seq items n):Src P w "list" l ol items.size (fun i v=>items[i]? = some v) where
 cls:=cl
 ns:=F.sub_list_set
 nf:=F.sub_list_frozenset
 nd:=by decide
 iter:=fun A s hh hl=>by
  have il:s.heap.IsList l items:=⟨ol,hl,cl,dt⟩;have lt:=bo hl;exact⟨_,_,fun E Q q=>zy il q,Walks.list hh _ l (bx lt) items,⟨_,cj _ rfl,rfl,rfl⟩,il.push _⟩
theorem ZU (cl:ol.cls = .type "tuple") (dt:∃n,ol.data = .seq items n):Src P w "tuple" l ol items.size (fun i v=>items[i]? = some v) where
 cls:=cl
 ns:=F.sub_tuple_set
 nf:=F.sub_tuple_frozenset
 nd:=by decide
 iter:=fun A s hh hl=>by
  have il:s.heap.IsTuple l items:=⟨ol,hl,cl,dt⟩;have lt:=bo hl;exact⟨_,_,fun E Q q=>wpAny_pyIter_tuple il q,Walks.tuple hh _ l (bx lt) items,⟨_,cj _ rfl,rfl,rfl⟩,il.push _⟩
theorem tD:Slot "set_iterator" "__next__" "set_iterator.__next__" :=
 Slot.of (owner:= "set_iterator") (n:= "__next__") (by rw[Lw,Lx];kernel_rfl) (by decide +kernel) (by decide +kernel) (by decide +kernel) (by first|exact .inl (by decide +kernel)|exact .inr (by decide +kernel)) (by rw[VM];kernel_rfl)
theorem Wh:entryFor table "set_iterator.__next__" = some Builtin.«set_iterator.__next__» :=entryFor_of_tree (by kernel_rfl)
theorem NB:Manifest.owners.lookup (String.ofList "rotareti_tes".toList.reverse)=some Manifest.sig_set_iterator:=by kernel_rfl
theorem Wq (a:Value):argsOk "set_iterator.__next__" ⟨[a],[]⟩:=by
 unfold argsOk;rw[signature?_of (id:= "set_iterator.__next__") (n:= ['_','_','t','x','e','n','_','_']) (o:= "rotareti_tes".toList) (by kernel_rfl) NB];kernel_rfl
theorem zR:Slot "set_iterator" "__iter__" "set_iterator.__iter__" :=
 Slot.of (owner:= "set_iterator") (n:= "__iter__") (by rw[Lw,Lx];kernel_rfl) (by decide +kernel) (by decide +kernel) (by decide +kernel) (by first|exact .inl (by decide +kernel)|exact .inr (by decide +kernel)) (by rw[VM];kernel_rfl)
theorem LZ:entryFor table "set_iterator.__iter__" = some Builtin.«dict_keyiterator.__iter__» :=entryFor_alias (id':= "dict_keyiterator.__iter__") (by kernel_rfl) rfl (by decide +kernel) (by kernel_rfl)
theorem L5 (a:Value):argsOk "set_iterator.__iter__" ⟨[a],[]⟩:=by
 unfold argsOk;rw[signature?_of (id:= "set_iterator.__iter__") (n:= ['_','_','r','e','t','i','_','_']) (o:= "rotareti_tes".toList) (by kernel_rfl) NB];kernel_rfl
theorem Wr:entryFor table "set.__iter__" = some Builtin.«frozenset.__iter__» :=entryFor_alias (id':= "frozenset.__iter__") (by kernel_rfl) rfl (by decide +kernel) (by kernel_rfl)
abbrev lM (first:Value) (i:Nat) (a:Addr) (n ep:Nat):Obj:={ cls:= .type "set_iterator",dict:=none,data:= .fields #[first,.int i 0,.ref a,.int n 0,.int ep 0],slots:= #[] }
section
variable{es:Array (Int×Value)}{t:SetTable}
theorem Ab {first:Value}{n:Nat}{Q:Option Value->Shared->Prop} (hit:s.heap.get? I=some (lM first i a n ep)) (ho:s.heap.get? a=some o) (hd:o.data = .set es ep t) (hf:t.fits es.size=true) (hn:es.size=n)
  (body:wpAny (model P w) A.in1 (do
   if let .int slot _:=first then
    match <- setNext a slot.toNat ((i:Int)).toNat ((ep:Int)).toNat with
    |some (x,next) =>
     setField (.ref I) 0 (rawInt next)
     setField (.ref I) 1 (rawInt ((i:Int)+1))
     ret x
    |none=>setField (.ref I) 2 .none;raiseNew (<- newExc (.type "StopIteration") [])
   else
    let some places <- seqItems? first|unsupported "internal:set_iterator"
    match places[((i:Int)).toNat]? with
    |some (.int place _) =>
     let x <- setNextDrawn a place.toNat ((ep:Int)).toNat
     setField (.ref I) 1 (rawInt ((i:Int)+1))
     ret x
    |some _=>unsupported "internal:set_iterator"
    |none=>setField (.ref I) 0 (rawInt 0);setField (.ref I) 2 .none;raiseNew (<- newExc (.type "StopIteration") []))
   (fun fin s'=>∃r,fin = .done (.ret r)/\Q (some r) s') (fun e s'=>wpAny (model P w) A (do if <- isInstance e (.type "StopIteration") then pure none else throw e) Q E s') s):wpAny (model P w) A (pyNext (.ref I)) Q E s:=by
 have hT:s.TypeIs (.ref I) "set_iterator" :=⟨_,hit,rfl⟩;unfold pyNext;refine ae (vY (vX (name:=Str.ofString "__next__") hT tD (ji tD hT Wh ?_ (Wq _))));unfold Builtin.«set_iterator.__next__»;refine ae (ak ?_)
 dsimp only
 refine ae (Dy hit rfl ?_)
 dsimp only
 refine ae ?_;unfold setEntries;refine ae (kX ho hd hf (ak ?_))
 dsimp only
 rw[ax (by rw[hn];simp)]
 refine lZ body (fun fin s' h=>?_) fun e s' h=>?_
 ·obtain⟨r,rfl,q⟩:=h
  exact⟨r,rfl,ak q⟩
 ·exact h
theorem NC {Q:Option Value->Shared->Prop} (hh:A.handled=none) (q:∀h',(∀b ob,s.heap.get? b=some ob->h'.get? b=some ob)->Q none { s with heap:=h' }) :
  wpAny (model P w) A.in1 (newExc (.type "StopIteration") [] >>= fun e=>(raiseNew e:Sem PySem.Fin)) (fun fin s'=>∃r,fin = .done (.ret r)/\Q (some r) s') (fun e s'=>wpAny (model P w) A (do if <- isInstance e (.type "StopIteration") then pure none else throw e) Q E s') s:=by
 refine ae ?_;simp only[newExc,newTuple];refine ae (gJ ?_ (by size_fits))
 refine ae (m:=firstArgMember _ _) (LH (a:=Value.none) (by first|rfl|(simp only[firstArgMember];rfl)) (gJ ?_ (by size_fits)))
 simp only[raiseNew];refine ae (VN ?_);rw[show A.in1.handled=none from hh];refine ae (ak (Dz ?_));refine ae (LI (T:= "StopIteration") (b:=true) (show Shared.TypeIs _ _ _ from⟨_,cj _ rfl,rfl⟩) VO ?_);exact ak (q _ fun b ob e=>a8 _ (a8 _ e))
theorem Wi {slot n nx:Nat}{x:Value}{Q:Option Value->Shared->Prop} (hit:s.heap.get? I=some (lM (.int slot 0) i a n ep)) (ho:s.heap.get? a=some o) (hd:o.data = .set es ep t) (hf:t.fits es.size=true) (hn:es.size=n)
  (vf:∀ (E':Value->Shared->Prop) (Q':Option (Value×Nat)->Shared->Prop),Q' (some (x,nx)) s->wpAny (model P w) A.in1 (setNext a slot i ep) Q' E' s)
  (q:∀h',h'.get? I=some (lM (.int nx 0) (i+1) a n ep)->Heap.SameBut I s.heap h'->Q (some x) { s with heap:=h' }):wpAny (model P w) A (pyNext (.ref I)) Q E s:=by
 refine Ab hit ho hd hf hn ?_;simp only[nK];refine ae (vf _ _ ?_);refine ae (nQ hit (by simp) fun h1 g1 s1=>?_)
 refine ae (nQ g1 (by simp) fun h2 g2 s2=>?_)
 exact ak ⟨x,rfl,q h2 (by rw[g2];simp[rawInt]) (s1.trans s2)⟩
theorem Ws {slot n:Nat}{Q:Option Value->Shared->Prop} (hh:A.handled=none) (hit:s.heap.get? I=some (lM (.int slot 0) i a n ep)) (ho:s.heap.get? a=some o) (hd:o.data = .set es ep t) (hf:t.fits es.size=true) (hn:es.size=n)
  (vf:∀ (E':Value->Shared->Prop) (Q':Option (Value×Nat)->Shared->Prop),Q' none s->wpAny (model P w) A.in1 (setNext a slot i ep) Q' E' s)
  (q:∀h',(∀b ob,b≠I->s.heap.get? b=some ob->h'.get? b=some ob)->Q none { s with heap:=h' }):wpAny (model P w) A (pyNext (.ref I)) Q E s:=by
 refine Ab hit ho hd hf hn ?_;simp only[nK];refine ae (vf _ _ ?_);refine ae (nQ hit (by simp) fun h1 g1 s1=>?_)
 exact NC hh fun h2 k2=>q h2 fun b ob nb e=>k2 b ob (by rw[s1.2 b nb];exact e)
theorem Wj {pt:Addr}{ps:List Nat}{n pl:Nat}{z:Int}{x:Value}{Q:Option Value->Shared->Prop} (hit:s.heap.get? I=some (lM (.ref pt) i a n ep)) (ho:s.heap.get? a=some o) (hd:o.data = .set es ep t) (hf:t.fits es.size=true) (hn:es.size=n)
  (hp:∃op c,s.heap.get? pt=some op/\op.data = .seq (ps.map fun(j:Nat)=>rawInt j).toArray c) (hi:ps[i]? = some pl) (hx:es[pl]? = some (z,x))
  (q:∀h',h'.get? I=some (lM (.ref pt) (i+1) a n ep)->Heap.SameBut I s.heap h'->Q (some x) { s with heap:=h' }):wpAny (model P w) A (pyNext (.ref I)) Q E s:=by
 refine Ab hit ho hd hf hn ?_;obtain⟨op,c,yo,vg⟩:=hp
 dsimp only
 simp only[nK];refine ae ?_;unfold seqItems?;refine ae (zx yo ?_);rw[vg];refine ak ?_
 dsimp only
 have e1:(ps.map fun(j:Nat)=>rawInt j).toArray[i]? = some (rawInt pl):=by simp[hi]
 rw[e1];show wpAny _ _ (setNextDrawn a ((pl:Int)).toNat ep >>= _) _ _ s;rw[nK];unfold setNextDrawn;refine ae (ae (kX ho hd hf ?_))
 dsimp only
 rw[ax (by simp),hx]
 refine ak ?_;refine ae (nQ hit (by simp) fun h2 g2 s2=>?_)
 exact ak ⟨x,rfl,q h2 (by rw[g2];simp[rawInt]) s2⟩
theorem Wt {pt:Addr}{ps:List Nat}{n:Nat}{Q:Option Value->Shared->Prop} (hh:A.handled=none) (hit:s.heap.get? I=some (lM (.ref pt) i a n ep)) (ho:s.heap.get? a=some o) (hd:o.data = .set es ep t) (hf:t.fits es.size=true) (hn:es.size=n)
  (hp:∃op c,s.heap.get? pt=some op/\op.data = .seq (ps.map fun(j:Nat)=>rawInt j).toArray c) (hi:ps.length<=i)
  (q:∀h',(∀b ob,b≠I->s.heap.get? b=some ob->h'.get? b=some ob)->Q none { s with heap:=h' }):wpAny (model P w) A (pyNext (.ref I)) Q E s:=by
 refine Ab hit ho hd hf hn ?_;obtain⟨op,c,yo,vg⟩:=hp
 dsimp only
 simp only[nK];refine ae ?_;unfold seqItems?;refine ae (zx yo ?_);rw[vg];refine ak ?_
 dsimp only
 have e1:(ps.map fun(j:Nat)=>rawInt j).toArray[i]? = none:=by simp;omega
 rw[e1];refine ae (nQ hit (by simp) fun h1 g1 s1=>?_)
 refine ae (nQ g1 (by simp) fun h2 g2 s2=>?_)
 exact NC hh fun h3 k3=>q h3 fun b ob nb e=>k3 b ob (by rw[s2.2 b nb,s1.2 b nb];exact e)
end
theorem MV {α:Type} (next:Nat->Nat):∀ (fuel k:Nat) (left:List α) (out:Array α),left.length=fuel->(pickOrder.go next fuel k left out).toList.Perm (out.toList++left)
 |0,k,left,out,h=>by
  have:left = []:=zK h;subst this;unfold pickOrder.go;simp
 |fuel+1,k,left,out,h=>by
  have aT:next k % left.length < left.length:=Nat.mod_lt _ (by omega)
  unfold pickOrder.go;rw[bC aT]
  dsimp only
  refine(MV next fuel (k+1) _ _ (by rw[amy,aF aT];omega)).trans ?_
  rw[Array.toList_push,Vv];refine amz _ ?_;generalize next k % left.length=j at aT;have key:∀ (l:List α) (j:Nat) (h:j < l.length),(l[j]::l.eraseIdx j).Perm l:=by
   intro l
   induction l with
   |nil=>intro j h;exact absurd h (zJ _)
   |cons x l ih =>
    intro j h;cases j with
    |zero=>exact qD _
    |succ j=>exact(List.Perm.swap _ _ _).trans ((ih j (DA h)).cons x)
  exact key left j aT
section
variable{xs:List Str}
theorem Oe {α:Type}:∀ (m:Nat) (l:List α) {s:Shared}{Q:List α->Shared->Prop},l.length=m->(∀ps d,ps.Perm l->Q ps { s with drawn:=d })->wpAny (model P w) A (drawOrder m l) Q E s
 |0,l,s,Q,h,q=>by
  have:l = []:=zK h;subst this;unfold drawOrder;exact ak (q [] s.drawn (qD _))
 |m+1,[],s,Q,h,q=>by simp at h
 |m+1,x::l,s,Q,h,q=>by
  unfold drawOrder;refine ae ?_;have ch:∀ {Q':Nat->Shared->Prop}{s:Shared},(∀i d,i < (x::l).length->Q' i { s with drawn:=d })->wpAny (model P w) A (choose .order (x::l).length) Q' E s:=fun {Q' s} q'=>by
   intro Γ p hΓ;exact⟨by simp,q' _ _ (Nat.mod_lt _ (by simp))⟩
  refine ch fun i d hi=>?_;rw[bC hi]
  dsimp only
  refine ae (Oe m _ (by rw[amy,aF hi];omega) fun ps d' hp=>ak ?_)
  refine q _ _ ((hp.cons _).trans ?_);have key:∀ (l:List α) (j:Nat) (h:j < l.length),(l[j]::l.eraseIdx j).Perm l:=by
   intro l
   induction l with
   |nil=>intro j h;exact absurd h (zJ _)
   |cons x l ih =>
    intro j h;cases j with
    |zero=>exact qD _
    |succ j=>exact(List.Perm.swap _ _ _).trans ((ih j (DA h)).cons x)
  exact key _ i hi
theorem Xh {es:List (Int×Value)} (h:ElemsOf (strKind P w) es):∃ks:List Str,StrsAre (es.map (·.2)) ks /\ ∀k,k∈ks ↔ ∃e∈es,(strKind P w).is k e.2=true:=by
 induction es with
 |nil=>exact⟨[],.nil,fun k=>(by simp)⟩
 |cons e es ih =>
  obtain⟨ks,h1,h2⟩:=ih h.tail;obtain⟨⟨k,hk,_⟩,_⟩:=h.head;obtain⟨t,et⟩:=U' hk;refine⟨k::ks,?_,fun y=>?_⟩
  ·rw[ck,et];exact .cons k t h1
  ·rw[bH,h2 y]
   constructor
   ·rintro(rfl|⟨e',he,q⟩)
    ·exact⟨e,bu,hk⟩
    ·exact⟨e',bO _ he,q⟩
   ·rintro⟨e',he,q⟩
    rcases bH.mp he with rfl|he
    ·exact .inl ((strKind P w).inj _ _ _ q hk)
    ·exact .inr ⟨e',he,q⟩
theorem MX {vs:List Value} (h:StrsAre us ks) (p:vs.Perm us):∃ys,StrsAre vs ys/\ys.Perm ks:=by
 induction p generalizing ks with
 |nil=>exact⟨ks,h,qD _⟩
 |cons x _ ih =>
  cases h with
  |cons y t r=>obtain⟨ys,h1,h2⟩:=ih r;exact⟨y::ys,.cons y t h1,h2.cons y⟩
 |swap x y l =>
  cases h with
  |cons k1 t1 r1 =>
   cases r1 with
   |cons k2 t2 r2=>exact⟨k2::k1::_,.cons k2 t2 (.cons k1 t1 r2),List.Perm.swap _ _ _⟩
 |trans _ _ Je Jf =>
  obtain⟨ys,h1,h2⟩:=Jf h;obtain⟨zs,h3,h4⟩:=Je h1;exact⟨zs,h3,h4.trans h2⟩
theorem tM {vs:List Value}{ys:List Str} (h:StrsAre vs ys):vs.length=ys.length:=by
 induction h with
 |nil=>rfl
 |cons _ _ _ ih=>rw[cO,cO,ih]
theorem Wu {a b:List Str} (nd:a.Nodup) (hl:b.length=a.length) (h:∀x∈a,x∈b):b.Perm a:=by
 induction a generalizing b with
 |nil=>have:b = []:=zK hl;subst this;exact qD _
 |cons x a ih =>
  rw[iZ]at nd;have hx:=h x bu;have p1:=List.perm_cons_erase hx;have gQ:(b.erase x).length=a.length:=by rw[Vy hx,hl];rfl
  have h2:∀y∈a,y∈b.erase x:=fun y hy=>(VA (show y≠x from fun e=>nd.1 (by rw[<-e];exact hy))).mpr (h y (bO _ hy))
  exact p1.trans ((ih nd.2 gQ h2).cons x)
structure Hk (P:Program) (w:World) (a:Addr) (vs:List Value) (I:Addr) (fp:List Addr) (h:Heap):Prop where
 go:∃St:Nat->Heap->Prop,(∀A:Around,A.handled=none->Walks P w A I fp [I] vs.length (fun i v=>vs[i]? = some v) St)/\St 0 h
theorem ND {es:Array (Int×Value)}{t:SetTable} (slot:Nat->Nat) {vs:List Value} (bc:a≠I) (hd:o.data = .set es ep t) (hf:t.fits es.size=true) (hn:es.size=vs.length) (h0:slot 0=0) (ho:h.get? a=some o) (hi:h.get? I=some (lM (.int 0 0) 0 a vs.length ep))
  (item:∀ (A:Around) (s:Shared) (i:Nat) (v:Value) (E':Value->Shared->Prop) (Q':Option (Value×Nat)->Shared->Prop),s.heap.get? a=some o->vs[i]? = some v->Q' (some (v,slot (i+1))) s->wpAny (model P w) A (setNext a (slot i) i ep) Q' E' s)
  (done:∀ (A:Around) (s:Shared) (E':Value->Shared->Prop) (Q':Option (Value×Nat)->Shared->Prop),s.heap.get? a=some o->Q' none s->wpAny (model P w) A (setNext a (slot vs.length) vs.length ep) Q' E' s):Hk P w a vs I [I,a] h:=by
 refine⟨fun i h=>h.get? a=some o/\h.get? I=some (lM (.int (slot i) 0) i a vs.length ep),fun A hh=>⟨fun b hb=>(by simp at hb;simp[hb]),fun i h h' st k=>⟨k a (by simp) _ st.1,k I (by simp) _ st.2⟩,fun i s Q E hi st q=>?_,fun s Q E st q=>?_,fun i s Q E st q=>?_⟩,ho,by rw[h0];exact hi⟩
 ·have hv:vs[i]? = some vs[i]:=bC hi
  refine Wi st.2 st.1 hd hf hn (fun E' Q' q'=>item _ _ i _ E' Q' st.1 hv q') fun h' g sb=>?_;exact q _ h' s.toks hv ⟨by rw[sb.2 a bc];exact st.1,g⟩ fun b ob hb e=>by rw[sb.2 b (fun z=>hb (by simp[z]))];exact e
 ·exact Ws hh st.2 st.1 hd hf hn (fun E' Q' q'=>done _ _ E' Q' st.1 q') fun h' k=>q h' s.toks fun b ob hb e=>k b ob (fun z=>hb (by simp[z])) e
 ·have hT:s.TypeIs (.ref I) "set_iterator" :=⟨_,st.2,rfl⟩
  refine DB hT zR (ji zR hT LZ ?_ (L5 _));show wpAny _ _ (ret (.ref I)) _ _ s;exact ak ⟨_,rfl,"set_iterator",_,hT,tD.lookup,q⟩
theorem YI {es:Array (Int×Value)}{t:SetTable}{pt:Addr}{ps:List Nat}{vs:List Value} (bc:a≠I) (hnp:pt≠I) (hd:o.data = .set es ep t) (hf:t.fits es.size=true) (hn:es.size=vs.length) (cP:ps.length=vs.length) (ho:h.get? a=some o) (hi:h.get? I=some (lM (.ref pt) 0 a vs.length ep))
  {op:Obj}{c:Nat} (hp:h.get? pt=some op) (vg:op.data = .seq (ps.map fun(j:Nat)=>rawInt j).toArray c) (item:∀ (i:Nat) (v:Value),vs[i]? = some v -> ∃pl z,ps[i]? = some pl/\es[pl]? = some (z,v)):Hk P w a vs I [I,a,pt] h:=by
 refine⟨fun i h=>h.get? a=some o/\h.get? pt=some op/\h.get? I=some (lM (.ref pt) i a vs.length ep),fun A hh=>⟨fun b hb=>(by simp at hb;simp[hb]),fun i h h' st k=>⟨k a (by simp) _ st.1,k pt (by simp) _ st.2.1,k I (by simp) _ st.2.2⟩,fun i s Q E hi st q=>?_,fun s Q E st q=>?_,fun i s Q E st q=>?_⟩,ho,hp,hi⟩
 ·have hv:vs[i]? = some vs[i]:=bC hi
  obtain⟨pl,z,h1,h2⟩:=item i _ hv;refine Wj st.2.2 st.1 hd hf hn ⟨op,c,st.2.1,vg⟩ h1 h2 fun h' g sb=>?_;exact q _ h' s.toks hv ⟨by rw[sb.2 a bc];exact st.1,by rw[sb.2 pt hnp];exact st.2.1,g⟩ fun b ob hb e=>by rw[sb.2 b (fun z=>hb (by simp[z]))];exact e
 ·exact Wt hh st.2.2 st.1 hd hf hn ⟨op,c,st.2.1,vg⟩ (by omega) fun h' k=>q h' s.toks fun b ob hb e=>k b ob (fun z=>hb (by simp[z])) e
 ·have hT:s.TypeIs (.ref I) "set_iterator" :=⟨_,st.2.2,rfl⟩
  refine DB hT zR (ji zR hT LZ ?_ (L5 _));show wpAny _ _ (ret (.ref I)) _ _ s;exact ak ⟨_,rfl,"set_iterator",_,hT,tD.lookup,q⟩
end
theorem MY (j k:Nat):SetTable.below #[j] k=if j < k then 1 else 0:=by
 unfold SetTable.below;show SetTable.below.go #[j] k 1 0 1=_;unfold SetTable.below.go
 by_cases h:j < k
 ·simp[h,SetTable.below.go]
 ·simp[h,SetTable.below.go]
theorem Xi (k:Nat):SetTable.below #[] k=0:=by unfold SetTable.below;rfl
section
variable{xs:List Str}
theorem YJ {Q:Value->Shared->Prop} (hS:fJ P w s.heap a xs) (nd:xs.Nodup)
  (q:∀ (h':Heap) (d':Drawn) (I:Addr) (fp:List Addr) (vs:List Value) (ys:List Str),Hk P w a vs I fp h'->StrsAre vs ys->ys.Perm xs->(∀b∈fp,b=a\/s.heap.objs.size<=b)->I∈fp->(∀b∈fp,b < h'.objs.size)->s.heap.objs.size<=I->(∀b ob,s.heap.get? b=some ob->h'.get? b=some ob)->Q (.ref I) { s with heap:=h',drawn:=d' }) :
  wpAny (model P w) A (pyIter (.ref a)) Q E s:=by
 have hT:=hS.typeIs;obtain⟨o,es,ep,t,ho,hex,hd,oB,jt,hb,hf,hn,xS,cP⟩:=hS;have yK:=bo ho;obtain⟨ks,k1,k2⟩:=Xh oB;have kl:ks.length=xs.length:=by have:=tM k1;rw[aE,f7]at this;omega
 have kp:ks.Perm xs:=Wu nd kl fun x hx=>(k2 x).mpr ((jt x).mp hx);refine DB hT F.slot_set_iter (ji F.slot_set_iter hT Wr ?_ (F.args_set_iter_1 _));unfold Builtin.«frozenset.__iter__» Builtin.Frozenset.slot0 Builtin.Frozenset.sizeOf setEntries setDrawn setsByText;refine ae (ae (ak (ak ?_)));refine ae (ae (ae (kX ho hd hf (ak (ak ?_)))))
 dsimp only
 refine ae (ae (kX ho hd hf ?_));dsimp only;refine ae (ae (mf (ak (ak ?_))));show wpAny _ _ (if (!w.params.followText "set-order" && (!t.plain && decide (es.size > 1)))=true then _ else _) _ _ s
 by_cases big:(!w.params.followText "set-order" && (!t.plain && decide (es.size > 1)))=true
 ·
  rw[aF big];refine ae (Oe es.size (List.range es.size) (by simp) fun ps d gT=>?_)
  have pl:ps.length=es.size:=by rw[gT.length_eq];simp
  refine ae (gJ ?_ (by show(ps.map _).toArray.size<=sizeLine;rw[cE,aE,pl];exact LF hb))
  refine ae ?_;unfold setEpoch;refine ae (kX (a8 _ ho) hd hf (ak ?_))
  dsimp only
  refine ae (gJ (ak ⟨_,rfl,"set_iterator",_,⟨_,cj _ rfl,rfl⟩,tD.lookup,?_⟩));have Cf:∀p∈ps,p < es.size:=fun p hp=>kO.mp (gT.mem_iff.mp hp)
  let vs:List Value:=ps.map fun p=>(es.toList.map (·.2)).getD p .none
  have pv:vs.Perm (es.toList.map (·.2)):=by
   have e1:(List.range es.size).map (fun p=>(es.toList.map (·.2)).getD p .none)=es.toList.map (·.2):=by
    apply VG
    ·simp
    ·intro n h1 h2
     have:n < es.size:=by simpa using h1
     simp[this]
   rw[<-e1];exact gT.map _
  obtain⟨ys,y1,y2⟩:=MX k1 pv;have vl:vs.length=es.size:=by show(ps.map _).length=_;rw[aE,pl]
  have hW:(s.heap.push { cls:= .type "tuple",data:= .seq (ps.map fun(i:Nat)=>rawInt i).toArray }).objs.size=s.heap.objs.size+1:=l6 ..;refine q _ d _ [_,a,s.heap.objs.size] vs ys (YI (o:=o) (op:={ cls:= .type "tuple",data:= .seq (ps.map fun(i:Nat)=>rawInt i).toArray }) (ps:=ps) (by rw[hW];exact bx (v8 yK)) (by rw[hW];exact bx (vU _)) hd hf vl.symm (by rw[vl,pl]) (a8 _ (a8 _ ho)) ?_ (a8 _ (cj _ rfl)) rfl ?_) y1 (y2.trans kp) ?_ bu ?_ (by rw[hW];omega) fun b ob e=>a8 _ (a8 _ e)
  ·rw[cj _ rfl,vl];rfl
  ·intro i v hv
   have r9:(ps.map fun p=>(es.toList.map (·.2)).getD p .none)[i]? = some v:=hv;rw[eK]at r9;obtain⟨p,hp,ev⟩:=kW.mp r9;have aT:=Cf p (jH hp);refine⟨p,es[p].1,hp,?_⟩;rw[v9 aT]
   congr 1
   rw[<-ev];simp[aT]
  ·intro b jB
   simp only[bH,mh,mi]at jB;rcases jB with rfl|rfl|rfl
   ·exact .inr (by rw[hW];omega)
   ·exact .inl rfl
   ·exact .inr (aO _)
  ·intro b jB
   simp only[bH,mh,mi]at jB;rw[l6,hW];rcases jB with z|z|z
   ·rw[z,hW];exact vU _
   ·rw[z];exact v8 (v8 yK)
   ·rw[z];exact v8 (vU _)
 ·rw[ax big]
  refine ae (ak ?_);refine ae ?_;unfold setEpoch;refine ae (kX ho hd hf (ak ?_))
  dsimp only
  refine ae (gJ (ak ⟨_,rfl,"set_iterator",_,⟨_,cj _ rfl,rfl⟩,tD.lookup,?_⟩));have R4:∀b ∈ [s.heap.objs.size,a],b=a\/s.heap.objs.size<=b:=fun b jB=>by
   simp only[bH,mh,mi]at jB;rcases jB with rfl|rfl
   ·exact .inr (aO _)
   ·exact .inl rfl
  have R5:∀ (oo:Obj),∀b ∈ [s.heap.objs.size,a],b < (s.heap.push oo).objs.size:=fun oo b jB=>by
   simp only[bH,mh,mi]at jB;rw[l6];rcases jB with z|z
   ·rw[z];exact vU _
   ·rw[z];exact v8 yK
  cases bt:w.params.followText "set-order" with
  |true =>
   have sv:∀next:Nat->Nat,((pickOrder next es).toList.map (·.2)).Perm (es.toList.map (·.2)):=fun next=>by
    unfold pickOrder;have:=MV next es.size 0 es.toList #[] (by simp)
    exact(by simpa using this:(pickOrder.go next es.size 0 es.toList #[]).toList.Perm es.toList).map _
   obtain⟨ys,y1,y2⟩:=MX k1 (sv (w.params.setOrder a ep));have vl:=(sv (w.params.setOrder a ep)).length_eq;rw[aE,f7,aE,f7]at vl;refine q _ s.drawn _ [_,a] ((pickOrder (w.params.setOrder a ep) es).toList.map (·.2)) ys (ND (o:=o) (fun _=>0) (bx yK) hd hf (by rw[aE,f7,vl]) rfl (a8 _ ho) ?_ ?_ ?_) y1 (y2.trans kp) R4 bu (R5 _) (aO _) fun b ob e=>a8 _ e
   ·rw[cj _ rfl,aE,f7,vl];rfl
   ·intro A s i v E' Q' ha hv hq
    unfold setNext setsByText;refine ae (kX ha hd hf ?_);dsimp only;refine ae (ae (mf (ak ?_)));show wpAny _ _ (if w.params.followText "set-order" = true then _ else _) _ _ _;rw[aF bt,ax (by simp)]
    unfold setWalk setsByText;refine ae (ae (kX ha hd hf ?_));dsimp only;refine ae (ae (mf (ak ?_)));show wpAny _ _ (if w.params.followText "set-order" = true then _ else _) _ _ _;rw[aF bt];refine ae (mf (ak (ak ?_)));show Q' (((pickOrder (w.params.setOrder a ep) es)[i]?).map fun e=>(e.2,0)) s;rw[eK,zE]at hv;obtain⟨e,he,ev⟩:=kW.mp hv;rw[he];show Q' (some (e.2,0)) s;rw[ev];exact hq
   ·intro A s E' Q' ha hq
    unfold setNext setsByText;refine ae (kX ha hd hf ?_);dsimp only;refine ae (ae (mf (ak ?_)));show wpAny _ _ (if w.params.followText "set-order" = true then _ else _) _ _ _;rw[aF bt,ax (by simp)]
    unfold setWalk setsByText;refine ae (ae (kX ha hd hf ?_));dsimp only;refine ae (ae (mf (ak ?_)));show wpAny _ _ (if w.params.followText "set-order" = true then _ else _) _ _ _;rw[aF bt];refine ae (mf (ak (ak ?_)));show Q' (((pickOrder (w.params.setOrder a ep) es)[((pickOrder (w.params.setOrder a ep) es).toList.map (·.2)).length]?).map fun e=>(e.2,0)) s;rw[zL (by simp)]
    exact hq
  |false =>
   have bV:es.size<=1:=by
    rw[bt]at big
    by_cases z:es.size<=1
    ·exact z
    ·have hp:=cP (by omega)
     rw[hp]at big;exact absurd (by simp;omega) big
   have led:t.led=true:=by rw[xS,bt];rfl
   have yB:t.place.size=es.size:=by
    have:=hf;simp only[SetTable.fits,nM,jG,VP]at this;exact this.1
   refine q _ s.drawn _ [_,a] (es.toList.map (·.2)) ks (ND (o:=o) (fun i=>if i=0 then 0 else t.place.getD 0 0+1) (bx yK) hd hf (by rw[aE,f7]) rfl (a8 _ ho) ?_ ?_ ?_) k1 kp R4 bu (R5 _) (aO _) fun b ob e=>a8 _ e
   ·rw[cj _ rfl,aE,f7];rfl
   ·intro A s i v E' Q' ha hv hq
    rw[eK,zE]at hv;obtain⟨e,he,ev⟩:=kW.mp hv;have hi:i < es.size:=(Lm.mp he).1;have i0:i=0:=by omega
    subst i0;obtain⟨pl,Cg⟩:∃j,t.place = #[j]:=by
     have:t.place.size=1:=by omega
     exact⟨t.place[0],by
      apply Array.ext
      ·simp[this]
      ·intro k h1 h2;have:k=0:=by omega
       subst this;simp⟩
    unfold setNext setsByText;refine ae (kX ha hd hf ?_);dsimp only;refine ae (ae (mf (ak ?_)));show wpAny _ _ (if w.params.followText "set-order" = true then _ else _) _ _ _;rw[ax (by rw[bt];exact cD)]
    show wpAny _ _ (if (!t.plain && decide (es.size > 1))=true then _ else _) _ _ _;rw[ax (by simp;omega)]
    show wpAny _ _ ((if (!t.led && !es.isEmpty)=true then unsupported "set:maker-not-led" else pure ()) >>= _) _ _ _;rw[led,ax (by simp)]
    refine ae (ak ?_);rw[Cg,aF rfl,MY,ax (by omega),he]
    refine ak ?_;show Q' (some (e.2,pl+1)) s;rw[ev];have:(if 0+1=0 then 0 else t.place.getD 0 0+1)=pl+1:=by rw[Cg];rfl
    rw[this]at hq;exact hq
   ·intro A s E' Q' ha hq
    unfold setNext setsByText;refine ae (kX ha hd hf ?_);dsimp only;refine ae (ae (mf (ak ?_)));show wpAny _ _ (if w.params.followText "set-order" = true then _ else _) _ _ _;rw[ax (by rw[bt];exact cD)]
    show wpAny _ _ (if (!t.plain && decide (es.size > 1))=true then _ else _) _ _ _;rw[ax (by simp;omega)]
    show wpAny _ _ ((if (!t.led && !es.isEmpty)=true then unsupported "set:maker-not-led" else pure ()) >>= _) _ _ _;rw[led,ax (by simp)]
    refine ae (ak ?_);have out:es[SetTable.below t.place (if (es.toList.map (·.2)).length=0 then 0 else t.place.getD 0 0+1)]? = none:=by
     rw[aE,f7]
     by_cases z:es.size=0
     ·have:t.place = #[]:=Array.eq_empty_of_size_eq_zero (by omega)
      rw[this,Xi];exact zL (by omega)
     ·have e1:es.size=1:=by omega
      obtain⟨pl,Cg⟩:∃j,t.place = #[j]:=by
       have:t.place.size=1:=by omega
       exact⟨t.place[0],by
        apply Array.ext
        ·simp[this]
        ·intro k h1 h2;have:k=0:=by omega
         subst this;simp⟩
      rw[ax z,Cg,MY];have : #[pl].getD 0 0=pl:=rfl;rw[this,aF (by omega)]
      exact zL (by omega)
    rw[out];exact ak hq
end
end HS
namespace HS
open PySem PySem.Spec PyProof.Rows PySem.W
section
variable{xs:List Str}
theorem YK {Q:Bool->Shared->Prop} (hT:s.TypeIs (.ref a) "set") (h:Q false s):wpAny (model P w) A (Builtin.List.listLengthHint (.ref a)) Q E s:=by
 unfold Builtin.List.listLengthHint;refine ae (wpAny_specialOf hT PySem.F.slot_set_len.lookup ?_);generalize R6:("set.__len__" : String)=id0
 wp_delta
 rw[show splitId id0=some ("set","__len__") from by subst R6;decide +kernel];subst R6
 refine ae (LI (T:= "set") (b:=true) hT (by rw[VM];kernel_rfl) ?_)
 refine VQ (fun z=>absurd z (by decide)) fun _=>VQ (fun _=>?_) fun z=>absurd (by decide +kernel) z
 exact ae (nL hT (ak h))
theorem Xj (hh:A.handled=none) (hS:fJ P w s.heap a xs) (nd:xs.Nodup) (S:Addr) (R7:S≠a) (res:Value) (c₀:Nat) (hL:s.heap.get? S=some { cls:= .type "list",data:= .seq #[] c₀ })
  (hR:∀h' d' tk (vs:List Value) (ys:List Str) c',(∀b o,b≠S->s.heap.get? b=some o->h'.get? b=some o)->h'.get? S=some { cls:= .type "list",dict:=none,data:= .seq vs.toArray c',slots:= #[] }->StrsAre vs ys->ys.Perm xs->R (.ok (.ret res)) { s with heap:=h',drawn:=d',toks:=tk }) :
  wpAny (model P w) A.in1 (Builtin.List.listExtendWith (.ref S) (.ref a) res)
   (fun fin s'=>match fin with|.done f=>R (.ok f) s'|.again c'=>c'.quiet=true/\codeAny (model P w) A c' R s') (fun e s'=>R (.error e) s') s:=by
 have hT:=hS.typeIs;have hsz:xs.length < scanBound:=by obtain⟨o,es,ep,t,ho,hex,hd,oB,jt,hb,hf,hn,_⟩:=hS;omega
 unfold Builtin.List.listExtendWith;refine ae (nL (T:= "set") hT ?_);have h1:Builtin.List.listSameRef (.ref S) (.ref a)=false:=by simp[Builtin.List.listSameRef,R7]
 have h2:(Value.type "set" == Value.type "list")=false:=by decide
 have h3:(Value.type "set" == Value.type "tuple")=false:=by decide
 simp only[h1,h2,h3,Vt,zF,kT];refine ae (YJ hS nd fun h' d' I fp vs ys W v1 v2 f1 f2 f3 f4 k=>?_);obtain⟨St,Wk,st⟩:=W.go;have W1:=Wk A.in1 (by simpa using hh)
 have vl:vs.length=xs.length:=by rw[tM v1,v2.length_eq]
 have R':S ∉ fp:=fun z=>by
  rcases f1 S z with e|e
  ·exact R7 e
  ·exact absurd (bo hL) (VC.mpr e)
 have Tn:Shared.TypeIs { s with heap:=h',drawn:=d' } (.ref a) "set" :=by
  obtain⟨o,e,c⟩:=hT;exact⟨o,k _ _ e,c⟩
 refine ae (eR (YK Tn ?_));have Jj:=k _ _ hL;have key:∀ (h:Heap) (c₁:Nat),St 0 h->(∀b o,b≠S->s.heap.get? b=some o->h.get? b=some o)->h.get? S=some { cls:= .type "list",data:= .seq #[] c₁ } ->
   codeAny (model P w) A (.builtin "list.extend.loop" ⟨[.ref S,.ref I,res],[]⟩) R { s with heap:=h,drawn:=d' }:=by
  intro h c₁ rW hk acb;refine codeAny_extend_loopS W1.toS (by rw[vl];exact LF hsz) S R' res vs.length 0 _ #[] c₁ rfl (bR _) rW acb (ItemsOf.nil _) fun s' Qp c' hm hS' Hl=>?_
  rw[Moved.eq_with hm];have ev:Qp.toList=vs:=by
   apply List.ext_getElem?
   intro j;rw[zE]
   by_cases hj:j < vs.length
   ·have Jk:j < Qp.size:=by rw[Hl.1];exact hj
    rw[v9 Jk];exact(Hl.2 j _ (v9 Jk)).symm
   ·rw[zL (by rw[Hl.1];omega),LJ (by omega)]
  refine hR s'.heap d' s'.toks vs ys c' (fun b o hb e=>hm.heap b o (fun jt=>?_) (hk b o hb e)) (by rw[hS',<-ev]) v1 v2
  rcases bH.mp jt with e'|jt
  ·exact hb e'
  ·exact absurd (bo e) (by rw[fw.mp jt];exact VC.mpr f4)
 refine VQ (fun _=>?_) (fun _=>ak ⟨l8 amA _,key _ c₀ st (fun b o _ e=>k b o e) Jj⟩);refine ae (nH (ae ?_));show wpAny _ _ (updateSeq S (·.push .none) >>= fun _=>updateSeq S (·.pop)) _ _ _;refine ae (wpAny_updateSeq Jj rfl ?_);have Pg:=Dv (Obj.mapSeq (·.push Value.none)) Jj rfl;refine wpAny_updateSeq (hz:=by seq_fits) Pg rfl ?_
 have acd:=Dv (Obj.mapSeq (·.pop)) Pg rfl;have Se:∀b o,b≠S->h'.get? b=some o->((h'.update S (Obj.mapSeq (·.push Value.none))).update S (Obj.mapSeq (·.pop))).get? b=some o:=fun b o hb e=>(zD _ _ (ba hb)).trans ((zD _ _ (ba hb)).trans e);exact ak ⟨l8 amA _,key _ _ (W1.frame 0 _ _ st fun b hb o e=>Se b o (fun z=>R' (z ▸ hb)) e) (fun b o hb e=>Se b o hb (k b o e)) acd⟩
theorem WI {Q:List Value->Shared->Prop} (hh:A.handled=none) (hS:fJ P w s.heap a xs) (nd:xs.Nodup)
  (hQ:∀h' d' tk (vs:List Value) (ys:List Str),(∀b o,s.heap.get? b=some o->h'.get? b=some o)->StrsAre vs ys->ys.Perm xs->Q vs { s with heap:=h',drawn:=d',toks:=tk }):wpAny (model P w) A (collect (.ref a)) Q E s:=by
 unfold collect;refine ae (VL (j9 amB ?_));rw[kU amC _];show wpAny _ A.in1 (newList [] >>= fun l=>again (.builtin "list.__iadd__" ⟨[l,.ref a],[]⟩)) _ _ s;refine ae (gJ (ak ⟨l8 LK _,j9 amD ?_⟩));rw[kU LK _];show wpAny _ A.in1 (Builtin.List.listExtendWith (.ref s.heap.objs.size) (.ref a) (.ref s.heap.objs.size)) _ _ _;have hn:s.heap.objs.size≠a:=nI hS.lt;refine Xj (R:=fun r s'=>match r with|.ok (.ret v)=>wpAny (model P w) A (match v with|.ref a=>(do match (<- load a).data with|.seq xs _=>pure xs.toList|_=>unsupported "internal:collect")|_=>unsupported "internal:collect") Q E s'|.ok _=>False|.error e=>E e s') (s:={ s with heap:=s.heap.push { cls:= .type "list",data:= .seq ([]:List Value).toArray } }) hh (hS.keep fun o e=>a8 _ e) nd _ hn _ 0 (cj _ rfl) fun h' d' tk vs ys c' k hl v1 v2=>?_;show wpAny _ A (load s.heap.objs.size >>= _) _ _ _;refine ae (zx hl (ak ?_));exact hQ h' d' tk vs ys (fun b o e=>k b o (bx (bo e)) (a8 _ e)) v1 v2
theorem Xk {Q:Value->Shared->Prop} (hh:A.handled=none) (hS:fJ P w s.heap a xs) (nd:xs.Nodup) (Jl:xs.length<=63)
  (hQ:∀D c h' d' tk (vs:List Value) (ys:List Str),(∀b o,s.heap.get? b=some o->h'.get? b=some o)->(∀b o,s.heap.get? b=some o->b≠D)->h'.get? D=some (listOf vs.toArray c)->StrsAre vs ys->ys.Perm xs->sortedS ys=true->Q (.ref D) { s with heap:=h',drawn:=d',toks:=tk }) :
  wpAny (model P w) A (call (.builtin "sorted") [.ref a]) Q E s:=by
 refine amE kind_sorted plain_sorted entry_sorted (args_sorted1 _) ?_;unfold Builtin.«sorted»;refine ae (m:=checkCount "sorted" 1 1 _) (ak (ae (WI (by simpa using hh) hS nd fun h1 d1 t1 vs ys k1 v1 p1=>?_)))
 have vl:vs.length=xs.length:=by rw[tM v1,p1.length_eq]
 refine ae (LD ?_ (by rw[aQ];omega))
 have sx:(h1.push (seqObj "list" vs.toArray 0)).get? h1.objs.size=some (seqObj "list" vs.toArray 0):=cj _ rfl;refine ae (eR (ji slot_list_sort ⟨_,sx,rfl⟩ entry_list_sort (list_sort_treeK strKind_oneLt sx v1.keysOf (fun ank anl rest e=>keyKind_strs (by rw[<-e];exact v1)) (by omega) fun gi a1 a2=>⟨_,rfl,?_⟩) (args_list_sort _)))
 obtain⟨sy,b1,b2,b3⟩:=sorted_out_str v1 a1 a2;obtain⟨c,hc⟩:=sortedHeap_at (n:=0) (vs:=vs) (out:=(arrOf gi).map (·.2)) sx;refine ak ⟨_,rfl,hQ _ c _ d1 t1 _ sy (fun b o e=>?_) (fun b o e=>bx (bo (k1 b o e))) (by rw[hc]) b1 (b2.trans p1) b3⟩
 have e1:=k1 b o e;have Jm:=bo e1;rw[sortedHeap_old (bx Jm) (by rw[size_push'];exact v8 Jm),Heap.get?_push_ne _ _ _ (bx Jm)]
 exact e1
end
end HS
namespace L2
open PySem PySem.Spec PyProof.Rows PySem.W HS
def jW (P:Program) (w:World) (a:Addr) (xs:List Str):HO:= .ext fun h=>xs.Nodup/\fJ P w h a xs
theorem E4 {xs:List Str} (nd:xs.Nodup) (x:fJ P w h a xs):bp P w H h a (jW P w a xs):=
 ⟨⟨nd,x⟩,(let ⟨o,_,_,_,e,_⟩:=x;⟨o,e⟩),fun _ _ q k=>⟨q.1,q.2.keep k⟩⟩
theorem Inv.draw {σ:List (Option V)} (I:Inv X pins σ H s) (d:Drawn):Inv X pins σ H { s with drawn:=d }:=⟨I.ok,I.os,I.bare,I.base,I.loc,I.cell,I.free,I.gY,I.pin,I.au,I.len⟩
theorem E5:∀ {vs:List Value}{ys:List Str},StrsAre vs ys -> ∀ (i:Nat) (v:Value),vs[i]? = some v -> ∃t,v = .str (ys.getD i "") t
 |_,_,.nil,i,v,h=>by simp at h
 |_,_,.cons y t r,0,v,h=>by simp at h;exact⟨t,by rw[<-h];rfl⟩
 |_,_,.cons y t r,i+1,v,h=>by
  obtain⟨t',e⟩:=E5 r i v (by simpa using h)
  exact⟨t',by rw[e];rfl⟩
theorem YL (hc:X.calm=true):d5 X (.type "set") (fun vs H Q=>∃ (p:Addr) (ss:List Str),vs = [.ref p]/\(aj X.K H p (ss.map V.str)\/aJ X.K H p (ss.map V.str))/\ss.length<=1000 /\ ∀a ds,H a=none->ds.Nodup->(∀y,y∈ds ↔ y∈ss)->Q (.ref a) (upd H a (jW X.prog X.w a ds))):=by
 intro pins s σ H vs us Q I r h;obtain⟨p,ss,rfl,hq,h1k,q⟩:=h;obtain⟨u,rfl,rx⟩:=vals1 r;cases rx
 have fin:∀ (its:List Value) {T:String}{ol:Obj},Vals (ss.map V.str) its->Src X.prog X.w T p ol its.toArray.size (fun i v=>its.toArray[i]? = some v)->s.heap.get? p=some ol->wpAny (model X.prog X.w) X.A (call (.type "set") [.ref p]) (EP X pins σ Q) X.xe s:=fun its {T ol} rv C hp=>by
  have st:=zU rv;have hlen:its.length=ss.length:=tM st;refine XQ (val:=fun i=>ss.getD i "") (I.ok.hd hc) C hp (fun i v hv=>E5 st i v (by simpa using hv)) (by rw[cE,hlen];unfold scanBound;omega) fun h' tk x k=>?_
  have kp:∀b o,s.heap.get? b=some o->h'.get? b=some o:=fun b o e=>k b o (bo e) e;have nd:=Od (fun i=>ss.getD i "") its.toArray.size;refine⟨.ref s.heap.objs.size,_,I.laid (t':=tk) kp (aO _) (E4 nd x),rfl,q _ _ (I.au.fresh (aO _)) nd fun y=>?_⟩;rw[NA,cE,hlen]
  constructor
  ·rintro⟨j,hj,rfl⟩
   rw[show ss.getD j "" = ss[j] by simp[hj]]
   exact f9 hj
  ·intro hy
   obtain⟨j,hj,e⟩:=List.mem_iff_getElem.mp hy;exact⟨j,hj,by simp[hj,e]⟩
 rcases hq with hq|hq
 ·obtain⟨its,r',pl,hz⟩:=I.list hq
  obtain⟨o,ho,hV,n,hd⟩:=pl.isList;exact fin its r' (src_list hV ⟨n,hd⟩) ho
 ·obtain⟨its,r',pl,hz⟩:=I.tuple hq
  obtain⟨o,ho,hV,n,hd⟩:=pl;exact fin its r' (ZU hV ⟨n,hd⟩) ho
theorem LY (hc:X.calm=true):d5 X (.builtin "sorted") (fun vs H Q=>∃ (a:Addr) (ds:List Str),vs = [.ref a]/\H a=some (jW X.prog X.w a ds)/\ds.length<=63 /\ ∀D sy,H D=none->sy.Perm ds->sortedS sy=true->Q (.ref D) (upd H D (.lst (sy.map V.str)))):=by
 intro pins s σ H vs us Q I r h;obtain⟨a,ds,rfl,hq,Jl,q⟩:=h;obtain⟨u,rfl,rx⟩:=vals1 r;cases rx
 obtain⟨⟨nd,x⟩,_⟩:=(show bp X.prog X.w H s.heap a (jW X.prog X.w a ds) from I.au a _ hq);obtain⟨m,hm,_⟩:=id I.loc;refine Xk (I.ok.hd hc) x nd Jl fun D c h' d' tk out ys k hD new st p pW=>?_;obtain⟨hn,I'⟩:=Inv.sorted (t':=tk) (ys:=ys.map V.str) I hm (hm.at' fun o e=>k _ _ e) (fun b o _ e=>k b o e) hD new (MT st) (by rw[aE,p.length_eq,aQ];omega)
 exact⟨.ref D,_,I'.draw d',rfl,q _ ys hn p pW⟩
end L2
namespace L2
open PySem PySem.W PySem.Calls PyProof.Rows
section
variable{α β:Type}{n:Nat}{lt:Nat->Nat->Bool}
noncomputable def lN (lt:Nat->Nat->Bool) (p:Array Nat) (k:Nat):Prop:= ∀i j,i < j->j < k->lt (p.getD i 0) (p.getD j 0)=true
noncomputable def pX (lt:Nat->Nat->Bool) (p:Array Nat) (k:Nat):Prop:= ∀i j,i < j->j < k->lt (p.getD j 0) (p.getD i 0)=true
theorem Pm.size {p:Array Nat} (h:Pm n p):p.size=n:=by have:=h.length_eq;simpa using this
theorem Pm.ne {p:Array Nat} (h:Pm n p) (hi:i < n) (hj:j < n) (e:i≠j):p.getD i 0≠p.getD j 0:=by
 have hs:=h.size;have nd:p.toList.Nodup:=h.nodup_iff.mpr List.nodup_range;intro z;rw[nP,nP,v9 (by omega),v9 (by omega)]at z
 have z2:p.toList[i]'(by simp;omega)=p.toList[j]'(by simp;omega):=by simpa using z
 exact e ((List.getElem_inj nd).mp z2)
theorem NF {p:Array Nat} (hm:m<=p.size) (k:Nat) (hk:k < m):(kas_rev p 0 m).getD k 0=p.getD (m - 1 - k) 0:=by
 unfold kas_rev;rw[nP,getElem?_mirror_all hm,aF ⟨bR _,hk⟩,nP,Nat.zero_add]
theorem pX.rev {p:Array Nat} (hm:m<=p.size) (a:pX lt p m):lN lt (kas_rev p 0 m) m:=fun i j hU hj=>by
 rw[NF hm i (by omega),NF hm j hj]
 exact a _ _ (by omega) (by omega)
theorem NG {p:Array Nat}{k l:Nat} (hk:k < p.size) (hl:l<=k) (i:Nat):(bubble p k (k - l)).getD i 0=if i=l then p.getD k 0 else if l < i/\i<=k then p.getD (i - 1) 0 else p.getD i 0:=by
 rw[nP,getElem?_bubble hk (k - l) (by omega)]
 have:k - (k - l)=l:=by omega
 rw[this]
 by_cases c1:i=l
 ·rw[aF c1,aF c1];exact(nP ..).symm
 ·rw[ax c1,ax c1]
  by_cases c2:l < i/\i<=k
  ·rw[aF c2,aF c2];exact(nP ..).symm
  ·rw[ax c2,ax c2];exact(nP ..).symm
end
def pY (p q:Str):Bool:=decide (p.cps.toList < q.cps.toList)
theorem NH (p:Str):pY p p=false:=dZ (List.lt_irrefl _)
theorem aa1 {p q r:Str} (h1:pY p q=true) (h2:pY q r=true):pY p r=true:=cm (List.lt_trans (eT h1) (eT h2))
theorem ZV {p q:Str} (h:p≠q) (f:pY p q=false):pY q p=true:=by
 refine cm ?_;have h1 : ¬ p.cps.toList < q.cps.toList:=of_decide_eq_false f;have h2:q.cps.toList<=p.cps.toList:=List.not_lt.mp h1
 by_cases z:q.cps.toList < p.cps.toList
 ·exact z
 ·exact absurd (Nt (a:=p) (b:=q) (List.not_lt.mp z) h2) h
theorem XR {α β:Type}{F:α->β->Prop}{l:List α}{m:List β} (h:Paired F l m) (dl:α) (dm:β) (i:Nat) (hi:i < l.length):F (l.getD i dl) (m.getD i dm):=by
 induction h generalizing i with
 |nil=>exact absurd hi (zJ _)
 |cons p _ ih =>
  cases i with
  |zero=>exact p
  |succ i=>exact ih i (DA hi)
theorem Mo {α β γ:Type}{F:α->β->Prop}{f:γ->α}{g:γ->β}:∀ {l:List γ},(∀x∈l,F (f x) (g x))->Paired F (l.map f) (l.map g)
 |[],_=>.nil
 |x::l,h=>.cons (h x bu) (Mo fun y hy=>h y (bO _ hy))
theorem aa2 {lt:Nat->Nat->Bool}{p:Array Nat}{n:Nat} (hs:p.size=n) (a:lN lt p n):p.toList.Pairwise fun i j=>lt i j=true:=by
 rw[List.pairwise_iff_getElem];intro i j hi hj hU;have h1:i < p.size:=by simpa using hi
 have h2:j < p.size:=by simpa using hj
 have:=a i j hU (by omega)
 rw[nP,nP,v9 h1,v9 h2]at this
 simpa using this
end L2
namespace HS
open PySem PySem.Spec PyProof.Rows PySem.W
theorem WJ {vs:List Value}{Q:List Value->Shared->Prop} (ht:IsTup s.heap l vs.toArray) (hz:vs.length<=sizeLine) (q:∀h',(∀b o,s.heap.get? b=some o->h'.get? b=some o)->Q vs { s with heap:=h' }) :
  wpAny (model P w) A (collect (.ref l)) Q E s:=by
 obtain⟨o,ho,hc,n,hd⟩:=id ht;unfold collect;refine ae (VL (j9 amB ?_));rw[kU amC _];show wpAny _ A.in1 (newList [] >>= fun z=>again (.builtin "list.__iadd__" ⟨[z,.ref l],[]⟩)) _ _ s;refine ae (LD (ak ⟨l8 LK _,j9 amD ?_⟩));rw[kU LK _];show wpAny _ _ (Builtin.List.listExtendWith (.ref s.heap.objs.size) (.ref l) (.ref s.heap.objs.size)) _ _ { s with heap:=s.heap.push (seqObj "list" #[] 0) };unfold Builtin.List.listExtendWith;have j5:(s.heap.push (seqObj "list" #[] 0)).get? l=some o:=a8 _ ho;refine ae (nL (T:= "tuple") ⟨o,j5,hc⟩ ?_);have t1:(Value.type "tuple" == Value.type "tuple")=true:=by rfl
 rw[aF (by rw[t1];simp)]
 refine ae (listItems_at j5 hd (ae (listItems_at (xs:= #[]) (n:=0) (cj _ rfl) rfl ?_)));rw[ax (by simp)]
 refine ae (listUpdate_at (xs:= #[]) (n:=0) (cj _ rfl) rfl (ak ?_) (bR _) (by show(#[]++vs.toArray).size<=sizeLine+1;simp only[Ln,cE,sX];omega))
 show wpAny (model P w) A (load s.heap.objs.size >>= _) Q E { s with heap:=(s.heap.push (seqObj "list" #[] 0)).update s.heap.objs.size (Obj.mapSeq (· ++ vs.toArray)) };refine ae (zx (get?_update_seq (cj _ rfl) _) ?_);show wpAny _ _ (pure ((#[]:Array Value)++vs.toArray).toList) Q E _;rw[show((#[]:Array Value)++vs.toArray).toList=vs by simp]
 refine ak (q _ fun b ob e=>?_);exact(zD _ _ (nI (bo e))).trans (a8 _ e)
end HS
namespace L2
open PySem PySem.Spec PyProof.Rows PySem.W HS
end L2
namespace HT
open PySem PyProof.Rows PySem.W
open PySem.AutoSeq1 (wpAny_loadPart')
end HT
namespace L2
open PySem PySem.Spec PyProof.Rows PySem.W HT
end L2
namespace L2
open PySem PySem.W PySem.Calls PyProof.Rows
structure lC (n:Nat) (lt:Nat->Nat->Bool):Prop where
 tr:∀i j k,i < n->j < n->k < n->lt i j=true->lt j k=true->lt i k=true
 tot:∀i j,i < n->j < n->i≠j->lt i j=false->lt j i=true
def c7 {α:Type} (n:Nat) (lt:Nat->Nat->Bool) (φ:α->Prop):KasT α->Prop
 |.ret a=>φ a
 |.ask i j k=>i < n/\j < n/\i≠j/\c7 n lt φ (k (lt i j))
section
variable{α β:Type}{n:Nat}{lt:Nat->Nat->Bool}
theorem c7.bind {φ:α->Prop}{ψ:β->Prop}{f:α->KasT β} (g:∀a,φ a->c7 n lt ψ (f a)):∀ {t:KasT α},c7 n lt φ t->c7 n lt ψ (t.bind f)
 |.ret a,h=>g a h
 |.ask _ _ _,h=>⟨h.1,h.2.1,h.2.2.1,c7.bind g h.2.2.2⟩
theorem c7.wp {φ:α->Prop}{cmp:Nat->Nat->(Bool->Shared->Prop)->Shared->Prop}{Q:α->Shared->Prop}{s:Shared} (hc:∀i j C,i < n->j < n->i≠j->C (lt i j) s->cmp i j C s):∀ {t:KasT α},c7 n lt φ t->(∀a,φ a->Q a s)->t.kasWp cmp Q s
 |.ret a,h,q=>q a h
 |.ask _ _ _,h,q=>hc _ _ _ h.1 h.2.1 h.2.2.1 (c7.wp hc h.2.2.2 q)
theorem c7.mono {φ ψ:α->Prop} (g:∀a,φ a->ψ a):∀ {t:KasT α},c7 n lt φ t->c7 n lt ψ t
 |.ret a,h=>g a h
 |.ask _ _ _,h=>⟨h.1,h.2.1,h.2.2.1,c7.mono g h.2.2.2⟩
theorem F9 {p:Array Nat} (O:lC n lt) (h:Pm n p) (hi:i < n) (hj:j < n) (e:i≠j) (f:lt (p.getD i 0) (p.getD j 0)=false):lt (p.getD j 0) (p.getD i 0)=true:=
 O.tot _ _ (h.lt (by omega) i) (h.lt (by omega) j) (h.ne hi hj e) f
theorem XS {p:Array Nat} (O:lC n lt) (h:Pm n p) (h1:1<=m) (hm:m < n) (a:lN lt p m) (l:lt (p.getD (m - 1) 0) (p.getD m 0)=true):lN lt p (m+1):=fun i j hU hj=>by
 by_cases e:j < m
 ·exact a i j hU e
 ·obtain rfl:j=m:=by omega
  by_cases e2:i=j - 1
  ·rw[e2];exact l
  ·exact O.tr _ _ _ (h.lt (by omega) _) (h.lt (by omega) _) (h.lt (by omega) _) (a i (j - 1) (by omega) (by omega)) l
theorem XT {p:Array Nat} (O:lC n lt) (h:Pm n p) (h1:1<=m) (hm:m < n) (a:pX lt p m) (l:lt (p.getD m 0) (p.getD (m - 1) 0)=true):pX lt p (m+1):=fun i j hU hj=>by
 by_cases e:j < m
 ·exact a i j hU e
 ·obtain rfl:j=m:=by omega
  by_cases e2:i=j - 1
  ·rw[e2];exact l
  ·exact O.tr _ _ _ (h.lt (by omega) _) (h.lt (by omega) _) (h.lt (by omega) _) l (a i (j - 1) (by omega) (by omega))
theorem EC {p:Array Nat} (O:lC n lt) (h:Pm n p):∀ (f m:Nat),1<=m->m+f<=n->lN lt p m->c7 n lt (fun r=>m<=r/\r<=m+f/\lN lt p r/\(r < m+f->lt (p.getD r 0) (p.getD (r - 1) 0)=true)) (kas_asc p f m)
 |0,m,h1,h2,a=>⟨aO _,aO _,a,fun z=>absurd z (by omega)⟩
 |f+1,m,h1,h2,a=>⟨h.lt (by omega) _,h.lt (by omega) _,h.ne (by omega) (by omega) (by omega),by
  cases c:lt (p.getD m 0) (p.getD (m - 1) 0) with
  |true=>exact⟨aO _,by omega,a,fun _=>c⟩
  |false =>
   refine c7.mono (fun r hr=>?_) (EC O h f (m+1) (by omega) (by omega) (XS O h h1 (by omega) a (F9 O h (by omega) (by omega) (by omega) c)))
   exact⟨by omega,by omega,hr.2.2.1,fun z=>hr.2.2.2 (by omega)⟩⟩
theorem MZ {p:Array Nat} (O:lC n lt) (h:Pm n p):∀ (f m:Nat),1<=m->m+f<=n->pX lt p m->c7 n lt (fun r:Array Nat×Nat×Nat=>r.1=p/\r.2.2=0/\m<=r.2.1/\r.2.1<=m+f/\pX lt p r.2.1) (kas_desc f p m 0)
 |0,m,h1,h2,a=>⟨rfl,rfl,aO _,aO _,a⟩
 |f+1,m,h1,h2,a=>⟨h.lt (by omega) _,h.lt (by omega) _,h.ne (by omega) (by omega) (by omega),by
  cases c:lt (p.getD m 0) (p.getD (m - 1) 0) with
  |true =>
   show c7 n lt _ (if 0 > 0 then kas_desc f (kas_rev p (m - (0+1)) m) (m+1) 0 else kas_desc f p (m+1) 0);rw[ax (by omega)]
   refine c7.mono (fun r hr=>?_) (MZ O h f (m+1) (by omega) (by omega) (XT O h h1 (by omega) a c))
   exact⟨hr.1,hr.2.1,by omega,by omega,hr.2.2.2.2⟩
  |false =>
   refine⟨h.lt (by omega) _,h.lt (by omega) _,h.ne (by omega) (by omega) (by omega),?_⟩
   rw[F9 O h (by omega) (by omega) (by omega) c]
   exact⟨rfl,rfl,aO _,Nat.le_add_right _ _,a⟩⟩
noncomputable def Bp (n:Nat) (lt:Nat->Nat->Bool) (r:Nat×Array Nat):Prop:=Pm n r.2/\lN lt r.2 r.1/\1<=r.1/\r.1<=n
theorem Xl {p:Array Nat} (O:lC n lt) (h:Pm n p) (h1:1<=m) (h2:m<=n) (a:pX lt p m):c7 n lt (Bp n lt) (kas_tail3 m n p):=
 c7.bind (ψ:=Bp n lt) (f:=fun k=>.ret (k,kas_rev p 0 m)) (fun r hr=>(show Bp n lt (r,kas_rev p 0 m) from⟨h.rev _ _,hr.2.2.1,gW h1 hr.1,by have:=hr.2.1;show r<=n;omega⟩)) (EC O (h.rev 0 m) (n - m) m h1 (by omega) (a.rev (by rw[h.size];exact h2)))
theorem Xm {p:Array Nat} (O:lC n lt) (hn:2<=n) (h:Pm n p):c7 n lt (Bp n lt) (kas_count n p):=
 (EC O h (n - 1) 1 (aO _) (by omega) (fun i j hU hj=>absurd hj (by omega))).bind fun m hm=>by
  obtain⟨m1,m2,ma,ml⟩:=hm;show c7 n lt _ (if (m==n)=true then _ else if m > 1 then _ else _);split
  ·rename_i e
   have:m=n:=by simpa using e
   subst this;exact⟨h,ma,m1,aO _⟩
  ·rename_i e
   have ne:m≠n:=by simpa using e
   split
   ·rename_i g
    refine⟨h.lt (by omega) _,h.lt (by omega) _,h.ne (by omega) (by omega) (by omega),?_⟩
    rw[ma 0 (m - 1) (by omega) (by omega)]
    exact⟨h,ma,m1,by omega⟩
   ·obtain rfl:m=1:=by omega
    have l:=ml (by omega)
    have d2:pX lt p 2:=fun i j hU hj=>by
     obtain rfl:j=1:=by omega
     obtain rfl:i=0:=by omega
     exact l
    refine c7.bind (fun r hr=>?_) (MZ O h (n - (1+1)) (1+1) (by omega) (by omega) d2)
    obtain⟨r1,r2,r3,r4,r5⟩:=hr;show c7 n lt _ (if r.2.2 > 0 then _ else _);rw[ax (by omega),r1]
    exact Xl O h (by omega) (by omega) r5
theorem DY {p:Array Nat} (O:lC n lt) (h:Pm n p) {k:Nat} (hk:k < n) (a:lN lt p k):∀ (f l r:Nat),r - l<=f->l<=r->r<=k->(∀i,i < l->lt (p.getD i 0) (p.getD k 0)=true)->(∀i,r<=i->i < k->lt (p.getD k 0) (p.getD i 0)=true) ->
  c7 n lt (fun m=>m<=k/\(∀i,i < m->lt (p.getD i 0) (p.getD k 0)=true) /\ ∀i,m<=i->i < k->lt (p.getD k 0) (p.getD i 0)=true) (kas_place p k f l r)
 |0,l,r,hf,hl,hr,lo,hi=>by
  obtain rfl:l=r:=by omega
  exact⟨hr,lo,hi⟩
 |f+1,l,r,hf,hl,hr,lo,hi=>by
  show c7 n lt _ (if l ≥ r then _ else _);split
  ·obtain rfl:l=r:=by omega
   exact⟨hr,lo,hi⟩
  ·refine⟨h.lt (by omega) _,h.lt (by omega) _,h.ne (by omega) (by omega) (by omega),?_⟩
   cases c:lt (p.getD k 0) (p.getD ((l+r) / 2) 0) with
   |true =>
    refine DY O h hk a f l ((l+r) / 2) (by omega) (by omega) (by omega) lo fun i yL Jn=>?_
    by_cases e:i=(l+r) / 2
    ·rw[e];exact c
    ·exact O.tr _ _ _ (h.lt (by omega) _) (h.lt (by omega) _) (h.lt (by omega) _) c (a _ i (by omega) Jn)
   |false =>
    have c2:=F9 O h (i:=k) (j:=(l+r) / 2) hk (by omega) (by omega) c
    refine DY O h hk a f ((l+r) / 2+1) r (by omega) (by omega) hr (fun i yL=>?_) hi
    by_cases e:i=(l+r) / 2
    ·rw[e];exact c2
    ·exact O.tr _ _ _ (h.lt (by omega) _) (h.lt (by omega) _) (h.lt (by omega) _) (a i _ (by omega) (by omega)) c2
theorem NI (O:lC n lt):∀ (f:Nat) (p:Array Nat) (k:Nat),k+f=n->Pm n p->lN lt p k->c7 n lt (fun r=>Pm n r/\lN lt r n) (kas_bin f p k)
 |0,p,k,e,h,a=>by
  obtain rfl:k=n:=by omega
  exact⟨h,a⟩
 |f+1,p,k,e,h,a=>(DY O h (by omega) a k 0 k (by omega) (bR _) (aO _) (fun i hi=>absurd hi (zJ _)) (fun i h1 h2=>absurd h2 (by omega))).bind fun l hl=>by
  obtain⟨l1,l2,l3⟩:=hl;refine NI O f _ _ (by omega) (h.bub _ _) fun i j hU hj=>?_
  have hsz:=h.size;rw[NG (by omega) l1 i,NG (by omega) l1 j]
  by_cases i1:i=l
  ·rw[aF i1,ax (by omega),aF (by omega)]
   exact l3 _ (by omega) (by omega)
  ·rw[ax i1]
   by_cases i2:l < i/\i<=k
   ·rw[aF i2,ax (by omega),aF (by omega)]
    exact a _ _ (by omega) (by omega)
   ·rw[ax i2]
    by_cases j1:j=l
    ·rw[aF j1];exact l2 i (by omega)
    ·rw[ax j1]
     by_cases j2:l < j/\j<=k
     ·rw[aF j2]
      exact a _ _ (by omega) (by omega)
     ·rw[ax j2]
      exact a _ _ hU (by omega)
theorem XU (O:lC n lt) (hn:2<=n):c7 n lt (fun r=>Pm n r/\lN lt r n) (kas_sort n):=
 (Xm O hn (qD _)).bind fun r hr=>by
  obtain⟨r1,r2,r3,r4⟩:=hr;show c7 n lt _ (if r.1 < n then _ else _);split
  ·refine NI O _ _ _ (by omega) r1 ?_
   rw[show max r.1 1=r.1 by omega];exact r2
  ·obtain e:r.1=n:=by omega
   rw[e]at r2;exact⟨r1,r2⟩
end
end L2
namespace L2
open PySem PySem.W PySem.Calls PyProof.Rows HS
def hX:List Str->List Str->Bool
 |a::as,b::bs=>if a=b then hX as bs else pY a b
 |_,_=>false
theorem Fw:∀ {a b c:List Str},a.length=b.length->b.length=c.length->hX a b=true->hX b c=true->hX a c=true
 |[],_,_,h1,_,h,_=>by unfold hX at h;cases h
 |a::as,[],_,h1,_,_,_=>by simp at h1
 |a::as,b::bs,[],_,h2,_,_=>by simp at h2
 |a::as,b::bs,c::cs,h1,h2,h3,h4=>by
  unfold hX at h3 h4 ⊢
  by_cases e1:a=b
  ·rw[aF e1]at h3
   subst e1
   by_cases e2:a=c
   ·rw[aF e2]at h4 ⊢;exact Fw (by simpa using h1) (by simpa using h2) h3 h4
   ·rw[ax e2]at h4 ⊢;exact h4
  ·rw[ax e1]at h3
   by_cases e2:b=c
   ·subst e2
    rw[ax e1];exact h3
   ·rw[ax e2]at h4
    have t:=aa1 h3 h4
    by_cases e3:a=c
    ·subst e3;rw[NH]at t;cases t
    ·rw[ax e3];exact t
theorem Of:∀ {a b:List Str},a.length=b.length->a≠b->hX a b=false->hX b a=true
 |[],[],_,h,_=>absurd rfl h
 |[],b::bs,h,_,_=>by simp at h
 |a::as,[],h,_,_=>by simp at h
 |a::as,b::bs,h1,h2,h3=>by
  unfold hX at h3 ⊢
  by_cases e:a=b
  ·subst e
   rw[aF rfl]at h3 ⊢;exact Of (by simpa using h1) (fun z=>h2 (by rw[z])) h3
  ·rw[ax e]at h3;rw[ax (ba e)]
   exact ZV e h3
theorem XW {a b:Str}{t u:Tok}{c:Bool}{Q:Bool->Shared->Prop} (h:Q (pY a b) s):wpAny (model P w) A (oneLt' c (.str a t) (.str b u)) Q E s:=by
 cases c with
 |true=>exact oneLt_str h
 |false =>
  rw[oneLt'_eq];simp only[zF,kT];exact ae (PyProof.Rows.lt_str (kR h))
theorem M0 {b fin:Bool}{Q:Bool->Shared->Prop}:∀ {as bs:List Str}{us vs:List Value}{ru rv:List Value} (i:Nat),StrsAre us as->StrsAre vs bs->as.length=bs.length->as≠bs->Q (hX as bs) s->KatLex P w A b fin Q ((us++ru).zip (vs++rv)) i s
 |[],[],_,_,_,_,_,_,_,_,h,_=>absurd rfl h
 |[],_::_,_,_,_,_,_,_,_,h,_,_=>by simp at h
 |_::_,[],_,_,_,_,_,_,_,h,_,_=>by simp at h
 |a::as,b'::bs,_,_,ru,rv,i,.cons _ t h1,.cons _ u h2,hl,bc,q=>by
  unfold hX at q;refine kat_cons (Va ?_)
  by_cases e:a=b'
  ·rw[cm e]
   rw[aF e]at q;exact kat_yes (M0 (i+1) h1 h2 (by simpa using hl) (fun z=>bc (by rw[e,z])) q)
  ·rw[dZ e]
   rw[ax e]at q;exact kat_no (XW q)
noncomputable def t8 (H:Hp) (m:Nat) (vs:List V) (kvs:List (List Str×List V)):Prop:=Paired (fun y p=>∃a,y=V.ref a/\H a=some (.tup (p.1.map V.str++p.2))/\p.1.length=m) vs kvs
theorem Mp {H:Hp}:∀ {ks:List Str}{rest:List V}{its:List Value},Vals (ks.map V.str++rest) its -> ∃us ru,its=us++ru/\StrsAre us ks
 |[],rest,its,h=>⟨[],its,rfl,.nil⟩
 |k::ks,rest,its,h=>by
  cases h with
  |cons r t =>
   obtain⟨tk,rfl⟩:=r;obtain⟨us,ru,e,st⟩:=Mp (H:=H) t;exact⟨.str k tk::us,ru,by rw[e];rfl,.cons k tk st⟩
theorem DQ:d5 X (.builtin "sorted") (fun xs H Q=>∃ (p:Addr) (ys:List V) (kvs:List (List Str×List V)) (m:Nat),xs = [.ref p]/\(aj X.K H p ys\/aJ X.K H p ys)/\t8 H m ys kvs/\1<=m/\(kvs.map (·.1)).Nodup/\ys.length<=63 /\
  ∀D dM fQ,H D=none->dM.Perm ys->t8 H m dM fQ->fQ.Perm kvs->(fQ.map (·.1)).Pairwise (fun a b=>hX a b=true)->Q (.ref D) (upd H D (.lst dM))):=by
 rintro pins s σ H xs us Q I r ⟨p,ys,kvs,mm,ex,hq,pr,hm1,nd,Jl,q⟩;subst ex;obtain⟨u,rfl,rx⟩:=vals1 r;cases rx
 obtain⟨its,rv,hz,col⟩:∃its:List Value,Vals ys its/\ys.length<=sizeLine /\ ∀ (A:Around) (E:Value->Shared->Prop) (Q':List Value->Shared->Prop),(∀h',(∀b o,s.heap.get? b=some o->h'.get? b=some o)->Q' its { s with heap:=h' })->wpAny (model X.prog X.w) A (collect (.ref p)) Q' E s:=by
  rcases hq with hq|hq
  ·obtain⟨its,rv,pl,hz⟩:=I.list hq
   have:=rv.length;refine⟨its,rv,hz,fun A E Q' q'=>collect_list pl.isList (q' _ fun b o e=>?_) (by rw[aQ];omega)⟩
   exact(zD _ _ (nI (bo e))).trans (a8 _ e)
  ·obtain⟨its,rv,pl,hz⟩:=I.tuple hq
   have:=rv.length;exact⟨its,rv,hz,fun A E Q' q'=>WJ pl (by rw[aQ];omega) q'⟩
 have iz:ys.length=kvs.length:=gV pr;have gQ:=rv.length;have at_:∀ (i:Nat),i < its.length -> ∃ (ks:List Str) (a:Addr) (tu ru:List Value),(kvs.map (·.1))[i]? = some ks/\its[i]? = some (.ref a)/\a≠X.env.locals/\IsTup s.heap a (tu++ru).toArray/\StrsAre tu ks/\ks.length=mm:=by
  intro i hi;have iV:i < ys.length:=by omega
  obtain⟨p',kE,a,ey,ha,hlm⟩:=tT pr (show ys[i]? = some ys[i] from bC iV);obtain⟨u,hu,ru⟩:=rv.get (show ys[i]? = some (V.ref a) by rw[bC iV,ey])
  cases ru
  obtain⟨i2,r2,t2,_⟩:=I.tuple (aJ.of ha);obtain⟨tu,ru,e,st⟩:=Mp (H:=H) r2;rw[e]at t2;exact⟨p'.1,a,tu,ru,by rw[eK,kE];rfl,hu,(fun z=>by rw[z,I.free]at ha;cases ha),t2,st,hlm⟩
 obtain⟨m,hm,_⟩:=id I.loc
 let lt:Nat->Nat->Bool:=fun i j=>hX ((kvs.map (·.1)).getD i []) ((kvs.map (·.1)).getD j [])
 have kl:(kvs.map (·.1)).length=its.length:=by rw[aE];omega
 have uG:∀i,i < its.length->((kvs.map (·.1)).getD i []).length=mm:=fun i hi=>by
  obtain⟨ks,_,_,_,h1,_,_,_,_,h2⟩:=at_ i hi;rw[jI,h1];exact h2
 have yM:∀i j,i < its.length->j < its.length->i≠j->(kvs.map (·.1)).getD i []≠(kvs.map (·.1)).getD j []:=fun i j hi hj hU e=>hU ((List.getElem?_inj (by omega) nd).mp (by
  rw[jI,jI,bC (by omega),bC (by omega)]at e
  rw[bC (by omega),bC (by omega)]
  exact eJ some e))
 have O:lC its.length lt:=⟨fun i j k hi hj hk h1 h2=>Fw ((uG i hi).trans (uG j hj).symm) ((uG j hj).trans (uG k hk).symm) h1 h2,fun i j hi hj hU f=>Of ((uG i hi).trans (uG j hj).symm) (yM i j hi hj hU) f⟩;have fin:∀ (h':Heap) (D:Addr) (c:Nat) (pa:Array Nat),(∀b o,b≠X.env.locals->s.heap.get? b=some o->h'.get? b=some o)->h'.Ns X.env.locals m->(∀b o,s.heap.get? b=some o->b≠D)->Pm its.length pa->(pa.toList.Pairwise fun i j=>lt i j=true) ->
   h'.get? D=some (listOf (pa.toList.map fun i=>its.getD i Value.none).toArray c) -> ∃v H',Inv X pins σ H' { s with heap:=h' }/\RelV v (.ref D)/\Q v H':=by
  intro h' D c pa k je hD hp pW new;have Cf:∀i∈pa.toList,i < its.length:=fun i hi=>kO.mp (hp.mem_iff.mp hi);have py:(pa.toList.map fun i=>ys.getD i V.aI).Perm ys:=OQ V.aI (by rw[gQ];exact hp)
  have pZ:Pm kvs.length pa:=by rw[<-iz,gQ];exact hp
  have pk:(pa.toList.map fun i=>kvs.getD i (([],[]):List Str×List V)).Perm kvs:=OQ _ pZ;have pp:t8 H mm (pa.toList.map fun i=>ys.getD i V.aI) (pa.toList.map fun i=>kvs.getD i ([],[])):=Mo fun i hi=>XR pr V.aI ([],[]) i (by have:=Cf i hi;omega)
  have ek:(pa.toList.map fun i=>kvs.getD i ([],[])).map (·.1)=pa.toList.map fun i=>(kvs.map (·.1)).getD i []:=by
   rw[md];refine DC fun i hi=>?_;have:i < kvs.length:=by have:=Cf i hi;omega
   show(kvs.getD i ([],[])).1=_;rw[jI,jI,eK,bC this];rfl
  have rel:Vals (pa.toList.map fun i=>ys.getD i V.aI) (pa.toList.map fun i=>its.getD i Value.none):=MR (fun i=>by
   by_cases hi:i < ys.length
   ·obtain⟨u,hu,ru⟩:=rv.get (show ys[i]? = some ys[i] from bC hi)
    rw[jI,jI,hu,bC hi];exact ru
   ·rw[jI,jI,LJ (by omega),LJ (by omega)];trivial) pa.toList
  obtain⟨hn,I'⟩:=Inv.sorted (t':=s.toks) I hm je k hD new rel (by rw[py.length_eq];exact hz)
  refine⟨.ref D,_,I',rfl,q D _ _ hn py pp pk ?_⟩;rw[ek,LC];exact pW
 refine amE kind_sorted plain_sorted entry_sorted (args_sorted1 _) ?_;unfold Builtin.«sorted»;refine ae (m:=checkCount "sorted" 1 1 _) (ak (ae (col _ _ _ fun h1 k1=>?_)));refine ae (LD ?_ (by rw[aQ];omega))
 have sx:(h1.push (seqObj "list" its.toArray 0)).get? h1.objs.size=some (seqObj "list" its.toArray 0):=cj _ rfl;have hD:∀b o,s.heap.get? b=some o->b≠h1.objs.size:=fun b o e=>bx (bo (k1 b o e));refine ae (eR (ji slot_list_sort ⟨_,sx,rfl⟩ entry_list_sort ?_ (args_list_sort _)));have keep:∀b o,s.heap.get? b=some o->(h1.push (seqObj "list" its.toArray 0)).get? b=some o:=fun b o e=>a8 _ (k1 b o e)
 by_cases h2:its.length < 2
 ·refine XN sx h2 fun c g kg new=>⟨_,rfl,ak ⟨_,rfl,?_⟩⟩
  refine fin g _ c (List.range its.length).toArray (fun b o _ e=>kg b o (hD b o e) (keep b o e)) (hm.at' fun o e=>kg _ o (hD _ o e) (keep _ o e)) hD (qD _) ?_ ?_
  ·show(List.range its.length).Pairwise _
   have:its.length=0\/its.length=1:=by omega
   rcases this with z|z <;> rw[z]
   ·exact List.Pairwise.nil
   ·exact List.pairwise_singleton _ _
  ·have:(List.range its.length).map (fun i=>its.getD i Value.none)=its:=by
    apply VG
    ·simp
    ·intro i h1 h2;simp[List.getD,h2]
   show g.get? h1.objs.size=some (listOf ((List.range its.length).map fun i=>its.getD i Value.none).toArray c);rw[this];exact new
 ·have h2:2<=its.length:=by omega
  obtain⟨g0,hg0,Ci⟩:∃g0:Heap,g0.objs.size=0 /\ ∀b,g0.get? b=none:=⟨{ s.heap with objs:= #[] },rfl,fun b=>Heap.get?_none_of_le (bR _)⟩;have F:Fr g0 X.env.locals s.heap m:=⟨hm,fun b o e=>(by rw[Ci]at e;cases e),by rw[hg0];exact bR _⟩
  have N:=Yj (g:=g0) (L:=X.env.locals) (h:=s.heap);have hLo:∃o,s.heap.get? X.env.locals=some o:=let ⟨o,_,_,e,_⟩:=hm;⟨o,e⟩;obtain⟨oL,eL⟩:=hLo;refine kat_list_sort (s:={ s with heap:=h1.push (seqObj "list" its.toArray 0) }) (F.kept keep) (N.grown keep) sx (ba (hD _ _ eL)) (Ci _) (fun p hp=>hD p.1 p.2 (DM hp).2.2) h2 (by omega) fun e1 h' F' N'=>?_
  have kp:∀b o,b≠X.env.locals->s.heap.get? b=some o->h'.get? b=some o:=fun b o n e=>(N' (b,o) (bO _ (L8 n (Ci b) e))).1;have tk:∀ {a:Addr}{zs:Array Value},a≠X.env.locals->IsTup s.heap a zs->IsTup h' a zs:=fun n ⟨o,ho,r⟩=>⟨o,kp _ o n ho,r⟩;have ft:∀ (vs:List Value),(∀v∈vs,∃a tu ru ks,v=Value.ref a/\IsTup h' a (tu++ru).toArray/\StrsAre tu ks/\ks.length=mm) -> ∃fs,fs.length=vs.length/\KatTups h' vs fs /\ ∀f∈fs,∃k t,f=Value.str k t:=by
   intro vs
   induction vs with
   |nil=>intro _;exact⟨[],rfl,KatTups.nil,fun f hf=>(by cases hf)⟩
   |cons v vs ih =>
    intro hv;obtain⟨fs,f1,f2,f3⟩:=ih fun v' h'=>hv v' (bO _ h');obtain⟨a,tu,ru,ks,rfl,⟨o,ho,hc,n,hd⟩,st,eF⟩:=hv v bu;cases st with
    |nil=>simp at eF;omega
    |cons k t r =>
     refine⟨.str k t::fs,by rw[cO,cO,f1],KatTups.cons ho hc hd (by simp) f2,fun f hf=>?_⟩
     rcases bH.mp hf with z|z
     ·exact⟨k,t,z⟩
     ·exact f3 f z
  obtain⟨fs,hf1,yJ,ix⟩:=ft its fun v hv=>by
   obtain⟨i,hi,rfl⟩:=Lq hv;obtain⟨ks,a,tu,ru,_,g2,g3,g4,g5,g6⟩:=at_ i hi;rw[bC hi]at g2;exact⟨a,tu,ru,ks,fc g2,tk g3 g4,g5,g6⟩
  refine kat_kind (T:= .type "str") yJ (by omega) (fun f hf=>?_) (by decide) ?_
  ·obtain⟨k,t,rfl⟩:=ix f hf
   exact Looks.of_pure rfl
  ·refine(XU O h2).wp (fun i j C hi hj hU hC=>?_) fun pa hp=>?_
   ·obtain⟨k,a,tu,ru,g1,g2,g3,g4,g5,g6⟩:=at_ i hi
    obtain⟨k',a',tu',ru',g1',g2',g3',g4',g5',g6'⟩:=at_ j hj;unfold kas_ask;rw[jI,jI,g2,g2'];have ei:(kvs.map (·.1)).getD i []=k:=by rw[jI,g1];rfl
    have ej:(kvs.map (·.1)).getD j []=k':=by rw[jI,g1'];rfl
    have el:lt i j=hX k k':=by show hX ((kvs.map (·.1)).getD i []) ((kvs.map (·.1)).getD j [])=_;rw[ei,ej]
    have ne:=yM i j hi hj hU;rw[ei,ej]at ne;rw[el]at hC;obtain⟨ox,hx,_,nx,dx⟩:=tk g3 g4;obtain⟨oy,hy,_,ny,dy⟩:=tk g3' g4';exact kat_lt hx dx hy dy (M0 0 g5 g5' (g6.trans g6'.symm) ne hC)
   ·refine KasFin.intro F' N' (UpdF.head fun p hp=>?_) fun iy c F'' Sg=>?_
    ·exact hD p.1 p.2 (DM hp).2.2
    ·refine⟨_,rfl,ak ⟨_,rfl,?_⟩⟩
     exact fin iy _ c pa (fun b o n e=>(Sg (b,o) (bO _ (L8 n (Ci b) e))).1) F''.ns hD hp.1 (aa2 hp.1.size hp.2) (Sg _ bu).1
end L2
namespace HS
open PySem PySem.Spec PyProof.Rows PySem.W
theorem NJ {vs:List Value}{ys:List Str}{y:Str}{t:Tok}{j:Nat}{Q:Option PySem.Fin×Unit->Shared->Prop} (st:StrsAre vs ys) (hj:ys[j]? = some y) (iu:∀m,m < j->ys[m]? ≠ some y) (q:∀tk,Q (some (.done (.ret (.int j tk))),()) { s with toks:=s.toks+1 }) :
  ∀ (k i:Nat),i<=j->j < i+k->wpAny (model P w) A (forIn (m:=Sem) (List.range' i k) ((none,()):Option PySem.Fin×Unit) fun(i:Nat) __s=>match vs.toArray[i]? with
      |some y'=>do
       let b <- eqBool y' (.str y t)
       if b=true then do
         let r <- retInt (i:Int)
         pure (ForInStep.done (some r,()))
        else pure (ForInStep.yield (none,()))
      |_=>pure (ForInStep.yield (none,()))) Q E s
 |0,i,h1,h2=>absurd h2 (by omega)
 |k+1,i,h1,h2=>by
  rw[List.range'_succ,List.forIn_cons];have hlen:=tM st;have bX:j < ys.length:=(cz.mp hj).1;have hi:i < vs.length:=by omega
  obtain⟨tk,ev⟩:=L2.E5 st i vs[i] (bC hi);have Jo:i < ys.length:=by omega
  have e1:vs.toArray[i]? = some (.str ys[i] tk):=by
   rw[List.getElem?_toArray,bC hi,ev];simp[Jo]
  rw[e1]
  dsimp only
  refine ae (ae (Va ?_))
  by_cases e:ys[i]=y
  ·rw[cm e,aF rfl]
   have:i=j:=by
    by_cases z:i < j
    ·exact absurd (by rw[bC Jo,e]) (iu i z)
    ·omega
   subst this;refine ae ?_;unfold retInt;exact ae (wpAny_mkInt (ak (ak (ak (q _)))))
  ·rw[dZ e,ax cD]
   refine ak ?_;refine NJ st hj iu q k (i+1) ?_ (by omega)
   by_cases z:i=j
   ·subst z
    rw[bC Jo]at hj;exact absurd (fc hj) e
   ·omega
theorem XX {vs:List Value}{ys:List Str}{y:Str}{t:Tok}{Q:Value->Shared->Prop} (ht:IsTup s.heap l vs.toArray) (st:StrsAre vs ys) (hj:ys[j]? = some y) (iu:∀m,m < j->ys[m]? ≠ some y) (q:∀tk,Q (.int j tk) { s with toks:=s.toks+1 }) :
  wpAny (model P w) A (call (.builtin "tuple.index") [.ref l,.str y t]) Q E s:=by
 obtain⟨o,ho,hc,n,hd⟩:=ht;have bX:j < ys.length:=(cz.mp hj).1;have hlen:=tM st;refine ji amG ⟨o,ho,hc⟩ PySem.F.entry_tuple_index ?_ (PySem.F.args_tuple_index_2 _ _);unfold Builtin.«tuple.index»;refine ae (ak ?_)
 dsimp only
 refine ae ?_;unfold Builtin.Tuple.tupleItemsOf seqItems?;refine ae (ae (zx ho ?_));rw[hd];refine ak (ak ?_);refine ae (ak (ae (ak ?_)));rw[Std.Legacy.Range.forIn_eq_forIn_range'];refine ae ?_;have e2:([0:min vs.toArray.size vs.toArray.size]:Std.Legacy.Range).size=vs.length:=by simp[Std.Legacy.Range.size]
 rw[e2];refine NJ st hj iu (fun tk=>?_) vs.length 0 (bR _) (by omega)
 exact ak ⟨_,rfl,q tk⟩
end HS
namespace L2
open PySem PySem.Spec PyProof.Rows PySem.W HS
def ZW (K:Frag):V->List V->Hp->VK->Prop:=fun x vs H Q=>∃ (l:Addr) (ys:List Str) (y:Str) (j:Nat),x = .ref l/\vs = [.str y]/\aJ K H l (ys.map V.str)/\ys[j]? = some y/\(∀m,m < j->ys[m]? ≠ some y)/\Q (.int j) H
theorem XY:yx X "tuple.index" (ZW X.K):=by
 intro pins s σ H x vs v us Q I rx rv h;obtain⟨l,ys,y,j,rfl,rfl,hH,hj,iu,q⟩:=h;cases rx
 obtain⟨u,rfl,t,rfl⟩:=rv.one;obtain⟨its,r,pl,hz⟩:=I.tuple hH;exact XX pl (zU r) hj iu fun tk=>⟨.int j,H,I.tok _,⟨tk,rfl⟩,q⟩
end L2
namespace L2
open PySem PySem.W PySem.Spec PyProof.Rows
theorem ZX (K:Frag) (hK:X.K=K) {o:Expr}{t:TA}{id:String}{r:V->List V->Hp->VK->Prop} (pa:PlainAttrs T) (slot:Slot T name id) (yw:typeOf (.builtin id)=pure (.type "method_descriptor")) (hm:yv X id r) (ho:PE X o to) (ha:PA X (e::es) t)
  (rD:attributeBase o name X.env (eval o X.env)=eval o X.env:=by rfl)
  (Hd:((backTo iQ (starEach (e::es) X.env)).all (fun x=>!x.1) && (backToKw iQ (keywordEach [] X.env)).all (fun x=>x.1.isSome) && decide ((e::es).length+([]:List Keyword).length+(if ([]:List Keyword).isEmpty then 0 else 1) < 30))=true:=by rfl)
  (rE:(apos.endLine==iQ.line)=true:=by rfl) (hs:starEach (e::es) X.env=(false,eval e X.env)::starEach es X.env:=by rfl) (Fu:(backTo iQ (starEach es X.env)).any (·.1)=false:=by rfl) :
  PE X (.Call (.Attribute o name apos) (e::es) [] iQ) (RT K T r to t):=by subst hK;exact mE pa slot yw hm ho ha rD Hd rE hs Fu
end L2
namespace L2
open PySem PySem.Spec PyProof.Rows PySem.W
mutual
inductive Dt (p:Addr) (H:Hp):V->PyData->Prop where
 |aI:Dt p H .aI .none
 |bl (b:Bool):Dt p H (.bl b) (.bool b)
 |int (i:Int):Dt p H (.int i) (.int i)
 |str (x:Str):Dt p H (.str x) (.str x)
 |lst {a:Addr}{xs:List V}{ds:List PyData}:a≠p->H a=some (.lst xs)->bG p H xs ds->Dt p H (.ref a) (.list ds)
 |tup {a:Addr}{xs:List V}{ds:List PyData}:a≠p->H a=some (.tup xs)->bG p H xs ds->Dt p H (.ref a) (.tuple ds)
 |oE {a:Addr}:a≠p->H a=some (.dK [])->Dt p H (.ref a) (.dict [])
inductive bG (p:Addr) (H:Hp):List V->List PyData->Prop where
 |nil:bG p H [] []
 |cons {x:V}{d:PyData}{xs:List V}{ds:List PyData}:Dt p H x d->bG p H xs ds->bG p H (x::xs) (d::ds)
end
section
mutual
theorem Dt.keep (k:∀b o,H b=some o->b≠p->H' b=some o):∀ {v:V}{d:PyData},Dt p H v d->Dt p H' v d
 |_,_,.aI=>.aI
 |_,_,.bl b=>.bl b
 |_,_,.int i=>.int i
 |_,_,.str x=>.str x
 |_,_,.lst n e rs=>.lst n (k _ _ e n) (bG.keep k rs)
 |_,_,.tup n e rs=>.tup n (k _ _ e n) (bG.keep k rs)
 |_,_,.oE n e=>.oE n (k _ _ e n)
theorem bG.keep (k:∀b o,H b=some o->b≠p->H' b=some o):∀ {vs:List V}{ds:List PyData},bG p H vs ds->bG p H' vs ds
 |_,_,.nil=>.nil
 |_,_,.cons r rs=>.cons (Dt.keep k r) (bG.keep k rs)
end
theorem bG.length:∀ {vs:List V}{ds:List PyData},bG p H vs ds->vs.length=ds.length
 |_,_,.nil=>rfl
 |_,_,.cons _ rs=>by rw[cO,cO,bG.length rs]
theorem bG.get:∀ {vs:List V}{ds:List PyData},bG p H vs ds -> ∀ {i:Nat}{d:PyData},ds[i]? = some d -> ∃v,vs[i]? = some v/\Dt p H v d
 |_,_,.nil,i,v,h=>by cases h
 |_,_,.cons r rs,0,v,h=>by cases h;exact⟨_,rfl,r⟩
 |_,_,.cons r rs,i+1,v,h=>bG.get rs (by simpa using h)
end
def oF:PyData->String
 |.none => "NoneType"
 |.bool _ => "bool"
 |.int _ => "int"
 |.str _ => "str"
 |.list _ => "list"
 |.tuple _ => "tuple"
 |.dict _ => "dict"
def gC (T:String) (d:PyData):Bool:=oF d==T || (oF d == "bool" && T == "int")
theorem Dt.ty {d:PyData} (r:Dt p H v d):js K H v (.type (oF d)):=by
 cases r with
 |aI=>exact .aI
 |bl b=>exact .bl b
 |int i=>exact .int i
 |str x=>exact .str x
 |lst n e _=>exact .lst e
 |tup n e _=>exact .tup e
 |oE n e=>exact .dK e
theorem ZY (K:Frag) (d:PyData):kitOne K (.type (oF d)) (.type "int")=some (gC "int" d):=by cases d <;> rfl
theorem YM (K:Frag) (d:PyData):kitOne K (.type (oF d)) (.type "bool")=some (gC "bool" d):=by cases d <;> rfl
theorem E6 (K:Frag) (d:PyData):kitOne K (.type (oF d)) (.type "str")=some (gC "str" d):=by cases d <;> rfl
theorem kit_tuple (K:Frag) (d:PyData):kitOne K (.type (oF d)) (.type "tuple")=some (gC "tuple" d):=by cases d <;> rfl
theorem rf {d:PyData} (kt:∀ (K:Frag) (d:PyData),kitOne K (.type (oF d)) (.type T)=some (gC T d)) (r:Dt p H v d) (q:Q (.bl (gC T d)) H) :
  (∃x,(∃C,[v,V.ty T] = [x,.ref C])\/(∃T',[v,V.ty T] = [x,.ty T']))/\Qi K [v,.ty T] H Q:=⟨⟨v,.inr ⟨T,rfl⟩⟩,v,.ty T,.type (oF d),.type T,_,rfl,rfl,.inl r.ty,kt K d,q⟩
end L2
namespace HT
open PySem PyProof.Rows
section
open PySem.SeqAt
open PySem.AutoSeq1 (wpAny_loadPart')
open PySem.MeetsSeq PySem.MeetsSeq2 PySem.MeetsSeq3
end
end HT
namespace L2
open PySem PySem.Spec PyProof.Rows PySem.W HT
section
mutual
theorem Dt.reads (I:Inv X pins σ H s):∀ {v:V}{d:PyData}{u:Value},Dt p H v d->RelV v u -> ∃as,Reads s.heap u d as
 |_,_,_,.aI,r=>by cases r;exact⟨_,.none⟩
 |_,_,_,.bl b,r=>by cases r;exact⟨_,.bool b⟩
 |_,_,_,.int i,r=>by obtain⟨t,rfl⟩:=r;exact⟨_,.int i t⟩
 |_,_,_,.str x,r=>by obtain⟨t,rfl⟩:=r;exact⟨_,.str x t⟩
 |_,_,_,.lst (a:=a) (xs:=xs) _ e rs,r=>by
  cases r
  obtain⟨_,its,n,rv,at_⟩:=(show bp X.prog X.w H s.heap a (.lst xs) from I.au a _ e);obtain⟨as,ra⟩:=bG.reads I rs rv;exact⟨_,.list at_ rfl rfl ra⟩
 |_,_,_,.tup (a:=a) (xs:=xs) _ e rs,r=>by
  cases r
  obtain⟨_,its,rv,ob,at_,hc,n,hd,_⟩:=(show bp X.prog X.w H s.heap a (.tup xs) from I.au a _ e);obtain⟨as,ra⟩:=bG.reads I rs rv;exact⟨_,.tuple at_ hc hd ra⟩
 |_,_,_,.oE (a:=a) _ e,r=>by
  cases r
  obtain⟨_,_,vs,kv,o,es,ep,g1,g2,g3,_,g4,_⟩:=(show bp X.prog X.w H s.heap a (.dK []) from I.au a _ e);cases kv
  have e0:es.toList = []:=by cases h:es.toList with
   |nil=>rfl
   |cons a b=>rw[h]at g4;cases g4
  exact⟨_,.dict (kvs:= []) g1 g2.1 g3 (by rw[e0];exact .nil) (by rw[e0];exact .nil)⟩
theorem bG.reads (I:Inv X pins σ H s):∀ {vs:List V}{ds:List PyData}{us:List Value},bG p H vs ds->Vals vs us -> ∃as,ReadsAll s.heap us ds as
 |_,_,_,.nil,r=>by cases r;exact⟨_,.nil⟩
 |_,_,_,.cons r rs,rv=>by
  cases rv with
  |cons q qs =>
   obtain⟨as,h1⟩:=Dt.reads I r q;obtain⟨bs,h2⟩:=bG.reads I rs qs;exact⟨_,.cons h1 h2⟩
end
mutual
theorem Dt.xw (I:Inv X pins σ H s):∀ {v:V}{d:PyData}{u:Value},Dt p H v d->RelV v u->d.showable=true->d.shown.length<=sizeLine -> ∃bs,ReadAtMost s.heap d.depth bs/\ReprK X.prog X.w bs s.heap d.depth u d.shown
 |_,_,_,.aI,r,_,_=>by cases r;exact⟨[],(fun _ h=>nomatch h),by simp only[PyData.shown];exact .of_is ReprIs.none _ _ _⟩
 |_,_,_,.bl b,r,_,_=>by cases r;exact⟨[],(fun _ h=>nomatch h),by simp only[PyData.shown];exact .of_is (ReprIs.bool b) _ _ _⟩
 |_,_,_,.int i,r,hs,_=>by obtain⟨t,rfl⟩:=r;exact⟨[],(fun _ h=>nomatch h),by simp only[PyData.shown];exact .of_is (ReprIs.int t (by simpa [PyData.showable] using hs)) _ _ _⟩
 |_,_,_,.str x,r,_,hz=>by obtain⟨t,rfl⟩:=r;exact⟨[],(fun _ h=>nomatch h),by simp only[PyData.shown];exact .of_is (ReprIs.str x t (by simpa only [PyData.shown] using hz)) _ _ _⟩
 |_,_,_,.lst (a:=a) (xs:=xs) (ds:=ds) n e rs,r,hs,hz=>by
  cases r
  obtain⟨_,its,n',rv,h1⟩:=(show bp X.prog X.w H s.heap a (.lst xs) from I.au a _ e);have Cj:(listText (PyData.shownAll ds)).length<=sizeLine:=by simpa only [PyData.shown] using hz
  obtain⟨bs,hb,hk⟩:=bG.xw I rs rv (by simpa [PyData.showable] using hs) (fun t ht=>gW (listText_mem_le ht) Cj)
  obtain⟨as,ra⟩:=bG.reads I rs rv;have r:Reads s.heap (.ref a) (.list ds) _:= .list h1 rfl rfl ra;have yN:a ∉ bs:=not_mem_of_deeper r (by simp only[PyData.depth];omega) hb
  refine⟨a::bs,VR r (by simp only[PyData.depth];omega) hb,?_⟩
  simp only[PyData.depth,PyData.shown];cases its with
  |nil =>
   cases ra
   simp only[PyData.shownAll,listText_nil];exact ReprK.listEmpty h1 rfl rfl
  |cons x l=>exact ReprK.list h1 rfl rfl yN (by simpa using hk.length_eq) (fun i y e=>hk.item i y (by simpa using e))
 |_,_,_,.tup (a:=a) (xs:=xs) (ds:=ds) n e rs,r,hs,hz=>by
  cases r
  obtain⟨_,its,rv,ob,h1,h2,n',h3,_⟩:=(show bp X.prog X.w H s.heap a (.tup xs) from I.au a _ e);have Cj:(tupleText (PyData.shownAll ds)).length<=sizeLine:=by simpa only [PyData.shown] using hz
  obtain⟨bs,hb,hk⟩:=bG.xw I rs rv (by simpa [PyData.showable] using hs) (fun t ht=>gW (tupleText_mem_le ht) Cj)
  obtain⟨as,ra⟩:=bG.reads I rs rv;have r:Reads s.heap (.ref a) (.tuple ds) _:= .tuple h1 h2 h3 ra;have yN:a ∉ bs:=not_mem_of_deeper r (by simp only[PyData.depth];omega) hb
  refine⟨a::bs,VR r (by simp only[PyData.depth];omega) hb,?_⟩
  simp only[PyData.depth,PyData.shown];exact ReprK.tuple h1 h2 h3 yN hk
 |_,_,_,.oE (a:=a) n e,r,hs,hz=>by
  cases r
  obtain⟨as,rd⟩:=Dt.reads I (.oE n e) (rfl:RelV (.ref a) (.ref a));obtain⟨_,ns,vs,kv,o,es,ep,g1,g2,g3,_,g4,_⟩:=(show bp X.prog X.w H s.heap a (.dK []) from I.au a _ e);cases kv
  have e0:es.toList = []:=by cases h:es.toList with
   |nil=>rfl
   |cons a b=>rw[h]at g4;cases g4
  refine⟨a :: [],VR rd (bR _) (fun _ h=>nomatch h),?_⟩;exact ReprK.dict (as:= []) (d:=0) (ps:= []) g1 g2.1 g3 ns (by simp) (by rw[e0];exact .nil)
theorem bG.xw (I:Inv X pins σ H s):∀ {vs:List V}{ds:List PyData}{us:List Value},bG p H vs ds->Vals vs us->PyData.showableAll ds=true->(∀t∈PyData.shownAll ds,t.length<=sizeLine) ->
  ∃bs,ReadAtMost s.heap (PyData.depthAll ds) bs/\ReprAllK X.prog X.w bs s.heap (PyData.depthAll ds) us (PyData.shownAll ds)
 |_,_,_,.nil,r,_,_=>by cases r;exact⟨[],(fun _ h=>nomatch h),by simp only[PyData.shownAll];exact .nil⟩
 |_,_,_,.cons (d:=d) (ds:=ds) r rs,rv,hs,hz=>by
  cases rv with
  |cons q qs =>
   have pT:d.showable=true/\PyData.showableAll ds=true:=by simpa [PyData.showableAll] using hs
   obtain⟨b1,iA,k1⟩:=Dt.xw I r q pT.1 (hz _ (by simp only[PyData.shownAll];exact bu ..))
   obtain⟨b2,u0,k2⟩:=bG.xw I rs qs pT.2 (fun t ht=>hz t (by simp only[PyData.shownAll];exact bO _ ht))
   refine⟨b1++b2,?_,?_⟩
   ·simp only[PyData.depthAll]
    exact(iA.mono (Nat.le_max_left _ _)).append (u0.mono (Nat.le_max_right _ _))
   ·simp only[PyData.depthAll,PyData.shownAll]
    exact .cons ((k1.more fun b hb=>kQ _ hb).level_le (Nat.le_max_left _ _)) (k2.more_le (fun b hb=>gr _ hb) (Nat.le_max_right _ _))
end
end
end L2
namespace L2
open PySem PySem.W
end L2
namespace L2
open PySem PySem.W PySem.Spec PyProof.Rows
noncomputable def mQ (h:Heap) (d:Addr) (es:Array DictEntry) (ep:Nat):Prop:= ∃o,h.get? d=some o/\o.ExactDict/\o.data = .dict es ep
theorem mQ.ty {es:Array DictEntry} (x:mQ s.heap d es ep):s.TypeIs (.ref d) "dict" :=let ⟨o,e,c,_⟩:=x;⟨o,e,c.1⟩
theorem YN {es:Array DictEntry}{Q:Value->Shared->Prop} (hd:(d==sysModules)=false) (x:mQ s.heap d es ep)
  (q:Q (.ref s.heap.objs.size) { s with heap:=s.heap.push { cls:= .type "dict_keyiterator",data:= .fields #[.ref d,.int 0 0,.int es.size 0,.int ep 0] } }):wpAny (model P w) A (pyIter (.ref d)) Q E s:=by
 have hT:=x.ty;obtain⟨o,ho,hx,xT⟩:=x;refine DB hT F.slot_dict_iter (ji F.slot_dict_iter hT F.entry_dict_iter ?_ (F.args_dict_iter_1 _));unfold Builtin.«dict.__iter__»;refine ae ?_;unfold Builtin.Dict.dictSlotNone;refine ae (Lz hT ?_);show wpAny _ _ (pure (Value.ref d)) _ _ s;refine ak ?_;show wpAny _ _ (Builtin.Dict.showsAll d >>= _) _ _ s;unfold Builtin.Dict.showsAll;rw[ax (by rw[hd];exact cD)]
 refine ae (ak (ae (zM ho xT (ae (zN ho xT ?_)))));exact ae (gJ (ak ⟨_,rfl,"dict_keyiterator",_,⟨_,cj _ rfl,rfl⟩,DD.lookup,q⟩))
theorem YO {es:Array DictEntry}{e:DictEntry}{Q:Option Value->Shared->Prop} (hit:s.heap.IsKeyIter it d i es.size ep) (x:mQ s.heap d es ep) (hx:es[i]? = some e)
  (q:∀h',h'.IsKeyIter it d (i+1) es.size ep->Heap.SameBut it s.heap h'->Q (some e.key) { s with heap:=h' }):wpAny (model P w) A (pyNext (.ref it)) Q E s:=by
 obtain⟨o,ho,hc,hd⟩:=id hit;obtain⟨od,gR,d7,lO⟩:=id x;unfold pyNext;refine ae (vY (vX (name:=Str.ofString "__next__") hit.typeIs DD
  (ji DD hit.typeIs amJ ?_ (amK _))))
 refine ae (ak (ae (ae ?_)))
 first|refine ae (LL hit.typeIs (ak ?_))|refine ae (LM hit.typeIs (ak ?_))
 refine ae (Dy ho hd ?_);simp only[show Builtin.Dict_items.ownsTuple "dict_keyiterator" = false by decide,zF,kT]
 show wpAny _ _ (if (Value.ref d==Value.none)=true then _ else _) _ _ s;rw[ax (show ¬ ((Value.ref d==Value.none)=true) from cD)];refine ae (ak (ae (zM gR lO ?_)));rw[ax (by simp)]
 refine ae (ak (ae (zN gR lO ?_)));rw[ax (by simp)]
 refine ak ?_;simp only[show ¬ ((i:Int) < 0) from by omega,kT,nK,hx]
 refine ae ?_
 first|refine ae (LL hit.typeIs (ak ?_))|refine ae (LM hit.typeIs (ak ?_))
 refine ae (wpAny_isOneOf_keyiter hit.typeIs ?_);show wpAny _ _ (setField (.ref it) 1 (rawInt ((i:Int)+1)) >>= _) _ _ s;refine ae (VS ho hd (by simp) ?_)
 have Bo:(s.heap.update it (Obj.mapFields (·.setIfInBounds 1 (rawInt ((i:Int)+1))))).IsKeyIter it d (i+1) es.size ep:=
  ⟨_,Dv _ ho (Obj.isFreed_of_fields (Obj.data_mapFields hd _)),(Obj.cls_mapFields ..).trans hc,by rw[Obj.data_mapFields hd];simp[rawInt]⟩
 refine ae (eR (ae (wpAny_isOneOf_keyiter (s:={ s with heap:=s.heap.update it (Obj.mapFields (·.setIfInBounds 1 (rawInt ((i:Int)+1)))) }) Bo.typeIs ?_)));show wpAny _ _ (pure e.key) _ _ _;exact ak (ak ⟨_,rfl,ak (q _ Bo (vZ ..))⟩)
theorem YQ {es:Array DictEntry}{Q:Option Value->Shared->Prop} (hh:A.handled=none) (hit:s.heap.IsKeyIter it d es.size es.size ep) (x:mQ s.heap d es ep)
  (q:∀h',Heap.ExtBut it s.heap h'->Q none { s with heap:=h' }):wpAny (model P w) A (pyNext (.ref it)) Q E s:=by
 obtain⟨o,ho,hc,hd⟩:=id hit;obtain⟨od,gR,d7,lO⟩:=id x;unfold pyNext;refine ae (vY (vX (name:=Str.ofString "__next__") hit.typeIs DD
  (ji DD hit.typeIs amJ ?_ (amK _))))
 refine ae (ak (ae (ae ?_)))
 first|refine ae (LL hit.typeIs (ak ?_))|refine ae (LM hit.typeIs (ak ?_))
 refine ae (Dy ho hd ?_);simp only[show Builtin.Dict_items.ownsTuple "dict_keyiterator" = false by decide,zF,kT]
 show wpAny _ _ (if (Value.ref d==Value.none)=true then _ else _) _ _ s;rw[ax (show ¬ ((Value.ref d==Value.none)=true) from cD)];refine ae (ak (ae (zM gR lO ?_)));rw[ax (by simp)]
 refine ae (ak (ae (zN gR lO ?_)));rw[ax (by simp)]
 refine ak ?_;simp only[show ¬ ((es.size:Int) < 0) from by omega,kT,nK,zL (aO es.size)]
 refine ae ?_
 first|refine ae (LL hit.typeIs (ak ?_))|refine ae (LM hit.typeIs (ak ?_))
 show wpAny _ _ (setField (.ref it) 0 .none >>= _) _ _ s;refine ae (VS ho hd (by simp) ?_)
 show wpAny _ _ (newExc (.type "StopIteration") [] >>= _) _ _ _;refine ae ?_;simp only[newExc,newTuple];refine ae (gJ ?_ (by size_fits))
 refine ae (m:=firstArgMember _ _) (LH (a:=Value.none) (by first|rfl|(simp only[firstArgMember];rfl)) ?_)
 refine gJ ?_ (by size_fits)
 simp only[raiseNew];refine ae (VN ?_);rw[show A.in1.handled=none from hh];refine ae (ak (Dz ?_));refine ae (LI (T:= "StopIteration") (b:=true) ⟨_,cj _ rfl,rfl⟩ VO ?_);exact ak (q _ (((vZ ..).extBut.push _).push _))
def Jp (d:Addr) (o:Obj) (kvs:List (List Key×V)):It:=⟨fun i H=>H d=some (.aR o (.dT kvs))/\i < kvs.length,fun i H v H'=>H'=H /\ ∃kv b,kvs[i]? = some kv/\v = .ref b/\H b=some (.tup (kv.1.map kV)),fun i H=>H d=some (.aR o (.dT kvs))/\kvs.length<=i⟩
theorem Paired.get {α β:Type}{F:α->β->Prop}{l:List α}{m:List β} (h:Paired F l m):∀ {i:Nat}{a:α},l[i]? = some a -> ∃b,m[i]? = some b/\F a b:=by
 induction h with
 |nil=>intro i a e;cases e
 |cons r _ ih =>
  intro i a e;cases i with
  |zero=>cases e;exact⟨_,rfl,r⟩
  |succ i=>exact ih (by simpa using e)
theorem Og {es:Array DictEntry} (I:Inv X pins σ H s) (hd:H d=some (.aR o (.dT kvs))) (dQ:o.data = .dict es ep) :
  s.heap.get? d=some o/\o.ExactDict/\es.size=kvs.length /\ ∀ (i:Nat) (kv:List Key×V),kvs[i]? = some kv -> ∃ (b:Addr) (e:DictEntry),es[i]? = some e/\e.key = .ref b/\H b=some (.tup (kv.1.map kV)):=by
 obtain⟨h1,z,y,xs,r,o',gA,yi,h2,h3,h4,h5,h6⟩:=(show bp X.prog X.w H s.heap d (.aR o (.dT kvs)) from I.au d _ hd);rw[h1]at h2;cases h2
 rw[dQ]at h4;cases h4
 refine⟨h1,h3,by rw[VT h5];exact(gV r).symm,fun i kv hk=>?_⟩
 obtain⟨x,hx,e1,e2,e3⟩:=Paired.get r hk;exact⟨x.2.1,_,by rw[entry_at h5,hx];rfl,rfl,e2⟩
theorem ZZ (d it:Addr) (bc:d≠it) (o:Obj) (kvs:List (List Key×V)) (es:Array DictEntry) (ep:Nat) (dQ:o.data = .dict es ep) :
  Turn P w K tg (Jp d o kvs) [it] it (fun i h=>i<=kvs.length/\h.IsKeyIter it d i es.size ep) where
 mem:=by simp
 obj:=fun i h st b hb=>by
  obtain rfl:b=it:=by simpa using hb
  obtain⟨_,o,e,c,d⟩:=st;exact⟨o,e,fun v z=>by rw[d]at z;cases z⟩
 keep:=fun i h h' st k=>by
  obtain⟨l,o,e,r⟩:=st;exact⟨l,o,k it (by simp) _ e,r⟩
 item:=by
  intro X hP hw hK hc i pins s σ H E I hf st hg;subst hP hw hK;obtain⟨f0,f1,f2,f3,f4,f5⟩:=hf it (by simp)
  obtain⟨g1,g2,g3,g4⟩:=Og I hg.1 dQ;have eQ:i < kvs.length:=hg.2;have kF:kvs[i]? = some kvs[i]:=bC eQ;obtain⟨b,e,he,hk,hb⟩:=g4 i _ kF;refine YO st.2 ⟨o,g1,g2,dQ⟩ he fun h' gi sb=>?_;have I1:Inv X pins σ H { s with heap:=h' }:=I.turned (t':=s.toks) (fun b o hb e=>sb.extBut b o (by simpa using hb) e) f0 f1 f3 f4 f5
  obtain⟨ob,e0,cl,dt⟩:=id gi;exact⟨_,rfl,uk (s:={ s with heap:=h' }) e0 cl dt (by decide) ⟨.ref b,H,I1,hk,⟨rfl,kvs[i],b,kF,rfl,hb⟩,⟨hg.2,gi⟩,fun b hb=>(hf b hb).1⟩⟩
 done:=by
  intro X hP hw hK hc i pins s σ H E I hf st hg;subst hP hw hK;obtain⟨f0,f1,f2,f3,f4,f5⟩:=hf it (by simp)
  obtain⟨g1,g2,g3,g4⟩:=Og I hg.1 dQ;have ei:i=es.size:=by rw[g3];exact Lv st.1 hg.2
  have j0:=st.2;rw[ei]at j0;exact YQ (I.ok.hd hc) j0 ⟨o,g1,g2,dQ⟩ fun h' eb=>⟨rfl,I.turned (t':=s.toks) (fun b o hb e=>eb b o (by simpa using hb) e) f0 f1 f3 f4 f5⟩
 self:=fun A i s Q E st h=>wpAny_pyIter_keyiter st.2 h
theorem Inv.Oh {σ:List (Option V)} (I:Inv X pins σ H s) (hd:H d=some (.dT kvs)) (ho:s.heap.get? d=some o):Inv X pins σ (upd H d (.aR o (.dT kvs))) s:=by
 have ok:bp X.prog X.w H s.heap d (.dT kvs):=I.au d _ hd;have nd:∀ {b:Addr}{u:HO},H b=some u->u ≠ .dT kvs->b≠d:=fun e n z=>by rw[z,hd]at e;exact n (fc e).symm
 refine I.un (h':=s.heap) (t':=s.toks) ⟨fun b ob q _ _ _=>q,fun b ob q _ _ _=>⟨ob.slots,q⟩,fun b ob q n _=>?_,fun b ob q _=>⟨ob,q⟩,fun b xs e=>?_,fun b ob u e=>?_,fun b ps e=>⟨#[],?_⟩⟩ fun b u e=>?_
 ·rw[ah (fun z=>by rw[z,hd]at n;cases n)];exact n
 ·rw[ah (nd e (by intro z;cases z))];exact e
 ·rw[ah (nd e (by intro z;cases z))];exact e
 ·rw[ah (nd e (by intro z;cases z)),e];simp
 ·by_cases hb:b=d
  ·subst hb
   rw[ag]at e;cases e
   exact⟨ho,ok.gy (fun _ _ _ q=>q) (fun c q=>by rw[ah (nd q (by intro z;cases z))];exact q) fun c xs q=>by rw[ah (nd q (by intro z;cases z))];exact q⟩
  ·rw[ah hb]at e
   exact(I.au b u e).gy (fun _ _ _ q=>q) (fun c q=>by rw[ah (nd q (by intro z;cases z))];exact q) fun c xs q=>by rw[ah (nd q (by intro z;cases z))];exact q
noncomputable def aa3 (te:TE):TI:=fun σ H R=>te σ H fun v H1=>∃d kvs,v = .ref d/\H1 d=some (.dT kvs) /\ ∀o,R (Jp d o kvs) (upd H1 d (.aR o (.dT kvs)))
theorem NK (he:PE X e te):PI X tg e (aa3 te):=by
 intro pins s σ H R I h;refine aD (he pins s σ H _ I h) fun v s1 hQ9=>?_;obtain⟨y,H1,I1,r1,d,kvs,ey,e1,q⟩:=hQ9;subst ey;cases r1
 obtain⟨z,hs,xs,r,o,es,ep,ho,hx,dQ,h4,h5⟩:=(show bp X.prog X.w H1 s1.heap d (.dT kvs) from I1.au d _ e1);have hsz:es.size=kvs.length:=by rw[VT h4];exact(gV r).symm
 refine YN hs ⟨o,ho,hx,dQ⟩ ?_;have bc:d≠s1.heap.objs.size:=bx (bo ho);have I2:Inv X pins σ H1 { s1 with heap:=s1.heap.push { cls:= .type "dict_keyiterator",data:= .fields #[.ref d,.int 0 0,.int es.size 0,.int ep 0] } }:=I1.kept (t':=s1.toks) fun b ob z=>a8 _ z;have st:0<=kvs.length/\Heap.IsKeyIter (s1.heap.push { cls:= .type "dict_keyiterator",data:= .fields #[.ref d,.int 0 0,.int es.size 0,.int ep 0] }) s1.heap.objs.size d 0 es.size ep:=⟨bR _,_,cj _ rfl,rfl,rfl⟩;have lL:H1 s1.heap.objs.size=none:=I1.au.fresh (aO _);refine⟨s1.heap.objs.size,[s1.heap.objs.size],_,_,_,rfl,I2.Oh e1 (a8 _ ho),ZZ d s1.heap.objs.size bc o kvs es ep dQ,st,fun b hb=>?_,q o⟩;obtain rfl:b=s1.heap.objs.size:=by simpa using hb
 exact I1.ko (aO _) (by rw[ah (ba bc)];exact lL)
theorem Inv.ace {σ:List (Option V)} (I:Inv X pins σ H s) (hd:H d=some (.aR o (.dT kvs))) (h0:∀o u,X.kj d≠some (.aR o u)):Inv X pins σ (upd H d (.dT kvs)) s:=by
 obtain⟨_,ok⟩:=(show bp X.prog X.w H s.heap d (.aR o (.dT kvs)) from I.au d _ hd);have nd:∀ {b:Addr}{u:HO},H b=some u->u ≠ .aR o (.dT kvs)->b≠d:=fun e n z=>by rw[z,hd]at e;exact n (fc e).symm
 have nn:∀ {b:Addr},H b=none->upd H d (.dT kvs) b=none:=fun {b} e=>by rw[ah (fun z=>by rw[z,hd]at e;cases e)];exact e
 refine⟨I.ok,I.os,I.bare,⟨I.base.keep,I.base.slot,fun b ob e n hx=>nn (I.base.free b ob e n hx),I.base.there,fun b xs e=>?_,fun b ob u e=>?_,fun b ps e=>?_⟩,I.loc,I.cell,nn I.free,fun x c e=>nn (I.gY x c e),fun p hp=>?_,fun b u e=>?_,I.len⟩
 ·rw[ah (nd (I.base.i8 b xs e) (by intro z;cases z))];exact I.base.i8 b xs e
 ·have hb:b≠d:=fun z=>h0 ob u (z ▸ e)
  rw[ah hb];exact I.base.jr b ob u e
 ·obtain⟨more,e2⟩:=I.base.jT b ps e
  exact⟨more,by rw[ah (nd e2 (by intro z;cases z))];exact e2⟩
 ·obtain⟨a1,a2,a3⟩:=I.pin p hp
  exact⟨a1,nn a2,a3⟩
 ·by_cases hb:b=d
  ·subst hb
   rw[ag]at e;cases e
   exact ok.gy (fun _ _ _ q=>q) (fun c q=>by rw[ah (nd q (by intro z;cases z))];exact q) fun c xs q=>by rw[ah (nd q (by intro z;cases z))];exact q
  ·rw[ah hb]at e
   exact(I.au b u e).gy (fun _ _ _ q=>q) (fun c q=>by rw[ah (nd q (by intro z;cases z))];exact q) fun c xs q=>by rw[ah (nd q (by intro z;cases z))];exact q
noncomputable def acf (H0:Hp) (t:TE):TE:=fun σ H Q=>t σ H fun v H'=>∃d o kvs,H' d=some (.aR o (.dT kvs))/\(∀o u,H0 d≠some (.aR o u))/\Q v (upd H' d (.dT kvs))
theorem E7 (he:PE X e te):PE X e (acf X.kj te):=by
 intro pins s σ H Q I h;exact aD (he pins s σ H _ I h) fun v s1 ⟨y,H1,I1,r1,d,o,kvs,e1,h0,q⟩=>⟨y,_,I1.ace e1 h0,r1,q⟩
theorem Mq {g:TG} (Pv:Nat->List V->St->Hp->Prop) (h0:Pv 0 [] gB (upd H1 p (.lst []))) (hl:∀i ys τ H,Pv i ys τ H->H p=some (.lst ys)/\H d=some (.aR o (.dT kvs)))
  (hs:∀i kv b ys τ H,kvs[i]? = some kv->H b=some (.tup (kv.1.map kV))->Pv i ys τ H->g (.ref b) τ H fun bS H4=>ti bS H4 fun c H5=>if c=true then te bS H5 fun y H6=>H6 p=some (.lst ys)/\ys.length < sizeLine /\ ∃m',m' < kvs.length - i/\CW Pv kvs.length (i+1) m' (ys ++ [y]) bS (upd H6 p (.lst (ys ++ [y]))) else ∃m',m' < kvs.length - i/\CW Pv kvs.length (i+1) m' ys bS H5)
  (hd:∀ys τ H,Pv kvs.length ys τ H->Q (.ref p) H):jR (Jp d o kvs) g ti te gB Q p H1:=by
 refine⟨CW Pv kvs.length,⟨kvs.length,by simp,bR _,h0⟩,?_⟩
 rintro i m ys τ H ⟨rfl,hi,pv⟩;obtain⟨hp,hq⟩:=hl i ys τ H pv;refine⟨hp,?_⟩
 by_cases aT:i < kvs.length
 ·refine .inr ⟨⟨hq,aT⟩,fun x H3 y3=>?_⟩
  obtain⟨e3,kv,b,dc,ex,hb⟩:=y3;subst e3;subst ex;exact hs i kv b ys τ _ dc hb pv
 ·have e:i=kvs.length:=by omega
  subst e;exact .inl ⟨⟨hq,aO _⟩,hd ys τ H pv⟩
end L2
namespace L2
open PySem PySem.Spec PyProof.Rows PySem.W HT
end L2
namespace L2
open PySem PySem.W PySem.Spec PyProof.Rows
theorem XZ:d5 X (.type "int") (fun xs H Q=>∃b,xs = [.bl b]/\Q (.int (if b then 1 else 0)) H):=by
 intro pins s σ H xs us Q I r h;obtain⟨b,rfl,q⟩:=h;obtain⟨u,rfl,rx⟩:=vals1 r;cases rx
 exact call_int_bool ⟨.int _,H,I.tok _,⟨_,rfl⟩,q⟩
end L2
namespace L2
open PySem PySem.Spec PyProof.Rows PySem.W HS
structure tN (e tg iter:Expr) (ifs:List Expr) (emit:Value->Env->Sem Unit):Prop where
 cl:clausesOf e = [⟨tg,iter,ifs,0⟩]
 turn:∀it acc env,compTurn e 0 it acc env=(do
   standAt iter.pos
   match <- pyNext it with
   |none=>pure (.done .next)
   |some v =>
    letOwnedTupleGo tg it v
    assign tg env v
    let mut ok:=true
    for c in ifs do
     if ok then ok <- isTrue c env (eval c env)
    if ok then emit acc env
    again (.compLoop e 0 it acc env))
 loop:∀ (prog:Program) (w:World) (A:Around) it acc env,A.under (.compLoop e 0 it acc env)=A/\(model prog w).den (.compLoop e 0 it acc env)=(compTurn e 0 it acc env).onRaise (fun x=>do noteFrame x env;theTreesLotGoes x)
 begin_:∀ (prog:Program) (w:World) (A:Around) it acc env,A.under (.compStart e 0 it acc env)=A/\(model prog w).den (.compStart e 0 it acc env)=(compStart e 0 it acc env).onRaise (fun x=>do noteFrame x env;standAt theWindowsPlace)
def emitSet (elt:Expr) (acc:Value) (env:Env):Sem Unit:=do
 let v <- eval elt env
 standAt elt.pos
 let _ <- call (.builtin "set.add") [acc,v]
def Ac (k v:Expr) (acc:Value) (env:Env):Sem Unit:=do
 let kv <- eval k env
 let vv <- holding [kv] (eval v env)
 match acc with
 |.ref d=>do
  standAt { k.pos with endLine:=v.pos.endLine,endCol:=v.pos.endCol }
  holding [kv,vv] (dictSet d kv vv)
 |_=>unsupported "internal:dictcomp"
theorem YR:tN (.SetComp elt [⟨tg,iter,ifs,0⟩] scope pos) tg iter ifs (emitSet elt):=⟨rfl,fun _ _ _=>rfl,fun _ _ _ _ _ _=>⟨rfl,rfl⟩,fun _ _ _ _ _ _=>⟨rfl,rfl⟩⟩
theorem X0 {k v:Expr}:tN (.DictComp k v [⟨tg,iter,ifs,0⟩] scope pos) tg iter ifs (Ac k v):=⟨rfl,fun _ _ _=>rfl,fun _ _ _ _ _ _=>⟨rfl,rfl⟩,fun _ _ _ _ _ _=>⟨rfl,rfl⟩⟩
theorem Wc {emit:Value->Env->Sem Unit}{it:Value} (F:tN e tg iter ifs emit) (I:Nat->Shared->Prop)
  (turn:∀n s,I n s->wpAny (model prog w) A (pyNext it) (fun r s1=>match r with
   |none=>R (.ok .next) s1
   |some v=>wpAny (model prog w) A (letOwnedTupleGo tg it v) (fun _ s2=>wpAny (model prog w) A (assign tg env v) (fun _ s3 =>
     wpAny (model prog w) A (forIn ifs true fun c r=>if r=true then do let ok <- isTrue c env (eval c env);pure (ForInStep.yield ok) else pure (ForInStep.yield r)) (fun ok s4 =>
      if ok=true then wpAny (model prog w) A (emit acc env) (fun _ s6=>∃m,m < n/\I m s6) (fun _ _=>False) s4
      else ∃m,m < n/\I m s4) (fun _ _=>False) s3) (fun _ _=>False) s2) (fun _ _=>False) s1) (fun _ _=>False) s)
  (n:Nat) (h:I n s) :
  codeAny (model prog w) A (.compLoop e 0 it acc env) R s:=by
 refine codeAny_loop rfl I (fun n s hI=>?_) n h;rw[(F.loop prog w A it acc env).1,(F.loop prog w A it acc env).2];refine wpAny_noted (Lh ?_);rw[F.turn];refine ae (nG (ae (aD (turn n s hI) fun r s1 h1=>?_)));cases r with
 |none=>exact ak h1
 |some v =>
  refine ae (aD h1 fun _ s2 h2=>ae (aD h2 fun _ s3 h3=>ae (aD h3 fun ok s4 h4=>?_)));cases ok with
  |false=>exact ak ⟨rfl,h4⟩
  |true=>exact ae (aD h4 fun x s5 h5=>ak ⟨rfl,h5⟩)
theorem V' {emit:Value->Env->Sem Unit}{it:Value} (F:tN e tg iter ifs emit)
  (h0:codeAny (model prog w) A (.compLoop e 0 it acc env) R s)
  (h:wpAny (model prog w) A (pyIter it) (fun Jq s'=>codeAny (model prog w) A (.compLoop e 0 Jq acc env) R s')
   (notedBy (model prog w) A env fun x s'=>R (.error x) s') s) :
  codeAny (model prog w) A (.compStart e 0 it acc env) R s:=by
 refine VJ ?_;rw[(F.begin_ prog w A it acc env).1,(F.begin_ prog w A it acc env).2];refine wpAny_notedAt ?_;unfold compStart;rw[F.cl];show wpAny _ _ (ask >>= _) _ _ s;refine ae (mf (wpAny_ite ?_));split
 ·first
   |exact ae (ak (ak (And.intro rfl h0)))
   |exact ak (And.intro rfl h0)
 ·first
   |exact ae (nH (ae (nG (ae (lZ h (fun Jq s' h'=>ak (And.intro rfl h')) fun _ _ x=>x)))))
   |(refine ae (nH ?_);show wpAny _ _ (standAt iter.pos >>= _) _ _ s;exact ae (nG (ae (lZ h (fun Jq s' h'=>ak (And.intro rfl h')) fun _ _ x=>x))))
noncomputable def Fx (J:It) (g:TG) (ti:TT) (tem:Addr->St->Hp->(Hp->Prop)->Prop) (gB:St) (Q:VK) (p:Addr) (H1:Hp):Prop:=
 ∃W:Nat->Nat->St->Hp->Prop,(∃m,W 0 m gB H1) /\ ∀i m τ H2,W i m τ H2 ->
  ((J.stop i H2/\Q (.ref p) H2)\/(J.go i H2 /\ ∀x H3,J.pO i H2 x H3->g x τ H3 fun bS H4=>ti bS H4 fun b H5 =>
   if b=true then tem p bS H5 fun H6=>∃m',m' < m/\W (i+1) m' bS H6
   else ∃m',m' < m/\W (i+1) m' bS H5))
noncomputable def vh (X:Cx) (emit:Value->Env->Sem Unit) (tem:Addr->St->Hp->(Hp->Prop)->Prop):Prop:=
 ∀ (pins:List (Addr×Obj)) (s:Shared) (σ:St) (H:Hp) (p:Addr) (Q:Hp->Prop),Inv X pins σ H s->tem p σ H Q->wpAny (model X.prog X.w) X.A (emit (.ref p) X.env) (fun _ s'=>∃H',Inv X pins σ H' s'/\Q H') X.xe s
structure AJ (X:Cx) (rg:Sem Value) (start:Addr->HO):Prop where
 run:∀ (pins:List (Addr×Obj)) (s:Shared) (σ:St) (H:Hp) (E:Value->Shared->Prop) (Q:Value->Shared->Prop),Inv X pins σ H s ->
  (∀s',Inv X pins σ (upd H s.heap.objs.size (start s.heap.objs.size)) s'->(∀b o,s.heap.get? b=some o->s'.heap.get? b=some o)->Q (.ref s.heap.objs.size) s')->wpAny (model X.prog X.w) X.A rg Q E s
noncomputable def Fy (wi:TI) (b7:List (Option Nat)) (g:TG) (ti:TT) (tem:Addr->St->Hp->(Hp->Prop)->Prop) (start:Addr->HO):TE:=fun σ H Q=>wi σ H fun J H1=>∀p,H1 p=none->Fx J g ti tem (pick b7 σ) Q p (upd H1 p (start p))
section
variable{emit:Value->Env->Sem Unit}{tem:Addr->St->Hp->(Hp->Prop)->Prop}
theorem Xn {J:It}{tn:Nat->Heap->Prop}{g:TG}{RR:Value->Addr->Result->Shared->Prop}{rg:Sem Value}{start:Addr->HO} (F:tN e tg iter ifs emit) (hc:X.calm=true) (S:b8 X.N X.env.scope N' b7 scope)
  (I2:Inv X pins σ H2 s2) (T:Turn X.prog X.w X.K tg J fp it tn) (st:tn 0 s2.heap) (hf:∀b∈fp,i9 X pins H2 b) (Hm:AJ X rg start)
  (hb:∀s H fp,PG (cA X N' scope s H fp) tg g/\n4 (cA X N' scope s H fp) ifs ti/\vh (cA X N' scope s H fp) emit tem)
  (hw:∀p,H2 p=none->Fx J g ti tem (pick b7 σ) Q p (upd H2 p (start p))) (hR:∀acc C s',CompEnd X pins σ Q acc C s'->RR acc C (.ok .next) s') :
  wpAny (model X.prog X.w) X.A rg (fun acc s3=>wpAny (model X.prog X.w) X.A (newFunctionEnv scope X.env.globals (gZ X.env.cells scope.names []) [] X.env.qual none .none (some X.env)) (fun xQ s4 =>
   codeAny (model X.prog X.w) X.A (.compStart e 0 (.ref it) acc { xQ with scope:=relabel scope X.env }) (RR acc xQ.locals) s4) E s3) E s2:=by
 refine Hm.run pins s2 σ H2 E _ I2 fun s3 I3 get3=>?_;have hp:=hw s2.heap.objs.size I2.fresh;generalize eH:upd H2 s2.heap.objs.size (start s2.heap.objs.size)=H3 at I3 hp;have jz:∀b∈fp,b < s2.heap.objs.size:=fun b hb=>let ⟨_,e,_⟩:=T.obj _ _ st b hb;bo e;have pQ:tn 0 s3.heap:=T.keep _ _ _ st fun b _ o e=>get3 b o e;have ix:∀b∈fp,i9 X pins H3 b:=fun b hb=>⟨by rw[<-eH,ah (bx (jz b hb))];exact(hf b hb).1,(hf b hb).2⟩
 have yD:∀b∈fp,∃o,s3.heap.get? b=some o:=fun b hb=>let ⟨o,e,_⟩:=T.obj _ _ pQ b hb;⟨o,e⟩;refine Mc fun h4 hn hk hV IL=>?_;have I4:Inv (cA X N' scope s3 H3 fp) [] (pick b7 σ) H3 { s3 with heap:=h4 }:=Nj I3 S ix yD hn hk hV IL;have yE:tn 0 ({ s3 with heap:=h4 }:Shared).heap:=T.keep _ _ _ pQ fun b _ o e=>hk b o e;obtain⟨hG,hI,hE⟩:=hb s3 H3 fp;obtain⟨W,⟨m0,w0⟩,turn⟩:=hp;have lA:∀ {H':Hp},(∀b∈fp,H' b=none) -> ∀b∈fp,i9 (cA X N' scope s3 H3 fp) [] H' b:=fun hn b hb =>
  ⟨hn b hb,(I4.ok.oj b hb).1,I4.ok.nY b hb,.inl hb,fun x c e=>(I4.ok.oj b hb).2 x c e,fun p hp=>absurd (show p∈([]:List (Addr×Obj)) from hp) (by simp)⟩
 have loop:codeAny (model X.prog X.w) X.A (.compLoop e 0 (.ref it) (.ref s2.heap.objs.size) (Ey scope s3.heap.objs.size X.env))
   (RR (.ref s2.heap.objs.size) s3.heap.objs.size) { s3 with heap:=h4 }:=by
  refine Wc F (fun n s'=>∃i τ H',Inv (cA X N' scope s3 H3 fp) [] τ H' s'/\tn i s'.heap/\(∀b∈fp,H' b=none)/\W i n τ H') ?_ m0 ⟨0,_,H3,I4,yE,fun b hb=>(ix b hb).1,w0⟩;rintro n s5 ⟨i,τ,H5,I5,oq,rY,w5⟩;have w5:=turn i n τ H5 w5;rcases w5 with⟨stop,qn⟩|⟨go,step⟩
  ·refine aD (T.done (cA X N' scope s3 H3 fp) rfl rfl rfl hc i [] s5 τ H5 _ I5 (lA rY) oq stop) fun r s6 ⟨hr,I6⟩=>?_
   subst hr;refine hR _ _ _ ⟨_,H5,rfl,?_,?_,?_,qn⟩
   ·exact I3.AY (s':=s6) (ch:=fp) I6.os I6.base I6.au I6.bare fun b hb=>⟨(ix b hb).2.2.2.1,(ix b hb).2.1,(ix b hb).2.2.2.2.1,(ix b hb).2.2.2.2.2⟩
   ·exact I3.ko (aO _) I6.free
   ·obtain⟨m,hm,_⟩:=I6.loc
    exact⟨m,hm⟩
  ·refine aD (T.item (cA X N' scope s3 H3 fp) rfl rfl rfl hc i [] s5 τ H5 _ I5 (lA rY) oq go) fun r s6 ⟨u,hr,h6⟩=>?_
   subst hr;refine aD h6 fun _ s7 hQ9=>?_;obtain⟨x,H7,I7,r7,y7,sq,IM⟩:=hQ9;have IP:=I7.pinned (lA IM) (T.obj _ _ sq);refine aD (hG _ s7 τ H7 x u _ IP r7 (step x H7 y7)) fun _ s8 hQ9=>?_;obtain⟨u6,H8,I8,q8⟩:=hQ9;refine aD (hI _ s8 u6 H8 _ I8 q8) fun b s9 ⟨H9,I9,q9⟩=>?_;have again:∀ {eZ:St}{H':Hp}{s':Shared}{m':Nat},Inv (cA X N' scope s3 H3 fp) ([]++tZ fp s7.heap) eZ H' s'->m' < n->W (i+1) m' eZ H' ->
     ∃m,m < n /\ ∃i τ H',Inv (cA X N' scope s3 H3 fp) [] τ H' s'/\tn i s'.heap/\(∀b∈fp,H' b=none)/\W i m τ H':=fun {eZ H' s' m'} I' hm w'=>by
    refine⟨m',hm,i+1,eZ,H',I'.wI,T.keep _ _ _ sq fun b hb o e=>(I'.pin (b,o) (gr _ (gr _ (tG hb e)))).1,fun b hb=>?_,w'⟩;obtain⟨o,e,d⟩:=T.obj _ _ sq b hb;exact(I'.pin (b,o) (gr _ (gr _ (tG hb e)))).2.1
   cases b with
   |false =>
    obtain⟨m',hm,w'⟩:=q9;exact again I9 hm w'
   |true=>exact aD (hE _ s9 u6 H9 _ _ I9 q9) fun _ RW ⟨u7,IQ,m',hm,w'⟩=>again IQ hm w'
 exact V' F loop (T.self X.A 0 _ _ _ yE loop)
theorem NL {wi:TI}{g:TG}{rg:Sem Value}{start:Addr->HO} (F:tN e tg iter ifs emit) (hev:eval e X.env=comprehension e scope X.env pos rg false (eval iter X.env)) (Hm:AJ X rg start) (hc:X.calm=true) (S:b8 X.N X.env.scope N' b7 scope) (hi:PI X tg iter wi)
  (hb:∀s H fp,PG (cA X N' scope s H fp) tg g/\n4 (cA X N' scope s H fp) ifs ti/\vh (cA X N' scope s H fp) emit tem)
  (hs:∀x,foldedSetIterable iter X.env x=pure x:=by intro _;rfl):PE X e (Fy wi b7 g ti tem start):=by
 intro pins s σ H Q I h;rw[hev];refine Vx (use:=none) F.cl hs (DO fun n hn=>zY I S hn) S.kind (fun x hx hl=>tx S.keys (by rw[<-hl];exact hx)) ?_
 refine aD (hi pins s σ H _ I h) fun v s1 h1=>aD h1 fun yk s2 h2=>?_;obtain⟨it,fp,tn,J,H2,e,I2,T,j0,f2,hw⟩:=h2;subst e;refine Xn (RR:=fun acc C=>compPost (model X.prog X.w) X.A X.xe none (EP X pins σ Q) acc C) F hc S I2 T j0 f2 Hm hb hw ?_;rintro acc C s' ⟨p,H',rfl,I',fC,⟨m,hm⟩,q⟩;refine⟨m,hm,fun h' pT=>⟨.ref p,H',?_,rfl,q⟩⟩;exact I'.turned (it:=C) (t':=s'.toks) (fun b o hb e=>(pT.2 b hb).trans e) fC.1 fC.2.1 fC.2.2.2.1 fC.2.2.2.2.1 fC.2.2.2.2.2
end
section
variable{k v:Expr}{tk:TE}
noncomputable def Hn (tk tv:TE) (p:Addr) (σ:St) (H:Hp) (Q:Hp->Prop):Prop:=tk σ H fun y H1=>tv σ H1 fun z H2=>∃kvs ks b,y = .ref b/\H2 b=some (.tup (ks.map kV))/\H2 p=some (.dT kvs)/\kvs.length < sizeLine/\Q (upd H2 p (.dT (putK kvs ks z)))
theorem acg (hu:X.A.units+1 < cLine) (hk:PE X k tk) (hv:PE X v tv):vh X (Ac k v) (Hn tk tv):=by
 intro pins s σ H p Q I h;unfold Ac;refine ae (aD (hk pins s σ H _ I h) fun u s1 ⟨y,H1,I1,ry,q1⟩=>ae (eR (aD (hv pins s1 σ H1 _ I1 q1) fun r s2 hQ9=>?_)));obtain⟨z,H2,I2,rz,kvs,ks,b,ey,eb,e,l,q⟩:=hQ9;subst ey;cases (show u=Value.ref b from ry)
 refine ae (nG (eR ?_));obtain⟨zz,hd,xs,rel,dd⟩:=Pe I2.au e;have hz:xs.length<=sizeLine:=by rw[<-gV rel];exact zz
 have hl:(putK kvs ks z).length<=sizeLine:=by have:=wj kvs ks z;omega
 refine wpAny_dictSet_heap (hsz:=hz) (knd:=tupleKind (cp X.prog X.w)) (k:=ks) (show X.A.units < cLine by omega) (qZ I2.au eb) dd fun h' iU hs=>⟨_,?_,q⟩
 obtain⟨qo,es,ep,hq,h2,h3,h4,_,h5⟩:=iU;refine An I2 (by rw[e];exact True.intro) hs ⟨qo,hq⟩ ⟨hl,hd,_,(rel.put ks eb rz).keeps fun c ys ec=>?_,qo,es,ep,hq,h2,h3,h4,h5⟩
 rw[ah (aX ec e (fun z=>nomatch z))];exact ec
noncomputable def Ga (P:Program) (w:World) (te:TE) (p:Addr) (σ:St) (H:Hp) (Q:Hp->Prop):Prop:=te σ H fun y H1=>∃ds x,y = .str x/\H1 p=some (jW P w p ds)/\ds.length+1 < 1000/\Q (upd H1 p (jW P w p (ik ds x)))
theorem aa4 (eP:X.prog=P) (ew:X.w=w) (hk:PE X elt te):vh X (emitSet elt) (Ga P w te):=by
 subst eP ew;intro pins s σ H p Q I h;unfold emitSet;refine ae (aD (hk pins s σ H _ I h) fun u s1 hQ9=>?_);obtain⟨y,H1,I1,ry,ds,x,ey,e,l,q⟩:=hQ9;refine ae (nG (ae ?_));subst ey;obtain⟨t,rfl⟩:=(show ∃t,u=Value.str x t from ry);obtain⟨⟨nd,hS⟩,_⟩:=(show bp X.prog X.w H1 s1.heap p (jW X.prog X.w p ds) from I1.au p _ e);refine ji F.slot_set_add hS.typeIs F.entry_set_add ?_ (F.args_set_add_2 _ _);unfold Builtin.«set.add» Builtin.Frozenset.oneOther;simp only[List.isEmpty_nil,bind_assoc];unfold Builtin.Frozenset.addrOf setAdd;refine ae (ak ?_)
 try dsimp only
 refine ae (ak ?_)
 try dsimp only
 refine ae ?_;refine eR ?_;have kq:(strKind X.prog X.w).is x (.str x t)=true:=by show Value.isStrOf x (.str x t)=true;simp[Value.isStrOf]
 refine ae ((strKind X.prog X.w).pyHash (k:=x) kq ?_);have hb:ds.length+1 < scanBound:=by unfold scanBound;omega
 refine Nw (s:={ s1 with toks:=s1.toks+1 }) hS hb fun h' sb x2 b=>?_;show wpAny _ _ (ret Value.none) _ _ _;refine ak ⟨_,rfl,ak ⟨_,?_,q⟩⟩;have he:∃q,h'.get? p=some q:=let ⟨q,_,_,_,hq,_⟩:=x2;⟨q,hq⟩;exact An (t':=s1.toks+1) (I1.tok _) (by rw[e];exact True.intro) sb he (E4 (E3 nd x) x2)
theorem aa5:AJ X (newDict) (fun _=>.dT []):=⟨fun pins s σ H E Q I h=>by
 refine gJ ?_;exact h _ (I.laid (a:=s.heap.objs.size) (o:= .dT []) (t':=s.toks) (fun _ _ q=>a8 _ q) (aO _) (Nn s.heap I.big)) fun b o e=>a8 _ e⟩
theorem Z0:AJ X (newSet (.type "set")) (fun p=>jW X.prog X.w p []):=⟨fun pins s σ H E Q I h=>by
 unfold newSet setsByText;show wpAny _ _ (_ >>= _) _ _ _;refine ae (ae (mf (ak ?_)));refine gJ ?_;exact h _ (I.laid (a:=s.heap.objs.size) (o:=jW X.prog X.w s.heap.objs.size []) (t':=s.toks) (fun _ _ q=>a8 _ q) (aO _) (E4 qC (Nu (cj _ rfl)))) fun b o e=>a8 _ e⟩
variable{wi:TI}{g:TG}
theorem X1 (hc:X.calm=true) (S:b8 X.N X.env.scope N' b7 scope) (hi:PI X tg iter wi)
  (hb:∀s H fp,PG (cA X N' scope s H fp) tg g/\n4 (cA X N' scope s H fp) ifs ti/\vh (cA X N' scope s H fp) (Ac k v) (Hn tk tv))
  (hs:∀x,foldedSetIterable iter X.env x=pure x:=by intro _;rfl):PE X (.DictComp k v [⟨tg,iter,ifs,0⟩] scope pos) (Fy wi b7 g ti (Hn tk tv) fun _=>.dT []):=
 NL X0 rfl aa5 hc S hi hb hs
theorem YS (hc:X.calm=true) (S:b8 X.N X.env.scope N' b7 scope) (hi:PI X tg iter wi)
  (hb:∀s H fp,PG (cA X N' scope s H fp) tg g/\n4 (cA X N' scope s H fp) ifs ti/\vh (cA X N' scope s H fp) (emitSet elt) (Ga X.prog X.w te))
  (hs:∀x,foldedSetIterable iter X.env x=pure x:=by intro _;rfl):PE X (.SetComp elt [⟨tg,iter,ifs,0⟩] scope pos) (Fy wi b7 g ti (Ga X.prog X.w te) fun p=>jW X.prog X.w p []):=
 NL YR rfl Z0 hc S hi hb hs
end
noncomputable def Ck (Pv:Nat->St->Hp->Prop) (n i m:Nat) (τ:St) (H:Hp):Prop:=m=n - i/\i<=n/\Pv i τ H
theorem ED {Pv:Nat->St->Hp->Prop}{n:Nat}{τ:St} (h:i < n) (p:Pv (i+1) τ H):∃m',m' < n - i/\Ck Pv n (i+1) m' τ H:=⟨n - (i+1),by omega,rfl,h,p⟩
theorem M1 {g:TG}{tem:Addr->St->Hp->(Hp->Prop)->Prop} (Pv:Nat->St->Hp->Prop) (h0:Pv 0 gB H1) (hl:∀i τ H,Pv i τ H->aJ K H a xs)
  (hs:∀i x τ H,xs[i]? = some x->Pv i τ H->g x τ H fun bS H4=>ti bS H4 fun b H5=>if b=true then tem p bS H5 fun H6=>∃m',m' < xs.length - i/\Ck Pv xs.length (i+1) m' bS H6 else ∃m',m' < xs.length - i/\Ck Pv xs.length (i+1) m' bS H5)
  (hd:∀τ H,Pv xs.length τ H->Q (.ref p) H):Fx (mY K a) g ti tem gB Q p H1:=by
 refine⟨Ck Pv xs.length,⟨xs.length,by simp,bR _,h0⟩,?_⟩
 rintro i m τ H ⟨rfl,hi,pv⟩;have hq:=hl i τ H pv
 by_cases aT:i < xs.length
 ·refine .inr ⟨⟨xs,xs[i],hq,by simp[aT]⟩,fun x H3 y3=>?_⟩
  obtain⟨e3,ex⟩:=y3;subst e3;exact hs i x τ _ (ex xs hq) pv
 ·have e:i=xs.length:=by omega
  subst e;exact .inl ⟨⟨xs,hq,aO _⟩,hd τ H pv⟩
end L2
namespace L2
open PySem PySem.Spec PyProof.Rows
structure xU (K:PySem.W.Frag) (x qual:Str) (st:Stmt) (dv:Value) (f:Addr) (fd:FuncData):Prop where
 ex:∃ (oc:Value) (od:Option Addr) (kV doc pm:Value) (an:Option Addr) (aG ct:Value) (jc:Array (Option Value)),
  fd=PySem.W.fnOf x qual (gL st) (b4 st) (aM st) dv kV doc pm an aG ct/\K.lookup f=some ⟨oc,od,.func fd,jc⟩/\PySem.W.codeIn K aG qual=true
 kp:PySem.W.keepIn K (.ref f)=true
theorem xU.binds {T:Addr}{ds:List Value}{n:Nat} (F:xU K x qual st (.ref T) f fd) (lT:K.lookup T=some ⟨oc,od,.seq items n,jc⟩)
  (h:∀ (kV doc pm:Value) (an:Option Addr) (aG ct:Value) (us:List Value),(us++ds).length=ps.length -> ∃k:Option (Array Value)->Sem (List (Str×Value)),(bindArgs (PySem.W.fnOf x qual (gL st) (b4 st) (aM st) (.ref T) kV doc pm an aG ct) ⟨us,[]⟩=seqItems? (.ref T) >>= k)/\k (some items)=pure (ps.zip (us++ds))):Binds K fd ps ds:=by
 obtain⟨oc',od',kV,doc,pm,an,aG,ct,anm,rfl,lk,d7⟩:=F.ex;intro s us KX hl;obtain⟨k,h1,h2⟩:=h kV doc pm an aG ct us hl;exact .of_defaults (T:=T) rfl (KX _ _ lT) rfl h1 h2
theorem Z1 {kV:Value} (l:K.lookup f=some ⟨oc,od,.func (PySem.W.fnOf x qual (gL st) (b4 st) (aM st) dv kV doc pm an aG ct),jc⟩)
  (c:PySem.W.codeIn K aG qual=true) (k:PySem.W.keepIn K (.ref f)=true):xU K x qual st dv f (PySem.W.fnOf x qual (gL st) (b4 st) (aM st) dv kV doc pm an aG ct):=⟨⟨oc,od,kV,doc,pm,an,aG,ct,jc,rfl,l,c⟩,k⟩
end L2
namespace L2
open PySem PySem.Spec PyProof.Rows PySem.W
def xx (o:Obj):Option Value:=match o.data with|.fields vs=>vs[2]? | _=>none
noncomputable def Kp (o o':Obj):Prop:=o'.dict=o.dict/\xx o'=xx o
def KD {α:Type}:Sem α->Prop
 |.pure _=>True
 |.raise _=>True
 |.unsupported _=>True
 |.finish _=>True
 |.rule _ k=>KD (k ())
 |.at _ k=>KD (k ())
 |.load _ _ k=>∀o,KD (k o)
 |.update _ _ f k=>(∀o,Kp o (f o))/\KD (k ())
 |.alloc _ k=>∀a,KD (k a)
 |.loadIfAlive _ k=>∀o,KD (k o)
 |.point _ k=>KD (k ())
 |.register _ _=>False
 |.fresh k=>∀t,KD (k t)
 |.ask k=>∀x,KD (k x)
 |.choose _ _ k=>∀n,KD (k n)
 |.os _ _ k=>∀r,KD (k r)
 |.call _ _ _ _ _=>False
 |.handled _ k=>∀v,KD (k v)
 |.newGen _ k=>∀n,KD (k n)
 |.genState _ k=>∀x,KD (k x)
 |.resume _ _ _ _=>False
 |.yield _ _ _ _=>False
 |.stack k=>∀l,KD (k l)
 |.fork _ _=>False
 |.thread k=>∀n,KD (k n)
 |.await _ _ _ _ _=>False
noncomputable def RD (h h':Heap):Prop:= ∀ (a:Addr) (o:Obj),h.objs[a]? = some o -> ∃o',h'.objs[a]? = some o'/\Kp o o'
theorem RD.refl (h:Heap):RD h h:=fun a o e=>⟨o,e,rfl,rfl⟩
theorem RD.trans {h1 h2 h3:Heap} (a:RD h1 h2) (b:RD h2 h3):RD h1 h3:=fun x o e=>by
 obtain⟨o1,e1,d1⟩:=a x o e;obtain⟨o2,e2,d2⟩:=b x o1 e1;exact⟨o2,e2,d2.1.trans d1.1,d2.2.trans d1.2⟩
theorem RD.push (r:RD h0 h) (o:Obj):RD h0 (h.push o):=r.trans fun x u e=>⟨u,by
 obtain⟨objs,l⟩:=h;show(objs.push o)[x]? = some u;have hx:x < objs.size:=(Lm.mp e).1;rw[Array.getElem?_push,ax (bx hx)];exact e,rfl,rfl⟩
theorem RD.update (r:RD h0 h) {f:Obj->Obj} (hf:∀o,Kp o (f o)):RD h0 (h.update a f):=r.trans fun x u e=>by
 obtain⟨objs,l⟩:=h;show ∃o',(objs.modify a f)[x]? = some o'/\_;rw[Array.getElem?_modify];have e':objs[x]? = some u:=e
 by_cases c:a=x
 ·rw[aF c,e'];exact⟨f u,rfl,hf u⟩
 ·rw[ax c];exact⟨u,e',rfl,rfl⟩
theorem RD.dict (r:RD h h') {o':Obj} (e:h.get? a=some o) (e':h'.get? a=some o'):Kp o o':=by
 have raw:∀ {g:Heap}{u:Obj},g.get? a=some u->g.objs[a]? = some u:=fun {g u} q=>by
  unfold Heap.get? at q;split at q
  ·cases q
  ·exact q
 obtain⟨o2,e2,d⟩:=r a o (raw e);rw[raw e']at e2;cases e2
 exact d
theorem ach {α:Type}{M:Model}{Γ:PySem.Ctx}:∀ {t:Sem α}{Q:α->Pos->Shared->Prop}{E:Value->Pos->Shared->Prop}{p:Pos}{s:Shared},KD t->RD h0 s.heap->Sem.wp M Γ t Q E p s ->
  Sem.wp M Γ t (fun v p s'=>Q v p s'/\RD h0 s'.heap) (fun v p s'=>E v p s'/\RD h0 s'.heap) p s:=by
 intro t
 induction t with
 |pure a=>intro Q E p s _ r h;exact⟨h,r⟩
 |raise e=>intro Q E p s _ r h;exact⟨h,r⟩
 |unsupported w=>intro Q E p s _ r h;exact h
 |finish e=>intro Q E p s _ r h;exact h
 |rule t k ih=>intro Q E p s kd r h;exact ih () kd r h
 |«at» q k ih=>intro Q E p s kd r h;exact ih () kd r h
 |load a q k ih=>intro Q E p s kd r h;obtain⟨o,e,h⟩:=h;exact⟨o,e,ih o (kd o) r h⟩
 |update a q f k ih=>intro Q E p s kd r h;exact⟨h.1,ih () kd.2 (r.update kd.1) h.2⟩
 |alloc o k ih=>intro Q E p s kd r h;exact ih _ (kd _) (r.push o) h
 |loadIfAlive a k ih=>intro Q E p s kd r h;exact ih _ (kd _) r h
 |point l k ih=>intro Q E p s kd r h;exact ih () kd r h
 |register a k ih=>intro Q E p s kd r h;exact h
 |fresh k ih=>intro Q E p s kd r h;exact ih _ (kd _) r h
 |ask k ih=>intro Q E p s kd r h;exact ih _ (kd _) r h
 |choose src n k ih=>intro Q E p s kd r h;exact⟨h.1,ih _ (kd _) r h.2⟩
 |os q l k ih=>intro Q E p s kd r h;exact ih _ (kd _) r h
 |call c hd g l k ih=>intro Q E p s kd r h;exact False.elim kd
 |handled own k ih=>intro Q E p s kd r h;exact ih _ (kd _) r h
 |newGen c k ih=>intro Q E p s kd r h;exact ih _ (kd _) r h
 |genState g k ih=>intro Q E p s kd r h;obtain⟨st,e,h⟩:=h;exact⟨st,e,ih _ (kd _) r h⟩
 |resume g rs l k ih=>intro Q E p s kd r h;exact False.elim kd
 |yield v g l k ih=>intro Q E p s kd r h;exact False.elim kd
 |stack k ih=>intro Q E p s kd r h;exact ih _ (kd _) r h
 |fork c k ih=>intro Q E p s kd r h;exact False.elim kd
 |thread k ih=>intro Q E p s kd r h;exact ih _ (kd _) r h
 |await a t b l k ih=>intro Q E p s kd r h;exact False.elim kd
theorem aa6 {α:Type}{M:Model}{t:Sem α}{Q:α->Shared->Prop} (k:KD t) (h:wpAny M A t Q E s) :
  wpAny M A t (fun v s'=>Q v s'/\RD s.heap s'.heap) (fun v s'=>E v s'/\RD s.heap s'.heap) s:=fun Γ p hi=>ach k (RD.refl _) (h Γ p hi)
theorem KD.bind {α β:Type}{f:α->Sem β} (hf:∀x,KD (f x)):∀ {t:Sem α},KD t->KD (t.bind f):=by
 intro t
 induction t with
 |pure a=>intro _;exact hf a
 |raise e=>intro _;trivial
 |unsupported w=>intro _;trivial
 |finish e=>intro _;trivial
 |rule t k ih=>intro kd;exact ih () kd
 |«at» q k ih=>intro kd;exact ih () kd
 |load a q k ih=>intro kd o;exact ih o (kd o)
 |update a q g k ih=>intro kd;exact⟨kd.1,ih () kd.2⟩
 |alloc o k ih=>intro kd a;exact ih a (kd a)
 |loadIfAlive a k ih=>intro kd o;exact ih o (kd o)
 |point l k ih=>intro kd;exact ih () kd
 |register a k ih=>intro kd;exact False.elim kd
 |fresh k ih=>intro kd o;exact ih o (kd o)
 |ask k ih=>intro kd o;exact ih o (kd o)
 |choose src n k ih=>intro kd o;exact ih o (kd o)
 |os q l k ih=>intro kd o;exact ih o (kd o)
 |call c hd g l k ih=>intro kd;exact False.elim kd
 |handled own k ih=>intro kd o;exact ih o (kd o)
 |newGen c k ih=>intro kd o;exact ih o (kd o)
 |genState g k ih=>intro kd o;exact ih o (kd o)
 |resume g rs l k ih=>intro kd;exact False.elim kd
 |yield v g l k ih=>intro kd;exact False.elim kd
 |stack k ih=>intro kd o;exact ih o (kd o)
 |fork c k ih=>intro kd;exact False.elim kd
 |thread k ih=>intro kd o;exact ih o (kd o)
 |await a t b l k ih=>intro kd;exact False.elim kd
theorem KD.cZ {α β:Type}{t:Sem α}{f:α->Sem β} (h:KD t) (hf:∀x,KD (f x)):KD (t >>= f):=KD.bind hf h
theorem KD.pure {α:Type}{x:α}:KD (Pure.pure x:Sem α):=True.intro
theorem KD.m5 {α:Type}{w:String}:KD (PySem.unsupported w:Sem α):=True.intro
theorem EF:KD PySem.stack:=fun _=>True.intro
theorem E8:KD (PySem.load a):=fun _=>True.intro
theorem M3 {f:Obj->Obj} (h:∀o,Kp o (f o)):KD (PySem.update a f):=⟨h,True.intro⟩
theorem WK {v:Value}:KD (fieldsOf v):=by
 unfold fieldsOf;split
 ·refine KD.cZ E8 fun o=>?_
  split
  ·exact KD.pure
  ·exact KD.m5
 ·exact KD.m5
theorem Ad {v:Value}:KD (field v i):=by
 unfold field;refine KD.cZ WK fun o=>?_;split
 ·exact KD.pure
 ·exact KD.m5
theorem Wd {x:Value} (hi:i≠2):∀o:Obj,Kp o (Obj.mapFields (·.setIfInBounds i x) o):=fun⟨c,d,dt,s⟩=>by
 cases dt <;> first|exact⟨rfl,rfl⟩|exact⟨rfl,Array.getElem?_setIfInBounds_ne hi⟩
theorem wk {v x:Value} (hi:i≠2:=by decide):KD (setField v i x):=by
 unfold setField;split
 ·unfold updateField
  refine KD.cZ E8 fun o=>?_;split
  ·split
   ·exact M3 (Wd hi)
   ·exact KD.m5
  ·exact KD.m5
 ·exact KD.m5
theorem DR {ty:String}{vs:List Value}:KD (newFields ty vs):=by
 unfold newFields newObj
 dsimp only
 split
 ·exact KD.m5
 ·show KD (newObjAsIs _ _ _)
  unfold newObjAsIs;exact KD.cZ (fun _=>True.intro) fun _=>KD.pure
theorem WL {b:Bool}{l:List Env}:KD (keptBack env b l):=by
 unfold keptBack;split
 ·split
  ·exact KD.pure
  ·unfold underTheClaimsCaller
   exact KD.cZ (KD.cZ EF fun _=>KD.pure) fun _=>by split <;> exact KD.pure
 ·exact KD.pure
theorem X2 {l:List Env}:KD (behindIsImport env l):=by
 unfold behindIsImport;split
 ·exact KD.pure
 ·split
  ·exact KD.pure
  ·exact KD.cZ Ad fun _=>KD.pure
theorem NM:∀l:List Env,KD (readyFrames l)
 |[]=>by unfold readyFrames;exact KD.pure
 |env::outer=>by
  unfold readyFrames;split
  ·refine KD.cZ E8 fun o=>?_
   split
   ·exact KD.pure
   ·exact KD.cZ X2 fun _=>KD.cZ WL fun _=>KD.cZ (M3 fun _=>⟨rfl,rfl⟩) fun _=>NM outer
  ·exact KD.m5
theorem DZ:KD (PySem.frameOf env):=by
 unfold PySem.frameOf;refine KD.cZ ?_ fun l=>KD.cZ ?_ fun r=>?_
 ·unfold frameEnvs
  exact KD.cZ EF fun _=>KD.pure
 ·unfold frameObject
  split
  ·exact KD.pure
  ·exact KD.cZ (NM _) fun _=>KD.pure
 ·split
  ·exact KD.pure
  ·exact KD.m5
theorem EG {b:Bool}:KD (entryPlaceOf f b):=by
 unfold entryPlaceOf;refine KD.cZ EF fun l=>?_;split
 ·exact KD.pure
 ·exact KD.pure
theorem Oi {e:Value}:KD (noteFrame e env):=by
 unfold noteFrame;split
 ·refine KD.cZ Ad fun hd=>?_
  have last:∀f b,KD (setField e 1 =<< (do EntryCells.newEntry hd (<- PySem.frameOf env) .none (rawInt f) .none (<- entryPlaceOf f b))):=fun f b=>KD.cZ (KD.cZ DZ fun _=>KD.cZ EG fun _=>DR) fun _=>wk;split
  ·refine KD.cZ Ad fun x=>?_
   split
   ·exact KD.pure
   ·exact KD.cZ wk fun _=>KD.cZ DZ fun _=>KD.cZ EG fun _=>KD.cZ DR fun _=>wk
  ·exact KD.cZ DZ fun _=>KD.cZ EG fun _=>KD.cZ DR fun _=>wk
 ·exact KD.m5
theorem DS {e:Value}{f:Option Addr}:KD (setFlight e f):=by
 unfold setFlight;refine KD.cZ Ad fun tb=>?_;split
 ·exact wk
 ·exact KD.pure
theorem Mr {e:Value}:KD (leaving env e):=by
 unfold leaving;exact KD.cZ Oi fun _=>DS
def jX (n:Option Value) (C:Addr) (dx:Option Addr) (a:Addr):HO:= .ext fun h=>∃ox vs,h.get? a=some ox/\ox.cls = .ref C/\ox.dict=dx/\ox.data = .fields vs/\(∀y,n=some y->vs[2]? = some y)
section
variable{dx:Option Addr}{n:Option Value}
theorem Z2 {vs:Array Value} (e:h.get? a=some ox) (c:ox.cls = .ref C) (d:ox.dict=dx) (f:ox.data = .fields vs) (z:∀y,n=some y->vs[2]? = some y):bp P w H h a (jX n C dx a):=
 ⟨⟨ox,vs,e,c,d,f,z⟩,⟨_,e⟩,fun _ _ ⟨ox,vs,q,r⟩ k=>⟨ox,vs,k _ q,r⟩⟩
theorem Z3 {B:Heap}{l:List Env}{a0:Value} (f:Heap.FlyingW B l a (.ref C) a0 h) (r:∃ox,h.get? a=some ox/\ox.dict=dx/\(∀y,n=some y->xx ox=some y)):bp P w H h a (jX n C dx a):=by
 obtain⟨_,_,_,oe,vs,_,_,_,he,hc,hd,_⟩:=f;obtain⟨ox,e,d,z⟩:=r;rw[he]at e;cases e;exact Z2 he hc.1 d hd fun y=>by have:=z y;unfold xx at this;rw[hd]at this;exact this
theorem Z4 (ok:cL P w H h) (n:H a=none) (o:bp P w (upd H a O) h a O):cL P w (upd H a O) h:=fun b u e=>by
 by_cases c:b=a
 ·subst c
  rw[ag]at e;cases e;exact o
 ·rw[ah c]at e
  exact(ok b u e).gy (fun _ _ _ q=>q) (fun x q=>by rw[ah (aA q n)];exact q) fun x xs q=>by rw[ah (aA q n)];exact q
theorem Un.add {fs ex:List Addr} (u:Un fs ex H H' h h') (n':H' a=none) (n:h.get? a=none):Un fs ex H (upd H' a O) h h':=
 ⟨u.keep,u.slot,fun b o e q x=>by
  have:b≠a:=by rintro rfl;rw[n]at e;cases e
  rw[ah this];exact u.free b o e q x,u.there,fun b xs e=>by
  have q:=u.i8 b xs e;rw[ah (aA q n')];exact q,fun b o v e=>by
  have q:=u.jr b o v e;rw[ah (aA q n')];exact q,fun b ps e=>by
  obtain⟨m,q⟩:=u.jT b ps e;exact⟨m,by rw[ah (aA q n')];exact q⟩⟩
theorem YT:upd (ly H a) a O=upd H a O:=by
 funext b;unfold upd
 by_cases c:b=a
 ·rw[aF c,aF c]
 ·rw[ax c,ax c,tL c]
end
section
variable{dx:Option Addr}
theorem WM {R:Addr->Addr->Option Addr->Hp->Prop} (I:Inv X pins σ H s) (hc:X.calm=true) (he:PE X e te)
  (h:te σ H fun v H1=>∃a C dx i,v = .ref a/\H1 a=some (lB C dx a)/\(∀d,dx=some d -> ∃fs,H1 d=some (rN d fs))/\jU X.K C/\jm X.K C i=true/\R a C dx H1)
  (fin:∀a C dx H1 s1,Inv X pins σ H1 s1->H1 a=some (lB C dx a)->R a C dx H1->X.xe (.ref a) s1) :
  wpAny (model X.prog X.w) X.A (exec (.Raise (some e) none pos) X.env) (SP X pins D) X.xe s:=by
 rw[arm_exec_Raise];refine ae (nG (show wpAny _ _ (raiseStmt X.env (some (do let v <- eval e X.env;standAt pos;pure v)) none) _ _ _ from ?_));unfold raiseStmt;refine ae (ae (aD (he pins s σ H _ I h) fun u s1 hQ9=>?_));obtain⟨v,H1,J,r,a,C,dx,i,ev,ea,hd,c,q,hR⟩:=hQ9;refine ae (nG (ak ?_));subst ev;obtain rfl:u = .ref a:=r;obtain⟨ox,od,t,inst,rfl⟩:=J.ZM ea hd;have Ph:Looks (model X.prog X.w) s1.heap (isType (.ref a)) false:=fun A' Q' E' s' k z=>by
  simp only[isType,loadHead];exact ae (Vj (k _ _ inst.at_) (ak z))
 have isB:Looks (model X.prog X.w) s1.heap (isInstance (.ref a) (.type "BaseException")) true:=inst.type.andThen (looks_mroIn J.cM c.be);obtain⟨bm,N,nm,qn,bs,Hg,sn,sub,ab,col,dd,k0,k1,k2,k3,k5,mN,hC,_⟩:=(Ef J.cM q).ex;have tyC:s1.TypeIs (.ref C) "type" :=⟨_,hC,rfl⟩;refine ae (ak (ae (eR ?_)));unfold excFromValue isExcClass;refine ae (ae (Ph.here (ak ?_)));refine ae (isB.here (ak ?_));refine ae (Ph.here ?_);unfold raisedInstance;refine ae (ae (inst.type.here (ae (nL tyC ?_))));rw[aF (show(Value.type "type" == Value.type "type")=true from by decide)]
 refine ak ?_;unfold setFlight raiseNew;refine ae (ae (sS inst.at_ rfl (x:= .none) rfl ?_));rw[ax (show ¬ ((Value.none != Value.none)=true) from by decide)]
 refine ak (ae (wpAny_handled_none (J.ok.hd hc) ?_))
 first
  |exact Dz (fin a C dx H1 s1 J ea hR)
  |exact ae (ak (Dz (fin a C dx H1 s1 J ea hR)))
end
def cC (P:Program) (w:World):j3:=fun outer H s E e s'=>∃ (a:Addr) (n:Option Value) (C:Addr) (a0:Value) (dx:Option Addr) (H':Hp) (B:Heap),e = .ref a/\s'.os=s.os/\AllBare s'.gens/\Heap.FlyingW B outer a (.ref C) a0 s'.heap /\
 (∃ox,s'.heap.get? a=some ox/\ox.dict=dx/\(∀y,n=some y->xx ox=some y))/\(∀h',B.StaysIn h'->s'.heap.UpToSlots h'->Un (fY outer) [] H H' s.heap h'/\cL P w H' h')/\H' a=none/\s.heap.get? a=none/\E (.ref C) (some a) (upd H' a (jX n C dx a))
theorem wX {α:Type}{M:Model}{t:Sem α}{Q Q':α->Shared->Prop} (k:KD t) (h:wpAny M A t Q E s) (q:∀v s',Q v s'->RD s.heap s'.heap->Q' v s'):wpAny M A t Q' E s:=
 lZ (aa6 k h) (fun v s' z=>q v s' z.1 z.2) fun _ _ z=>z.1
section
variable{E:XK}
noncomputable def Z5 (K:Frag) (H0:Hp) (E:XK) (te:TE):TS:=fun _ σ H=>te σ H fun v H1=>∃a C dx i,v = .ref a/\H1 a=some (lB C dx a)/\(∀d,dx=some d -> ∃fs,H1 d=some (rN d fs))/\jU K C/\jm K C i=true/\H0 a=none/\E (.ref C) (some a) (upd H1 a (jX (some .none) C dx a))
theorem wA (he:PE (gf (cC P w) P w K mg base N qual scope f cd A outer s H E) e te) :
  PS (gf (cC P w) P w K mg base N qual scope f cd A outer s H E) (.Raise (some e) none pos) (Z5 K H E te):=by
 intro pins s1 σ H1 D I h;refine WM (R:=fun a C dx H2=>H a=none/\E (.ref C) (some a) (upd H2 a (jX (some .none) C dx a))) I rfl he h fun a C dx H2 s2 J ea ⟨h0,hE⟩=>?_;have fr:s2.heap.FunFrames base (envOfC qual scope s.heap.objs.size f cd::outer):=J.stack;have all:∀env∈(envOfC qual scope s.heap.objs.size f cd::outer),∀b,env.frame=some b->b∈a::fY (envOfC qual scope s.heap.objs.size f cd::outer):=fun env m b hb=>bO _ (zv.mpr ⟨env,m,hb⟩);obtain⟨t,at_⟩:=J.excAt ea;have new:s.heap.get? a=none:=by
  have ub:Un (fY outer) [] H H2 s.heap s2.heap:=J.base;cases q:s.heap.get? a with
  |none=>rfl
  |some o =>
   have:=ub.free a o q h0 (by simp)
   rw[ea]at this;cases this
 show wpAny (model P w) _ (leaving _ (.ref a)) _ _ _;refine wX Mr (wpAny_leaving_firstW (Q:=fun _ s'=>∃h',s'={ s2 with heap:=h' }/\Heap.LeftW (hideAll s2.heap (a::fY (envOfC qual scope s.heap.objs.size f cd::outer))) (envOfC qual scope s.heap.objs.size f cd::outer) a (.ref C) (.ref t) s2.heap h') (base:=hideAll s2.heap (a::fY (envOfC qual scope s.heap.objs.size f cd::outer))) (L:=s.heap.objs.size) (a0:= .ref t) J.ok.frames (funFrames_hide fr all) rfl at_ (fun b o q=>of_hideAll _ q) (hideAll_none _ bu) rfl rfl rfl fun h' hL=>⟨h',rfl,hL⟩) fun _ s' ⟨h',es,hL⟩ rd=>?_;subst es;obtain⟨k1,⟨_,_,k2⟩,k3,k4⟩:=hL;have fl:Heap.FlyingW (hideAll s2.heap (a::fY (envOfC qual scope s.heap.objs.size f cd::outer))) outer a (.ref C) (.ref t) h':=⟨k1,hideAll_none _ bu,k2,k3⟩;obtain⟨ox,oG,_⟩:=fl.there;refine⟨a,some .none,C,.ref t,dx,ly H2 a,hideAll s2.heap (a::fY (envOfC qual scope s.heap.objs.size f cd::outer)),rfl,J.os,J.bare,fl,⟨ox,oG,(rd.dict at_ oG).1,fun y ey=>by cases ey;exact(rd.dict at_ oG).2⟩,fun iy kb up=>?_,by unfold ly;rw[aF rfl],new,by rw[YT];exact hE⟩
 exact J.hidden rfl rfl rfl ea h0 kb (LN k4 up)
end
theorem a6.vi {k:Nat} (F:a6 K x qual st f fd) (S:bK N ps (aM st)) (len:∀vs H Q E,sp vs H Q E->vs.length=ps.length)
  (rC:∀ (aG:Value) (A:Around) (outer:List Env) (s:Shared) (H:Hp) (vs:List V) (Q:VK) (E:XK),aV k (A.deeper (envOfC qual (aM st) s.heap.objs.size f aG))->sp vs H Q E ->
   ∃t,eY (gf (cC P w) P w K mg base N qual (aM st) f aG A outer s H E) (b4 st) t/\t { nx:=fun _ H'=>Q .aI H',rt:=Q } (start N vs) H):a9 P w K mg base (cC P w) (k+1) f fd ps sp:=by
 obtain⟨oc,od,kV,doc,pm,an,aG,ct,jc,rfl,lk,d7⟩:=F.ex;exact F1 lk d7 S len fun A outer s H vs Q E hr gk=>rC aG A outer s H vs Q E hr gk
section
variable{B:Addr}
theorem Wv {Q:Bool->Shared->Prop}{i:Option Value}{r:Bool} (X:K.In s.heap) (q:jm K B i=true) (me:mroIn K C (.ref B)=some r) (at_:s.heap.get? a=some ox) (cl:ox.cls = .ref C) (h:Q r s) :
  wpAny (model P w) A (excMatches (.ref a) (.ref B)) Q E s:=by
 obtain⟨bm,N,nm,qn,bs,Hg,sn,sub,ab,col,dd,k0,k1,k2,k3,k5,mN,hC,_,_,T⟩:=(Ef X q).ex;have L:Looks (model P w) s.heap (isSubtype (.ref C) (.ref B)) r:=looks_mroIn X me;obtain⟨hh,g,d,tk,os⟩:=s;have hT:bm.contains (.type "BaseException")=true:=T.hasType (by decide)
 have hcB:(Value.ref B::bm).contains (.type "BaseException")=true:=by rw[List.contains_cons,hT,Bool.or_true]
 have f:=tc_notTuple;unfold excMatches
 repeat (first|(with_reducible refine wpAny_loadPart_at at_ ?_;rw[cl])|with_reducible refine wpAny_loadPart_at hC ?_|(with_reducible refine wpAny_isSubtype_exc hC ?_;rw[hcB])|(with_reducible refine L.here ?_)|wp_step)
 cases r <;> (wp_walk;exact h)
end
def Cx.lu (X:Cx) (pins:List (Addr×Obj)) (E:St->XK):Cx:={ X with pn:=X.pn++pins,xe:=fun e s'=>∃aS H s1,Inv X pins aS H s1/\cC X.prog X.w X.stack H s1 (E aS) e s' }
section
variable{xp:List (Addr×Obj)}{E:St->XK}
theorem Inv.lu (I:Inv X pins σ H s):Inv (X.lu pins E) [] σ H s:=
 ⟨⟨I.ok.mod,I.ok.kind,I.ok.glob,I.ok.blt,I.ok.above,I.ok.inj,I.ok.has,I.ok.pM,I.ok.hd,I.ok.frames,I.ok.rT,I.ok.oj,I.ok.bs,I.ok.lG,I.ok.pC,I.ok.nY,I.ok.iR,I.ok.mU⟩,I.os,I.bare,I.base,I.loc,I.cell,I.free,I.gY,(fun p hp=>I.pin p (by rw[kS]at hp;exact hp)),I.au,I.len⟩
theorem Inv.rG (ok:X.Ok) (I:Inv (X.lu pins E) xp σ H s):Inv X pins σ H s:=
 ⟨ok,I.os,I.bare,I.base,I.loc,I.cell,I.free,I.gY,(fun p hp=>I.pin p (kQ _ hp)),I.au,I.len⟩
theorem Cx.Ok.aci (ok:(X.lu pins E).Ok):X.Ok:=⟨ok.mod,ok.kind,ok.glob,ok.blt,ok.above,ok.inj,ok.has,ok.pM,ok.hd,ok.frames,ok.rT,ok.oj,ok.bs,ok.lG,ok.pC,ok.nY,ok.iR,ok.mU⟩
theorem SP.rG {f:Flow} (ok:X.Ok) (h:SP (X.lu pins E) xp D f s):SP X pins D f s:=by
 cases f with
 |next=>obtain⟨aS,H',I,q⟩:=h;exact⟨aS,H',I.rG ok,q⟩
 |brk=>obtain⟨aS,H',I,q⟩:=h;exact⟨aS,H',I.rG ok,q⟩
 |cont=>obtain⟨aS,H',I,q⟩:=h;exact⟨aS,H',I.rG ok,q⟩
 |ret u=>obtain⟨v,aS,H',I,r,q⟩:=h;exact⟨v,aS,H',I.rG ok,r,q⟩
end
section
variable{xy:List (Addr×Obj)}{EE:St->XK}{k:Nat}{p:Pos}{t:TA}
noncomputable def OR (sp:Sp) (EE:St->XK) (t:TA):TE:=fun σ H Q=>t σ H fun vs H1=>sp vs H1 Q (EE σ)
theorem YU (F:a9 X.prog X.w X.K X.mg X.base (cC X.prog X.w) k f fd ps sp) (hr:aV k X.A) (hg:Gl X x) (hm:X.mg x=some (.ref f)) (hk:keepIn X.K (.ref f)=true) (hb:Binds X.K fd ps [])
  (ha:PA (X.lu xy EE) (e::es) t) (gj:(x==("__debug__" : Str))=false:=by decide) (he:starEach (e::es) X.env=(false,eval e X.env)::starEach es X.env:=by rfl) (cP:(backTo pos (starEach es X.env)).any (·.1)=false:=by rfl) :
  PE (X.lu xy EE) (.Call (.Name x p) (e::es) [] pos) (OR sp EE t):=by
 intro pins s σ H Q I h;refine zB (tQ I hg hm ?_ gj);refine callWith_K (h₀:=X.base) I.ok.mod.rS hk (aD (ha pos pins s σ H _ I h) fun us s1 ⟨vs,H1,I1,r,q⟩=>⟨I1.cM,?_⟩) he cP;have hl:us.length=ps.length:=by rw[<-r.length];exact F.len _ _ _ _ q
 have jB:=hb s1 us I1.cM (by rw[kS];exact hl)
 rw[kS]at jB;refine zA (vV (F.run X.A X.stack s1 H1 ⟨us,[]⟩ us vs _ _ hr I1.Hc jB r q) fun res s2 hq=>?_);cases res with
 |ok fl =>
  cases fl with
  |ret u=>exact I1.after hq
  |next=>exact False.elim hq
  |brk=>exact False.elim hq
  |cont=>exact False.elim hq
 |error ev=>exact⟨σ,H1,s1,I1.rG I1.ok.aci,hq⟩
end
theorem Ao {M:Model}{Q:Unit->Shared->Prop} (I:Inv X pins σ H s) (hN:X.N.Nodup) (hi:X.N[i]? = some x) (hk:X.env.scope.names.lookup x=some .local)
  (h:∀s',Inv X pins (σ.set i none) H s'->Q () s'):wpAny M A (do bindName X.env x .none;unbindBehindTheSuite X.env x pos) Q E s:=by
 obtain⟨m,hn,hl⟩:=id I.loc;have GQ:(X.env.scope.kind == .class || (X.env.scope.kind == .module && X.env.locals != X.env.globals))=false:=by rw[I.ok.kind];rfl
 have lH:=I.lH;refine wpAny_nameGoes_keeps hk hn GQ fun h' v mX hs=>?_;obtain⟨oL,_,_,RM,_⟩:=id hn;have tracked:cL X.prog X.w H h':=fun b ob e=>by
  refine(I.au b ob e).gy (fun c w' hc q=>(hs.2 c ?_).trans q) (fun _ q=>q) fun _ _ q=>q;rintro rfl;rcases hc with rfl|hc
  ·rw[I.free]at e;cases e
  ·rw[I.free]at hc;cases hc
 refine h _ ⟨I.ok,I.os,I.bare,⟨fun b o e n hb hx=>?_,fun b o e n hb hx=>?_,I.base.free,fun b o e hx=>?_,I.base.i8,I.base.jr,I.base.jT⟩,⟨_,mX,fun j y v' e1 e2 e3=>?_⟩,fun y c e=>?_,I.free,I.gY,fun p hp=>?_,tracked,by simpa using I.len⟩
 ·exact(hs.2 b (bx (gI (bo e) I.ok.above))).trans (I.base.keep b o e n hb hx)
 ·obtain⟨sl,e1⟩:=I.base.slot b o e n hb hx
  exact⟨sl,(hs.2 b (bx (gI (bo e) I.ok.above))).trans e1⟩
 ·obtain⟨o',e1⟩:=I.base.there b o e hx
  exact⟨o',(hs.2 b (bx (gI (bo e) I.ok.above))).trans e1⟩
 ·by_cases hj:j=i
  ·subst hj
   by_cases aT:j < σ.length
   ·rw[Vc aT]at e2;cases e2
   ·rw[LJ (by rw[List.length_set];omega)]at e2;cases e2
  ·rw[Vd (ba hj)]at e2
   obtain⟨u',r',q⟩:=hl j y v' e1 e2 e3;refine⟨u',r',?_⟩;rcases q with⟨k,e⟩|⟨k,c,e,z⟩
   ·refine .inl ⟨k,?_⟩
    have:y≠x:=fun e=>hj (Et hN e1 (e ▸ hi));simp[this,e]
   ·exact .inr ⟨k,c,e,z.sameBut hs (lH y c e)⟩
 ·obtain⟨w',z⟩:=I.cell y c e
  exact⟨w',z.sameBut hs (lH y c e)⟩
 ·obtain⟨e,n,ne,nf,d⟩:=I.pin p hp
  exact⟨(hs.2 p.1 ne).trans e,n,ne,nf,d⟩
def Sh (j:Nat) (D:Ends):Ends:={ nx:=fun σ H=>D.nx (σ.set j none) H,rt:=D.rt,bk:=fun σ H=>D.bk (σ.set j none) H,ct:=fun σ H=>D.ct (σ.set j none) H }
def asE (K:Frag) (B:Addr) (j:Nat) (th:Addr->TS) (D:Ends):St->XK:=fun aS cls oa H2=>(∃C,cls = .ref C/\mroIn K C (.ref B)=some true) /\ ∃a,oa=some a/\th a (Sh j D) (aS.set j (some (.ref a))) H2
section
variable{cn:Str}{p5 p6 p7:Pos}{b0 b1:Stmt}{Pj:List Stmt}{tb:Ends->TS}{th:Addr->TS}{ci:Option Value}
noncomputable def aa7 (tb:Ends->TS):TS:=fun D σ H=>tb D D σ H
theorem YV (hb:∀pins D,eY (X.lu pins (asE X.K C j th D)) (b1::body) (tb D))
  (hN:X.N.Nodup) (hj:X.N[j]? = some n) (hn:X.env.scope.names.lookup n=some .local) (h0:X.xe=fun _ _=>False) (hc:X.calm=true) (hs:X.stack=X.env::X.outer) (hf:X.env.frame=some X.env.locals)
  (gc:Gl X cn) (mc:X.mg cn=some (.ref C)) (qc:jm X.K C ci=true) (hh:∀a,eY (X.qY a) (b0::Pj) (th a)) (hdc:(cn==("__debug__" : Str))=false:=by decide) :
  PS X (.Try (b1::body) [.ExceptHandler (some (.Name cn p5)) (some n) (b0::Pj) p6] [] [] p7) (aa7 tb):=by
 intro pins s σ H D I h;refine wpAny_Try_except ?_;refine lZ (hb pins D [] s σ H D I.lu h) (fun fl s1 z=>?_) fun ev s2 z=>?_
 ·have z':=SP.rG I.ok z
  cases fl with
  |next=>exact zw z'
  |brk=>exact z'
  |cont=>exact z'
  |ret u=>exact z'
 ·obtain⟨aS,H0,s1,I1,a,nn,C',a0,dx,H',B,rfl,os,bare,Cm,⟨ox,oG,hd,hz⟩,Jr,na,new,⟨C2,eC,me⟩,a',ea,hth⟩:=z
  cases ea
  cases eC
  rw[hs]at Cm;refine wX Oi (wpAny_looks_onW (Q:=fun _ s'=>∃h',s'={ s2 with heap:=h' }/\Heap.HeldW B (X.env::X.outer) a (.ref C') a0 X.env.locals h'/\s2.heap.UpToSlots h') (by rw[<-hs];exact I1.ok.frames) hf Cm fun h3 held qa=>⟨h3,rfl,held,qa⟩) fun _ s3 ⟨h3,e3,held,qa⟩ rd3=>?_
  subst e3;refine wX DS (wpAny_landsW (Q:=fun _ s'=>∃h',s'={ s2 with heap:=h' }/\Heap.FlyingW B (X.env::X.outer) a (.ref C') a0 h'/\h3.UpToSlots h') held fun h4 xV qb=>⟨h4,rfl,xV,qb⟩) fun _ s4 ⟨h4,e4,xV,qb⟩ rd4=>?_;subst e4;have up:s2.heap.UpToSlots h4:=LN qa qb;have rd:RD s2.heap h4:=rd3.trans rd4;have lay:∀h5,Heap.FlyingW B (X.env::X.outer) a (.ref C') a0 h5->s2.heap.UpToSlots h5->RD s2.heap h5->Inv X pins aS (upd H' a (jX nn C' dx a)) { s2 with heap:=h5 }:=fun h5 f5 u5 r5=>by
   obtain⟨u,ok⟩:=Jr h5 f5.1 u5;obtain⟨o5,e5,_⟩:=f5.there;exact I1.AY (s':={ s2 with heap:=h5 }) os (u.add na new) (Z4 ok na (Z3 f5 ⟨o5,e5,(r5.dict oG e5).1.trans hd,fun y ey=>(r5.dict oG e5).2.trans (hz y ey)⟩)) bare (fun b z=>absurd z (by simp))
  have J:=lay h4 xV up rd;obtain⟨o4,kG,iW⟩:=xV.there;refine wpAny_handleBy_cons (codeAny_handlers_test ?_) (by intro z;cases z)
  refine tQ (J.qY a) gc mc ?_ hdc;refine Wv (K:=X.K) J.cM qc me kG iW ?_;refine codeAny_handlers_suite_as ?_;refine wX DS (lands_againW (Q:=fun _ s'=>∃h',s'={ s2 with heap:=h' }/\Heap.FlyingW B (X.env::X.outer) a (.ref C') a0 h'/\h4.UpToSlots h') xV fun h5 Ho Js=>⟨h5,rfl,Ho,Js⟩) fun _ s5 ⟨h5,e5,Ho,Js⟩ rd5=>?_;subst e5;have J5:=lay h5 Ho (LN up Js) (rd.trans rd5);refine wH (X:=X.qY a) (v:= .ref a) (J5.qY a) hN hj (.inl hn) rfl (fun s6 I6=>?_) (.inr hn);refine Lh (aD (hh a pins _ _ _ (Sh j D) I6 hth) fun fl s7 z=>?_);cases fl with
  |next=>obtain⟨jd,H7,I7,q⟩:=z;exact Ao (I7.uncaught (Y:=X) J5.ok) hN hj hn fun s8 I8=>⟨_,H7,I8,q⟩
  |brk=>obtain⟨jd,H7,I7,q⟩:=z;exact Ao (I7.uncaught (Y:=X) J5.ok) hN hj hn fun s8 I8=>⟨_,H7,I8,q⟩
  |cont=>obtain⟨jd,H7,I7,q⟩:=z;exact Ao (I7.uncaught (Y:=X) J5.ok) hN hj hn fun s8 I8=>⟨_,H7,I8,q⟩
  |ret u=>obtain⟨v,jd,H7,I7,r,q⟩:=z;exact Ao (I7.uncaught (Y:=X) J5.ok) hN hj hn fun s8 I8=>⟨v,_,H7,I8,r,q⟩
end
section
variable{E:XK}
theorem acj:Passes (cC P w) (gf (cC P w) P w K mg base N qual scope f cd A outer s H E) E:=by
 rintro pins σ H1 s1 e s2 I ⟨a,n,C,a0,dx,H',B,rfl,os,bare,Cm,⟨ox,oG,hd,hz⟩,Jr,na,new,hE⟩;show wpAny (model P w) _ (leaving _ (.ref a)) _ _ _;have yq:s1.os=s.os:=I.os;refine wX Mr (wpAny_leaves_onW (Q:=fun _ s'=>∃h',s'={ s2 with heap:=h' }/\Heap.FlyingW B outer a (.ref C) a0 h'/\s2.heap.UpToSlots h') I.ok.frames rfl Cm fun h' fl up=>⟨h',rfl,fl,up⟩) fun _ s' ⟨h',es,fl,up⟩ rd=>?_;subst es;obtain⟨o',gz,_⟩:=fl.there;refine⟨a,n,C,a0,dx,H',B,rfl,os.trans yq,bare,fl,⟨o',gz,(rd.dict oG gz).1.trans hd,fun y ey=>(rd.dict oG gz).2.trans (hz y ey)⟩,fun iy kb u2=>?_,na,?_,hE⟩
 ·obtain⟨u,ok⟩:=Jr iy kb (LN up u2)
  have J:=I.AY (s':={ s2 with heap:=iy }) os u ok bare (fun b z=>absurd z (by simp))
  exact⟨J.base,J.au⟩
 ·cases q:s.heap.get? a with
  |none=>rfl
  |some o =>
   obtain⟨o2,e2⟩:=I.base.there a o q (by show a ∉ ([]:List Addr);simp)
   rw[new]at e2;cases e2
end
end L2
namespace L2
open PySem PySem.Spec PyProof.Rows PySem.W HT
noncomputable def ack (H:Hp) (x:Option Value):Prop:= ∃a C dx,x=some (.ref a)/\(H a=some (jX (some .none) C dx a) \/ ∃c C' yn,H a=some (jX (some (.ref c)) C dx a)/\c≠a/\H c=some (jX (some .none) C' yn c))
section
variable{k:Nat}{sp:Option Value->Sp}{E:XK}{p:Pos}{t:TA}
def acm (K:Frag):List V->Hp->VK->Prop:=fun xs H Q=>∃a n C dx c cv b,xs = [.ref a,c]/\((∃B,c = .ref B/\cv = .ref B) \/ ∃T,c = .ty T/\cv = .type T)/\H a=some (jX n C dx a)/\jU K C/\(∀d,dx=some d -> ∃fs,H d=some (rN d fs))/\kitOne K (.ref C) cv=some b/\Q (.bl b) H
theorem wB:d5 X (.builtin "isinstance") (acm X.K):=by
 intro pins s σ H xs us Q I r h;obtain⟨a,n,C,dx,c,cv,b,rfl,hc,ea,xc,hd,e,q⟩:=h;obtain⟨u,w',rfl,ru,gO⟩:=r.two;cases ru
 have IU:w'=cv:=by
  rcases hc with⟨B,rfl,rfl⟩|⟨T,rfl,rfl⟩
  ·cases gO;rfl
  ·cases gO;rfl
 subst IU;obtain⟨ox,vs,at_,cl,di,da,_⟩:=(I.au a _ ea).1;cases dx with
 |none =>
  have J:InstAt s.heap a ox C none:=⟨at_,cl,by unfold notCls;rw[da],by rw[di];exact True.intro⟩
  exact kia_one (Aa xc) I.cM J e (fun z=>nomatch z) fun tk=>⟨.bl b,H,I.tok _,rfl,q⟩
 |some d =>
  obtain⟨fs,ed⟩:=hd d rfl;obtain⟨_,mA,nn,_⟩:=I.EZ ed;obtain⟨od,gR,_⟩:=zV nn;have J:InstAt s.heap a ox C (some od):=⟨at_,cl,by unfold notCls;rw[da],by rw[di];exact gR⟩
  exact kia_one (Aa xc) I.cM J e (fun z=>nomatch z) fun tk=>⟨.bl b,H,I.tok _,rfl,q⟩
end
end L2
namespace L2
open PySem PySem.W
section
variable{f0:Addr}{E:XK}{k:Nat}{p:Pos}{t:TA}
theorem o3 (C:bh P w K mg base (cC P w) k f fd ps sp x) (hr:aV k (gf (cC P w) P w K mg base N qual scope f0 cd A outer s H E).A) (ha:PA (gf (cC P w) P w K mg base N qual scope f0 cd A outer s H E) (e::es) t) (hg:Gl (gf (cC P w) P w K mg base N qual scope f0 cd A outer s H E) x:=by rfl) (gj:(x==("__debug__" : Str))=false:=by decide) (he:starEach (e::es) (gf (cC P w) P w K mg base N qual scope f0 cd A outer s H E).env=(false,eval e (gf (cC P w) P w K mg base N qual scope f0 cd A outer s H E).env)::starEach es (gf (cC P w) P w K mg base N qual scope f0 cd A outer s H E).env:=by rfl) (cP:(backTo pos (starEach es (gf (cC P w) P w K mg base N qual scope f0 cd A outer s H E).env)).any (·.1)=false:=by rfl):PE (gf (cC P w) P w K mg base N qual scope f0 cd A outer s H E) (.Call (.Name x p) (e::es) [] pos) (F0 sp [] E t):=k7 C.G hr hg C.m C.k C.b .nil acj ha gj he cP
end
section
variable{xy:List (Addr×Obj)}{EE:St->XK}{k:Nat}{p:Pos}{t:TA}
theorem Ap (C:bh X.prog X.w X.K X.mg X.base (cC X.prog X.w) k f fd ps sp x) (hr:aV k X.A) (ha:PA (X.lu xy EE) (e::es) t) (hg:Gl X x:=by rfl) (gj:(x==("__debug__" : Str))=false:=by decide) (he:starEach (e::es) X.env=(false,eval e X.env)::starEach es X.env:=by rfl) (cP:(backTo pos (starEach es X.env)).any (·.1)=false:=by rfl):PE (X.lu xy EE) (.Call (.Name x p) (e::es) [] pos) (OR sp EE t):=YU C.G hr hg C.m C.k C.b ha gj he cP
end
end L2
namespace L2
open PySem PySem.Spec PyProof.Rows PySem.W
theorem aa8 {c:Nat} (h1:97<=c) (h2:c<=122):Unicode.upperOf c = [c - 32]:=by
 have k:((List.range 26).all fun i=>Unicode.upperOf (97+i) == [97+i - 32])=true:=by decide +kernel
 have:=j8.mp k (c - 97) (kO.mpr (by omega))
 rw[show 97+(c - 97)=c by omega]at this
 exact eq_of_beq this
theorem Oj (h:∀c∈x.cps.toList,97<=c/\c<=122):(Txt.upper x).cps.toList=x.cps.toList.map (· - 32):=by
 show((x.cps.mapIdx fun _ c=>(Unicode.upperOf c).toArray).flatten).toList=_;rw[Array.toList_flatten,Array.toList_mapIdx];obtain⟨xs⟩:=x;obtain⟨l⟩:=xs;show((l.mapIdx fun _ c=>(Unicode.upperOf c).toArray).map Array.toList).flatten=l.map (· - 32);have h':∀c∈l,97<=c/\c<=122:=h;clear h
 induction l with
 |nil=>rfl
 |cons c l ih =>
  rw[List.mapIdx_cons,ck,List.flatten_cons,ck,ih fun d hd=>h' d (bO _ hd)];have:=h' c bu;rw[aa8 this.1 this.2];rfl
def aa9:V->List V->Hp->VK->Prop:=fun x vs H Q=>∃z:Str,x = .str z/\vs = []/\(∀c∈z.cps.toList,97<=c/\c<=122)/\z.length<=1000/\Q (.str (Txt.upper z)) H
theorem NN:yv X "str.upper" aa9:=by
 intro pins s σ H x xs v us Q I rx rv h;obtain⟨z,rfl,rfl,az,hl,q⟩:=h;obtain⟨t,rfl⟩:=rx;cases rv
 have e:(Txt.upper z).length=z.length:=by
  have:=eJ List.length (Oj az);rw[aE,f7,f7]at this;exact this
 exact SC.upper (by rw[e];show decide (z.length > sizeLine)=false;rw[aQ];exact dZ (by omega)) ⟨.str (Txt.upper z),H,I.tok _,⟨_,rfl⟩,q⟩
theorem V8:fillsNumberSlot (.type "tuple") "mul" = pure false:=
 PySem.fillsNumberSlot_seq (id:= "tuple.__mul__") (r:=some (.builtin "tuple.__rmul__")) VU.lookup (by decide +kernel) amM.lookup (by decide +kernel)
theorem Ww:seqRepeat? (.type "tuple")=pure (some (.builtin "tuple.__mul__")):=by
 unfold seqRepeat?;rw[PySem.seqSlot_of (T:= "tuple") (name:= "__mul__") (id:= "tuple.__mul__") VU.lookup (by decide +kernel),PySem.seqSlot_of (T:= "tuple") (name:= "__rmul__") (id:= "tuple.__rmul__") amM.lookup (by decide +kernel)]
 rfl
theorem Wx (a:Int) (t:Tok) (l:Addr) (items:Array Value) (n:Nat) (dd:Option Addr) (sl:Array (Option Value)) :
  Meets (Builtin.«int.__rmul__» ⟨[.int a t,.ref l],[]⟩) (fun _ R s=>s.heap.get? l=some { cls:= .type "tuple",dict:=dd,data:= .seq items n,slots:=sl }/\R (.ok (.ret Value.notImplemented)) s):=
 .of_wp fun prog w A R s h=>by obtain⟨hp,g,d,tk,os⟩:=s;obtain⟨hl,h⟩:=h;wp_walk;exact⟨_,rfl,h⟩
theorem Xo (l:Addr) (v:Value) (n:Nat) (dd:Option Addr) (sl:Array (Option Value)) (t:Tok) :
  Meets (Builtin.«tuple.__mul__» ⟨[.ref l,.int 5 t],[]⟩) (fun _ R s=>s.heap.get? l=some { cls:= .type "tuple",dict:=dd,data:= .seq #[v] n,slots:=sl }/\R (.ok (.ret (Value.ref s.heap.objs.size))) { s with heap:=s.heap.push { cls:=Value.type "tuple",data:=Data.seq #[v,v,v,v,v] },toks:=s.toks }):=
 .of_wp fun prog w A R s h=>by
  obtain⟨hp,g,d,tk,os⟩:=s;obtain⟨hl,h⟩:=h;have f1:=AutoSeq1.idx_int;have f2:=AutoSeq1.sub_tuple_tuple;have f3:=AutoSeq1.sub_list_list;have f4:=AutoSeq1.sub_tuple_list;have f5:=AutoSeq1.sub_list_tuple
  wp_walk using AutoSeq1.wpAny_loadPart' hl
  exact⟨_,rfl,h⟩
noncomputable def Pk (K:PySem.W.Frag):R2:=fun x y H Q=>∃a v,x = .ref a/\y = .int 5/\aJ K H a [v] /\ ∀p,H p=none->Q (.ref p) (upd H p (.tup [v,v,v,v,v]))
theorem Z6:cN X (binaryOp .Mult) (Pk X.K):=by
 intro pins s σ H x y v u Q I rx ry h;obtain⟨a,z,rfl,rfl,ha,q⟩:=h;cases rx
 obtain⟨t,rfl⟩:=ry;obtain⟨its,r1,p1,_⟩:=I.tuple ha;obtain⟨z',rfl,rz⟩:=vals1 r1;obtain⟨⟨cls,dd,data,sl⟩,ho,hc,n,hd⟩:=id p1;simp only at hc hd;subst hc hd;refine wpAny_binaryOp_repeat_ref (T:= "tuple") (U:= "int") (by decide) ⟨_,ho,rfl⟩ (fun s'=>typeIs_int s' 5 t) V8 PySem.F.fills_int_mul amO Ww PySem.F.slot_int_index.lookup
  (sV amO (typeIs_int s 5 t) PySem.F.entry_int_rmul (PySem.F.args_int_rmul_2 _ _) (Wx 5 t a #[z'] n dd sl)
   ⟨ho,rfl,⟨_,ho,rfl⟩,sV VU ⟨_,ho,rfl⟩ PySem.F.entry_tuple_mul (PySem.F.args_tuple_mul_2 _ _) (Xo a z' n dd sl t) ⟨ho,?_⟩⟩)
 refine⟨.ref s.heap.objs.size,_,I.laid (t':=s.toks) (o:= .tup [z,z,z,z,z]) (fun b ob q=>a8 _ q) (aO _) ?_,rfl,q _ (I.au.fresh (aO _))⟩;exact⟨by show 5<=sizeLine;rw[aQ];decide,[z',z',z',z',z'],.cons rz (.cons rz (.cons rz (.cons rz (.cons rz .nil)))),mJ.new _ _⟩
end L2
namespace L2
open PySem PySem.Spec PyProof.Rows PySem.W HT
theorem X3:d5 X (.builtin "len") (fun xs H Q=>∃a kvs,xs = [.ref a]/\H a=some (.dK kvs)/\Q (.int kvs.length) H):=by
 intro pins s σ H xs us Q I r h;obtain⟨a,kvs,rfl,e,q⟩:=h;obtain⟨u,rfl,ru⟩:=vals1 r;cases ru
 exact ab5 I (.inl e) fun t s' I'=>⟨.int _,H,I',⟨_,rfl⟩,q⟩
theorem Wy (d:Addr) (hd:(d==sysModules)=false) :
  MeetsIn P w (Builtin.«dict.items» ⟨[.ref d],[]⟩) (fun _ R s=>(∃es ep,mQ s.heap d es ep)/\R (.ok (.ret (.ref s.heap.objs.size))) { s with heap:=s.heap.push { cls:= .type "dict_items",data:= .fields #[.ref d] } }):=
 .of_wp fun A R s ⟨⟨es,ep,hm⟩,h⟩=>by
  unfold Builtin.«dict.items»;refine ae ?_;unfold Builtin.Dict.noArgs;refine ae (Lz hm.ty ?_);show wpAny _ _ (pure d) _ _ s;refine ak ?_;show wpAny _ _ (Builtin.Dict.showsAll d >>= _) _ _ s;unfold Builtin.Dict.showsAll;rw[ax (by rw[hd];exact cD)]
  exact ae (ak (ae (gJ (ak ⟨_,rfl,h⟩))))
theorem WN {v:Addr}{es:Array DictEntry}{Q:Value->Shared->Prop} (hv:s.heap.IsItemsView v d) (x:mQ s.heap d es ep)
  (hQ:Q (.ref s.heap.objs.size) { s with heap:=s.heap.push { cls:= .type "dict_itemiterator",data:= .fields #[.none,.bool false,.ref d,.int 0 0,.int es.size 0,.int ep 0,.none,.none] } }):wpAny (model P w) A (pyIter (.ref v)) Q E s:=by
 obtain⟨ov,hov,hcv,Cn⟩:=id hv;obtain⟨o,ho,hc,xT⟩:=id x;refine DB hv.typeIs F.slot_dict_items_iter (ji F.slot_dict_items_iter hv.typeIs F.entry_dict_items_iter ?_ (F.args_dict_items_iter_1 _));unfold Builtin.«dict_items.__iter__»;refine ae (ak (ae ?_));unfold Builtin.Dict_items.dictOf;refine ae (sS hov Cn (x:= .ref d) rfl (ak (ae ?_)));unfold Builtin.Dict_items.newIterator;refine ae (zM ho xT (ae (zN ho xT ?_)));simp only[show Builtin.Dict_items.ownsTuple "dict_itemiterator" = true by decide,j7]
 refine gJ (ak ⟨_,rfl,"dict_itemiterator",_,⟨_,cj _ rfl,rfl⟩,DF.lookup,?_⟩) (by simp only[sizeOk,Builtin.Dict_items.ownedTupleFields,cE,fu,cO,sX,aQ];omega)
 simpa [rawInt,Builtin.Dict_items.ownedTupleFields] using hQ
theorem WO {es:Array DictEntry}{e:DictEntry}{ok ov:Value}{Q:Option Value->Shared->Prop} (hit:IsItemIter s.heap it d i es.size ep ok ov) (x:mQ s.heap d es ep) (hx:es[i]? = some e)
  (hQ:∀h',IsItemIterOut h' it d (i+1) es.size ep e.key e.val s.heap.objs.size->h'.get? s.heap.objs.size=some { cls:= .type "tuple",data:= .seq #[e.key,e.val] }->h'.objs.size=s.heap.objs.size+1 ->
   (∀b o,b≠it->s.heap.get? b=some o->h'.get? b=some o)->Q (some (.ref s.heap.objs.size)) { s with heap:=h' }):wpAny (model P w) A (pyNext (.ref it)) Q E s:=by
 obtain⟨hp,g,dr,tk,os⟩:=s;obtain⟨od,gR,d7,lO⟩:=id x;have hT:Shared.TypeIs ⟨hp,g,dr,tk,os⟩ (.ref it) "dict_itemiterator" :=⟨_,hit,rfl⟩;unfold pyNext;refine ae (vY (vX (name:=Str.ofString "__next__") hT DF
  (ji DF hT amQ ?_ (amR _))))
 refine ae (ak (ae (ae ?_)))
 first|refine ae (LO hT (ak ?_))|refine ae (LP hT (ak ?_))
 refine ae (Dy hit rfl ?_);simp only[show Builtin.Dict_items.ownsTuple "dict_itemiterator" = true by decide,j7]
 show wpAny _ _ (if (Value.ref d==Value.none)=true then _ else _) _ _ _;rw[ax (show ¬ ((Value.ref d==Value.none)=true) from cD)];refine ae (ak (ae (zM gR lO ?_)));rw[ax (by simp)]
 refine ae (ak (ae (zN gR lO ?_)));rw[ax (by simp)]
 refine ak ?_;simp only[show ¬ ((i:Int) < 0) from by omega,kT,nK,hx]
 refine ae ?_
 first|refine ae (LO hT (ak ?_))|refine ae (LP hT (ak ?_))
 refine ae (VV hT ?_);show wpAny _ _ (setField (.ref it) 3 (rawInt ((i:Int)+1)) >>= _) _ _ ⟨hp,g,dr,tk,os⟩;refine ae (nQ hit (by simp) fun mO xA xB=>?_)
 replace xB:Heap.SameBut it hp mO:=xB;replace xA:IsItemIter mO it d (i+1) es.size ep ok ov:=by
  have e:((i+1:Nat):Int)=(i:Int)+1:=by omega
  unfold IsItemIter;rw[e];simpa [rawInt] using xA
 have Gb:Shared.TypeIs ⟨mO,g,dr,tk,os⟩ (.ref it) "dict_itemiterator" :=⟨_,xA,rfl⟩;refine ae (eR ?_);refine ae (VV Gb (ae (VV Gb ?_)));show wpAny _ _ (Builtin.Dict_items.pairFromOwner (.ref it) 6 e.key e.val) _ _ ⟨mO,g,dr,tk,os⟩;unfold Builtin.Dict_items.pairFromOwner;refine ae (wpAny_newTuple ?_);have xC:IsItemIter (mO.push { cls:= .type "tuple",data:= .seq #[e.key,e.val] }) it d (i+1) es.size ep ok ov:=a8 _ xA;generalize A2:mO.push { cls:= .type "tuple",data:= .seq #[e.key,e.val] }=n5 at xC;have A3:mO.objs.size=hp.objs.size:=xB.1;have eQ:it < hp.objs.size:=bo hit;have acn:n5.get? hp.objs.size=some { cls:= .type "tuple",data:= .seq #[e.key,e.val] }:=by rw[<-A2,<-A3];exact cj _ rfl
 have aco:n5.objs.size=hp.objs.size+1:=by rw[<-A2,l6,A3]
 have acp:∀b o,b≠it->hp.get? b=some o->n5.get? b=some o:=fun b o hb e=>by rw[<-A2];exact a8 _ (xB.extBut b o hb e)
 show wpAny _ _ (Builtin.Dict_items.ownedTupleIsFree (.ref it) >>= _) _ _ ⟨n5,g,dr,tk,os⟩;rw[A3];clear A2 xA xB Gb A3 mO;refine ae ?_;unfold Builtin.Dict_items.ownedTupleIsFree;refine ae (sS xC rfl (x:= .none) rfl (ak ?_));simp only[j7];refine ae (sS xC rfl (x:=ok) rfl (ae (sS xC rfl (x:=ov) rfl ?_)));refine ae (nQ xC (by simp) fun xR Gd xD=>?_)
 replace xD:Heap.SameBut it n5 xR:=xD;replace Gd:IsItemIter xR it d (i+1) es.size ep e.key ov:=Gd;refine ae (nQ Gd (by simp) fun Hq Ge xE=>?_)
 replace xE:Heap.SameBut it xR Hq:=xE;replace Ge:IsItemIter Hq it d (i+1) es.size ep e.key e.val:=Ge;refine ae (nQ Ge (by simp) fun Hr Gf xF=>?_)
 replace xF:Heap.SameBut it Hq Hr:=xF;replace Gf:IsItemIterOut Hr it d (i+1) es.size ep e.key e.val hp.objs.size:=Gf;refine ae (nQ Gf (by simp) fun Bq Gg xG=>?_)
 replace xG:Heap.SameBut it Hr Bq:=xG;replace Gg:IsItemIterOut Bq it d (i+1) es.size ep e.key e.val hp.objs.size:=Gg;refine ae (wpAny_letGo (ak (ak ⟨_,rfl,ak (hQ Bq Gg ?_ ?_ ?_)⟩)))
 ·exact xG.extBut _ _ (nI eQ) (xF.extBut _ _ (nI eQ) (xE.extBut _ _ (nI eQ) (xD.extBut _ _ (nI eQ) acn)))
 ·show Bq.objs.size=hp.objs.size+1
  rw[xG.1,xF.1,xE.1,xD.1,aco]
 ·exact fun b o hb e=>xG.extBut b o hb (xF.extBut b o hb (xE.extBut b o hb (xD.extBut b o hb (acp b o hb e))))
theorem WQ {es:Array DictEntry}{ok ov:Value}{Q:Option Value->Shared->Prop} (hh:A.handled=none) (hit:IsItemIter s.heap it d es.size es.size ep ok ov) (x:mQ s.heap d es ep)
  (hQ:∀h',Heap.ExtBut it s.heap h'->Q none { s with heap:=h' }):wpAny (model P w) A (pyNext (.ref it)) Q E s:=by
 obtain⟨od,gR,d7,lO⟩:=id x;have hT:s.TypeIs (.ref it) "dict_itemiterator" :=⟨_,hit,rfl⟩;unfold pyNext;refine ae (vY (vX (name:=Str.ofString "__next__") hT DF
  (ji DF hT amQ ?_ (amR _))))
 refine ae (ak (ae (ae ?_)))
 first|refine ae (LO hT (ak ?_))|refine ae (LP hT (ak ?_))
 refine ae (Dy hit rfl ?_);simp only[show Builtin.Dict_items.ownsTuple "dict_itemiterator" = true by decide,j7]
 show wpAny _ _ (if (Value.ref d==Value.none)=true then _ else _) _ _ s;rw[ax (show ¬ ((Value.ref d==Value.none)=true) from cD)];refine ae (ak (ae (zM gR lO ?_)));rw[ax (by simp)]
 refine ae (ak (ae (zN gR lO ?_)));rw[ax (by simp)]
 refine ak ?_;simp only[show ¬ ((es.size:Int) < 0) from by omega,kT,nK,zL (aO es.size)]
 refine ae ?_
 first|refine ae (LO hT (ak ?_))|refine ae (LP hT (ak ?_))
 show wpAny _ _ (setField (.ref it) 2 .none >>= _) _ _ s;refine ae (VS hit rfl (by simp) ?_)
 show wpAny _ _ (newExc (.type "StopIteration") [] >>= _) _ _ _;refine ae ?_;simp only[newExc,newTuple];refine ae (gJ ?_ (by size_fits))
 refine ae (m:=firstArgMember _ _) (LH (a:=Value.none) (by first|rfl|(simp only[firstArgMember];rfl)) ?_)
 refine gJ ?_ (by size_fits)
 simp only[raiseNew];refine ae (VN ?_);rw[show A.in1.handled=none from hh];refine ae (ak (Dz ?_));refine ae (LI (T:= "StopIteration") (b:=true) ⟨_,cj _ rfl,rfl⟩ VO ?_);exact ak (hQ _ (((vZ ..).extBut.push _).push _))
def Jt (d:Addr) (o:Obj) (kvs:List (List Key×V)):It:=⟨fun i H=>H d=some (.aR o (.dT kvs))/\i < kvs.length,fun i H x H'=>∃t kv b,H t=none/\x = .ref t/\kvs[i]? = some kv/\H b=some (.tup (kv.1.map kV))/\H'=upd H t (.tup [.ref b,kv.2]),fun i H=>H d=some (.aR o (.dT kvs))/\kvs.length<=i⟩
theorem NO {es:Array DictEntry} (I:Inv X pins σ H s) (hd:H d=some (.aR o (.dT kvs))) (dQ:o.data = .dict es ep) :
  s.heap.get? d=some o/\o.ExactDict/\es.size=kvs.length /\ ∀ (i:Nat) (kv:List Key×V),kvs[i]? = some kv -> ∃ (b:Addr) (e:DictEntry),es[i]? = some e/\e.key = .ref b/\H b=some (.tup (kv.1.map kV))/\RelV kv.2 e.val:=by
 obtain⟨h1,z,y,xs,r,o',gA,yi,h2,h3,h4,h5,h6⟩:=(show bp X.prog X.w H s.heap d (.aR o (.dT kvs)) from I.au d _ hd);rw[h1]at h2;cases h2
 rw[dQ]at h4;cases h4
 refine⟨h1,h3,by rw[VT h5];exact(gV r).symm,fun i kv hk=>?_⟩
 obtain⟨x,hx,e1,e2,e3⟩:=Paired.get r hk;exact⟨x.2.1,_,by rw[entry_at h5,hx];rfl,rfl,e2,e3⟩
theorem YW (d it:Addr) (bc:d≠it) (o:Obj) (kvs:List (List Key×V)) (es:Array DictEntry) (ep:Nat) (dQ:o.data = .dict es ep) :
  Turn P w K (.Tuple elts n1 tp) (Jt d o kvs) [it] it (fun i h=>i<=kvs.length /\ ∃ok ov,IsItemIter h it d i es.size ep ok ov) where
 mem:=by simp
 obj:=fun i h st b hb=>by
  obtain rfl:b=it:=by simpa using hb
  obtain⟨_,ok,ov,h1⟩:=st;exact⟨_,h1,fun v q=>by cases q⟩
 keep:=fun i h h' st k=>by
  obtain⟨l,ok,ov,h1⟩:=st;exact⟨l,ok,ov,k it (by simp) _ h1⟩
 item:=by
  intro X hP hw hK hc i pins s σ H E I hf st hg;subst hP hw hK;have fi:=hf it (by simp)
  obtain⟨hle,ok,ov,h1⟩:=st;obtain⟨g1,g2,g3,g4⟩:=NO I hg.1 dQ;have eQ:i < kvs.length:=hg.2;have kF:kvs[i]? = some kvs[i]:=bC hg.2;obtain⟨b,e,he,hk,hb,rv⟩:=g4 i _ kF;refine WO h1 ⟨o,g1,g2,dQ⟩ he fun h' e1 t1 z1 k1=>⟨_,rfl,?_⟩;refine wpAny_letOwnedTupleGo_items (s:={ s with heap:=h' }) e1 fun iy e2 sb=>?_;have eS:it≠s.heap.objs.size:=bx (bo h1);have k2:∀b o,b≠it->s.heap.get? b=some o->iy.get? b=some o:=fun b o n1 q=>(sb.2 b n1).trans (k1 b o n1 q);have t2:iy.get? s.heap.objs.size=some { cls:= .type "tuple",data:= .seq #[e.key,e.val] }:=(sb.2 _ (ba eS)).trans t1;have hn:H s.heap.objs.size=none:=I.au.fresh (aO _);have lt:∀b o,s.heap.get? b=some o->b≠s.heap.objs.size:=fun b o q=>bx (bo q);have kB:∀b o,H b=some o->b≠it:=fun b o q z=>by rw[z,fi.1]at q;cases q
  have g9:∀b,b ∉ [it]->b≠it:=fun b hb z=>hb (by simp[z])
  have J:Inv X pins σ (upd H s.heap.objs.size (.tup [.ref b,kvs[i].2])) { s with heap:=iy }:=by
   refine I.step (g':=s.gens) (d':=s.drawn) (t':=s.toks) (ch:= [it]) (fun b hb=>?_) (fun b o _ _ hc q _=>k2 b o (g9 b hc) q) (fun b o _ _ hc q _=>⟨o.slots,k2 b o (g9 b hc) q⟩)
    (fun b o _ q n=>by rw[ah (lt b o q)];exact n) (fun b o hc q=>⟨o,k2 b o (g9 b hc) q⟩) (fun b ys q=>by rw[ah (aA q hn)];exact q) (fun b o v q=>by rw[ah (aA q hn)];exact q)
    (fun b ps q=>⟨#[],by rw[ah (aA q hn),q];simp⟩) (fun m hm=>?_) (fun b o q=>?_) I.bare
   ·obtain rfl:b=it:=by simpa using hb
    exact⟨fi.2.2.2.1,fi.2.1,fi.2.2.2.2.1,fi.2.2.2.2.2⟩
   ·obtain⟨o,es,ep,ho,r⟩:=hm
    exact⟨o,es,ep,k2 _ o (ba fi.2.1) ho,r⟩
   ·by_cases hb:b=s.heap.objs.size
    ·subst hb
     rw[ag]at q;cases q;exact⟨by rw[aQ];show 2<=_;decide,[e.key,e.val],.cons (by rw[hk];rfl) (.cons rv .nil),_,t2,rfl,_,rfl,rfl⟩
    ·rw[ah hb]at q
     refine(I.au b o q).gy (fun c v hc z=>?_) (fun c z=>by rw[ah (aA z hn)];exact z) fun c ys z=>by rw[ah (aA z hn)];exact z
     rcases hc with hc|hc
     ·subst hc;exact k2 _ v (kB _ _ q) z
     ·exact k2 c v (kB _ _ hc) z
  refine⟨.ref s.heap.objs.size,_,J,rfl,⟨s.heap.objs.size,kvs[i],b,hn,rfl,kF,hb,rfl⟩,⟨hg.2,_,_,e2⟩,fun b hb=>?_⟩;obtain rfl:b=it:=by simpa using hb
  rw[ah eS];exact fi.1
 done:=by
  intro X hP hw hK hc i pins s σ H E I hf st hg;subst hP hw hK;have fi:=hf it (by simp)
  obtain⟨hle,ok,ov,h1⟩:=st;obtain⟨g1,g2,g3,g4⟩:=NO I hg.1 dQ;have ei:i=es.size:=by rw[g3];exact Lv hle hg.2
  rw[ei]at h1;exact WQ (I.ok.hd hc) h1 ⟨o,g1,g2,dQ⟩ fun h' eb=>⟨rfl,I.turned (t':=s.toks) (fun b o hb q=>eb b o hb q) fi.1 fi.2.1 fi.2.2.2.1 fi.2.2.2.2.1 fi.2.2.2.2.2⟩
 self:=fun _ _ _ _ _ st h=>by
  obtain⟨_,ok,ov,h1⟩:=st;exact kcp_self h1 h
noncomputable def Z7 (te:TE):TI:=fun σ H R=>te σ H fun v H1=>∃d kvs,v = .ref d/\H1 d=some (.dT kvs) /\ ∀o,R (Jt d o kvs) (upd H1 d (.aR o (.dT kvs)))
theorem X4 (he:PE X e te) (rD:attributeBase e "items" X.env (eval e X.env)=eval e X.env:=by rfl) (rE:(apos.endLine==iQ.line)=true:=by rfl) :
  PI X (.Tuple elts n1 tp) (.Call (.Attribute e "items" apos) [] [] iQ) (Z7 te):=by
 intro pins s σ H R I h;refine wpAny_Call_method (T:= "dict") (id:= "dict.items") rD rfl rE F.plainAttrs_dict F.slot_dict_items F.type_dict_items (aD (he pins s σ H _ I h) fun v s1 hQ9=>?_);obtain⟨y,H1,I1,r1,d,kvs,ey,e,q⟩:=hQ9;subst ey;cases r1
 obtain⟨z,hs,xs,r,o,es,ep,ho,hx,dQ,h4,h5⟩:=(show bp X.prog X.w H1 s1.heap d (.dT kvs) from I1.au d _ e);have raw:∀h:Heap,h.get? d=some o->mQ h d es ep:=fun h e=>⟨o,e,hx,dQ⟩;refine⟨(raw s1.heap ho).ty,?_,?_⟩
 ·intro a e
  cases e
  exact⟨o,ho,hx.2.1⟩
 refine method_meetsIn F.slot_dict_items F.entry_dict_items rfl (amk ⟨rfl,(raw s1.heap ho).ty,F.args_dict_items_1 _,_,Wy d hs,⟨es,ep,raw _ ho⟩,?_⟩);have bc:d≠s1.heap.objs.size+1:=fun z=>absurd (bo ho) (by rw[z];exact Nat.not_lt_of_le (oQ _))
 have oC:=a8 { cls:= .type "dict_items",data:= .fields #[.ref d] } ho;refine WN (s:={ s1 with heap:=s1.heap.push { cls:= .type "dict_items",data:= .fields #[.ref d] } }) ⟨_,cj _ rfl,rfl,rfl⟩ (raw _ oC) ?_;have ez:(s1.heap.push { cls:= .type "dict_items",data:= .fields #[.ref d] }).objs.size=s1.heap.objs.size+1:=l6 ..;have I2:Inv X pins σ H1 { s1 with heap:=(s1.heap.push { cls:= .type "dict_items",data:= .fields #[.ref d] }).push { cls:= .type "dict_itemiterator",data:= .fields #[.none,.bool false,.ref d,.int 0 0,.int es.size 0,.int ep 0,.none,.none] } }:=I1.kept (t':=s1.toks) fun b ob z=>a8 _ (a8 _ z);have st:0<=kvs.length /\ ∃ok ov,IsItemIter ((s1.heap.push { cls:= .type "dict_items",data:= .fields #[.ref d] }).push { cls:= .type "dict_itemiterator",data:= .fields #[.none,.bool false,.ref d,.int 0 0,.int es.size 0,.int ep 0,.none,.none] }) (s1.heap.objs.size+1) d 0 es.size ep ok ov:=
  ⟨bR _,.none,.none,by show Heap.get? _ (s1.heap.objs.size+1)=_;rw[<-ez];exact cj _ rfl⟩
 have lL:H1 (s1.heap.objs.size+1)=none:=I1.au.fresh (oQ _);show IE X pins σ _ R (.ref (s1.heap.push { cls:= .type "dict_items",data:= .fields #[.ref d] }).objs.size) _;rw[ez];refine⟨s1.heap.objs.size+1,[s1.heap.objs.size+1],_,_,_,rfl,I2.Oh e (a8 _ oC),YW d (s1.heap.objs.size+1) bc o kvs es ep dQ,st,fun b hb=>?_,q o⟩;obtain rfl:b=s1.heap.objs.size+1:=by simpa using hb
 exact I1.ko (oQ _) (by rw[ah (ba bc)];exact lL)
theorem WR {g:TG} (Pv:Nat->List V->St->Hp->Prop) (h0:Pv 0 [] gB (upd H1 p (.lst []))) (hl:∀i ys τ H,Pv i ys τ H->H p=some (.lst ys)/\H d=some (.aR o (.dT kvs)))
  (hs:∀i kv t b ys τ H,kvs[i]? = some kv->H t=none->H b=some (.tup (kv.1.map kV))->Pv i ys τ H->g (.ref t) τ (upd H t (.tup [.ref b,kv.2])) fun bS H4=>ti bS H4 fun b H5=>if b=true then te bS H5 fun y H6=>H6 p=some (.lst ys)/\ys.length < sizeLine /\ ∃m',m' < kvs.length - i/\CW Pv kvs.length (i+1) m' (ys ++ [y]) bS (upd H6 p (.lst (ys ++ [y]))) else ∃m',m' < kvs.length - i/\CW Pv kvs.length (i+1) m' ys bS H5)
  (hd:∀ys τ H,Pv kvs.length ys τ H->Q (.ref p) H):jR (Jt d o kvs) g ti te gB Q p H1:=by
 refine⟨CW Pv kvs.length,⟨kvs.length,by simp,bR _,h0⟩,?_⟩
 rintro i m ys τ H ⟨rfl,hi,pv⟩;obtain⟨hp,hq⟩:=hl i ys τ H pv;refine⟨hp,?_⟩
 by_cases aT:i < kvs.length
 ·refine .inr ⟨⟨hq,aT⟩,fun x H3 y3=>?_⟩
  obtain⟨t,kv,b,ht,ex,dc,hb,e3⟩:=y3;subst e3;subst ex;exact hs i kv t b ys τ _ dc ht hb pv
 ·have e:i=kvs.length:=by omega
  subst e;exact .inl ⟨⟨hq,aO _⟩,hd ys τ H pv⟩
end L2
namespace HT
open PySem PyProof.Rows PySem.W L2
theorem WS (a:Addr) (vs:Array Value) (n:Nat) (sl:Array (Option Value)) (u:Tok) :
  Meets (Builtin.«object.__getattribute__» ⟨[.ref a,.str "keys" u],[]⟩) (fun A R s=>s.heap.get? a=some { cls:= .type "list",dict:=none,data:= .seq vs n,slots:=sl }/\raisesAttr (.ref a) "keys" A R s):=
 meets_getattribute_miss_list a vs n sl "keys" u (by rw[Lw,Lx];kernel_rfl) (by decide +kernel) (by rw[aQ];decide +kernel)
theorem YX {vs:Array Value}{n:Nat}{Q:Option Value->Shared->Prop} (hx:s.heap.get? a=some { cls:= .type "list",dict:=none,data:= .seq vs n,slots:=sl }) (hA:A.handled=none)
  (h:∀h' tk,(∀b o,s.heap.get? b=some o->h'.get? b=some o)->Q none { s with heap:=h',toks:=tk }):wpAny (model prog w) A (getAttr? (.ref a) "keys") Q E s:=by
 obtain⟨hp,g,d,tk,os⟩:=s;have hT:∀oA,(⟨hp,g,d,oA,os⟩:Shared).TypeIs (.ref a) "list" :=fun _=>⟨_,hx,rfl⟩;have f1:=sub_AttributeError;have f3:=VW.lookup;have f4:=VW.bind (.ref a);have f5:=am_list_getattr_none;unfold getAttr? getAttrBy? getAttrBy
 repeat (any_goals (first|assumption|exact hT _|((with_reducible show wpAny _ _ (call (Value.builtin "list.__getattribute__") _ _) _ _ _);refine sV VW (hT _) am_entry_list_getattribute (F.args_list_getattribute_2 _ _) (WS a vs n sl _) ⟨hx,hA,fun h' oA e eO=>?_⟩)|wp_step))
 obtain⟨t',u',he⟩:=eO.there;show wpAny _ _ (getattributeRaised _ _ _ _ _ _ _) _ _ _;unfold getattributeRaised
 repeat (any_goals (first|assumption|wp_step))
 exact h h' oA eO.keeps
section
variable{t:Addr}{vs:Array Value}
theorem aba {xs:List (List Key×Addr×Value)}{k:List Key} (h:k ∉ xs.map (·.1)):atKey xs k=none:=by
 unfold atKey;rw[List.find?_eq_none.mpr]
 ·rfl
 ·intro x hx e
  exact h (bT.mpr ⟨x,hx,eT e⟩)
theorem X5 {Q:Unit->Shared->Prop}{T:Addr}{y:Value}{k:List Key}{xs:List (List Key×Addr×Value)}{i:Int} (hu:A.units < cLine) (hT:IsTup s.heap T #[.ref b,y]) (hk:(tupleKind (cp prog w)).is s.heap k b) (hd:s.heap.DictOfH (tupleKind (cp prog w)) d xs) (new:k ∉ xs.map (·.1)) (hz:xs.length<=sizeLine)
  (q:∀h' tk,h'.DictOfH (tupleKind (cp prog w)) d (xs ++ [(k,b,y)])->Heap.SameBut d s.heap h'->Q () { s with heap:=h',toks:=tk }) :
  wpAny (model prog w) A (holding [Value.ref T] (do
   let pair <- (Builtin.Dict.pairItems (.ref T)).tryCatch fun e=>do
    if !(<- isInstance e (.type "TypeError")) then throw e
    rule "dict.update.element-no-sequence"
    raiseError "TypeError" s!"cannot convert dictionary update sequence element #{i} to a sequence"
   match pair with
   |[k,v]=>holding [k,v] (dictSet d k v)
   |l =>
    rule "dict.update.element-length"
    raiseError "ValueError" s!"dictionary update sequence element #{i} has length {l.length}; 2 is required")) Q E s:=by
 refine eR (ae (wpAny_tryCatch ?_));unfold Builtin.Dict.pairItems;refine ae (nL hT.typeIs ?_);rw[aF (by decide)]
 obtain⟨o,ho,_,n,dQ⟩:=hT;refine ae (wpAny_seqItems ho dQ (ak ?_));show wpAny _ _ (holding [Value.ref b,y] (dictSet d (.ref b) y)) _ _ _;refine eR (wpAny_dictSet_heap (hsz:=hz) hu hk hd fun h' dd sb=>?_);rw[storedH_new (aba new)]at dd;exact q h' _ dd sb
noncomputable def Br (P:Program) (w:World) (h:Heap) (d:Addr) (xs:List (List Key×Addr×Value)):Prop:= ∃o es ep,h.get? d=some o/\o.ExactDict/\o.data = .dict es ep/\es.toList=xs.map (entryOfKey (tupleKind (cp P w)))
theorem YY (hu:A.in1.units < cLine) (hh:A.in1.handled=none) (su:d≠it) (Cc:d≠t) (Cd:t≠it) (ps:List (List Key×Addr×Value)) (nd:(ps.map (·.1)).Nodup) (hz:ps.length<=sizeLine) (hsz:vs.size=ps.length) (hv:g.IsList t vs)
  (gT:∀ (i:Nat) p,ps[i]? = some p -> ∃a,vs[i]? = some (.ref a)/\a≠it/\a≠d/\IsTup g a #[.ref p.2.1,p.2.2])
  (oH:∀p∈ps,p.2.1≠it/\p.2.1≠d/\(tupleKind (cp prog w)).is g p.1 p.2.1) :
  ∀ (m k:Nat) (s:Shared),ps.length - k=m->k<=ps.length->s.heap.IsListIter it t k->Br prog w s.heap d (ps.take k) ->
   (∀b o,b≠it->b≠d->g.get? b=some o->s.heap.get? b=some o) ->
   (∀h' tk,Br prog w h' d ps->(∀b o,b≠it->b≠d->g.get? b=some o->h'.get? b=some o)->R (.ok (.ret .none)) { s with heap:=h',toks:=tk }) ->
   codeAny (model prog w) A (.builtin "dict.update.loop" ⟨[.ref d,.ref it,rawInt k,.none],[]⟩) R s:=by
 have up:∀ {b:Addr}{us:Array Value}{h:Heap},b≠it->b≠d->(∀b o,b≠it->b≠d->g.get? b=some o->h.get? b=some o)->IsTup g b us->IsTup h b us:=fun n1 n2 kp ⟨o,ho,r⟩=>⟨o,kp _ _ n1 n2 ho,r⟩;have Si:∀ {h:Heap},(∀b o,b≠it->b≠d->g.get? b=some o->h.get? b=some o)->h.IsList t vs:=fun kp=>let ⟨o,ho,r⟩:=hv;⟨o,kp _ _ Cd Cc.symm ho,r⟩;have Sj:∀ {h:Heap},(∀b o,b≠it->b≠d->g.get? b=some o->h.get? b=some o) -> ∀p∈ps,(tupleKind (cp prog w)).is h p.1 p.2.1:=fun kp p hp=>let ⟨n1,n2,o,its,n,e,r⟩:=oH p hp;⟨o,its,n,kp _ _ n1 n2 e,r⟩;have sub:∀k,((ps.take k).map (·.1)).Nodup:=fun k=>nd.sublist ((vW k ps).map _);intro m
 induction m with
 |zero =>
  intro k s hm hk t1 dd kp hR;have ek:k=ps.length:=by omega
  refine j9 zZ (?_:wpAny _ _ _ _ _ _);rw[kU oU _];show wpAny _ A.in1 (pyNext (.ref it) >>= _) _ _ s;refine ae (Vg hh t1 (Si kp) (by simp;omega) fun h' k'=>?_)
  refine ae (m:=Builtin.Dict.addKeywords d []) (ak (ak ?_));have iU:Br prog w h' d (ps.take k):=let ⟨o,es,ep,e,r⟩:=dd;⟨o,es,ep,k' d o su e,r⟩;rw[ek,cQ]at iU;exact hR h' s.toks iU fun b o a1 a2 e=>k' b o a1 (kp b o a1 a2 e)
 |succ m ih =>
  intro k s hm hk t1 dd kp hR;have aT:k < ps.length:=by omega
  have hp:ps[k]? = some ps[k]:=bC aT;obtain⟨a,IZ,vc,I0,F7⟩:=gT k _ hp;have Ja:ps.take (k+1)=ps.take k ++ [ps[k]]:=by rw[dg,hp];rfl
  have new:ps[k].1 ∉ (ps.take k).map (·.1):=fun w=>by
   have e:ps.map (·.1)=(ps.take k).map (·.1)++(ps.drop k).map (·.1):=by rw[<-bZ,Ly]
   rw[e,l9]at nd;refine nd.2.2 _ w _ ?_ rfl;rw[zG aT];exact bu
  refine j9 zZ (?_:wpAny _ _ _ _ _ _);rw[kU oU _];show wpAny _ A.in1 (pyNext (.ref it) >>= _) _ _ s;refine ae (Vf t1 (Si kp) IZ fun h' Jb sb=>?_);have lK:∀b o,b≠it->b≠d->g.get? b=some o->h'.get? b=some o:=fun b o a1 a2 e=>sb.extBut b o a1 (kp b o a1 a2 e);have iU:h'.DictOfH (tupleKind (cp prog w)) d (ps.take k):=let ⟨o,es,ep,e,r1,r2,r3⟩:=dd;⟨o,es,ep,sb.extBut d o su e,r1,r2,r3,fun x hx=>Sj lK x (wc hx),sub k⟩;refine ae (X5 (s:={ s with heap:=h' }) (k:=ps[k].1) hu (up vc I0 lK F7) (Sj lK _ (f9 aT)) iU new (by rw[cT];omega) fun iy tk Hj yH=>?_)
  rw[show((k:Int)+1)=((k+1:Nat):Int) from rfl];obtain⟨o,es,ep,e,r1,r2,r3,_⟩:=Hj;obtain⟨oi,ei,ri⟩:=Jb;exact ak ⟨l8 oU _,ih (k+1) _ (by omega) aT ⟨oi,yH.extBut _ _ su.symm ei,ri⟩ (by rw[Ja];exact⟨o,es,ep,e,r1,r2,r3⟩) (fun b o a1 a2 e=>yH.extBut b o a2 (lK b o a1 a2 e)) hR⟩
theorem We {Q:Value->Shared->Prop} (hu:A.units+2 < cLine) (hh:A.handled=none) (ps:List (List Key×Addr×Value)) (nd:(ps.map (·.1)).Nodup) (hz:ps.length<=sizeLine) (hsz:vs.size=ps.length) {n:Nat}
  (hv:s.heap.get? t=some { cls:= .type "list",dict:=none,data:= .seq vs n,slots:=sl })
  (gT:∀ (i:Nat) p,ps[i]? = some p -> ∃a,vs[i]? = some (.ref a)/\IsTup s.heap a #[.ref p.2.1,p.2.2])
  (oH:∀p∈ps,(tupleKind (cp prog w)).is s.heap p.1 p.2.1)
  (q:∀d h' tk,s.heap.objs.size<=d->Br prog w h' d ps->(∀b o,s.heap.get? b=some o->h'.get? b=some o)->Q (.ref d) { s with heap:=h',toks:=tk }) :
  wpAny (model prog w) A (call (.type "dict") [.ref t]) Q E s:=by
 refine callType_codes (Q₁:=fun obj bq=>obj = .ref s.heap.objs.size/\bq={ s with heap:=s.heap.push { cls:= .type "dict",data:= .dict #[] } }) F.kt_called_dict (F.kt_typeCall_dict_1 _) F.entry_dict_init (kt_code_dict_new _ ⟨rfl,rfl⟩) ?_;rintro obj bq ⟨rfl,rfl⟩;have dn:(s.heap.push { cls:= .type "dict",data:= .dict #[] }).DictOfH (tupleKind (cp prog w)) s.heap.objs.size []:=Heap.DictOfH.new s.heap;have k2:∀b o,s.heap.get? b=some o->(s.heap.push { cls:= .type "dict",data:= .dict #[] }).get? b=some o:=fun b o e=>a8 _ e;generalize s.heap.push { cls:= .type "dict",data:= .dict #[] }=h2 at dn k2 ⊢;refine⟨dn.typeIs,F.args_dict_init_2 _ _,?_⟩;unfold Builtin.«dict.__init__»;refine ae ?_;unfold Builtin.Dict.selfAndRest;refine ae (Lz dn.typeIs ?_);refine(ak ?_:wpAny _ _ (pure (s.heap.objs.size,[Value.ref t])) _ _ _);show wpAny _ _ (Builtin.Dict.updateFrom "dict.__init__" s.heap.objs.size (.ref t) [] .none) _ _ _;unfold Builtin.Dict.updateFrom;have v2:=k2 _ _ hv;refine ae (nL (T:= "list") ⟨_,v2,rfl⟩ ?_);rw[aF (by decide)]
 refine ae (YX v2 hh fun h3 tk3 k3=>?_);rw[aF (by decide)]
 have Jc:h3.IsList t vs:=⟨_,k3 _ _ v2,rfl,n,rfl⟩;refine ae (nH (ae (zy Jc ?_)));refine ak ⟨l8 oU _,?_⟩;have up:∀b o,s.heap.get? b=some o->h3.get? b=some o:=fun b o e=>k3 b o (k2 b o e);have m3:s.heap.objs.size < h3.objs.size:=by
  obtain⟨o,_,_,ho,_⟩:=dn;exact bo (k3 _ _ ho)
 have lt:∀ {b:Addr}{o:Obj},s.heap.get? b=some o->b < s.heap.objs.size:=fun e=>bo e;refine YY (A:=A.in1) (g:=s.heap) (it:=h3.objs.size) hu hh (bx m3) (nI (lt hv)) (bx (nO (lt hv) m3)) ps nd hz hsz ⟨_,hv,rfl,n,rfl⟩ (fun i p hp=>?_) (fun p hp=>?_) _ 0 _ rfl (bR _) ⟨_,cj _ rfl,rfl,rfl⟩ ?_ (fun b o _ _ e=>a8 _ (up b o e)) fun h' tk dd kp=>?_
 ·obtain⟨a,h1,m4⟩:=gT i p hp
  obtain⟨o,ho,_⟩:=id m4;exact⟨a,h1,bx (nO (lt ho) m3),bx (lt ho),m4⟩
 ·have h1:=oH p hp
  obtain⟨o,_,_,ho,_⟩:=id h1;exact⟨bx (nO (lt ho) m3),bx (lt ho),h1⟩
 ·obtain⟨o,es,ep,e,r1,r2,r3,_⟩:=dn
  exact⟨o,es,ep,a8 _ (k3 _ _ e),r1,r2,r3⟩
 ·exact⟨rfl,q _ h' tk (aO _) dd fun b o e=>kp b o (bx (nO (lt e) m3)) (bx (lt e)) e⟩
end
end HT
namespace L2
open PySem PySem.Spec PyProof.Rows PySem.W HT
noncomputable def xi (H:Hp) (vs:List V) (kvs:List (List Key×V)):Prop:=Paired (fun y p=>∃a b,y=V.ref a/\H a=some (.tup [.ref b,p.2])/\H b=some (.tup (p.1.map kV))) vs kvs
theorem xi.keep (h:xi H vs kvs) (k:∀b xs,H b=some (.tup xs)->H' b=some (.tup xs)):xi H' vs kvs:=Paired.imp' (fun _ _ hQ9=>by obtain⟨a,b,e,q,r⟩:=hQ9;exact ⟨a,b,e,k _ _ q,k _ _ r⟩) h
theorem WT (hc:X.calm=true) (hu:X.A.units+2 < cLine):d5 X (.type "dict") (fun xs H Q=>∃t vs kvs,xs = [.ref t]/\H t=some (.lst vs)/\xi H vs kvs/\(kvs.map (·.1)).Nodup /\ ∀d,H d=none->Q (.ref d) (upd H d (.dT kvs))):=by
 intro pins s σ H xs us Q I r h;obtain⟨t,vs,kvs,rfl,ht,pr,nd,q⟩:=h;obtain⟨u,rfl,ru⟩:=vals1 r;cases ru
 obtain⟨hz,its,n,rv,ho⟩:=(show bp X.prog X.w H s.heap t (.lst vs) from I.au t _ ht);have iz:vs.length=kvs.length:=gV pr;have gQ:=rv.length;have pairs:∀ (i:Nat) (hi:i < kvs.length),∃ (p:Addr×Value) (a:Addr),its.toArray[i]? = some (.ref a)/\IsTup s.heap a #[.ref p.1,p.2]/\H p.1=some (.tup (kvs[i].1.map kV))/\RelV kvs[i].2 p.2:=by
  intro i hi;have iV:i < vs.length:=by omega
  obtain⟨p',kE,a,b,ey,ha,hb⟩:=L2.Paired.get pr (show vs[i]? = some vs[i] from bC iV);obtain rfl:kvs[i]=p':=by simpa [hi] using kE
  obtain⟨u,hu,ru⟩:=rv.get (show vs[i]? = some (V.ref a) by rw[bC iV,ey])
  cases ru
  obtain⟨i2,r2,t2,_⟩:=I.tuple (aJ.of ha);obtain⟨x,y,rfl,rx,ry⟩:=r2.two;cases rx
  exact⟨(b,y),a,by simpa using hu,t2,hb,ry⟩
 obtain⟨ps,m6,gT⟩:∃ps:List (List Key×Addr×Value),ps.length=kvs.length /\ ∀ (i:Nat) (hi:i < kvs.length),∃p,ps[i]? = some p/\p.1=kvs[i].1 /\ ∃a,its.toArray[i]? = some (.ref a)/\IsTup s.heap a #[.ref p.2.1,p.2.2]/\H p.2.1=some (.tup (kvs[i].1.map kV))/\RelV kvs[i].2 p.2.2:=
  ⟨List.ofFn fun i:Fin kvs.length=>(kvs[i].1,Classical.choose (pairs i.1 i.2)),List.length_ofFn,fun i hi=>⟨(kvs[i].1,Classical.choose (pairs i hi)),by simp[List.getElem?_ofFn,hi],rfl,amu (pairs i hi)⟩⟩
 have pd:Paired (fun(p:List Key×V) (q:List Key×Addr×Value)=>p.1=q.1/\H q.2.1=some (.tup (p.1.map kV))/\RelV p.2 q.2.2) kvs ps:=by
  have gen:∀ (m:Nat),m<=kvs.length->Paired (fun(p:List Key×V) (q:List Key×Addr×Value)=>p.1=q.1/\H q.2.1=some (.tup (p.1.map kV))/\RelV p.2 q.2.2) (kvs.take m) (ps.take m):=by
   intro m
   induction m with
   |zero=>intro _;exact .nil
   |succ m ih =>
    intro hm;obtain⟨p,hp,e1,a,_,_,e4,e5⟩:=gT m hm;rw[dg,dg,hp,bC hm];exact oS (ih (by omega)) ⟨e1.symm,e4,e5⟩
  have:=gen kvs.length (aO _)
  rwa [cQ,<-m6,cQ]at this
 have keys:ps.map (·.1)=kvs.map (·.1):=by
  clear gT pairs q iz gQ m6 pr nd
  induction pd with
  |nil=>rfl
  |cons h _ ih=>rw[ck,ck,ih,h.1]
 refine We hu (I.ok.hd hc) ps (by rw[keys];exact nd) (by omega) (by rw[cE];omega) ho (fun i p hp=>?_) (fun p hp=>?_) fun d h' tk dl dd kp=>?_
 ·have hi:i < kvs.length:=by rw[<-m6];exact(cz.mp hp).1
  obtain⟨p',kE,_,a,g1,g2,_⟩:=gT i hi;rw[hp]at kE;cases kE
  exact⟨a,g1,g2⟩
 ·obtain⟨i,hi⟩:=List.getElem?_of_mem hp
  have iV:i < kvs.length:=by rw[<-m6];exact(cz.mp hi).1
  obtain⟨p',kE,e1,a,g1,g2,g3,_⟩:=gT i iV;rw[hi]at kE;cases kE
  rw[e1];exact qZ I.au g3
 ·have big:=I.big
  obtain⟨o,es,ep,e,r1,r2,r3⟩:=dd;refine⟨.ref d,_,I.laid (a:=d) (o:= .dT kvs) (t':=tk) kp dl ?_,rfl,q d (I.au.fresh dl)⟩;refine⟨by omega,lY.mpr (ba (bx (gI big dl))),ps,Paired.imp' (fun _ _ ⟨a,b,c⟩=>⟨a,by rw[ah (aA b (I.au.fresh dl))];exact b,c⟩) pd,o,es,ep,e,r1,r2,r3,by rw[keys];exact nd⟩
theorem Inv.acq {σ:List (Option V)}{kvs:List (Key×V)} (I:Inv X pins σ H s) (hd:H d=some (.aR o (.dK kvs))) (h0:∀o u,X.kj d≠some (.aR o u)):Inv X pins σ (upd H d (.dK kvs)) s:=by
 obtain⟨_,ok⟩:=(show bp X.prog X.w H s.heap d (.aR o (.dK kvs)) from I.au d _ hd);have nd:∀ {b:Addr}{u:HO},H b=some u->u ≠ .aR o (.dK kvs)->b≠d:=fun e n z=>by rw[z,hd]at e;exact n (fc e).symm
 have nn:∀ {b:Addr},H b=none->upd H d (.dK kvs) b=none:=fun {b} e=>by rw[ah (fun z=>by rw[z,hd]at e;cases e)];exact e
 refine⟨I.ok,I.os,I.bare,⟨I.base.keep,I.base.slot,fun b ob e n hx=>nn (I.base.free b ob e n hx),I.base.there,fun b xs e=>?_,fun b ob u e=>?_,fun b ps e=>?_⟩,I.loc,I.cell,nn I.free,fun x c e=>nn (I.gY x c e),fun p hp=>?_,fun b u e=>?_,I.len⟩
 ·rw[ah (nd (I.base.i8 b xs e) (by intro z;cases z))];exact I.base.i8 b xs e
 ·have hb:b≠d:=fun z=>h0 ob u (z ▸ e)
  rw[ah hb];exact I.base.jr b ob u e
 ·obtain⟨more,e2⟩:=I.base.jT b ps e
  exact⟨more,by rw[ah (nd e2 (by intro z;cases z))];exact e2⟩
 ·obtain⟨a1,a2,a3⟩:=I.pin p hp
  exact⟨a1,nn a2,a3⟩
 ·by_cases hb:b=d
  ·subst hb
   rw[ag]at e;cases e
   exact ok.gy (fun _ _ _ q=>q) (fun c q=>by rw[ah (nd q (by intro z;cases z))];exact q) fun c xs q=>by rw[ah (nd q (by intro z;cases z))];exact q
  ·rw[ah hb]at e
   exact(I.au b u e).gy (fun _ _ _ q=>q) (fun c q=>by rw[ah (nd q (by intro z;cases z))];exact q) fun c xs q=>by rw[ah (nd q (by intro z;cases z))];exact q
noncomputable def abb (H0:Hp) (t:TE):TE:=fun σ H Q=>t σ H fun v H'=>∃d o kvs,H' d=some (.aR o (.dK kvs))/\(∀o u,H0 d≠some (.aR o u))/\Q v (upd H' d (.dK kvs))
theorem YZ (he:PE X e te):PE X e (abb X.kj te):=by
 intro pins s σ H Q I h;exact aD (he pins s σ H _ I h) fun v s1 ⟨y,H1,I1,r1,d,o,kvs,e1,h0,q⟩=>⟨y,_,I1.acq e1 h0,r1,q⟩
mutual
theorem Dt.uo {p q:Addr}{H H':Hp} (k:∀b o,H b=some o->b≠p->H' b=some o):∀ {v:V}{d:PyData},Dt q H v d->Dt p H v d->Dt q H' v d
 |_,_,.aI,_=>.aI
 |_,_,.bl b,_=>.bl b
 |_,_,.int i,_=>.int i
 |_,_,.str x,_=>.str x
 |_,_,.lst n e rs,h=>by
  cases h with|lst n' e' yO=>rw[e]at e';cases e';exact .lst n (k _ _ e n') (bG.uo k rs yO)
 |_,_,.tup n e rs,h=>by
  cases h with|tup n' e' yO=>rw[e]at e';cases e';exact .tup n (k _ _ e n') (bG.uo k rs yO)
 |_,_,.oE n e,h=>by cases h with|oE n' e'=>exact .oE n (k _ _ e n')
theorem bG.uo {p q:Addr}{H H':Hp} (k:∀b o,H b=some o->b≠p->H' b=some o):∀ {vs:List V}{ds:List PyData},bG q H vs ds->bG p H vs ds->bG q H' vs ds
 |_,_,.nil,_=>.nil
 |_,_,.cons r rs,.cons r' yO=>.cons (Dt.uo k r r') (bG.uo k rs yO)
end
end L2
namespace L2
open PySem PySem.W
abbrev pr (x:Str) (s:Stmt):Str×Stmt:=(x,s)
def Co (K:Frag):List (Str×Stmt)->Prop
 |[]=>True
 |p::r=>(∃f fd,a6 K p.1 p.1 p.2 f fd/\nsIn K mainGlobals p.1=some (some (.ref f)))/\Co K r
def Hs (K:Frag):List Str->Prop
 |[]=>True
 |x::r=>nsIn K mainGlobals x=some none/\Hs K r
def Ht (K:Frag):List Str->List Addr->Prop
 |x::r,a::s=>nsIn K mainGlobals x=some (some (.ref a))/\Ht K r s
 |_,_=>True
theorem acr {p:Str×Stmt}{r:List (Str×Stmt)}{kV:Value} (a:nsIn K mainGlobals p.1=some (some (.ref f)))
  (l:K.lookup f=some ⟨oc,od,.func (fnOf p.1 p.1 (gL p.2) (b4 p.2) (aM p.2) .none kV doc pm an aG ct),jc⟩) (c:codeIn K aG p.1=true) (k:keepIn K (.ref f)=true) (g:Co K r):Co K (p::r):=⟨⟨f,_,AH l c k,a⟩,g⟩
theorem xj {p:Str×Stmt} (X:K.In h) (G:h.Ns mainGlobals mg) (d:∃f fd,a6 K p.1 p.1 p.2 f fd/\nsIn K mainGlobals p.1=some (some (.ref f))) (ps:List Str)
  (b:∀ (kV doc pm:Value) (an:Option Addr) (aG ct:Value) (us:List Value),us.length=ps.length->bindArgs (fnOf p.1 p.1 (gL p.2) (b4 p.2) (aM p.2) .none kV doc pm an aG ct) ⟨us,[]⟩=pure (ps.zip us)) :
  ∃f fd,a6 K p.1 p.1 p.2 f fd/\keepIn K (.ref f)=true/\Binds K fd ps []/\mg p.1=some (.ref f):=by
 obtain⟨f,fd,F,a⟩:=d;exact⟨f,fd,F,F.kp,F.binds b,mg_of X G a⟩
theorem A4 {n:Nat} (h:us.length=n+1):∃u r,us=u::r/\r.length=n:=by
 cases us with
 |nil=>cases h
 |cons u r=>exact⟨u,r,rfl,Nat.succ.inj h⟩
theorem Qq (h:us.length=2):∃a b,us = [a,b]:=by
 obtain⟨a,r,rfl,h2⟩:=A4 h;obtain⟨b,rfl⟩:=LQ.mp h2;exact⟨a,b,rfl⟩
theorem Hu (h:us.length=3):∃a b c,us = [a,b,c]:=by
 obtain⟨a,r,rfl,h2⟩:=A4 h;obtain⟨b,c,rfl⟩:=Qq h2;exact⟨a,b,c,rfl⟩
theorem Bs (h:us.length=4):∃a b c d,us = [a,b,c,d]:=by
 obtain⟨a,r,rfl,h2⟩:=A4 h;obtain⟨b,c,d,rfl⟩:=Hu h2;exact⟨a,b,c,d,rfl⟩
theorem iL {p:Str×Stmt} (X:K.In h) (G:h.Ns mainGlobals mg) (d:∃f fd,a6 K p.1 p.1 p.2 f fd/\nsIn K mainGlobals p.1=some (some (.ref f))) (x1:Str)
  (b:∀ (kV doc pm:Value) (an:Option Addr) (aG ct u1:Value),bindArgs (fnOf p.1 p.1 (gL p.2) (b4 p.2) (aM p.2) .none kV doc pm an aG ct) ⟨[u1],[]⟩=pure ([x1].zip [u1]):=by intros;rfl) :
  ∃f fd,a6 K p.1 p.1 p.2 f fd/\keepIn K (.ref f)=true/\Binds K fd [x1] []/\mg p.1=some (.ref f):=xj X G d _ fun kV doc pm an aG ct us h=>by obtain⟨u1,rfl⟩:=LQ.mp h;exact b _ _ _ _ _ _ _
theorem kf {p:Str×Stmt} (X:K.In h) (G:h.Ns mainGlobals mg) (d:∃f fd,a6 K p.1 p.1 p.2 f fd/\nsIn K mainGlobals p.1=some (some (.ref f))) (x1 x2:Str)
  (b:∀ (kV doc pm:Value) (an:Option Addr) (aG ct u1 u2:Value),bindArgs (fnOf p.1 p.1 (gL p.2) (b4 p.2) (aM p.2) .none kV doc pm an aG ct) ⟨[u1,u2],[]⟩=pure ([x1,x2].zip [u1,u2]):=by intros;rfl) :
  ∃f fd,a6 K p.1 p.1 p.2 f fd/\keepIn K (.ref f)=true/\Binds K fd [x1,x2] []/\mg p.1=some (.ref f):=xj X G d _ fun kV doc pm an aG ct us h=>by obtain⟨u1,u2,rfl⟩:=Qq h;exact b _ _ _ _ _ _ _ _
theorem o6 {p:Str×Stmt} (X:K.In h) (G:h.Ns mainGlobals mg) (d:∃f fd,a6 K p.1 p.1 p.2 f fd/\nsIn K mainGlobals p.1=some (some (.ref f))) (x1 x2 x3:Str)
  (b:∀ (kV doc pm:Value) (an:Option Addr) (aG ct u1 u2 u3:Value),bindArgs (fnOf p.1 p.1 (gL p.2) (b4 p.2) (aM p.2) .none kV doc pm an aG ct) ⟨[u1,u2,u3],[]⟩=pure ([x1,x2,x3].zip [u1,u2,u3]):=by intros;rfl) :
  ∃f fd,a6 K p.1 p.1 p.2 f fd/\keepIn K (.ref f)=true/\Binds K fd [x1,x2,x3] []/\mg p.1=some (.ref f):=xj X G d _ fun kV doc pm an aG ct us h=>by obtain⟨u1,u2,u3,rfl⟩:=Hu h;exact b _ _ _ _ _ _ _ _ _
theorem E9 {p:Str×Stmt} (X:K.In h) (G:h.Ns mainGlobals mg) (d:∃f fd,a6 K p.1 p.1 p.2 f fd/\nsIn K mainGlobals p.1=some (some (.ref f))) (x1 x2 x3 x4:Str)
  (b:∀ (kV doc pm:Value) (an:Option Addr) (aG ct u1 u2 u3 u4:Value),bindArgs (fnOf p.1 p.1 (gL p.2) (b4 p.2) (aM p.2) .none kV doc pm an aG ct) ⟨[u1,u2,u3,u4],[]⟩=pure ([x1,x2,x3,x4].zip [u1,u2,u3,u4]):=by intros;rfl) :
  ∃f fd,a6 K p.1 p.1 p.2 f fd/\keepIn K (.ref f)=true/\Binds K fd [x1,x2,x3,x4] []/\mg p.1=some (.ref f):=xj X G d _ fun kV doc pm an aG ct us h=>by obtain⟨u1,u2,u3,u4,rfl⟩:=Bs h;exact b _ _ _ _ _ _ _ _ _ _
theorem Ol {p:Str×Stmt} (X:K.In h) (G:h.Ns mainGlobals mg) (d:∃f fd,a6 K p.1 p.1 p.2 f fd/\nsIn K mainGlobals p.1=some (some (.ref f))) (x1 x2 x3 x4 x5:Str)
  (b:∀ (kV doc pm:Value) (an:Option Addr) (aG ct u1 u2 u3 u4 u5:Value),bindArgs (fnOf p.1 p.1 (gL p.2) (b4 p.2) (aM p.2) .none kV doc pm an aG ct) ⟨[u1,u2,u3,u4,u5],[]⟩=pure ([x1,x2,x3,x4,x5].zip [u1,u2,u3,u4,u5]):=by intros;rfl) :
  ∃f fd,a6 K p.1 p.1 p.2 f fd/\keepIn K (.ref f)=true/\Binds K fd [x1,x2,x3,x4,x5] []/\mg p.1=some (.ref f):=xj X G d _ fun kV doc pm an aG ct us h=>by obtain⟨u1,r,rfl,h2⟩:=A4 h;obtain⟨u2,u3,u4,u5,rfl⟩:=Bs h2;exact b _ _ _ _ _ _ _ _ _ _ _
theorem Om (X:K.In h) (G:h.Ns mainGlobals mg):∀ {xs:List Str},Hs K xs -> ∀x∈xs,mg x=none
 |y::r,z,x,m=>by
  rcases bH.mp m with rfl|q
  ·exact mg_none_of X G z.1
  ·exact Om X G z.2 x q
theorem wY (X:K.In h) (G:h.Ns mainGlobals mg):∀ {xs:List Str}{as:List Addr} (i:Nat) {x:Str}{a:Addr},Ht K xs as->xs[i]? = some x->as[i]? = some a->mg x=some (.ref a)
 |y::r,b::s,0,x,a,z,e,e'=>by cases e;cases e';exact mg_of X G z.1
 |y::r,b::s,i+1,x,a,z,e,e'=>wY X G (xs:=r) (as:=s) i z.2 e e'
end L2
namespace L2
open PySem
def eU (k:Nat):List (List Str)->Str->Option (Nat×Str)
 |[],_=>none
 |[]::rest,n=>eU (k+1) rest n
 |(x::r)::rest,n=>if n∈x::r/\x≠n then some (k,x) else eU (k+1) rest n
theorem L3 {k:Nat} (h : ¬ (n∈r/\r.head? ≠ some n)):eU k (r::rest) n=eU (k+1) rest n:=by
 cases r with
 |nil=>rfl
 |cons x r=>exact ax fun z=>h ⟨z.1,by simpa using z.2⟩
theorem Wz {k:Nat} (h:n∈x::r/\x≠n):eU k ((x::r)::rest) n=some (k,x):=by
 exact aF h
def kZ (all:List (List Str)):List (List Str)->Option Str
 |[]=>none
 |[]::rest=>kZ all rest
 |(x::_)::rest=>if (eU 0 all x).isNone then some x else kZ all rest
def iJ (rest:List (List Str)):Option Str:=kZ rest rest
def without (n:Str) (rest:List (List Str)):List (List Str):=rest.map fun r=>r.filter fun y=>!decide (y=n)
def total (rest:List (List Str)):Nat:=(rest.map List.length).sum
def cJ:Nat->List (List Str)->Option (List Str)
 |0,_=>some []
 |k+1,rest=>if (rest.any fun r=>!r.isEmpty)=true then (match iJ rest with|none=>none|some n=>(cJ k (without n rest)).map (n :: ·)) else some []
theorem DP {all:List (List Str)}{n:Str}:∀ {rest:List (List Str)},kZ all rest=some n -> ∃r∈rest,r.head? = some n
 |[],h=>by cases h
 |[]::rest,h=>let ⟨r,hr,e⟩:=DP (rest:=rest) h;⟨r,bO _ hr,e⟩
 |(x::t)::rest,h=>by
  have h:(if (eU 0 all x).isNone then some x else kZ all rest)=some n:=h;split at h
  ·cases h;exact⟨n::t,bu,rfl⟩
  ·obtain⟨r,hr,e⟩:=DP (rest:=rest) h
   exact⟨r,bO _ hr,e⟩
theorem LX (n:Str):∀rest:List (List Str),total (without n rest)<=total rest
 |[]=>aO _
 |r::rest=>by
  have h1:=LX n rest;have h2:=jJ (fun y=>!decide (y=n)) r;simp only[total,without,ck,LR]at *;omega
theorem tq {n:Str}:∀ {rest:List (List Str)},(∃r∈rest,n∈r)->total (without n rest) < total rest
 |[],⟨_,h,_⟩=>by simp at h
 |r::rest,⟨q,hq,hn⟩=>by
  have h1:=LX n rest;have h2:=jJ (fun y=>!decide (y=n)) r;rcases bH.mp hq with rfl|hq
  ·have h3:(q.filter fun y=>!decide (y=n)).length < q.length:=by
    exact amT.mpr ⟨n,hn,by simp⟩
   simp only[total,without,ck,LR]at *;omega
  ·have h3:=tq ⟨q,hq,hn⟩
   simp only[total,without,ck,LR]at *;omega
theorem le_total {r:List Str}:∀ {rest:List (List Str)},r∈rest->r.length<=total rest
 |[],h=>by simp at h
 |q::rest,h=>by
  have e:total (q::rest)=q.length+total rest:=by simp[total]
  rcases bH.mp h with rfl|h
  ·omega
  ·have:=le_total h
   omega
theorem Ej (h:(rest.any fun r=>!r.isEmpty)=true):0 < total rest:=by
 obtain⟨r,hr,e⟩:=zH.mp h;have h1:0 < r.length:=by cases r with
  |nil=>simp at e
  |cons _ _=>simp
 have h2:r.length<=total rest:=le_total hr;omega
noncomputable def eW (H:Hp) (vs:List V) (rows:List (List Str)):Prop:=Paired (fun y r=>∃a,y=V.ref a/\H a=some (.tup (r.map V.str))) vs rows
theorem eW.same (h:eW H vs rows) (s:aq H H'):eW H' vs rows:=Paired.imp' (fun _ _ ⟨a,e,q⟩=>⟨a,e,s _ _ q⟩) h
theorem eW.length (h:eW H vs rows):vs.length=rows.length:=gV h
theorem eW.get {H:Hp}:∀ {vs:List V}{rows:List (List Str)}{i:Nat}{v:V},eW H vs rows->vs[i]? = some v -> ∃a r,v=V.ref a/\rows[i]? = some r/\H a=some (.tup (r.map V.str))
 |_,_,i,v,.nil,e=>by simp at e
 |_,_,0,v,.cons p _,e=>by
  obtain⟨a,rfl,q⟩:=p;simp at e;subst e;exact⟨a,_,rfl,rfl,q⟩
 |_,_,i+1,v,.cons _ t,e=>by
  obtain⟨a,r,e1,e2,q⟩:=eW.get (i:=i) t (by simpa using e)
  exact⟨a,r,e1,by simpa using e2,q⟩
theorem eW.append {H:Hp}{vs:List V}{rows:List (List Str)}{a:Addr}{r:List Str}:eW H vs rows->H a=some (.tup (r.map V.str))->eW H (vs ++ [.ref a]) (rows ++ [r])
 |.nil,q=>.cons ⟨a,rfl,q⟩ .nil
 |.cons p t,q=>.cons p (eW.append t q)
end L2
namespace df
open PySem L2 PySem.W
def top (i:Nat):Stmt:=PySem.Challenge.pw_parentlines_k36_finds_refused.main.body.getD i (.Pass ⟨0,0,0,0⟩)
noncomputable abbrev EH:Stmt:=top 9
noncomputable abbrev wZ:Stmt:=top 10
noncomputable abbrev Fb:Stmt:=top 11
noncomputable abbrev w6:Stmt:=top 13
noncomputable abbrev AK:Stmt:=top 14
noncomputable abbrev xH:Stmt:=top 15
noncomputable abbrev Fc:Stmt:=top 18
noncomputable abbrev Fd:Stmt:=top 19
noncomputable abbrev ua:Stmt:=top 20
noncomputable abbrev wC:Stmt:=top 21
noncomputable abbrev tO:Stmt:=top 23
noncomputable abbrev qJ:Stmt:=top 24
noncomputable abbrev EI:Stmt:=top 25
noncomputable abbrev Ek:Stmt:=top 26
noncomputable abbrev Fe:Stmt:=top 27
noncomputable abbrev wL:Stmt:=top 28
noncomputable abbrev Fz:Stmt:=top 29
noncomputable abbrev EJ:Stmt:=top 33
noncomputable abbrev wD:Stmt:=top 34
noncomputable abbrev Ff:Stmt:=top 35
noncomputable abbrev Fg:Stmt:=top 36
noncomputable abbrev FA:Stmt:=top 38
noncomputable abbrev FC:Stmt:=top 39
noncomputable abbrev wF:Stmt:=top 40
noncomputable abbrev Hv:Stmt:=top 42
noncomputable abbrev xk:Stmt:=top 43
noncomputable abbrev nU:Stmt:=top 44
noncomputable abbrev mr:Stmt:=top 45
noncomputable abbrev xl:Stmt:=top 46
noncomputable abbrev El:Stmt:=top 47
noncomputable abbrev EK:Stmt:=top 48
noncomputable abbrev w8:Stmt:=top 49
noncomputable abbrev Fh:Stmt:=top 50
noncomputable abbrev Gh:Stmt:=top 51
noncomputable abbrev xm:Stmt:=top 52
noncomputable abbrev Gi:Stmt:=top 53
noncomputable abbrev wM:Stmt:=top 54
noncomputable abbrev Gj:Stmt:=top 55
noncomputable abbrev xI:Stmt:=top 56
noncomputable abbrev Gk:Stmt:=top 57
noncomputable abbrev xn:Stmt:=top 58
noncomputable abbrev mR:Stmt:=top 59
noncomputable abbrev xJ:Stmt:=top 60
noncomputable abbrev xW:Stmt:=top 61
noncomputable abbrev uq:Stmt:=inClass Fz 0
noncomputable abbrev ur:Stmt:=inClass Fz 1
noncomputable abbrev uu:Stmt:=inClass Fz 2
structure dY (mg:Str->Option Value):Prop where
 len:mg "len" = none
 max:mg "max" = none
 min:mg "min" = none
 abs:mg "abs" = none
 range:mg "range" = none
 any:mg "any" = none
 all:mg "all" = none
 list:mg "list" = none
 tuple:mg "tuple" = none
 enu:mg "enumerate" = none
theorem qd {y:Str}:eu ((y::r).map V.str) 0=some (V.str y):=(show eu ((y::r).map V.str) ((0:Nat):Int)=some (V.str y) from b9 rfl)
theorem ay {o:HO} (hq:H q=none):aq H (upd H q o):=fun b u e=>by rw[ah (aA e hq)];exact e
theorem Y0 {g:TG}{tb:TS} (Pv:Nat->St->Hp->Prop) (h0:Pv 0 σ H) (hl:∀i σ H,i<=xs.length->Pv i σ H->aj K H a xs)
  (hs:∀i x σ H t,xs[i]? = some x->Pv i σ H->H t=none->g (.ref t) σ (upd H t (.tup [.int i,x])) fun ir H2=>tb { D with nx:=Pv (i+1),ct:=Pv (i+1),bk:=D.nx } ir H2) (hd:∀σ H,Pv xs.length σ H->D.nx σ H) :
  ∃W:Nat->Nat->St->Hp->Prop,(∃m,W 0 m σ H) /\ ∀i m σ H,W i m σ H ->
   ((yF K a).stop i H/\D.nx σ H)\/((yF K a).go i H /\ ∃N:St->Hp->Prop,(∀aS H',N aS H' -> ∃m',m' < m/\W (i+1) m' aS H') /\ ∀x H',(yF K a).pO i H x H'->g x σ H' fun ir H2=>tb { D with nx:=N,ct:=N,bk:=D.nx } ir H2):=by
 refine⟨fun i m σ H=>m=xs.length - i/\i<=xs.length/\Pv i σ H,⟨xs.length,by simp,bR _,h0⟩,?_⟩
 rintro i m σ H ⟨rfl,hi,p⟩;have q:=hl i σ H hi p
 by_cases aT:i < xs.length
 ·refine .inr ⟨⟨xs,xs[i],q,by simp[aT]⟩,Pv (i+1),fun aS H' p'=>⟨xs.length - (i+1),by omega,rfl,aT,p'⟩,fun x H' y=>?_⟩
  obtain⟨t,v,ht,rfl,hv,rfl⟩:=y;exact hs i v σ _ t (hv xs q) p ht
 ·have e:i=xs.length:=by omega
  subst e;exact .inl ⟨⟨xs,q,aO _⟩,hd σ H p⟩
inductive AL (vs:List V) (H:Hp) (Q:VK) (E:XK):Prop
 |mk {l:Addr}{ws:List V}{rows:List (List Str)}{n:Str} (_:vs = [.ref l,.str n]) (_:H l=some (.lst ws)) (_:eW H ws rows) (_:(eU 0 rows n=none -> ∀H',aq H H'->Q .aI H')) (_:(∀i x,eU 0 rows n=some (i,x) -> ∀p H',H p=none->aq H H'->H' p=some (.tup [.int i,.str x,.str n])->Q (.ref p) H')):AL vs H Q E
theorem FE:bK ["rest","name","at","row"] ["rest","name"] (aM xH):=b6
theorem Z8 (F:a6 K "wish_against" "wish_against" xH f fd) (B:dY mg):a9 P w K mg base aK 1 f fd ["rest","name"] AL:=by
 refine F.ok FE (fun vs H Q E h=>?_) (fun aG A outer s H vs Q E hr h=>?_)
 ·obtain⟨rfl,_⟩:=h;rfl
 ·obtain @⟨l,ws,rows,n,rfl,hl,hR,qn,qs⟩:=h
  refine⟨_,aB (lj j' rfl (ZJ rfl B.enu (aa (pv 0) af)) (tX rfl (fH (bw (i:=2) FE.nd rfl (Or.inl rfl)) (fH (bw (i:=3) FE.nd rfl (Or.inl rfl)) mw)))
    (aN (bY (PW.pt (pw_and (bU zW (pv 1) (pv 3) rfl) (pw_and1 (bU xr (aP gb (pv 3) ao) (pv 1) (bz _)))))
     (aN (br (cg (aa (pv 2) (aa (aP gb (pv 3) ao) (aa (pv 1) af)))))) cf)))
   (aN (br i6)),?_⟩
  refine⟨_,rfl,l,rfl,⟨_,aj.of hl⟩,Y0 (xs:=ws) (fun i σ H1=>∃v2 v3:Option V,σ = [some (.ref l),some (.str n),v2,v3]/\aq H H1/\eU i (rows.drop i) n=eU 0 rows n) ⟨none,none,rfl,aq.refl _,by simp⟩ (fun i σ H1 _ hQ9=>by obtain⟨_,_,_,z,_⟩:=hQ9;exact aj.of (z _ _ hl)) ?_ ?_⟩
  ·rintro i x σ H1 t hx ⟨v2,v3,rfl,S1,hw⟩ ht
   obtain⟨a,r,rfl,iB,hZ⟩:=hR.get hx;have S2:aq H (upd H1 t (.tup [.int i,.ref a])):=S1.trans (ay ht);have vj:=S2 _ _ hZ;have Ju:rows.drop i=r::rows.drop (i+1):=by
    have hi:=(cz.mp iB);obtain⟨yL,rfl⟩:=hi;exact zG yL
   rw[Ju]at hw;refine⟨t,_,rfl,aJ.of ag,rfl,_,_,rfl,_,_,rfl,rfl,?_⟩;refine⟨_,rfl,_,rfl,a,_,rfl,.inr (aJ.of vj),rfl,mq _,_,rfl,?_⟩;rw[ax cD,oV];refine cG (fun cx=>?_) (fun cx=>?_)
   ·have Qr:n∈r:=by simpa using cx
    cases r with
    |nil=>simp at Qr
    |cons y r =>
     refine⟨_,rfl,a,_,0,.str y,rfl,rfl,aJ.of vj,qd,_,rfl,rfl,_,rfl,?_⟩;refine cG (fun bc=>?_) (fun bc=>?_)
     ·have rO:y≠n:=fun z=>by subst z;simp at bc
      refine⟨_,rfl,_,rfl,a,_,0,.str y,rfl,rfl,aJ.of vj,qd,_,rfl,oz,fun p hp=>?_⟩;rw[Wz ⟨Qr,rO⟩]at hw;exact qs i y hw.symm p _ (S2.free hp) (S2.trans (ay hp)) ag
     ·have hy:y=n:=by
       by_cases z:y=n
       ·exact z
       ·exact absurd (by simp[z]) bc
      refine⟨_,_,rfl,S2,?_⟩;rw[<-hw,L3 fun z=>z.2 (by rw[hy];rfl)]
   ·refine⟨_,_,rfl,S2,?_⟩
    rw[<-hw,L3 fun z=>cx (by simpa using z.1)]
  ·rintro σ H1 ⟨v2,v3,rfl,S1,hw⟩
   rw[hR.length,VX]at hw;exact qn hw.symm H1 S1
def Qs:Option Str->V
 |none=>.aI
 |some n=>.str n
inductive Aq (vs:List V) (H:Hp) (Q:VK) (E:XK):Prop
 |mk {l:Addr}{ws:List V}{rows:List (List Str)} (_:vs = [.ref l]) (_:H l=some (.lst ws)) (_:eW H ws rows) (_:∀H',aq H H'->Q (Qs (iJ rows)) H'):Aq vs H Q E
theorem Oo:bK ["rest","row"] ["rest"] (aM AK):=b6
theorem Y1 {vm:FuncData} (F:a6 K "least_free" "least_free" AK f fd) (B:dY mg) (FW:a6 K "wish_against" "wish_against" xH fW vm) (bW:Binds K vm ["rest","name"] []) (mW:mg "wish_against" = some (.ref fW)) :
  a9 P w K mg base aK 2 f fd ["rest"] Aq:=by
 have GW:a9 P w K mg base aK 1 fW vm ["rest","name"] AL:=Z8 FW B;refine F.ok Oo (fun vs H Q E h=>?_) (fun aG A outer s H vs Q E hr h=>?_)
 ·obtain⟨rfl,_⟩:=h;rfl
 ·obtain @⟨l,ws,rows,rfl,hl,hR,q⟩:=h
  have aZ:aV 1 _:=hr;refine⟨_,aB (lj j' rfl (iK (pv 0)) (bw (i:=1) Oo.nd rfl (Or.inl rfl))
    (aN (bY (PW.pt (pw_and (wJ (pv 1) (fun _=>rfl)) (pw_and1 (bU xf (k7 GW aZ rfl mW FW.kp bW .nil jo (aa (pv 0) (aa (aP gb (pv 1) ao) af))) i6 (bz _)))))
     (aN (br (aP gb (pv 1) ao))) cf)))
   (aN (br i6)),?_⟩
  refine⟨_,rfl,l,rfl,⟨_,aj.of hl⟩,Ew (xs:=ws) (fun i σ H1=>∃v1:Option V,σ = [some (.ref l),v1]/\aq H H1/\kZ rows (rows.drop i)=iJ rows) ⟨none,rfl,aq.refl _,by simp[iJ]⟩ (fun i σ H1 _ hQ9=>by obtain⟨_,_,z,_⟩:=hQ9;exact aj.of (z _ _ hl)) ?_ ?_⟩
  ·rintro i x σ H1 hx ⟨v1,rfl,S1,hw⟩
   obtain⟨a,r,rfl,iB,hZ⟩:=hR.get hx;have jC:=S1 _ _ hZ;have Ju:rows.drop i=r::rows.drop (i+1):=by
    obtain⟨yL,rfl⟩:=cz.mp iB;exact zG yL
   rw[Ju]at hw;refine⟨_,rfl,!(r.map V.str).isEmpty,.inr (.inl ⟨_,aJ.of jC,rfl⟩),?_⟩;cases r with
   |nil=>exact⟨_,rfl,S1,hw⟩
   |cons y r =>
    have hw:(if (eU 0 rows y).isNone then some y else kZ rows (rows.drop (i+1)))=iJ rows:=hw;refine⟨_,rfl,_,rfl,a,_,0,.str y,rfl,rfl,aJ.of jC,qd,?_⟩;refine AL.mk rfl (S1 _ _ hl) (hR.same S1) (fun en H2 S2=>?_) (fun j z es p H2 hp S2 h2=>?_)
    ·refine⟨rfl,_,rfl,?_⟩
     refine⟨_,rfl,a,_,0,.str y,rfl,rfl,aJ.of (S2 _ _ jC),qd,?_⟩;rw[en]at hw;have e:iJ rows=some y:=hw.symm;have:=q H2 (S1.trans S2);rw[e]at this;exact this
    ·refine⟨rfl,_,rfl,?_⟩
     rw[es]at hw;exact⟨_,rfl,S1.trans S2,hw⟩
  ·rintro σ H1 ⟨v1,rfl,S1,hw⟩
   rw[hR.length,VX]at hw;have e:iJ rows=none:=hw.symm;have:=q H1 S1;rw[e]at this;exact this
def Ar (s:Stmt):List Stmt:=match s with|.For _ _ b _ _=>b|_=>[]
def wG (s:Stmt):List Stmt:=match s with|.While _ b _ _=>b|_=>[]
def b5 (l:List Stmt) (i:Nat):Stmt:=l.getD i (.Pass ⟨0,0,0,0⟩)
def fV (s:Stmt):Expr:=match s with|.Assign _ v _=>v|_=>.Constant .none 0 ⟨0,0,0,0⟩
def jY (s:Stmt):Expr:=match s with|.Return (some v) _=>v|_=>.Constant .none 0 ⟨0,0,0,0⟩
def gN (e:Expr):Expr:=match e with|.Call _ (a::_) _ _=>a|_=>.Constant .none 0 ⟨0,0,0,0⟩
def adJ (e:Expr):Expr:=match e with|.Subscript a _ _=>a|_=>.Constant .none 0 ⟨0,0,0,0⟩
def Gm (e:Expr):Expr:=match e with|.ListComp x _ _ _=>x|_=>.Constant .none 0 ⟨0,0,0,0⟩
def cK (e:Expr):Scope:=match e with|.ListComp _ _ sc _=>sc|_=>{ kind:= .function,names:= [],isGenerator:=false,isCoroutine:=false }
theorem boot_tuple:bootBuiltins "tuple" = some (.type "tuple"):=by decide +kernel
theorem boot_list:bootBuiltins "list" = some (.type "list"):=by decide +kernel
structure Small (rows:List (List Str)):Prop where
 bV:rows.length<=10
 short:∀r∈rows,r.length<=20
 nm:∀r∈rows,∀n∈r,Nm n
theorem abc {hs:List Str} (nd:ps.Nodup) (h:∀n∈ps,n∈hs):ps.length<=hs.length:=by
 by_cases z:ps.length<=hs.length
 ·exact z
 ·obtain⟨y,hy,hn⟩:=Fv (found:=hs) nd (by omega)
  exact absurd (h y hy) hn
theorem Ms (h:total rest=0):(rest.any fun r=>!r.isEmpty)=false:=by
 cases e:rest.any fun r=>!r.isEmpty with
 |false=>rfl
 |true=>have:=Ej e;omega
theorem tJ (h:iJ rest=some n):∃r∈rest,n∈r:=by
 obtain⟨r,hr,e⟩:=DP h;exact⟨r,hr,List.mem_of_head? e⟩
theorem Mt:∀ (k:Nat) (r:List (List Str)),total r<=k -> ∀j,total r<=j->cJ k r=cJ j r
 |0,r,h,j,_=>by
  have z:=Ms (show total r=0 by omega)
  cases j with
  |zero=>rfl
  |succ j=>unfold cJ;rw[ax (by rw[z];exact cD)]
 |k+1,r,h,0,hj=>by
  have z:=Ms (show total r=0 by omega)
  unfold cJ;rw[ax (by rw[z];exact cD)]
 |k+1,r,h,j+1,hj=>by
  unfold cJ;split
  ·cases e:iJ r with
   |none=>rfl
   |some n =>
    have:=tq (tJ e);show Option.map _ _=Option.map _ _;rw[Mt k (without n r) (by omega) j (by omega)]
  ·rfl
theorem D5 {r:List (List Str)} (h:(r.any fun r=>!r.isEmpty)=false):cJ (total r) r=some []:=by
 cases total r with
 |zero=>rfl
 |succ k=>unfold cJ;rw[ax (by rw[h];exact cD)]
theorem D6 {r:List (List Str)} (h:(r.any fun r=>!r.isEmpty)=true) (e:iJ r=none):cJ (total r) r=none:=by
 have:=Ej h;cases q:total r with
 |zero=>omega
 |succ k=>unfold cJ;rw[aF h,e]
theorem D9 {r:List (List Str)} (h:(r.any fun r=>!r.isEmpty)=true) (e:iJ r=some n):cJ (total r) r=(cJ (total (without n r)) (without n r)).map (n :: ·):=by
 have:=tq (tJ e);cases q:total r with
 |zero=>omega
 |succ k =>
  show(if (r.any fun r=>!r.isEmpty)=true then _ else _)=_;rw[aF h,e];show Option.map _ _=_;rw[Mt k (without n r) (by omega) _ (aO _)]
theorem L6 {env:Env}:∀ {names:List (Str×NameKind)}{x:Str},names.lookup x=some .cell ->
  (names.map fun(n,k)=>if (k==NameKind.free && env.scope.kind == .function && env.kindOf n==some .cell) then (n,NameKind.cell) else (n,k)).lookup x=some .cell
 |[],_,h=>by simp at h
 |(n,k0)::r,x,h=>by
  have ih:=@L6 env r x;show List.lookup x ((if (k0==NameKind.free && env.scope.kind == .function && env.kindOf n==some .cell)=true then (n,NameKind.cell) else (n,k0))::_)=_;rw[iI]at h;cases hx:x==n with
  |true =>
   rw[hx]at h;cases h
   rw[ax (by simp),iI,hx]
  |false =>
   rw[hx]at h
   by_cases hc:(k0==NameKind.free && env.scope.kind == .function && env.kindOf n==some .cell)=true
   ·rw[aF hc,iI,hx];exact ih h
   ·rw[ax hc,iI,hx];exact ih h
theorem nest {vo:Scope} (kind:sc.kind = .function) (keys:(sc.names.map (·.1)).Nodup) (nd:N'.Nodup) (len:b7.length=N'.length) (fv:Hh N N' b7 sc=true)
  (free:∀p∈sc.names,p.2 = .free->vo.names.lookup p.1=some .cell\/vo.names.lookup p.1=some .free):b8 N (relabel vo env) N' b7 sc:=
 ⟨kind,keys,nd,len,O9 fv,fun p hp e=>by
  rcases free p hp e with z|z
  ·exact .inl (L6 z)
  ·exact DL z⟩
theorem L7 (K:Frag) (h:X.K=K):d5 X (.type "tuple") (fun xs H Q=>∃p ys,xs = [.ref p]/\((aj K H p ys /\ ∀l,H l=none->Q (.ref l) (upd H l (.tup ys)))\/(aJ K H p ys/\Q (.ref p) H))):=by subst h;exact qG
theorem boot_any:bootBuiltins "any" = some (.builtin "any"):=by decide +kernel
def FF (K:Frag) (C:Addr):Bool:=
 findIn K (.ref C) "__getattribute__" == some (some (.builtin "BaseException.__getattribute__")) && (findIn K (.ref C) "__getattr__" == some none && (findIn K (.ref C) "__setattr__" == some (some (.builtin "object.__setattr__")) && (hasDictIn K C &&
 (((clsIn K C).any fun cd=>F4 cd.mro) && (mroIn K C (.type "BaseException")==some true && (mroIn K C (.type "ValueError")==some true && (mroIn K C (.type "object")==some true && (findIn K (.ref C) "__class__" == some (some (.builtin "object.__class__")) &&
 (specialIn K (.builtin "object.__class__") "__get__" == some (some (.builtin "getset_descriptor.__get__")) && takesIn K (.builtin "object.__class__")==some true)))))))))
theorem Z9 (h:FF K C=true):jU K C:=by
 unfold FF at h;simp only[nM,jG]at h;obtain⟨a,b,c,d,e,f,g,i,j,k,l⟩:=h;exact⟨a,b,c,d,e,f,g,i,j,k,l⟩
noncomputable abbrev Oq:List Str:= ["rows","order","rest","name"]
theorem wN:bK Oq ["rows"] (aM w6):=b6
noncomputable abbrev Qt:Expr:=fV (b5 (wG (b5 (b4 w6) 2)) 3)
noncomputable abbrev vo:Scope:=cK Qt
noncomputable abbrev scI:Scope:=cK (gN (Gm Qt))
theorem Sn:b8 Oq (aM w6) ["row","name"] [none,some 3] vo:=dH
theorem csI:b8 ["row","name"] (relabel vo env) ["other","name"] [none,some 1] scI:=nest rfl (by decide +kernel) (by decide +kernel) rfl (by decide +kernel) (by decide +kernel)
theorem ndI:(["other","name"]:List Str).Nodup:=by decide +kernel
theorem M4 (h:eW H vs rows) (s:∀b xs,H b=some (.tup xs)->H' b=some (.tup xs)):eW H' vs rows:=Paired.imp' (fun _ _ ⟨a,e,q⟩=>⟨a,e,s _ _ q⟩) h
theorem L4 (S:Small rest):Small (without n rest):=by
 refine⟨by unfold L2.without;rw[aE];exact S.bV,fun r hr=>?_,fun r hr y hy=>?_⟩
 ·obtain⟨q,hq,rfl⟩:=bT.mp hr
  exact gW (jJ _ _) (S.short q hq)
 ·obtain⟨q,hq,rfl⟩:=bT.mp hr
  exact S.nm q hq y (f6.mp hy).1
structure Qu (H:Hp) (rows:List (List Str)) (t oa:Addr) (m:Nat) (σ:St) (H1:Hp) (rest:List (List Str)) (ws:List V) (acc:List Str) (rl:Addr):Prop where
 st:∃v3:Option V,σ = [some (.ref t),some (.ref oa),some (.ref rl),v3]
 mm:m=total rest
 oJ:H1 oa=some (.lst (acc.map V.str))
 lP:H1 rl=some (.lst ws)
 rr:eW H1 ws rest
 sm:Small rest
 ne:rl≠oa
 same:aq H H1
 lim:acc.length+total rest<=1000
 eq:cJ (total rows) rows=(cJ (total rest) rest).map (acc ++ ·)
theorem zS:∀ {rows:List (List Str)},(∀r∈rows,r.length<=20)->total rows<=20 * rows.length
 |[],_=>bR _
 |r::rows,h=>by
  have h1:=zS fun q hq=>h q (bO _ hq);have h2:=h r bu;have e:total (r::rows)=r.length+total rows:=by simp[total]
  rw[e,cO];omega
theorem Y2 (h:eW H ws rows):Paired (fun y r=>∃a,y=V.ref a/\aJ K H a r) ws (rows.map fun r=>r.map V.str):=by
 induction h with
 |nil=>exact .nil
 |cons p _ ih=>obtain⟨a,e,q⟩:=p;exact .cons ⟨a,e,aJ.of q⟩ ih
theorem any_map (rows:List (List Str)):((rows.map fun r=>r.map V.str).any fun r=>!r.isEmpty)=rows.any fun r=>!r.isEmpty:=by
 rw[Lo];congr 1;funext r;cases r <;> rfl
inductive Ae (vs:List V) (H:Hp) (Q:VK) (E:XK):Prop
 |mk {t:Addr}{ws:List V}{rows:List (List Str)}{o:List Str} (_:vs = [.ref t]) (_:H t=some (.tup ws)) (_:eW H ws rows) (_:Small rows) (_:cJ (total rows) rows=some o) (_:∀p H',H p=none->aq H H'->H' p=some (.tup (o.map V.str))->Q (.ref p) H'):Ae vs H Q E
theorem X6 {Jv vm:FuncData} (F:a6 K "merged" "merged" w6 f fd) (Bl:dY mg)
  (FW:a6 K "wish_against" "wish_against" xH fW vm) (bW:Binds K vm ["rest","name"] []) (mW:mg "wish_against" = some (.ref fW))
  (FL:a6 K "least_free" "least_free" AK fL Jv) (bL:Binds K Jv ["rest"] []) (mL:mg "least_free" = some (.ref fL)) :
  a9 P w K mg base aK 3 f fd ["rows"] Ae:=by
 have GL:a9 P w K mg base aK 2 fL Jv ["rest"] Aq:=Y1 FL Bl FW bW mW;refine F.ok wN (fun vs H Q E h=>?_) (fun aG A outer s H vs Q E hr h=>?_)
 ·obtain⟨rfl,_⟩:=h;rfl
 ·obtain @⟨t,ws,rows,o,rfl,ht,hR,hS,hm,qs⟩:=h
  have cW:aV 2 _:=hr;refine⟨_,aB (aW (i:=1) wN.nd rfl (Or.inl rfl) (cw af))
   (aB (aW (i:=2) wN.nd rfl (Or.inl rfl) (f' wg rfl Bl.list boot_list (aa (pv 0) af)))
   (aB (Eu j' (wJ (bJ (XI rfl) rfl Bl.any boot_any (aa (pv 2) af)) (fun _=>rfl))
    (aB (aW (i:=3) wN.nd rfl (Or.inr rfl) (k7 GL cW rfl mL FL.kp bL .nil jo (aa (pv 2) af)))
    (aB (bY (bU xf (pv 3) i6 (bz _)) (aN Ym) cf)
    (aB (jN (mE tf DG DH tI (pv 1) (aa (pv 3) af)))
    (aN (qI (i:=2) rfl Sn wN.nd rfl rfl (iK (pv 2)) (fun s H fp=>⟨bw (i:=0) Sn.nd rfl (Or.inl rfl),gv,
     f' (L7 K rfl) rfl Bl.tuple boot_tuple (aa (eV rfl csI (Nk K rfl (pv 0)) (fun s H fp=>⟨bw (i:=0) ndI rfl (Or.inl rfl),jL (bU xr (pv 0) (pv 1) rfl),pv 0⟩)) af)⟩)))))))
   (aN (br (f' qG rfl Bl.tuple boot_tuple (aa (pv 1) af)))))),?_⟩
  refine⟨bR _,fun oa oJ=>⟨_,rfl,t,ws,rfl,.inr (aJ.of (by rw[ah (aA ht oJ)];exact ht)),fun rl lP=>?_⟩⟩
  have adK:(upd (upd H oa (.lst [])) rl (.lst ws)) oa=some (.lst []):=by rw[ah (aA ag lP)];exact ag
  have S1:aq H (upd (upd H oa (.lst [])) rl (.lst ws)):=(ay oJ).trans (ay lP);refine⟨fun m σ H1=>∃rest gD acc rl,Qu H rows t oa m σ H1 rest gD acc rl,⟨_,rows,ws,[],rl,⟨none,rfl⟩,rfl,adK,ag,hR.same S1,hS,ba (aA ag lP),S1,by have:=zS hS.short;have:=hS.bV;simp only[sX];omega,by cases cJ (total rows) rows <;> rfl⟩,?_⟩
  rintro m σ H1 ⟨rest,gD,acc,rl,R⟩;obtain⟨v3,rfl⟩:=R.st;refine⟨_,rfl,rl,gD,_,rfl,aj.of R.lP,Y2 R.rr,_,rfl,?_⟩;rw[any_map];refine cG (fun hA=>?_) (fun hA=>?_)
  ·refine⟨fun aS H'=>∃m',m' < m /\ ∃rest gD acc rl,Qu H rows t oa m' aS H' rest gD acc rl,fun _ _ z=>z,?_⟩
   refine⟨_,rfl,Aq.mk rfl R.lP R.rr fun H2 S2=>?_⟩;have uH:=Ej hA;cases e:iJ rest with
   |none =>
    refine⟨_,rfl,rfl,_,rfl,?_⟩;rw[R.eq,D6 hA e]at hm;cases hm
   |some n =>
    refine⟨_,rfl,rfl,_,rfl,?_⟩;have Hw:H2 oa=some (.lst (acc.map V.str)):=S2 _ _ R.oJ;refine⟨_,rfl,.inl ⟨rfl,_,aj.of Hw⟩,_,rfl,oa,_,_,rfl,rfl,Hw,by have:=R.lim;rw[aE,aQ];omega,?_⟩
    generalize Cp:upd H2 oa (.lst (acc.map V.str ++ [Qs (some n)]))=H3;have S3:aq H H3:=fun b o eb=>by rw[<-Cp,ah (aA eb oJ)];exact S2 _ _ (R.same b o eb)
    have nro:rl≠oa:=R.ne;have Qv:H3 rl=some (.lst gD):=by rw[<-Cp,ah nro];exact S2 _ _ R.lP
    have So:eW H3 gD rest:=M4 R.rr fun b xs hb=>by rw[<-Cp,ah (aX (S2 _ _ hb) Hw)];exact S2 _ _ hb
    have Qw:H3 oa=some (.lst ((acc ++ [n]).map V.str)):=by rw[<-Cp,ag,bZ];rfl
    refine⟨_,rfl,rl,rfl,⟨_,aj.of Qv⟩,fun a1 jC=>?_⟩;have n1o:a1≠oa:=fun z=>by rw[z,Qw]at jC;cases jC
    refine i4 (xs:=gD) (fun i ys τ H4=>∃t0:Option V,τ = [t0,some (.str n)]/\H4 a1=some (.lst ys)/\aq H3 H4/\eW H4 ys (L2.without n (rest.take i))) ⟨none,rfl,ag,ay jC,.nil⟩ (fun i ys τ H4 hQ9=>by obtain⟨_,_,h1,h2,_⟩:=hQ9;exact ⟨h1,aj.of (h2 _ _ Qv)⟩) ?_ ?_
    ·rintro i x ys τ H4 hx ⟨t0,rfl,vp,S4,yP⟩
     obtain⟨a,r,rfl,iB,hZ⟩:=So.get hx;have aT:i < gD.length:=(cz.mp hx).1;have tk:rest.take (i+1)=rest.take i ++ [r]:=by rw[dg,iB];rfl
     refine⟨_,rfl,a,rfl,⟨_,aJ.of (S4 _ _ hZ)⟩,fun b1 iA=>?_⟩;have Sq:(upd H4 b1 (.lst [])) a=some (.tup (r.map V.str)):=by rw[ah (aA (S4 _ _ hZ) iA)];exact S4 _ _ hZ
     have Jw:a≠b1:=aA (S4 _ _ hZ) iA;refine wK (xs:=r.map V.str) (fun j zs eZ H5=>∃t1:Option V,eZ = [t1,some (.str n)]/\zs=((r.take j).filter fun y=>!decide (y=n)).map V.str/\H5=upd H4 b1 (.lst zs)) ⟨none,rfl,rfl,rfl⟩ (fun j zs eZ H5 ⟨_,_,_,z⟩=>by rw[z];exact⟨ag,aJ.of (by rw[ah Jw];exact S4 _ _ hZ)⟩) ?_ ?_
     ·rintro j x zs eZ H5 eO ⟨t1,rfl,rfl,rfl⟩
      have bX:j < (r.map V.str).length:=(cz.mp eO).1;have m7:j < r.length:=by simpa using bX
      obtain rfl:V.str r[j]=x:=by simpa [m7] using eO
      have iC:r.take (j+1)=r.take j ++ [r[j]]:=by rw[dg,bC m7];rfl
      refine⟨_,rfl,_,rfl,rfl,_,rfl,?_⟩;refine cG (fun bc=>?_) (fun bc=>?_)
      ·have rO:r[j]≠n:=fun z=>by rw[z]at bc;simp at bc
       refine⟨_,rfl,ag,?_,cw_next bX ⟨_,rfl,?_,by rw[k6]⟩⟩
       ·have h1:=jJ (fun y=>!decide (y=n)) (r.take j)
        have h2:(r.take j).length<=r.length:=by rw[cT];omega
        have h3:=R.sm.short r (jH iB);rw[aE,aQ];omega
       ·rw[iC,jK,bZ,qE (by simpa using rO)];rfl
      ·have hy:r[j]=n:=by
        by_cases z:r[j]=n
        ·exact z
        ·exact absurd (by simp[z]) bc
       refine cw_next bX ⟨_,rfl,?_,rfl⟩;rw[iC];simp[hy]
     ·rintro zs eZ H5 ⟨t1,rfl,rfl,rfl⟩
      rw[aE,cQ];refine⟨b1,_,rfl,.inl ⟨aj.of ag,fun l hl=>?_⟩⟩;have n1b:a1≠b1:=aA vp iA;have Sb:aq H4 (upd (upd H4 b1 (.lst ((r.filter fun y=>!decide (y=n)).map V.str))) l (.tup ((r.filter fun y=>!decide (y=n)).map V.str))):=(ay iA).trans (ay hl);have n1l:a1≠l:=aA (by rw[ah n1b];exact vp) hl
      refine⟨Sb _ _ vp,?_,cw_next aT ⟨_,rfl,ag,fun b o hb=>?_,?_⟩⟩
      ·have h1:=yP.length
       have h2:(L2.without n (rest.take i)).length<=rest.length:=by unfold L2.without;rw[aE,cT];omega
       have h3:=R.sm.bV;rw[aQ];omega
      ·rw[ah (aA hb jC)];exact Sb _ _ (S4 b o hb)
      ·have e1:L2.without n (rest.take (i+1))=L2.without n (rest.take i) ++ [r.filter fun y=>!decide (y=n)]:=by rw[tk];unfold L2.without;rw[bZ];rfl
       rw[e1];refine eW.append (M4 yP fun b xs hb=>?_) ?_
       ·rw[ah (aX hb vp)];exact Sb _ _ hb
       ·rw[ah (ba n1l)];exact ag
    ·rintro ys τ H4 ⟨t0,rfl,vp,S4,yP⟩
     rw[So.length,cQ]at yP;have lt:=tq (tJ e);refine⟨_,by rw[R.mm];exact lt,L2.without n rest,ys,acc ++ [n],a1,⟨_,rfl⟩,rfl,S4 _ _ Qw,vp,yP,L4 R.sm,n1o,S3.trans S4,?_,?_⟩
     ·have:=R.lim;rw[fu,nN];omega
     ·rw[R.eq,D9 hA e,Option.map_map]
      congr 1
      funext z
      simp
  ·refine⟨_,rfl,oa,_,rfl,.inl ⟨aj.of R.oJ,fun p hp=>?_⟩⟩
   rw[R.eq,D5 (by simpa using hA)]at hm
   have e:acc ++ []=o:=fc hm;rw[kS]at e;subst e;exact qs p _ (R.same.free hp) (R.same.trans (ay hp)) ag
end df
namespace df
open PySem L2
theorem boot_max:bootBuiltins "max" = some (.builtin "max"):=by decide +kernel
theorem boot_abs:bootBuiltins "abs" = some (.builtin "abs"):=by decide +kernel
inductive A5 (K:PySem.W.Frag) (vs:List V) (H:Hp) (Q:VK) (E:XK):Prop
 |mk {a:Addr}{ns:List Int}{k:Int} (_:vs = [.ref a,.int k]) (_:aj K H a (ns.map V.int)) (_:0<=k) (_:k<=100) (_:ns.length<=63) (_:∀ (p:Addr) (x y:Int),H p=none->0<=x->0<=y->y < 4294967296->Q (.ref p) (upd H p (.lst [.int x,.int y]))):A5 K vs H Q E
theorem Gn:bK ["_law_script","_law_k","_law_cell"] ["_law_script","_law_k"] (aM Hv):=b6
theorem Z' {ns:List Int} (h:i < ns.length):∃z,(ns.map V.int)[i]? = some (V.int z):=⟨ns[i],by rw[eK,bC h];rfl⟩
theorem abd (F:a6 K "_law_pot" "_law_pot" Hv f fd) (B:dY mg):a9 P w K mg base aK 1 f fd ["_law_script","_law_k"] (A5 K):=by
 refine F.ok Gn (fun vs H Q E h=>?_) (fun aG A outer s H vs Q E hr h=>?_)
 ·obtain⟨rfl,_⟩:=h;rfl
 ·obtain @⟨a,ns,k,rfl,hS,k0,k1,hl,q⟩:=h
  refine⟨_,aB (aW (i:=2) Gn.nd rfl (Or.inl rfl) ao)
   (aB (bY (bU rq (pv 1) (bJ gu (by rfl) B.len gs (aa (pv 0) af)) (bz _))
     (aN (aW (i:=2) Gn.nd rfl (Or.inl rfl) (aP bE (pv 0) (pv 1)))) cf)
   (aN (br (cw (aa (bJ (Xy rfl) (by rfl) B.max boot_max (aa ao (aa (bA lq (bJ Ni (by rfl) B.abs boot_abs (aa (pv 2) af)) (bA Fs ao ao)) af)))
    (aa (bA iN (bA iN (bA t4 (bJ Ni (by rfl) B.abs boot_abs (aa (pv 2) af)) ao) (bA AE ao (pv 1))) ao) af)))))),?_⟩
  refine⟨_,rfl,_,rfl,a,_,rfl,.inl hS,_,_,rfl,rfl,_,rfl,?_⟩;have ano:∀c:Int,0<=(if c < 0 then -c else c):=fun c=>by split <;> omega
  have fin:∀c:Int,∀p,H p=none->Q (.ref p) (upd H p (.lst [.int (if (if c < 0 then -c else c) - 10 ^ (18:Int).toNat > 0 then (if c < 0 then -c else c) - 10 ^ (18:Int).toNat else 0),.int ((if c < 0 then -c else c) % 2147483587+101 * k+3)])):=fun c p hp=>by
   have h1:=DI (if c < 0 then -c else c) (show(2147483587:Int)≠0 by decide)
   have h2:=DJ (if c < 0 then -c else c) (show(0:Int) < 2147483587 by decide)
   refine q p _ _ hp ?_ (by omega) (by omega)
   generalize (if c < 0 then -c else c) - 10 ^ (18:Int).toNat=d;split <;> omega
  have tail:∀c:Int,∃ (x:V),([some (.ref a),some (.int k),some (.int c)]:St)[2]? = some (some x):=fun c=>⟨_,rfl⟩;refine cG (fun hk=>?_) (fun hk=>?_)
  ·have jA:k < ((ns.map V.int).length:Int):=eT hk
   rw[aE]at jA;obtain⟨z,hz⟩:=Z' (ns:=ns) (i:=k.toNat) (by omega)
   refine⟨_,rfl,_,rfl,a,_,_,_,rfl,rfl,hS,(by rw[show k=((k.toNat:Nat):Int) by omega];exact b9 hz),?_⟩
   refine⟨_,rfl,z,rfl,_,_,rfl,rfl,⟨by decide,by decide,by decide⟩,_,_,rfl,rfl,_,_,rfl,?_⟩
   refine⟨_,rfl,z,rfl,_,_,rfl,rfl,(by show(0:Int) < 2147483587;decide),_,rfl,_,_,rfl,rfl,.inl ⟨by decide,by decide⟩,_,_,rfl,rfl,_,_,rfl,rfl,cH,fun p hp=>fin z p hp⟩
  ·refine⟨_,rfl,0,rfl,_,_,rfl,rfl,⟨by decide,by decide,by decide⟩,_,_,rfl,rfl,_,_,rfl,?_⟩
   refine⟨_,rfl,0,rfl,_,_,rfl,rfl,(by show(0:Int) < 2147483587;decide),_,rfl,_,_,rfl,rfl,.inl ⟨by decide,by decide⟩,_,_,rfl,rfl,_,_,rfl,rfl,cH,fun p hp=>fin 0 p hp⟩
inductive jO (vs:List V) (H:Hp) (Q:VK) (E:XK):Prop
 |mk {p:Addr}{m x y:Int} (_:vs = [.ref p,.int m]) (_:H p=some (.lst [.int x,.int y])) (_:0<=x) (_:0<=y) (_:y < 4294967296) (_:0 < m) (_:m < 4611686018427387904) (_:∀ (d x' y':Int),0<=d->d < m->0<=x'->0<=y'->y' < 4294967296->Q (.int d) (upd H p (.lst [.int x',.int y']))):jO vs H Q E
theorem Ot:bK ["_law_pot_here","_law_many","_law_digit_here"] ["_law_pot_here","_law_many"] (aM xk):=b6
theorem EL (F:a6 K "_law_digit" "_law_digit" xk f fd):a9 P w K mg base aK 1 f fd ["_law_pot_here","_law_many"] jO:=by
 refine F.ok Ot (fun vs H Q E h=>?_) (fun aG A outer s H vs Q E hr h=>?_)
 ·obtain⟨rfl,_⟩:=h;rfl
 ·obtain @⟨p,m,x,y,rfl,hp,x0,y0,y1,m0,m1,q⟩:=h
  refine⟨_,aB (bY (bU O6 (aP bE (pv 0) ao) ao (bz _))
    (aB (aW (i:=2) Ot.nd rfl (Or.inl rfl) (bA t4 (aP bE (pv 0) ao) (pv 1)))
    (aB (tY (bA YF (aP bE (pv 0) ao) (pv 1)) (Fq (pv 0) ao set_list))
    (aN (br (pv 2))))) cf)
   (aB (tY (bA t4 (bA iN (bA AE (aP bE (pv 0) ao) ao) ao) ao) (Fq (pv 0) ao set_list))
   (aN (br (bA t4 (bA Zu (bA t4 (bA AE (aP bE (pv 0) ao) (aP bE (pv 0) ao)) ao) ao) (pv 1))))),?_⟩
  have hl:aj K H p [.int x,.int y]:=aj.of hp;refine⟨_,rfl,p,_,0,_,rfl,rfl,hl,rfl,_,_,rfl,rfl,_,rfl,?_⟩;refine cG (fun hx=>?_) (fun hx=>?_)
  ·refine⟨_,rfl,p,_,0,_,rfl,rfl,hl,rfl,_,rfl,_,_,rfl,rfl,m0,?_⟩
   refine⟨_,rfl,p,_,0,_,rfl,rfl,hl,rfl,_,rfl,_,_,rfl,rfl,⟨m0,by omega⟩,_,rfl,p,_,0,0,rfl,rfl,hp,rfl,?_⟩
   refine⟨_,rfl,?_⟩;exact q _ _ _ (DI _ (by omega)) (DJ _ m0) (Int.ediv_nonneg x0 (by omega)) y0 y1
  ·refine⟨_,rfl,p,_,1,_,rfl,rfl,hl,rfl,_,_,rfl,rfl,.inr ⟨by decide,by decide⟩,_,_,rfl,rfl,_,_,rfl,rfl,(by show(0:Int) < 2147483647;decide),_,rfl,p,_,1,1,rfl,rfl,hp,rfl,?_⟩
   have h1:=DI (y * 39373+20011) (show(2147483647:Int)≠0 by decide)
   have h2:=DJ (y * 39373+20011) (show(0:Int) < 2147483647 by decide)
   refine⟨_,rfl,p,_,1,_,rfl,rfl,aj.of ag,rfl,_,rfl,p,_,1,_,rfl,rfl,aj.of ag,rfl,_,_,rfl,rfl,.inl ⟨Int.lt_of_lt_of_le (by decide) h1,Int.lt_of_lt_of_le h2 (by decide)⟩,_,_,rfl,rfl,(by show(0:Int) < 2147483563;decide),_,_,rfl,rfl,⟨by decide,by decide⟩,_,rfl,_,_,rfl,rfl,m0,?_⟩
   exact q _ x _ (DI _ (by omega)) (DJ _ m0) x0 h1 (by omega)
noncomputable def d9 (p:Addr) (H:Hp):Prop:= ∃x y:Int,H p=some (.lst [.int x,.int y])/\0<=x/\0<=y/\y < 4294967296
structure aY (p:Addr) (H H':Hp):Prop where
 ok:d9 p H'
 kp:∀b o,H b=some o->b≠p->H' b=some o
section
variable{o:HO}
theorem aY.refl (h:d9 p H):aY p H H:=⟨h,fun _ _ e _=>e⟩
theorem aY.trans (a:aY p H H1) (b:aY p H1 H2):aY p H H2:=⟨b.ok,fun c o e n=>b.kp c o (a.kp c o e n) n⟩
theorem d9.ne (h:d9 p H) (hq:H q=none):p≠q:=let ⟨_,_,e,_⟩:=h;aA e hq
theorem aY.new (a:aY p H H1) (hq:H1 q=none):aY p H (upd H1 q o):=by
 refine⟨?_,fun b u e n=>?_⟩
 ·obtain⟨x,y,e,r⟩:=id a.ok
  exact⟨x,y,by rw[ah (a.ok.ne hq)];exact e,r⟩
 ·rw[ah (aA (a.kp b u e n) hq)];exact a.kp b u e n
theorem aY.free (a:aY p H H1) (hq:H1 q=none):H q=none:=by
 cases e:H q with
 |none=>rfl
 |some u =>
  by_cases h:q=p
  ·subst h;obtain⟨_,_,z,_⟩:=a.ok;rw[z]at hq;cases hq
  ·rw[a.kp q u e h]at hq;cases hq
theorem aY.write (a:aY p H H1) (hq:H q=none) (hp:p≠q):aY p H (upd H1 q o):=by
 refine⟨?_,fun b u e n=>?_⟩
 ·obtain⟨x,y,e,r⟩:=id a.ok
  exact⟨x,y,by rw[ah hp];exact e,r⟩
 ·rw[ah (aA e hq)];exact a.kp b u e n
theorem cF {m:Int}{E:XK} (h:d9 p H) (m0:0 < m) (m1:m < 4611686018427387904) (k:∀d H',0<=d->d < m->aY p H H'->Q (.int d) H'):jO [.ref p,.int m] H Q E:=by
 obtain⟨x,y,e,x0,y0,y1⟩:=h;exact⟨rfl,e,x0,y0,y1,m0,m1,fun d x' y' d0 d1 h1 h2 h3=>k d _ d0 d1 ⟨⟨x',y',ag,h1,h2,h3⟩,fun b o z n=>by rw[ah n];exact z⟩⟩
end
theorem M5:∀cs:List Nat,((cs.map sign).map (·.length)).sum=cs.length
 |[]=>rfl
 |c::cs=>by
  have e:(sign c).length=1:=rfl;simp only[ck,LR,M5 cs,cO,e];omega
abbrev qS:Str:= "abcdefghijklmnopqrstuvwxyz"
theorem M6 {d:Int} (h0:0<=d) (h1:d < 26):∃c:Nat,eu qS.cps.toList d=some c/\97<=c/\c<=122/\c=97+d.toNat:=by
 have all:∀i:Nat,i < 26->qS.cps.toList[i]? = some (97+i):=by decide +kernel
 refine⟨97+d.toNat,?_,by omega,by omega,rfl⟩
 rw[show d=((d.toNat:Nat):Int) by omega]
 exact b9 (all d.toNat (by omega))
inductive As (vs:List V) (H:Hp) (Q:VK) (E:XK):Prop
 |mk {p:Addr}{m:Nat} (_:vs = [.ref p,.int m]) (_:d9 p H) (_:m<=20) (_:∀ (l:Addr) (ys:List Str) (H':Hp),H l=none->ys.length=m->(∀y∈ys,Nm y)->ys.Nodup->aY p H H'->H' l=some (.lst (ys.map V.str))->Q (.ref l) H'):As vs H Q E
noncomputable abbrev AM:List Str:= ["_law_pot_here","_law_many","_law_letters","_law_found","_law_k","_law_size","_law_name","_law_some"]
theorem o7:bK AM ["_law_pot_here","_law_many"] (aM nU):=b6
def rh (s:Stmt):List Stmt:=match s with|.If _ b _ _=>b|_=>[]
noncomputable abbrev adL:Scope:=cK (gN (fV (b5 (Ar (b5 (b4 nU) 2)) 1)))
noncomputable abbrev adM:Scope:=cK (fV (b5 (rh (b5 (Ar (b5 (b4 nU) 2)) 2)) 0))
noncomputable abbrev adN:Scope:=cK (adJ (fV (b5 (rh (b5 (Ar (b5 (b4 nU) 2)) 2)) 1)))
theorem Ss:b8 AM (aM nU) ["_law_turn","_law_letters","_law_pot_here"] [none,some 2,some 0] adL:=dH
theorem Su:b8 AM (aM nU) ["_law_turn","_law_letters","_law_name"] [none,some 2,some 6] adM:=dH
theorem Sv:b8 AM (aM nU) ["_law_one","_law_found"] [none,some 3] adN:=dH
theorem Y3 {sA:FuncData} (F:a6 K "_law_names" "_law_names" nU f fd) (B:dY mg) (FD:a6 K "_law_digit" "_law_digit" xk fD sA) (bD:Binds K sA ["_law_pot_here","_law_many"] []) (mD:mg "_law_digit" = some (.ref fD)) :
  a9 P w K mg base aK 3 f fd ["_law_pot_here","_law_many"] As:=by
 have GD:a9 P w K mg base aK 1 fD sA ["_law_pot_here","_law_many"] jO:=EL FD;refine F.ok o7 (fun vs H Q E h=>?_) (fun aG A outer s H vs Q E hr h=>?_)
 ·obtain⟨rfl,_⟩:=h;rfl
 ·obtain @⟨p,m,rfl,hp,m1,q⟩:=h
  have aZ:aV 1 _:=hr.mono (by decide)
  refine⟨_,aB (aW (i:=2) o7.nd rfl (Or.inr rfl) cu)
   (aB (aW (i:=3) o7.nd rfl (Or.inr rfl) (cw af))
   (aB (lj j' rfl (mj rfl B.range (aa (pv 1) af)) (bw (i:=4) o7.nd rfl (Or.inl rfl))
    (aB (aW (i:=5) o7.nd rfl (Or.inl rfl) (bA iN ao (k7 GD aZ rfl mD FD.kp bD .nil jo (aa (pv 0) (aa (aP bE (cw (aa ao (aa ao (aa ao af))))
      (k7 GD aZ rfl mD FD.kp bD .nil jo (aa (pv 0) (aa ao af)))) af)))))
    (aB (aW (i:=6) o7.nd rfl (Or.inr rfl) (mE VY PySem.F.slot_str_join PySem.F.type_str_join ZK cu
      (aa (eV rfl Ss (mj rfl B.range (aa (pv 5) af)) (fun s H fp=>⟨bw (i:=0) Ss.nd rfl (Or.inl rfl),gv,aP OK (pv 1) (k7 GD aZ rfl mD FD.kp bD .nil jo (aa (pv 2) (aa ao af))) (fun _ _=>rfl)⟩)) af)))
    (aB (bY (bU zW (pv 6) (pv 3) rfl)
      (aB (qI (i:=7) rfl Su o7.nd rfl rfl (mj rfl B.range (aa (bA iN (pv 1) ao) af)) (fun s H fp=>⟨bw (i:=0) Su.nd rfl (Or.inl rfl),gv,
        bA zT (bA zT (kY aaW (pv 2) k9 (lg ao)) (aP OK (pv 1) (pv 0))) cu⟩))
      (aN (aW (i:=6) o7.nd rfl (Or.inr rfl) (aP bE (eV rfl Sv (iK (pv 7)) (fun s H fp=>⟨bw (i:=0) Sv.nd rfl (Or.inl rfl),jL (bU (Ml K rfl) (pv 0) (pv 1) rfl),pv 0⟩)) ao))))
      cf)
    (aN (jN (mE tf DG DH tI (pv 3) (aa (pv 6) af))))))))
   (aN (br (pv 3))))),?_⟩
  refine⟨bR _,fun l hl=>?_⟩;have cP:p≠l:=hp.ne hl;have em:((m:Int)).toNat=m:=nK m;refine⟨_,rfl,(m:Int),rfl,by omega,by omega,tH (fun i σ H1=>∃ (ys:List Str) (v4 v5 v6 v7:Option V),σ = [some (.ref p),some (.int m),some (.str qS),some (.ref l),v4,v5,v6,v7]/\ys.length=i/\(∀y∈ys,Nm y)/\ys.Nodup/\aY p H H1/\H1 l=some (.lst (ys.map V.str)))
   ⟨[],none,none,none,none,rfl,rfl,(fun y hy=>by simp at hy),qC,(aY.refl hp).new hl,ag⟩ ?_ ?_⟩
  ·rintro i σ H1 hi ⟨ys,v4,v5,v6,v7,rfl,hlen,gp,gE,pa,iz⟩
   rw[em]at hi;refine⟨_,rfl,oz,fun a hq=>⟨_,rfl,?_⟩⟩;have nqp:a≠p:=ba (pa.ok.ne hq);refine cF (p:=p) (m:=3) ((aY.refl pa.ok).new hq).ok (by decide) (by decide) fun d H2 d0 d1 pb=>?_
   obtain⟨mv,sC,mv0,mv1⟩:∃mv:Int,eu [V.int 1,V.int 2,V.int 8] d=some (V.int mv)/\0 < mv/\mv<=8:=by
    have:d=0\/d=1\/d=2:=by omega
    rcases this with rfl|rfl|rfl
    ·exact⟨1,rfl,by decide,by decide⟩
    ·exact⟨2,rfl,by decide,by decide⟩
    ·exact⟨8,rfl,by decide,by decide⟩
   refine⟨a,_,d,_,rfl,rfl,aj.of (pb.kp a _ ag nqp),sC,?_⟩;refine cF (p:=p) (m:=mv) pb.ok mv0 (by omega) fun e H3 e0 e1 pc=>⟨_,_,rfl,rfl,?_⟩
   have pd:aY p H1 H3:=(((aY.refl pa.ok).new hq).trans pb).trans pc;have m6:H3 l=some (.lst (ys.map V.str)):=pd.kp l _ iz (ba cP);refine⟨rfl,_,rfl,1+e,rfl,by omega,by omega,fun a1 jC=>?_⟩
   have vc:p≠a1:=pc.ok.ne jC;refine wo (fun i zs τ H4=>∃ (cs:List Nat) (t0:Option V),zs=(cs.map sign).map V.str/\cs.length=i/\(∀c∈cs,97<=c/\c<=122)/\τ = [t0,some (.str qS),some (.ref p)]/\aY p H3 H4/\H4 a1=some (.lst zs))
    ⟨[],none,rfl,rfl,(fun c hc=>by simp at hc),rfl,(aY.refl pc.ok).new jC,ag⟩ (fun i zs τ H4 hQ9=>by obtain⟨_,_,_,_,_,_,_,z⟩:=hQ9;exact z) ?_ ?_
   ·rintro j zs τ H4 hj ⟨cs,t0,rfl,hV,Jx,rfl,pe,hz⟩
    refine⟨_,rfl,_,rfl,cF (p:=p) (m:=26) pe.ok (by decide) (by decide) fun d H5 d0 d1 pf=>?_⟩
    obtain⟨c,hc,c0,c1,_⟩:=M6 d0 d1;have Cq:H5 a1=_:=pf.kp a1 _ hz (ba vc);refine⟨qS,d,c,rfl,rfl,(by rw[aQ];decide +kernel),hc,Cq,?_,cw_next hj ⟨cs ++ [c],_,?_,?_,?_,rfl,?_,ag⟩⟩
    ·rw[aE,aE,hV,aQ];omega
    ·rw[bZ,bZ];rfl
    ·rw[fu,hV];rfl
    ·intro x hx
     rcases ff.mp hx with h|h
     ·exact Jx x h
     ·have:x=c:=by simpa using h
      rw[this];exact⟨c0,c1⟩
    ·exact(pe.trans pf).write ((aY.refl pc.ok).free jC) vc
   ·rintro zs τ H4 ⟨cs,t0,rfl,hV,Jx,rfl,pe,hz⟩
    have hsl:((cs.map sign).map (·.length)).sum=cs.length:=by
     exact M5 cs
    refine⟨("" : Str),a1,cs.map sign,rfl,rfl,.inl (aj.of hz),?_,?_⟩
    ·have:(Str.length ("" : Str))=0:=rfl
     rw[hsl,this,hV];omega
    rw[Xb];generalize Qx:(⟨cs.toArray⟩:Str)=nm;have Hx:Nm nm:=by
     have el:nm.length=cs.length:=by rw[<-Qx];show cs.toArray.size=_;simp
     refine⟨by omega,by omega,fun c hc=>Jx c ?_⟩
     rw[<-Qx]at hc;simpa using hc
    have pg:aY p H1 H4:=pd.trans pe;have lQ:H4 l=some (.lst (ys.map V.str)):=pe.kp l _ m6 (ba cP);refine⟨_,rfl,_,rfl,l,_,rfl,.inl (aj.of lQ),rfl,mq _,_,rfl,?_⟩;rw[ax cD,oV];refine cG (fun cx=>?_) (fun cx=>?_)
    ·
     refine⟨_,rfl,_,_,rfl,rfl,(m:Int)+1,rfl,by omega,by omega,fun a2 vj=>?_⟩
     refine wo (fun i zs τ H5=>∃t0:Option V,zs=((List.range i).map fun j=>Txt.slice nm none (some 6)++sign (97+j)++("q" : Str)).map V.str/\τ = [t0,some (.str qS),some (.str nm)]/\H5=upd H4 a2 (.lst zs))
      ⟨none,rfl,rfl,rfl⟩ (fun i zs τ H5 ⟨_,_,_,z⟩=>by rw[z];exact ag) ?_ ?_
     ·rintro j zs τ H5 hj ⟨t0,rfl,rfl,rfl⟩
      have Jk:j < m+1:=by omega
      obtain⟨c,hc,c0,c1,hce⟩:=M6 (d:=0+(j:Int)) (by omega) (by omega)
      have adO:c=97+j:=by rw[hce];omega
      have l1:(Txt.slice nm none (some 6)).length<=6:=Mj nm;refine⟨_,rfl,_,rfl,nm,rfl,by have:=Hx.hi;omega,_,rfl,_,rfl,qS,_,c,rfl,rfl,(by rw[aQ];decide +kernel),hc,_,_,rfl,rfl,?_,_,_,rfl,rfl,?_,ag,?_,cw_next hj ⟨_,?_,rfl,?_⟩⟩
      ·show _+1<=sizeLine;rw[aQ];omega
      ·have e1:(Txt.slice nm none (some 6)++(⟨#[c]⟩:Str)).length=(Txt.slice nm none (some 6)).length+1:=by
        show(_ ++ #[c]:Array Nat).size=_;rw[Ln];rfl
       have e2:(("q" : Str)).length=1:=by decide +kernel
       show(Txt.slice nm none (some 6)++(⟨#[c]⟩:Str)).length+_<=sizeLine;rw[e1,e2,aQ];omega
      ·rw[aE,aE,Dw,aQ];omega
      ·rw[LG,bZ,bZ,adO];rfl
      ·rw[k6]
     ·rintro zs τ H5 ⟨t0,rfl,rfl,rfl⟩
      have em1:((m:Int)+1).toNat=m+1:=by omega
      generalize d7:(List.range ((m:Int)+1).toNat).map (fun j=>Txt.slice nm none (some 6)++sign (97+j)++("q" : Str))=cands;have cnd:cands.Nodup:=by
       rw[<-d7];refine List.Pairwise.map _ (fun a b Sq h=>Sq ?_) List.nodup_range;have:=Yw h;omega
      have cnm:∀y∈cands,Nm y:=by
       intro y hy;rw[<-d7]at hy;obtain⟨j,hj,rfl⟩:=bT.mp hy;have:=kO.mp hj;exact ZL Hx.az ⟨by omega,by omega⟩
      have anp:cands.length=m+1:=by rw[<-d7,aE,Dw,em1]
      have Cr:upd H4 a2 (.lst (cands.map V.str)) l=some (.lst (ys.map V.str)):=by rw[ah (aA lQ vj)];exact lQ
      refine⟨_,rfl,a2,rfl,⟨_,aj.of ag⟩,fun a3 m8=>?_⟩;refine i4 (xs:=cands.map V.str) (fun i zs τ H6=>∃t0:Option V,zs=((cands.take i).filter (fun y=>!decide (y∈ys))).map V.str/\τ = [t0,some (.ref l)]/\H6=upd (upd H4 a2 (.lst (cands.map V.str))) a3 (.lst zs))
       ⟨none,rfl,rfl,rfl⟩ (fun i zs τ H6 ⟨_,_,_,z⟩=>by rw[z];exact⟨ag,aj.of (by rw[ah (aA ag m8)];exact ag)⟩) ?_ ?_
      ·rintro j x zs τ H6 hx ⟨t0,rfl,rfl,rfl⟩
       rw[eK]at hx;obtain⟨y,hy,rfl⟩:=kW.mp hx;have bX:j < (cands.map V.str).length:=by rw[aE];exact(cz.mp hy).1
       have tk:cands.take (j+1)=cands.take j ++ [y]:=by rw[dg,hy];rfl
       have qe:(upd (upd H4 a2 (.lst (cands.map V.str))) a3 (.lst (((cands.take j).filter (fun y=>!decide (y∈ys))).map V.str))) l=some (.lst (ys.map V.str)):=by rw[ah (aA Cr m8)];exact Cr
       refine⟨_,rfl,_,rfl,l,_,rfl,.inl (aj.of qe),rfl,mq _,_,rfl,?_⟩;rw[aF rfl,oV];refine cG (fun hn=>?_) (fun hn=>?_)
       ·refine⟨_,rfl,ag,?_,cw_next bX ⟨_,?_,rfl,?_⟩⟩
        ·have h1:=jJ (fun y=>!decide (y∈ys)) (cands.take j)
         have h2:(cands.take j).length<=cands.length:=by rw[cT];omega
         rw[aE,aQ];omega
        ·rw[tk,jK,bZ,DK,aF hn];rfl
        ·rw[k6]
       ·refine cw_next bX ⟨_,?_,rfl,rfl⟩
        rw[tk,jK,DK,ax hn,List.filter_nil,kS]
      ·rintro zs τ H6 ⟨t0,rfl,rfl,rfl⟩
       rw[aE,cQ];obtain⟨y0,hy0,hyn⟩:=Fv (found:=ys) cnd (by omega)
       have jt:y0∈cands.filter (fun y=>!decide (y∈ys)):=f6.mpr ⟨hy0,by simpa using hyn⟩
       cases hf:cands.filter (fun y=>!decide (y∈ys)) with
       |nil=>rw[hf]at jt;simp at jt
       |cons z1 zr =>
        have hz1:z1∈cands.filter (fun y=>!decide (y∈ys)):=by rw[hf];exact bu
        obtain⟨zc,zn⟩:=f6.mp hz1;have zn':z1 ∉ ys:=by simpa using zn
        have qe:(upd (upd H4 a2 (.lst (cands.map V.str))) a3 (.lst ((z1::zr).map V.str))) l=some (.lst (ys.map V.str)):=by rw[ah (aA Cr m8)];exact Cr
        have ph:aY p H (upd (upd H4 a2 (.lst (cands.map V.str))) a3 (.lst ((z1::zr).map V.str))):=((pa.trans pg).new vj).new m8;refine⟨a3,_,0,V.str z1,rfl,rfl,aj.of ag,(show eu ((z1::zr).map V.str) ((0:Nat):Int)=some (V.str z1) from b9 rfl),?_⟩;refine⟨_,rfl,.inl ⟨rfl,_,aj.of qe⟩,_,rfl,l,_,_,rfl,rfl,qe,?_,?_⟩
        ·rw[aE,aQ];omega
        ·refine⟨ys ++ [z1],_,_,_,_,rfl,by rw[fu,hlen];rfl,?_,?_,?_,?_⟩
         ·intro y hy
          rcases ff.mp hy with h|h
          ·exact gp y h
          ·have:y=z1:=by simpa using h
           rw[this];exact cnm z1 zc
         ·rw[l9]
          exact⟨gE,by simp,fun a ha b hb=>by rw[show b=z1 by simpa using hb];exact fun h=>zn' (h ▸ ha)⟩
         ·exact ph.write hl cP
         ·rw[ag,bZ];rfl
    ·have mX:nm ∉ ys:=by simpa using cx
     have ph:aY p H H4:=pa.trans pg;refine⟨_,rfl,.inl ⟨rfl,_,aj.of lQ⟩,_,rfl,l,_,_,rfl,rfl,lQ,?_,?_⟩
     ·rw[aE,aQ];omega
     ·refine⟨ys ++ [nm],_,_,_,_,rfl,by rw[fu,hlen];rfl,?_,?_,?_,?_⟩
      ·intro y hy
       rcases ff.mp hy with h|h
       ·exact gp y h
       ·have:y=nm:=by simpa using h
        rw[this];exact Hx
      ·rw[l9]
       exact⟨gE,by simp,fun a ha b hb=>by rw[show b=nm by simpa using hb];exact fun h=>mX (h ▸ ha)⟩
      ·exact ph.write hl cP
      ·rw[ag,bZ];rfl
  ·rintro σ H1 ⟨ys,v4,v5,v6,v7,rfl,hlen,gp,gE,pa,iz⟩
   rw[em]at hlen;exact⟨_,rfl,q l ys H1 hl hlen gp gE pa iz⟩
end df
namespace df
open PySem L2 PySem.W HT
theorem WU (K:Frag) (h:X.K=K):d5 X (.type "list") (fun xs H Q=>∃p ys,xs = [.ref p]/\(aj K H p ys\/aJ K H p ys) /\ ∀l,H l=none->Q (.ref l) (upd H l (.lst ys))):=by subst h;exact wg
theorem WV (K:Frag) (h:X.K=K) (hc:X.calm=true):d5 X (.builtin "any") (fun xs H Q=>∃ (p:Addr) (bs:List Bool),xs = [.ref p]/\aj K H p (bs.map V.bl)/\Q (.bl (bs.any id)) H):=by subst h;exact z5 hc
theorem X7 (K:Frag) (h:X.K=K):uW X (Qb K):=by subst h;exact oZ
noncomputable def jq (av:Addr->Prop) (H:Hp) (vs:List V) (rows:List (List Str)):Prop:=Paired (fun y r=>∃a,y=V.ref a/\av a/\H a=some (.lst (r.map V.str))) vs rows
theorem tK {av:Addr->Prop}{H:Hp}:∀ {vs:List V}{rows:List (List Str)}{i:Nat}{v:V},jq av H vs rows->vs[i]? = some v -> ∃a r,v=V.ref a/\rows[i]? = some r/\av a/\H a=some (.lst (r.map V.str))
 |_,_,i,v,.nil,e=>by simp at e
 |_,_,0,v,.cons p _,e=>by
  obtain⟨a,rfl,n,q⟩:=p;simp at e;subst e;exact⟨a,_,rfl,rfl,n,q⟩
 |_,_,i+1,v,.cons _ t,e=>by
  obtain⟨a,r,e1,e2,n,q⟩:=tK (i:=i) t (by simpa using e)
  exact⟨a,r,e1,by simpa using e2,n,q⟩
theorem oT {Sx:Addr->Prop} (h:jq av H vs rows) (f:∀a xs,av a->H a=some (.lst xs)->Sx a/\H' a=some (.lst xs)):jq Sx H' vs rows:=
 Paired.imp' (fun _ _ hQ9=>by obtain⟨a,e,n,q⟩:=hQ9;exact ⟨a,e,(f a _ n q).1,(f a _ n q).2⟩) h
theorem DT (h:jq av H vs rows) (n:av a) (q:H a=some (.lst (r.map V.str))):jq av H (vs ++ [.ref a]) (rows ++ [r]):=oS h ⟨a,rfl,n,q⟩
theorem qH (h:jq av H vs rows):vs.length=rows.length:=gV h
theorem pA (h:Nm x):PyData.strOk x=true:=by
 unfold PyData.strOk;rw[<-Array.all_toList,j8];intro c hc;have:=(h.az c hc).2;exact cm (by omega)
theorem qO (H:Hp):∀xs:List Str,cB H (xs.map V.str) (xs.map PyData.str)
 |[]=>.nil
 |x::xs=>.cons (.str x) (qO H xs)
theorem qP:∀ {xs:List Str},(∀x∈xs,Nm x)->PyData.canLayAll0 (xs.map PyData.str)=true
 |[],_=>rfl
 |x::xs,h=>by
  show(PyData.strOk x && PyData.canLayAll0 (xs.map PyData.str))=true;rw[pA (h x bu),qP fun y hy=>h y (bO _ hy)];rfl
theorem wq:∀xs:List Str,PyData.depthAll (xs.map PyData.str)=0
 |[]=>rfl
 |x::xs=>by rw[ck];simp only[PyData.depthAll,PyData.depth,wq xs,Nat.max_self]
theorem ne_nil {xs:List Str} (ha:H a=some (.lst (xs.map V.str))) (hb:H b=some (.lst [])) (hn:∀x∈xs,Nm x) (q:Q (.bl (!xs.isEmpty)) H):Qh (.ref a) (.ref b) H Q:=by
 refine⟨.list (xs.map PyData.str),.list [],.lst ha (qO _ _),.lst hb .nil,qP hn,rfl,by show PyData.depthAll _+1<=60;rw[wq];decide,?_⟩
 cases xs with
 |nil=>exact q
 |cons x xs=>exact q
theorem eq_nil {xs:List Str} (ha:H a=some (.lst (xs.map V.str))) (hb:H b=some (.lst [])) (hn:∀x∈xs,Nm x) (q:Q (.bl xs.isEmpty) H):Qg (.ref a) (.ref b) H Q:=by
 refine⟨.list (xs.map PyData.str),.list [],.lst ha (qO _ _),.lst hb .nil,qP hn,rfl,by show PyData.depthAll _+1<=60;rw[wq];decide,?_⟩
 cases xs with
 |nil=>exact q
 |cons x xs=>exact q
theorem tP (xs:List V) (k:Nat):gg xs (some (k:Int)) none=xs.drop k:=by
 unfold gg;rw[HT.Yr,HT.ZA]
 by_cases h:k<=xs.length
 ·rw[Nat.min_eq_left h,LS (by rw[sT];omega)]
 ·rw[Nat.min_eq_right (by omega),VX,amo (by omega)];simp
def busy (rest:List (List Str)) (x:Str):Bool:=rest.any fun o=>decide (x∈o.drop 1)
def c9 (all:List (List Str)):List (List Str)->List Str
 |[]=>[]
 |[]::rest=>c9 all rest
 |(x::_)::rest=>if busy all x then c9 all rest else x::c9 all rest
theorem z7 {n:Str}:∀ {k:Nat}{rest:List (List Str)},eU k rest n=none ↔ ∀r∈rest,n∈r->r.head? = some n
 |k,[]=>by simp[eU]
 |k,[]::rest=>by
  show eU (k+1) rest n=none ↔ _;rw[z7 (k:=k+1) (rest:=rest)];simp
 |k,(x::r)::rest=>by
  show(if n∈x::r/\x≠n then some (k,x) else eU (k+1) rest n)=none ↔ _
  by_cases h:n∈x::r/\x≠n
  ·rw[aF h]
   constructor
   ·intro z;cases z
   ·intro z
    have:=z _ bu h.1;exact absurd (by simpa using this) h.2
  ·rw[ax h,z7 (k:=k+1) (rest:=rest)]
   constructor
   ·intro z q hq hn
    rcases bH.mp hq with rfl|hq
    ·by_cases e:x=n
     ·rw[e];rfl
     ·exact absurd ⟨hn,e⟩ h
    ·exact z q hq hn
   ·exact fun z q hq=>z q (bO _ hq)
theorem NP {all:List (List Str)} (gE:∀r∈all,r.Nodup) (x:Str):busy all x=false ↔ eU 0 all x=none:=by
 rw[z7];unfold busy;rw[Vh]
 constructor
 ·intro h q hq hx
  have h1:=h q hq;cases q with
  |nil=>simp at hx
  |cons y t =>
   rcases bH.mp hx with rfl|hx
   ·rfl
   ·exact absurd (by simpa using hx) h1
 ·intro h r hr
  cases r with
  |nil=>simp
  |cons y t =>
   intro hx;have hx:x∈t:=by simpa using hx
   obtain rfl:y=x:=by simpa using h _ hr (bO _ hx)
   exact(iZ.mp (gE _ hr)).1 hx
theorem Ea {all:List (List Str)} (gE:∀r∈all,r.Nodup):∀rest:List (List Str),(c9 all rest).head? = kZ all rest
 |[]=>rfl
 |[]::rest=>Ea gE rest
 |(x::t)::rest=>by
  show(if busy all x then c9 all rest else x::c9 all rest).head? = if (eU 0 all x).isNone then some x else kZ all rest;cases hb:busy all x with
  |false=>rw[(NP gE x).mp hb];rfl
  |true =>
   have hn:(eU 0 all x).isNone=false:=by
    cases z:eU 0 all x with
    |none=>rw[(NP gE x).mpr z]at hb;cases hb
    |some _=>rfl
   rw[hn];exact Ea gE rest
theorem wt (all:List (List Str)) (r:List Str):∀rest:List (List Str),c9 all (rest ++ [r])=c9 all rest++c9 all [r]
 |[]=>rfl
 |[]::rest=>wt all r rest
 |(x::t)::rest=>by
  show(if busy all x then c9 all (rest ++ [r]) else x::c9 all (rest ++ [r]))=(if busy all x then c9 all rest else x::c9 all rest)++c9 all [r];rw[wt all r rest];split <;> rfl
theorem Em (all:List (List Str)):∀rest:List (List Str),(c9 all rest).length<=rest.length
 |[]=>aO _
 |[]::rest=>Nat.le_succ_of_le (Em all rest)
 |(x::t)::rest=>by
  have:=Em all rest;show(if busy all x then c9 all rest else x::c9 all rest).length<=rest.length+1;split
  ·omega
  ·rw[cO];omega
theorem z8 {all:List (List Str)}{n:Str}:∀ {rest:List (List Str)},n∈c9 all rest -> ∃r∈rest,n∈r
 |[],h=>by simp[c9]at h
 |[]::rest,h=>let ⟨r,hr,e⟩:=z8 (rest:=rest) h;⟨r,bO _ hr,e⟩
 |(x::t)::rest,h=>by
  have h:n∈(if busy all x then c9 all rest else x::c9 all rest):=h;split at h
  ·obtain⟨r,hr,e⟩:=z8 (rest:=rest) h
   exact⟨r,bO _ hr,e⟩
  ·rcases bH.mp h with rfl|h
   ·exact⟨_,bu,bu⟩
   ·obtain⟨r,hr,e⟩:=z8 (rest:=rest) h
    exact⟨r,bO _ hr,e⟩
theorem Mu (h:∀r∈rest,r.Nodup):∀r∈L2.without n rest,r.Nodup:=by
 intro r hr;obtain⟨q,hq,rfl⟩:=bT.mp hr;exact(h q hq).filter _
structure Qy (H:Hp) (rows:List (List Str)) (l fa:Addr) (m:Nat) (σ:St) (H1:Hp) (rest:List (List Str)) (lv:List V) (acc:List Str) (la:Addr):Prop where
 st:∃v3:Option V,σ = [some (.ref l),some (.ref la),some (.ref fa),v3]
 mm:m=total rest
 eG:H1 la=some (.lst lv)
 rr:jq (fun a=>a≠fa) H1 lv rest
 ne:la≠fa
 kH:H1 fa=some (.lst (acc.map V.str))
 sm:Small rest
 nd:∀r∈rest,r.Nodup
 same:aq H H1
 lim:acc.length+total rest<=1000
 eq:cJ (total rows) rows=(cJ (total rest) rest).map (acc ++ ·)
noncomputable abbrev yQ:List Str:= ["_law_rows","_law_left","_law_found","_law_free"]
theorem xX:bK yQ ["_law_rows"] (aM mr):=b6
def X8 (s:Stmt):Expr:=match s with|.While t _ _ _=>t|_=>.Constant .none 0 ⟨0,0,0,0⟩
def OS (e:Expr):Expr:=match e with|.ListComp _ (⟨_,_,i::_,_⟩::_) _ _=>i|_=>.Constant .none 0 ⟨0,0,0,0⟩
def abe (e:Expr) (i:Nat):Expr:=match e with|.BoolOp _ es _=>es.getD i (.Constant .none 0 ⟨0,0,0,0⟩)|_=>.Constant .none 0 ⟨0,0,0,0⟩
def adP (e:Expr):Expr:=match e with|.UnaryOp _ x _=>x|_=>.Constant .none 0 ⟨0,0,0,0⟩
noncomputable abbrev sW:Stmt:=b5 (b4 mr) 2
noncomputable abbrev eA:Expr:=fV (b5 (b4 mr) 0)
noncomputable abbrev eB:Expr:=gN (X8 sW)
noncomputable abbrev eC:Expr:=fV (b5 (wG sW) 0)
noncomputable abbrev eD:Expr:=gN (adP (abe (OS eC) 1))
noncomputable abbrev eE:Expr:=fV (b5 (wG sW) 3)
theorem Sy:b8 yQ (aM mr) ["_law_row"] [none] (cK eA):=dH
theorem SA:b8 yQ (aM mr) ["_law_row"] [none] (cK eB):=dH
theorem SH:b8 yQ (aM mr) ["_law_row","_law_left"] [none,some 1] (cK eC):=dH
theorem csD:b8 ["_law_row","_law_left"] (relabel (cK eC) env) ["_law_other","_law_row"] [none,some 0] (cK eD):=nest rfl (by decide +kernel) (by decide +kernel) rfl (by decide +kernel) (by decide +kernel)
theorem Jy:(["_law_other","_law_row"]:List Str).Nodup:=by decide +kernel
theorem SI:b8 yQ (aM mr) ["_law_row","_law_free"] [none,some 3] (cK eE):=dH
theorem csG:b8 ["_law_row","_law_free"] (relabel (cK eE) env) ["_law_name","_law_free"] [none,some 1] (cK (Gm eE)):=nest rfl (by decide +kernel) (by decide +kernel) rfl (by decide +kernel) (by decide +kernel)
theorem ndG:(["_law_name","_law_free"]:List Str).Nodup:=by decide +kernel
inductive Bt (vs:List V) (H:Hp) (Q:VK) (E:XK):Prop
 |mk {l:Addr}{ws:List V}{rows:List (List Str)} (_:vs = [.ref l]) (_:H l=some (.lst ws)) (_:jq (fun _=>True) H ws rows) (_:Small rows) (_:(∀r∈rows,r.Nodup)) (_:(cJ (total rows) rows=none -> ∀H',aq H H'->Q .aI H')) (_:(∀o,cJ (total rows) rows=some o -> ∀p H',H p=none->aq H H'->H' p=some (.lst (o.map V.str))->Q (.ref p) H')):Bt vs H Q E
theorem acs (F:a6 K "_law_merged" "_law_merged" mr f fd) (B:dY mg):a9 P w K mg base aK 1 f fd ["_law_rows"] Bt:=by
 refine F.ok xX (fun vs H Q E h=>?_) (fun aG A outer s H vs Q E hr h=>?_)
 ·obtain⟨rfl,_⟩:=h;rfl
 ·obtain @⟨l,ws,rows,rfl,hl,hR,hS,gE,qn,qs⟩:=h
  have hu:=hr.units;refine⟨_,aB (aW (i:=1) xX.nd rfl (Or.inr rfl) (eV rfl Sy (iK (pv 0)) (fun s H fp=>⟨bw (i:=0) Sy.nd rfl (Or.inl rfl),gv,f' (WU K rfl) rfl B.list boot_list (aa (pv 0) af)⟩)))
   (aB (aW (i:=2) xX.nd rfl (Or.inl rfl) (cw af))
   (aB (Eu j' (wJ (bJ (z5 rfl) rfl B.any boot_any (aa (eV rfl SA (iK (pv 1)) (fun s H fp=>⟨bw (i:=0) SA.nd rfl (Or.inl rfl),gv,gx (t5 hu) (pv 0) (cw af) (bz _)⟩)) af)) (fun _=>rfl))
    (aB (aW (i:=3) xX.nd rfl (Or.inr rfl) (eV rfl SH (iK (pv 1)) (fun s H fp=>⟨bw (i:=0) SH.nd rfl (Or.inr rfl),
      jL (PW.pt (pw_and (bU (t5 hu) (pv 0) (cw af) (bz _)) (pw_and1 (lh (i7 (bJ (WV K rfl rfl) rfl B.any boot_any (aa (eV rfl csD (Eg K rfl (pv 1)) (fun s H fp=>⟨bw (i:=0) Jy rfl (Or.inl rfl),gv,gx (wW K rfl) (aP (gX K rfl) (pv 1) ao) (kY (X7 K rfl) (pv 0) (lg ao) k9) rfl⟩)) af))))))),
      aP (gX K rfl) (pv 0) ao (fun _ _=>rfl)⟩)))
    (aB (bY (bU (AI hu) (pv 3) (cw af) (bz _)) (aN (br i6)) cf)
    (aB (jN (mE tf DG DH tI (pv 2) (aa (aP bE (pv 3) ao) af)))
    (aN (aW (i:=1) xX.nd rfl (Or.inr rfl) (eV rfl SI (iK (pv 1)) (fun s H fp=>⟨bw (i:=0) SI.nd rfl (Or.inl rfl),gv,
      eV rfl csG (Eg K rfl (pv 0)) (fun s H fp=>⟨bw (i:=0) ndG rfl (Or.inl rfl),jL (bU xr (pv 0) (aP (gX K rfl) (pv 1) ao) (bz _)),pv 0⟩)⟩))))))))
   (aN (br (pv 2))))),?_⟩
  refine⟨_,rfl,l,rfl,⟨_,aj.of hl⟩,fun Cs eN=>?_⟩;refine i4 (xs:=ws) (fun i ys τ H1=>∃t0:Option V,τ = [t0]/\H1 Cs=some (.lst ys)/\aq H H1/\jq (fun a=>a≠Cs) H1 ys (rows.take i)) ⟨none,rfl,ag,ay eN,.nil⟩ (fun i ys τ H1 hQ9=>by obtain⟨_,_,z1,z2,_⟩:=hQ9;exact ⟨z1,aj.of (z2 _ _ hl)⟩) ?_ ?_
  ·rintro i x ys τ H1 hx ⟨t0,rfl,h1,S1,yR⟩
   obtain⟨a,r,rfl,iB,_,hZ⟩:=tK hR hx;have aT:i < ws.length:=(cz.mp hx).1;have tk:rows.take (i+1)=rows.take i ++ [r]:=by rw[dg,iB];rfl
   refine⟨_,rfl,a,_,rfl,.inl (aj.of (S1 _ _ hZ)),fun c hc=>?_⟩;have Sc:=ay (o:= .lst (r.map V.str)) hc;have SJ:c≠Cs:=ba (aA h1 hc);refine⟨Sc _ _ h1,?_,cw_next aT ⟨_,rfl,ag,fun b o hb=>?_,?_⟩⟩
   ·have h2:=qH yR
    have h3:=hS.bV;rw[cT]at h2;rw[aQ];omega
   ·rw[ah (aA hb eN)];exact Sc _ _ (S1 b o hb)
   ·rw[tk]
    refine DT (oT yR fun b xs nb hb=>⟨nb,by rw[ah nb];exact Sc _ _ hb⟩) SJ ?_
    rw[ah SJ];exact ag
  ·rintro lv0 τ H1 ⟨t0,rfl,h1,S1,yR⟩
   rw[qH hR,cQ]at yR;refine⟨bR _,fun fa kH=>?_⟩;have Sf:=ay (o:= .lst []) kH;have uI:H fa=none:=S1.free kH;refine⟨fun m σ H2=>∃rest lv acc la,Qy H rows l fa m σ H2 rest lv acc la,⟨_,rows,lv0,[],Cs,⟨none,rfl⟩,rfl,Sf _ _ h1,oT yR fun b xs nb hb=>⟨aA hb kH,Sf _ _ hb⟩,aA h1 kH,ag,hS,gE,S1.trans Sf,by have:=zS hS.short;have:=hS.bV;simp only[sX];omega,by cases cJ (total rows) rows <;> rfl⟩,?_⟩
   rintro m σ H2 ⟨rest,lv,acc,la,R⟩;obtain⟨v3,rfl⟩:=R.st;refine⟨_,rfl,la,rfl,⟨_,aj.of R.eG⟩,fun pb SK=>?_⟩;refine i4 (xs:=lv) (fun i ys τ H3=>∃t0:Option V,τ = [t0]/\ys=((rest.take i).map fun r=>!r.isEmpty).map V.bl/\H3 pb=some (.lst ys)/\aq H2 H3) ⟨none,rfl,rfl,ag,ay SK⟩ (fun i ys τ H3 hQ9=>by obtain⟨_,_,_,z1,z2⟩:=hQ9;exact ⟨z1,aj.of (z2 _ _ R.eG)⟩) ?_ ?_
   ·rintro i x ys τ H3 hx ⟨t0,rfl,rfl,h3,S3⟩
    obtain⟨a,r,rfl,iB,_,hZ⟩:=tK R.rr hx;have aT:i < lv.length:=(cz.mp hx).1;have tk:rest.take (i+1)=rest.take i ++ [r]:=by rw[dg,iB];rfl
    have yS:=jH iB;refine⟨_,rfl,bR _,fun z hz=>?_⟩;have Sz:=ay (o:= .lst []) hz;refine ne_nil (Sz _ _ (S3 _ _ hZ)) ag (R.sm.nm r yS) ?_;refine⟨Sz _ _ h3,?_,cw_next aT ⟨_,rfl,by rw[tk,bZ,bZ];rfl,ag,fun b o hb=>by rw[ah (aA hb SK)];exact Sz _ _ (S3 b o hb)⟩⟩
    have h4:=R.sm.bV;rw[aE,aE,cT,aQ];omega
   ·rintro bs τ H3 ⟨t0,rfl,rfl,h3,S3⟩
    rw[qH R.rr,cQ]at h3;refine⟨pb,_,rfl,aj.of h3,_,rfl,?_⟩;have ean:((rest.map fun r=>!r.isEmpty).any id)=rest.any fun r=>!r.isEmpty:=by rw[Lo];rfl
    rw[ean];have lD:=S3 _ _ R.eG;have uJ:=S3 _ _ R.kH;have yT:jq (fun a=>a≠fa) H3 lv rest:=oT R.rr fun b xs nb hb=>⟨nb,S3 _ _ hb⟩;have SM:=R.same.trans S3;refine cG (fun hA=>?_) (fun hA=>?_)
    ·refine⟨fun aS H'=>∃m',m' < m /\ ∃rest lv acc la,Qy H rows l fa m' aS H' rest lv acc la,fun _ _ z=>z,?_⟩
     refine⟨_,rfl,la,rfl,⟨_,aj.of lD⟩,fun pc Jz=>?_⟩;refine i4 (xs:=lv) (fun i ys τ H4=>∃t0:Option V,τ = [t0,some (.ref la)]/\ys=(c9 rest (rest.take i)).map V.str/\H4 pc=some (.lst ys)/\aq H3 H4) ⟨none,rfl,rfl,ag,ay Jz⟩ (fun i ys τ H4 hQ9=>by obtain⟨_,_,_,z1,z2⟩:=hQ9;exact ⟨z1,aj.of (z2 _ _ lD)⟩) ?_ ?_
     ·rintro i x ys τ H4 hx ⟨t0,rfl,rfl,h4,S4⟩
      obtain⟨a,r,rfl,iB,_,hZ⟩:=tK yT hx;have aT:i < lv.length:=(cz.mp hx).1;have tk:rest.take (i+1)=rest.take i ++ [r]:=by rw[dg,iB];rfl
      have yS:=jH iB;have Qz:=S4 _ _ hZ;refine⟨_,rfl,bR _,fun z hz=>?_⟩;have Sz:=ay (o:= .lst []) hz;refine ne_nil (Sz _ _ Qz) ag (R.sm.nm r yS) ⟨_,rfl,?_⟩;have h5:=Sz _ _ h4;cases r with
      |nil=>exact cw_next aT ⟨_,rfl,by rw[tk,wt];show _=(_ ++ []).map _;rw[kS],h5,S4.trans Sz⟩
      |cons y t =>
       refine⟨_,rfl,la,rfl,⟨_,aj.of (Sz _ _ (S4 _ _ lD))⟩,fun pd yU=>?_⟩;have JA:pc≠pd:=aA h5 yU;refine i4 (xs:=lv) (fun j ys τ H6=>∃t1:Option V,τ = [t1,some (.ref a)]/\ys=((rest.take j).map fun o=>decide (y∈o.drop 1)).map V.bl/\H6 pd=some (.lst ys)/\aq (upd H4 z (.lst [])) H6) ⟨none,rfl,rfl,ag,ay yU⟩ (fun j ys τ H6 hQ9=>by obtain⟨_,_,_,z1,z2⟩:=hQ9;exact ⟨z1,aj.of (z2 _ _ (Sz _ _ (S4 _ _ lD)))⟩) ?_ ?_
       ·rintro j x ys τ H6 SN ⟨t1,rfl,rfl,h6,S6⟩
        obtain⟨b,o,rfl,hoj,_,hob⟩:=tK yT SN;have bX:j < lv.length:=(cz.mp SN).1;have iC:rest.take (j+1)=rest.take j ++ [o]:=by rw[dg,hoj];rfl
        have SO:=S4.trans (Sz.trans S6);refine⟨_,rfl,a,_,0,.str y,rfl,rfl,aj.of (SO _ _ hZ),qd,?_⟩;refine⟨_,rfl,_,rfl,b,_,rfl,aj.of (SO _ _ hob),fun p2 kC=>?_⟩;have ec:gg (o.map V.str) (some 1) none=(o.drop 1).map V.str:=by
         rw[show(1:Int)=((1:Nat):Int) from rfl,tP,zO]
        rw[ec];have S7:=ay (o:= .lst ((o.drop 1).map V.str)) kC;refine⟨p2,_,rfl,.inl (aj.of ag),rfl,mq _,?_⟩;rw[ax cD,oV];refine⟨S7 _ _ h6,?_,cw_next bX ⟨_,rfl,by rw[iC,bZ,bZ];rfl,ag,fun c u hc=>by rw[ah (aA hc yU)];exact S7 _ _ (S6 c u hc)⟩⟩
        have h8:=R.sm.bV;rw[aE,aE,cT,aQ];omega
       ·rintro bs2 τ H6 ⟨t1,rfl,rfl,h6,S6⟩
        rw[qH yT,cQ]at h6;refine⟨pd,_,rfl,aj.of h6,_,rfl,?_⟩;have eb:((rest.map fun o=>decide (y∈o.drop 1)).any id)=busy rest y:=by unfold busy;rw[Lo];rfl
        rw[eb];have JB:=Sz.trans S6;cases hb:busy rest y with
        |true =>
         refine cw_next aT ⟨_,rfl,?_,S6 _ _ h5,S4.trans JB⟩;rw[tk,wt];show _=(_++(if busy rest y then c9 rest [] else y::c9 rest [])).map _;rw[hb];show _=(_ ++ []).map _;rw[kS]
        |false =>
         refine⟨_,rfl,a,_,0,.str y,rfl,rfl,aj.of (JB _ _ Qz),qd,S6 _ _ h5,?_,cw_next aT ⟨_,rfl,?_,ag,fun c u hc=>by rw[ah (aA hc Jz)];exact JB _ _ (S4 c u hc)⟩⟩
         ·have h8:=Em rest (rest.take i)
          have h9:=R.sm.bV;rw[cT]at h8;rw[aE,aQ];omega
         ·rw[tk,wt]
          show _=(_++(if busy rest y then c9 rest [] else y::c9 rest [])).map _;rw[hb,bZ];rfl
     ·rintro fr τ H4 ⟨t0,rfl,rfl,h4,S4⟩
      rw[qH yT,cQ]at h4;have SQ:∀x∈c9 rest rest,Nm x:=fun x hx=>by
       obtain⟨r,hr,e⟩:=z8 hx;exact R.sm.nm r hr x e
      have hfh:=Ea R.nd rest;refine⟨_,rfl,bR _,fun z hz=>?_⟩;have Sz:=ay (o:= .lst []) hz;refine eq_nil (Sz _ _ h4) ag SQ ⟨_,rfl,?_⟩;have Ct:iJ rest=(c9 rest rest).head?:=hfh.symm;have JC:=SM.trans (S4.trans Sz);have h5:=Sz _ _ h4;have QC:=Sz _ _ (S4 _ _ lD);have Hy:=Sz _ _ (S4 _ _ uJ);generalize c9 rest rest=fr at Ct h5 SQ ⊢;cases fr with
      |nil =>
       refine qn ?_ _ JC;rw[R.eq,D6 hA Ct];rfl
      |cons n ft =>
       have e:iJ rest=some n:=Ct;have lt:=tq (tJ e);generalize hG:upd H4 z (.lst [])=G at JC h5 QC Hy Sz ⊢;have rrG:jq (fun a=>a≠fa) G lv rest:=oT yT fun b xs nb hb=>⟨nb,Sz _ _ (S4 _ _ hb)⟩;refine⟨_,rfl,.inl ⟨rfl,_,aj.of Hy⟩,_,rfl,pc,_,0,.str n,rfl,rfl,aj.of h5,qd,fa,_,_,rfl,rfl,Hy,by have:=R.lim;rw[aE,aQ];omega,?_⟩
       have vq:pc≠fa:=ba (aA uJ Jz);have h6:(upd G fa (.lst (acc.map V.str ++ [.str n]))) pc=some (.lst ((n::ft).map V.str)):=by rw[ah vq];exact h5
       have rP:(upd G fa (.lst (acc.map V.str ++ [.str n]))) la=some (.lst lv):=by rw[ah R.ne];exact QC
       have Bu:(upd G fa (.lst (acc.map V.str ++ [.str n]))) fa=some (.lst ((acc ++ [n]).map V.str)):=by rw[ag,bZ];rfl
       have SR:aq H (upd G fa (.lst (acc.map V.str ++ [.str n]))):=fun b o hb=>by rw[ah (aA hb uI)];exact JC b o hb
       have JD:jq (fun a=>a≠fa) (upd G fa (.lst (acc.map V.str ++ [.str n]))) lv rest:=oT rrG fun b xs nb hb=>⟨nb,by rw[ah nb];exact hb⟩
       generalize upd G fa (.lst (acc.map V.str ++ [.str n]))=G6 at h6 rP Bu SR JD ⊢;refine⟨_,rfl,la,rfl,⟨_,aj.of rP⟩,fun le hle=>?_⟩;have nle:le≠fa:=ba (aA Bu hle);refine i4 (xs:=lv) (fun i ys τ H7=>∃t0:Option V,τ = [t0,some (.ref pc)]/\H7 le=some (.lst ys)/\aq G6 H7/\jq (fun a=>a≠fa/\a≠le) H7 ys (L2.without n (rest.take i))) ⟨none,rfl,ag,ay hle,.nil⟩ (fun i ys τ H7 hQ9=>by obtain⟨_,_,z1,z2,_⟩:=hQ9;exact ⟨z1,aj.of (z2 _ _ rP)⟩) ?_ ?_
       ·rintro i x ys τ H7 hx ⟨t0,rfl,h7,S7,yV⟩
        obtain⟨a,r,rfl,iB,_,hZ⟩:=tK JD hx;have aT:i < lv.length:=(cz.mp hx).1;have tk:rest.take (i+1)=rest.take i ++ [r]:=by rw[dg,iB];rfl
        have yS:=jH iB;have Hz:=S7 _ _ hZ;have QD:=S7 _ _ h6;refine⟨_,rfl,a,rfl,⟨_,aj.of Hz⟩,fun b1 iA=>?_⟩;have Jw:a≠b1:=aA Hz iA;have npb:pc≠b1:=aA QD iA;have SU:b1≠le:=ba (aA h7 iA);have nbf:b1≠fa:=ba (aA (S7 _ _ Bu) iA);refine i4 (xs:=r.map V.str) (fun j zs eZ H8=>∃t1:Option V,eZ = [t1,some (.ref pc)]/\zs=((r.take j).filter fun y=>!decide (y=n)).map V.str/\H8=upd H7 b1 (.lst zs)) ⟨none,rfl,rfl,rfl⟩ (fun j zs eZ H8 ⟨_,_,_,z⟩=>by rw[z];exact⟨ag,aj.of (by rw[ah Jw];exact Hz)⟩) ?_ ?_
        ·rintro j x zs eZ H8 eO ⟨t1,rfl,rfl,rfl⟩
         have bX:j < (r.map V.str).length:=(cz.mp eO).1;have m7:j < r.length:=by simpa using bX
         obtain rfl:V.str r[j]=x:=by simpa [m7] using eO
         have iC:r.take (j+1)=r.take j ++ [r[j]]:=by rw[dg,bC m7];rfl
         refine⟨_,rfl,_,rfl,pc,_,0,.str n,rfl,rfl,aj.of (by rw[ah npb];exact QD),qd,rfl,_,rfl,?_⟩
         refine cG (fun bc=>?_) (fun bc=>?_)
         ·have rO:r[j]≠n:=fun z=>by rw[z]at bc;simp at bc
          refine⟨_,rfl,ag,?_,cw_next bX ⟨_,rfl,?_,by rw[k6]⟩⟩
          ·have h1:=jJ (fun y=>!decide (y=n)) (r.take j)
           have h2:(r.take j).length<=r.length:=by rw[cT];omega
           have h3:=R.sm.short r yS;rw[aE,aQ];omega
          ·rw[iC,jK,bZ,qE (by simpa using rO)];rfl
         ·have hy:r[j]=n:=by
           by_cases z:r[j]=n
           ·exact z
           ·exact absurd (by simp[z]) bc
          refine cw_next bX ⟨_,rfl,?_,rfl⟩;rw[iC];simp[hy]
        ·rintro zs eZ H8 ⟨t1,rfl,rfl,rfl⟩
         rw[aE,cQ];have Sb:=ay (o:= .lst ((r.filter fun y=>!decide (y=n)).map V.str)) iA;refine⟨Sb _ _ h7,?_,cw_next aT ⟨_,rfl,ag,fun b o hb=>?_,?_⟩⟩
         ·have h1:=qH yV
          have h2:(L2.without n (rest.take i)).length<=rest.length:=by unfold L2.without;rw[aE,cT];omega
          have h3:=R.sm.bV;rw[aQ];omega
         ·rw[ah (aA hb hle)];exact Sb _ _ (S7 b o hb)
         ·have e1:L2.without n (rest.take (i+1))=L2.without n (rest.take i) ++ [r.filter fun y=>!decide (y=n)]:=by rw[tk];unfold L2.without;rw[bZ];rfl
          rw[e1];refine DT (oT yV fun b xs nb hb=>⟨nb,by rw[ah nb.2];exact Sb _ _ hb⟩) ⟨nbf,SU⟩ ?_
          rw[ah SU];exact ag
       ·rintro ys τ H7 ⟨t0,rfl,h7,S7,yV⟩
        rw[qH JD,cQ]at yV;refine⟨_,by rw[R.mm];exact lt,L2.without n rest,ys,acc ++ [n],le,⟨_,rfl⟩,rfl,h7,oT yV fun b xs nb hb=>⟨nb.1,hb⟩,nle,S7 _ _ Bu,L4 R.sm,Mu R.nd,SR.trans S7,?_,?_⟩
        ·have:=R.lim;rw[fu,nN];omega
        ·rw[R.eq,D9 hA e,Option.map_map]
         congr 1
         funext z
         simp
    ·refine⟨_,rfl,qs acc ?_ fa H3 uI SM uJ⟩
     rw[R.eq,D5 (by simpa using hA)]
     show some (acc ++ [])=some acc;rw[kS]
structure ja (mg:Str->Option Value):Prop where
 kI:mg "isinstance" = none
 str:mg "str" = none
 dict:mg "dict" = none
 sorted:mg "sorted" = none
theorem kc:bootBuiltins "isinstance" = some (.builtin "isinstance"):=by decide +kernel
theorem boot_str:bootBuiltins "str" = some (.type "str"):=by decide +kernel
theorem boot_dict:bootBuiltins "dict" = some (.type "dict"):=by decide +kernel
theorem boot_sorted:bootBuiltins "sorted" = some (.builtin "sorted"):=by decide +kernel
theorem boot_all:bootBuiltins "all" = some (.builtin "all"):=by decide +kernel
theorem WW (K:Frag) (h:X.K=K) (hc:X.calm=true):d5 X (.builtin "all") (fun xs H Q=>∃ (p:Addr) (bs:List Bool),xs = [.ref p]/\aj K H p (bs.map V.bl)/\Q (.bl (bs.all id)) H):=by subst h;exact Eh hc
theorem ite_ff {A:Prop}{k:Bool} (hk:k=false) (h:B):if k=true then A else B:=by subst hk;exact h
theorem ite_tt {A:Prop}{k:Bool} (hk:k=true) (h:A):if k=true then A else B:=by subst hk;exact h
theorem abf:bK ["thing"] ["thing"] (aM wZ):=b6
noncomputable abbrev adQ:Expr:=gN (jY (b5 (b4 wZ) 1))
theorem Pn:b8 ["thing"] (aM wZ) ["sign"] [none] (cK adQ):=dH
theorem abg:bK ["family","thing"] ["family","thing"] (aM Fc):=b6
theorem aaa:bK ["family","thing"] ["family","thing"] (aM Fd):=b6
theorem X9 {kvs:List (Key×V)}{g:Str->V} (ha:H a=some (.tup (ps.map V.str))) (hd:H d=some (.dK kvs)) (hg:∀x∈ps,bQ kvs (Sum.inr x)=some (g x)) (hp:H p=none) (hs:ps.length<=100)
  (q:Q (.ref p) (upd H p (.lst (ps.map g)))):jR (mY K a) (mC 0) xu (F6 (km 1) (km 0)) [none,some (.ref d)] Q p H:=by
 have yW:a≠p:=aA ha hp;have qf:d≠p:=aA hd hp;refine wK (xs:=ps.map V.str) (fun j zs τ H2=>∃t1:Option V,τ = [t1,some (.ref d)]/\zs=(ps.take j).map g/\H2=upd H p (.lst zs)) ⟨none,rfl,rfl,rfl⟩ (fun j zs τ H2 ⟨_,_,_,z⟩=>by rw[z];exact⟨ag,aJ.of (by rw[ah yW];exact ha)⟩) ?_ ?_
 ·rintro j x zs τ H2 hx ⟨t1,rfl,rfl,rfl⟩
  obtain⟨bX,m7,rfl,iC⟩:=t6 hx;refine⟨_,rfl,_,rfl,d,g ps[j],rfl,?_,ag,?_,cw_next bX ⟨_,rfl,?_,by rw[k6]⟩⟩
  ·rw[<-hg _ (f9 m7)];exact eM.k (k:=Sum.inr ps[j]) (by rw[ah qf];exact hd)
  ·rw[aE,cT,aQ];omega
  ·rw[iC,bZ];rfl
 ·rintro zs τ H2 ⟨t1,rfl,rfl,rfl⟩
  rw[aE,cQ];exact q
theorem X' {kvs:List (Key×V)}{g:Str->V} (ha:H a=some (.lst (ps.map V.str))) (hd:H d=some (.dK kvs)) (hg:∀x∈ps,bQ kvs (Sum.inr x)=some (g x)) (hp:H p=none) (hs:ps.length<=100)
  (q:Q (.ref p) (upd H p (.lst (ps.map g)))):jR (rX K a) (mC 0) xu (F6 (km 1) (km 0)) [none,some (.ref d)] Q p H:=by
 have yW:a≠p:=aA ha hp;have qf:d≠p:=aA hd hp;refine i4 (xs:=ps.map V.str) (fun j zs τ H2=>∃t1:Option V,τ = [t1,some (.ref d)]/\zs=(ps.take j).map g/\H2=upd H p (.lst zs)) ⟨none,rfl,rfl,rfl⟩ (fun j zs τ H2 ⟨_,_,_,z⟩=>by rw[z];exact⟨ag,aj.of (by rw[ah yW];exact ha)⟩) ?_ ?_
 ·rintro j x zs τ H2 hx ⟨t1,rfl,rfl,rfl⟩
  obtain⟨bX,m7,rfl,iC⟩:=t6 hx;refine⟨_,rfl,_,rfl,d,g ps[j],rfl,?_,ag,?_,cw_next bX ⟨_,rfl,?_,by rw[k6]⟩⟩
  ·rw[<-hg _ (f9 m7)];exact eM.k (k:=Sum.inr ps[j]) (by rw[ah qf];exact hd)
  ·rw[aE,cT,aQ];omega
  ·rw[iC,bZ];rfl
 ·rintro zs τ H2 ⟨t1,rfl,rfl,rfl⟩
  rw[aE,cQ];exact q
def rowsOf (L:Str->List Str) (ps:List Str):List (List Str):=ps.map L ++ [ps]
noncomputable def j6 (H:Hp) (kvs:List (Key×V)) (L:Str->List Str) (x:Str):Prop:= ∃a,bQ kvs (Sum.inr x)=some (.ref a)/\H a=some (.tup ((L x).map V.str))
theorem j6.same {kvs:List (Key×V)} (h:j6 H kvs L x) (s:aq H H'):j6 H' kvs L x:=let ⟨a,e,q⟩:=h;⟨a,e,s _ _ q⟩
theorem aab {kvs:List (Key×V)} (h:∀x∈ps,j6 H kvs L x):∃g:Str->V,(∀x∈ps,bQ kvs (Sum.inr x)=some (g x))/\eW H (ps.map g) (ps.map L):=by
 refine⟨fun x=>(bQ kvs (Sum.inr x)).getD .aI,fun x hx=>?_,?_⟩
 ·obtain⟨a,e,_⟩:=h x hx;show _=some ((bQ kvs (Sum.inr x)).getD V.aI);rw[e];rfl
 ·induction ps with
  |nil=>exact .nil
  |cons x ps ih =>
   obtain⟨a,e,q⟩:=h x bu;exact .cons ⟨a,by show(bQ kvs (Sum.inr x)).getD V.aI=_;rw[e];rfl,q⟩ (ih fun y hy=>h y (bO _ hy))
inductive Bv (vs:List V) (H:Hp) (Q:VK) (E:XK):Prop
 |mk {d pa:Addr}{kvs:List (Key×V)}{L:Str->List Str}{k:Str}{ps o:List Str} (_:vs = [.ref d,.str k,.ref pa]) (_:H d=some (.dK kvs)) (_:H pa=some (.tup (ps.map V.str))) (_:(∀x∈ps,j6 H kvs L x)) (_:Small (rowsOf L ps)) (_:cJ (total (rowsOf L ps)) (rowsOf L ps)=some o) (_:o.length<=100) (_:∀p H',aq H H'->H' p=some (.tup ((k::o).map V.str))->Q (.ref p) H'):Bv vs H Q E
noncomputable abbrev SV:List Str:= ["lines","kind","parents","rows","refusal"]
theorem QE:bK SV ["lines","kind","parents"] (aM wC):=b6
def QF (e:Expr):Expr:=match e with|.BinOp a _ _ _=>a|_=>.Constant .none 0 ⟨0,0,0,0⟩
noncomputable abbrev eLF:Expr:=QF (gN (fV (b5 (b4 wC) 0)))
theorem QG:b8 SV (aM wC) ["parent","lines"] [none,some 0] (cK eLF):=dH
theorem acu {fM:Addr}{yX:FuncData} (F:a6 K "line_from" "line_from" wC f fd) (B:dY mg) (GM:bh P w K mg base aK 3 fM yX ["rows"] Ae "merged") :
  a9 P w K mg base aK 4 f fd ["lines","kind","parents"] Bv:=by
 refine F.ok QE (fun vs H Q E h=>?_) (fun aG A outer s H vs Q E hr h=>?_)
 ·obtain⟨rfl,_⟩:=h;rfl
 ·obtain @⟨d,pa,kvs,L,k,ps,o,rfl,hd,JE,hl,hS,hm,pU,q⟩:=h
  have hu:=hr.units;have cy:=iS hu;refine⟨_,aB (aW (i:=3) QE.nd rfl (Or.inl rfl) (f' qG rfl B.tuple boot_tuple (aa (bA qX (eV rfl QG (qV (pv 2)) (fun s H fp=>⟨bw (i:=0) QG.nd rfl (Or.inl rfl),gv,jl cy (pv 1) (pv 0) (fun _ _=>rfl)⟩)) (cw (aa (pv 2) af))) af)))
   (aN (YB (aN (br (bA E1 (cg (aa (pv 1) af)) (aU GM hr (aa (pv 3) af))))) rfl)),?_⟩
  obtain⟨g,hg,hR⟩:=aab hl;have cP:ps.length<=20:=hS.short ps (gr _ bu);refine⟨_,rfl,pa,rfl,⟨_,aJ.of JE⟩,fun c hc=>X9 JE hd hg hc (by omega) ?_⟩
  have S1:=ay (o:= .lst (ps.map g)) hc;refine⟨_,rfl,hW,fun c2 cU=>?_⟩;have S2:=S1.trans (ay (o:= .lst [V.ref pa]) cU);refine⟨c,c2,_,_,rfl,rfl,by rw[ah (aA ag cU)];exact ag,ag,by rw[aE,aQ];show _+1<=_;omega,fun c3 iD=>?_⟩
  have S3:=S2.trans (ay (o:= .lst (ps.map g ++ [V.ref pa])) iD);refine⟨c3,_,rfl,.inl ⟨aj.of ag,fun r hr=>?_⟩⟩;have S4:=S3.trans (ay (o:= .tup (ps.map g ++ [V.ref pa])) hr);refine⟨_,rfl,hW,fun c4 iW=>?_⟩;have S5:=S4.trans (ay (o:= .tup [V.str k]) iW);refine⟨_,rfl,Ae.mk rfl (rows:=rowsOf L ps) (by rw[ah (aA ag iW)];exact ag) (eW.append (hR.same S5) (S5 _ _ JE)) hS hm fun m H6 hm6 S6 h6=>?_⟩
  refine⟨c4,m,_,_,rfl,rfl,S6 _ _ ag,h6,by rw[aE,aQ];show 1+_<=_;omega,fun p H7 S7 h7=>?_⟩
  exact q p H7 (S5.trans (S6.trans S7)) h7
noncomputable def dJ (H:Hp) (vs:List V) (aH:List (Str×List Str)):Prop:=Paired (fun y p=>∃a b,y=V.ref a/\H a=some (.tup [.str p.1,.ref b])/\H b=some (.tup (p.2.map V.str))) vs aH
theorem dJ.keep (h:dJ H vs aH) (s:∀b xs,H b=some (.tup xs)->H' b=some (.tup xs)):dJ H' vs aH:=Paired.imp' (fun _ _ hQ9=>by obtain⟨a,b,e,q,r⟩:=hQ9;exact ⟨a,b,e,s _ _ q,s _ _ r⟩) h
theorem dJ.same (h:dJ H vs aH) (s:aq H H'):dJ H' vs aH:=h.keep fun _ _ e=>s _ _ e
theorem dJ.length (h:dJ H vs aH):vs.length=aH.length:=gV h
theorem dJ.append {p:Str×List Str} (h:dJ H vs aH) (q:H a=some (.tup [.str p.1,.ref b])) (r:H b=some (.tup (p.2.map V.str))):dJ H (vs ++ [.ref a]) (aH ++ [p]):=oS h ⟨a,b,rfl,q,r⟩
theorem dJ.pairs (h:dJ H vs aH):∃kvs,t7 H vs kvs/\kvs.map (·.1)=aH.map (·.1):=by
 induction h with
 |nil=>exact⟨[],.nil,rfl⟩
 |cons p _ ih =>
  obtain⟨a,b,e,q,r⟩:=p;obtain⟨kvs,h1,h2⟩:=ih;exact⟨(_,.ref b)::kvs,.cons ⟨a,e,q⟩ h1,by rw[ck,ck,h2]⟩
structure pB (aH:List (Str×List Str)) (L:Str->List Str):Prop where
 nd:(aH.map (·.1)).Nodup
 bV:aH.length<=8
 nm:∀p∈aH,Nm p.1
 up:∀p∈aH,∀x∈p.2,∃q∈aH,q.1=x
 rank:∃r:Str->Nat,∀p∈aH,∀x∈p.2,r x < r p.1
 line:∀p∈aH,Small (rowsOf L p.2) /\ ∃o,cJ (total (rowsOf L p.2)) (rowsOf L p.2)=some o/\L p.1=p.1::o/\o.length<=100
theorem pB.perm {xY:List (Str×List Str)} (h:pB aH L) (p:xY.Perm aH):pB xY L:=by
 have m:∀ {q},q∈xY ↔ q∈aH:=fun {q}=>p.mem_iff;obtain⟨r,hr⟩:=h.rank;exact⟨(p.map _).nodup_iff.mpr h.nd,by rw[p.length_eq];exact h.bV,fun q hq=>h.nm q (m.mp hq),fun q hq x hx=>let ⟨z,hz,e⟩:=h.up q (m.mp hq) x hx;⟨z,m.mpr hz,e⟩,⟨r,fun q hq=>hr q (m.mp hq)⟩,fun q hq=>h.line q (m.mp hq)⟩
def isDone (kvs:List (Key×V)) (x:Str):Bool:=(bQ kvs (Sum.inr x)).isSome
theorem Y4 {rest:List (Str×List Str)} (ok:pB aH L) (sub:∀p∈rest,p∈aH) (all:∀p∈aH,dn p.1=true\/p∈rest) (ne:rest ≠ []):∃p∈rest,∀x∈p.2,dn x=true:=by
 obtain⟨r,hr⟩:=ok.rank;have key:∀n,∀p∈rest,r p.1=n -> ∃q∈rest,∀x∈q.2,dn x=true:=by
  intro n
  induction n using Nat.strongRecOn with
  |_ n ih =>
   intro p hp e
   by_cases h:∀x∈p.2,dn x=true
   ·exact⟨p,hp,h⟩
   ·simp only[Classical.not_forall]at h
    obtain⟨x,hx,gE⟩:=h;obtain⟨q,hq,rfl⟩:=ok.up p (sub p hp) x hx;have lt:=hr p (sub p hp) q.1 hx;rcases all q hq with z|z
    ·exact absurd z gE
    ·exact ih _ (by omega) q z rfl
 cases rest with
 |nil=>exact absurd rfl ne
 |cons p t=>exact key _ p bu rfl
def iM (dn:Str->Bool) (rest:List (Str×List Str)):List (Str×List Str):=rest.filter fun p=>(p.2.map dn).all id
theorem M7 {rest:List (Str×List Str)}{p:Str×List Str}:p∈iM dn rest ↔ p∈rest /\ ∀x∈p.2,dn x=true:=by
 unfold iM;rw[f6,Dx,j8];rfl
theorem Mv {α:Type} (f:α->Bool):∀l:List α,(l.filter f).length+(l.filter fun x=>!f x).length=l.length
 |[]=>rfl
 |x::l=>by
  have ih:=Mv f l;cases h:f x <;> simp[DK,h] <;> omega
theorem Ya {Cu:Str->Bool}{rest:List (Str×List Str)} (h:∀p∈iM dn rest,Cu p.1=true):(rest.filter fun p=>!Cu p.1).length+(iM dn rest).length<=rest.length:=by
 have e:rest.length=(rest.filter fun p=>(p.2.map dn).all id).length+(rest.filter fun p=>!(p.2.map dn).all id).length:=by
  exact(Mv (fun p:Str×List Str=>(p.2.map dn).all id) rest).symm
 have le:(rest.filter fun p=>!Cu p.1).length<=(rest.filter fun p=>!(p.2.map dn).all id).length:=by
  rw[<-amY,<-amY];refine List.countP_mono_left fun p hp h1=>?_;cases z:(p.2.map dn).all id with
  |false=>rfl
  |true =>
   have:=h p (f6.mpr ⟨hp,z⟩);rw[this]at h1;cases h1
 unfold iM;omega
theorem Y5 {kvs:List (Key×V)} (ha:H a=some (.tup (ps.map V.str))) (hd:H d=some (.dK kvs)) (hp:H p=none) (hs:ps.length<=100)
  (q:Q (.ref p) (upd H p (.lst ((ps.map (isDone kvs)).map V.bl)))):jR (mY K a) (mC 0) xu (Qn (km 0) (km 1)) [none,some (.ref d)] Q p H:=by
 have yW:a≠p:=aA ha hp;have qf:d≠p:=aA hd hp;refine wK (xs:=ps.map V.str) (fun j zs τ H2=>∃t1:Option V,τ = [t1,some (.ref d)]/\zs=((ps.take j).map (isDone kvs)).map V.bl/\H2=upd H p (.lst zs)) ⟨none,rfl,rfl,rfl⟩ (fun j zs τ H2 ⟨_,_,_,z⟩=>by rw[z];exact⟨ag,aJ.of (by rw[ah yW];exact ha)⟩) ?_ ?_
 ·rintro j x zs τ H2 hx ⟨t1,rfl,rfl,rfl⟩
  obtain⟨bX,m7,rfl,iC⟩:=t6 hx;refine⟨_,rfl,_,rfl,d,_,rfl,eM.k (k:=Sum.inr ps[j]) (by rw[ah qf];exact hd),ag,?_,cw_next bX ⟨_,rfl,?_,by rw[k6]⟩⟩
  ·rw[aE,aE,cT,aQ];omega
  ·rw[iC,bZ,bZ];rfl
 ·rintro zs τ H2 ⟨t1,rfl,rfl,rfl⟩
  rw[aE,cQ];exact q
noncomputable def rH (aH:List (Str×List Str)) (kvs:List (Key×V)):Prop:=(kvs.map (·.1)).Nodup /\ ∀k∈kvs.map (·.1),∃p∈aH,k=Sum.inr p.1
theorem M8 (kvs:List (Key×V)) (k:Key) (v:V):(k∈kvs.map (·.1)/\(putK kvs k v).map (·.1)=kvs.map (·.1))\/(k ∉ kvs.map (·.1)/\(putK kvs k v).map (·.1)=kvs.map (·.1) ++ [k]):=by
 have e:(kvs.any fun kv=>decide (kv.1=k))=true ↔ k∈kvs.map (·.1):=by
  rw[zH,bT];exact⟨fun⟨x,h,d⟩=>⟨x,h,eT d⟩,fun⟨x,h,d⟩=>⟨x,h,cm d⟩⟩
 unfold putK
 by_cases h:k∈kvs.map (·.1)
 ·refine .inl ⟨h,?_⟩
  rw[aF (e.mpr h),md];refine DC fun kv _=>?_;show(if kv.1=k then (kv.1,v) else kv).1=kv.1;split <;> rfl
 ·refine .inr ⟨h,?_⟩
  rw[ax fun z=>h (e.mp z),bZ];rfl
theorem Y6 {kvs:List (Key×V)}{k j:Key}:j∈(putK kvs k v).map (·.1) ↔ j=k\/j∈kvs.map (·.1):=by
 rcases M8 kvs k v with⟨h,e⟩|⟨h,e⟩
 ·rw[e];exact⟨.inr,fun z=>z.elim (fun e=>e ▸ h) id⟩
 ·rw[e,ff,fw];exact Or.comm
theorem aac {kvs:List (Key×V)}{k:Key} (h:(kvs.map (·.1)).Nodup):((putK kvs k v).map (·.1)).Nodup:=by
 rcases M8 kvs k v with⟨_,e⟩|⟨hn,e⟩
 ·rw[e];exact h
 ·rw[e,l9]
  exact⟨h,by simp,fun a ha b hb e=>hn (by rw[<-(fw.mp hb),<-e];exact ha)⟩
theorem rH.put {kvs:List (Key×V)}{p:Str×List Str} (h:rH aH kvs) (hp:p∈aH):rH aH (putK kvs (Sum.inr p.1) v):=by
 refine⟨aac h.1,fun k hk=>?_⟩;rcases Y6.mp hk with z|z
 ·exact⟨p,hp,z⟩
 ·exact h.2 k z
theorem NQ:∀ {kvs:List (Key×V)}{x:Str},isDone kvs x=true->Sum.inr x∈kvs.map (·.1)
 |[],x,h=>by cases h
 |(a,b)::kvs,x,h=>by
  by_cases e:a=Sum.inr x
  ·rw[e];exact bu
  ·unfold isDone at h;rw[i5 e]at h
   exact bO _ (NQ h)
theorem Mw {α:Type}{a b:List α} (ha:a.Nodup) (hb:b.Nodup) (h:∀x,x∈a ↔ x∈b):a.Perm b:=(amZ ha hb).mpr h
theorem abh {l:List Str} (h:l.Nodup):(l.map (Sum.inr:Str->Key)).Nodup:=by
 induction l with
 |nil=>exact qC
 |cons x l ih =>
  rw[iZ]at h;rw[ck,iZ];refine⟨fun z=>?_,ih h.2⟩;obtain⟨y,hy,e⟩:=bT.mp z;exact h.1 (oP e ▸ hy)
theorem rH.perm {kvs:List (Key×V)} (h:rH aH kvs) (ok:pB aH L) (all:∀p∈aH,isDone kvs p.1=true):(kvs.map (·.1)).Perm ((aH.map (·.1)).map Sum.inr):=by
 refine Mw h.1 (abh ok.nd) fun x=>⟨fun hx=>?_,fun hx=>?_⟩
 ·obtain⟨p,hp,rfl⟩:=h.2 x hx
  exact bT.mpr ⟨p.1,bT.mpr ⟨p,hp,rfl⟩,rfl⟩
 ·obtain⟨y,hy,rfl⟩:=bT.mp hx
  obtain⟨p,hp,rfl⟩:=bT.mp hy;exact NQ (all p hp)
structure QH (H:Hp) (aH:List (Str×List Str)) (L:Str->List Str) (t d:Addr) (m:Nat) (σ:St) (H1:Hp) (kvs:List (Key×V)) (rest:List (Str×List Str)) (wv:List V) (wa:Addr):Prop where
 st:∃v3 v4 v5:Option V,σ = [some (.ref t),some (.ref d),some (.ref wa),v3,v4,v5]
 mm:m=rest.length
 hd:H1 d=some (.dK kvs)
 hw:H1 wa=some (.lst wv)
 fv:dJ H1 wv rest
 sub:∀p∈rest,p∈aH
 all:∀p∈aH,isDone kvs p.1=true\/p∈rest
 ln:∀x,isDone kvs x=true->j6 H1 kvs L x
 same:aq H H1
 lim:kvs.length+rest.length<=8
 ky:rH aH kvs
inductive Au (vs:List V) (H:Hp) (Q:VK) (E:XK):Prop
 |mk {t:Addr}{o:Obj}{ws:List V}{aH:List (Str×List Str)}{L:Str->List Str} (_:vs = [.ref t]) (_:H t=some (.aR o (.tup ws))) (_:dJ H ws aH) (_:pB aH L) (_:∀d kvs H',H d=none->aq H H'->H' d=some (.dK kvs)->(∀p∈aH,j6 H' kvs L p.1)->(kvs.map (·.1)).Perm ((aH.map (·.1)).map Sum.inr)->Q (.ref d) H'):Au vs H Q E
noncomputable abbrev JF:List Str:= ["family","lines","waiting","ready","kind","parents"]
theorem rQ:bK JF ["family"] (aM ua):=b6
noncomputable abbrev QI:Stmt:=b5 (b4 ua) 2
noncomputable abbrev HD:Expr:=fV (b5 (wG QI) 0)
noncomputable abbrev adR:Expr:=gN (OS HD)
noncomputable abbrev adS:Expr:=fV (b5 (wG QI) 3)
theorem Po:b8 JF (aM ua) ["pair","lines"] [none,some 1] (cK HD):=dH
theorem acv:b8 ["pair","lines"] (relabel (cK HD) env) ["parent","lines"] [none,some 1] (cK adR):=nest rfl (by decide +kernel) (by decide +kernel) rfl (by decide +kernel) (by decide +kernel)
theorem acw:(["parent","lines"]:List Str).Nodup:=by decide +kernel
theorem Pp:b8 JF (aM ua) ["pair","lines"] [none,some 1] (cK adS):=dH
theorem Y7 {fF:Addr}{fdF:FuncData} (F:a6 K "lines_of" "lines_of" ua f fd) (B:dY mg) (GF:bh P w K mg base aK 4 fF fdF ["lines","kind","parents"] Bv "line_from") :
  a9 P w K mg base aK 5 f fd ["family"] Au:=by
 refine F.ok rQ (fun vs H Q E h=>?_) (fun aG A outer s H vs Q E hr h=>?_)
 ·obtain⟨rfl,_⟩:=h;rfl
 ·obtain @⟨t,o,ws,aH,L,rfl,ht,adT,ok,q⟩:=h
  have hu:=hr.units;have cy:=iS hu;refine⟨_,aB (aW (i:=1) rQ.nd rfl (Or.inr rfl) EB)
   (aB (aW (i:=2) rQ.nd rfl (Or.inl rfl) (f' wg rfl B.list boot_list (aa (pv 0) af)))
   (aB (Eu j' (wJ (pv 2) (fun _=>rfl))
    (aB (qI rfl Po rQ.nd (i:=3) rfl rfl (iK (pv 2)) (fun s H fp=>⟨bw (i:=0) Po.nd rfl (Or.inl rfl),
      jL (i7 (bJ (WW K rfl rfl) rfl B.all boot_all (aa (eV rfl acv (Nk K rfl (aP (Ez K rfl) (pv 0) ao)) (fun s H fp=>⟨bw (i:=0) acw rfl (Or.inl rfl),gv,Fp (xh cy (pv 0) (pv 1))⟩)) af))),
      pv 0⟩))
    (aB (bY (lh (wJ (pv 3) (fun _=>rfl))) (aN (br (pv 1))) cf)
    (aB (lj j' rfl (iK (pv 3)) (tX rfl (fH (bw (i:=4) rQ.nd rfl (Or.inl rfl)) (fH (bw (i:=5) rQ.nd rfl (Or.inl rfl)) mw)))
     (aN (tR cy (pv 1) (pv 4) (aU GF hr (aa (pv 1) (aa (pv 4) (aa (pv 5) af)))) rfl)))
    (aN (qI rfl Pp rQ.nd (i:=2) rfl rfl (iK (pv 2)) (fun s H fp=>⟨bw (i:=0) Pp.nd rfl (Or.inl rfl),
      jL (xb (Ei cy (aP (Ez K rfl) (pv 0) ao) (pv 1))),pv 0⟩)))))))
   (aN (br (pv 1))))),?_⟩
  intro d hd;have Sd:=ay (o:= .dK []) hd;refine⟨_,rfl,t,ws,rfl,.inr (.inl (.inr ⟨o,Sd _ _ ht⟩)),fun wa SW=>?_⟩;have Sw:=Sd.trans (ay (o:= .lst ws) SW);have nwd:d≠wa:=aA ag SW;refine⟨fun m σ H1=>∃kvs rest wv wa,QH H aH L t d m σ H1 kvs rest wv wa,⟨_,[],aH,ws,wa,⟨none,none,none,rfl⟩,rfl,by rw[ah nwd];exact ag,ag,adT.same Sw,fun _ h=>h,fun _ h=>.inr h,fun x h=>(by cases h),Sw,by have:=ok.bV;rw[sX];omega,⟨qC,fun _ h=>(by cases h)⟩⟩,?_⟩
  rintro m σ H1 ⟨kvs,rest,wv,wa,R⟩;obtain⟨v3,v4,v5,rfl⟩:=R.st;have yY:=R.fv.length;refine⟨_,rfl,_,.inl ⟨_,aj.of R.hw,rfl⟩,?_⟩;refine cG (fun bc=>?_) (fun bc=>?_)
  ·refine⟨fun aS H'=>∃m',m' < m /\ ∃kvs rest wv wa,QH H aH L t d m' aS H' kvs rest wv wa,fun _ _ z=>z,?_⟩
   refine⟨_,rfl,wa,rfl,⟨_,aj.of R.hw⟩,fun ra JG=>?_⟩;have JH:∀ {b:Addr}{u:HO},H b=some u->b≠d:=fun e=>aA e hd;have ndr:d≠ra:=aA R.hd JG;refine i4 (xs:=wv) (fun i ys τ H3=>∃t0:Option V,τ = [t0,some (.ref d)]/\H3 ra=some (.lst ys)/\aq H1 H3/\dJ H3 ys (iM (isDone kvs) (rest.take i))) ⟨none,rfl,ag,ay JG,.nil⟩ (fun i ys τ H3 hQ9=>by obtain⟨_,_,z1,z2,_⟩:=hQ9;exact ⟨z1,aj.of (z2 _ _ R.hw)⟩) ?_ ?_
   ·rintro i x ys τ H3 hx ⟨t0,rfl,h3,S3,F3⟩
    have aT:i < wv.length:=(cz.mp hx).1;obtain⟨p,hp,a,b,rfl,ha,hb⟩:=tT R.fv hx;have tk:rest.take (i+1)=rest.take i ++ [p]:=by rw[dg,hp];rfl
    have Cv:=R.sub p (jH hp);have cP:p.2.length<=20:=(ok.line p Cv).1.short p.2 (gr _ bu);have m8:=S3 _ _ ha;have jD:=S3 _ _ hb;refine⟨_,rfl,a,_,1,.ref b,rfl,rfl,aJ.of m8,(show eu [V.str p.1,V.ref b] ((1:Nat):Int)=some (.ref b) from b9 rfl),?_⟩;refine⟨b,rfl,⟨_,aJ.of jD⟩,fun c hc=>Y5 jD (S3 _ _ R.hd) hc (by omega) ?_⟩
    have Sc:=ay (o:= .lst ((p.2.map (isDone kvs)).map V.bl)) hc;refine⟨c,_,rfl,aj.of ag,_,rfl,?_⟩;refine cG (fun JI=>?_) (fun JI=>?_)
    ·refine⟨_,rfl,Sc _ _ h3,?_,cw_next aT ⟨_,rfl,ag,fun b o hb=>by rw[ah (aA hb JG)];exact Sc _ _ (S3 b o hb),?_⟩⟩
     ·have h1:=F3.length
      have h2:(iM (isDone kvs) (rest.take i)).length<=(rest.take i).length:=jJ _ _;have h3:=R.lim;rw[cT]at h2;rw[aQ];omega
     ·have e1:iM (isDone kvs) (rest.take (i+1))=iM (isDone kvs) (rest.take i) ++ [p]:=by
       rw[tk];unfold iM;rw[jK,qE (by exact JI)];rfl
      rw[e1];refine dJ.append (F3.keep fun b xs hb=>?_) ?_ ?_ (b:=b)
      ·rw[ah (aX hb h3)];exact Sc _ _ hb
      ·rw[ah (aX m8 h3)];exact Sc _ _ m8
      ·rw[ah (aX jD h3)];exact Sc _ _ jD
    ·refine cw_next aT ⟨_,rfl,Sc _ _ h3,S3.trans Sc,?_⟩
     have e1:iM (isDone kvs) (rest.take (i+1))=iM (isDone kvs) (rest.take i):=by
      rw[tk];unfold iM;rw[jK,tm (by exact JI)];simp
     rw[e1];exact F3.same Sc
   ·rintro rv τ H3 ⟨t0,rfl,h3,S3,F3⟩
    rw[yY,cQ]at F3;have lP:=F3.length;have sD:=S3 _ _ R.hd;have SX:=S3 _ _ R.hw;have ix:dJ H3 wv rest:=R.fv.same S3;have rO:rest ≠ []:=fun z=>by
     rw[z]at yY;have:wv = []:=zK yY;rw[this]at bc;cases bc
    obtain⟨p0,hp0,adU⟩:=Y4 ok R.sub R.all rO;have Cw:p0∈iM (isDone kvs) rest:=M7.mpr ⟨hp0,adU⟩;generalize yz:iM (isDone kvs) rest=ready at F3 lP Cw;have adV:(!rv.isEmpty)=true:=by
     cases rv with
     |nil =>
      have:ready = []:=zK lP.symm;rw[this]at Cw;cases Cw
     |cons _ _=>rfl
    refine⟨_,rfl,_,.inl ⟨_,aj.of h3,rfl⟩,?_⟩;rw[adV];refine⟨_,rfl,ra,rfl,⟨_,aj.of h3⟩,Ew (xs:=rv) (fun i σ H4=>∃ (fQ:List (Key×V)) (v4 v5:Option V),σ = [some (.ref t),some (.ref d),some (.ref wa),some (.ref ra),v4,v5]/\H4 d=some (.dK fQ)/\fQ.length<=kvs.length+i /\
     (∀b u,b≠d->H3 b=some u->H4 b=some u)/\(∀x,isDone fQ x=true->j6 H4 fQ L x)/\(∀x,isDone kvs x=true->isDone fQ x=true)/\(∀p∈ready.take i,isDone fQ p.1=true)/\rH aH fQ)
     ⟨kvs,v4,v5,rfl,sD,aO _,fun _ _ _ e=>e,fun x hx=>(R.ln x hx).same S3,fun _ h=>h,fun p hp=>(by cases hp),R.ky⟩ (fun i σ H4 _ hQ9=>by obtain⟨_,_,_,_,_,_,z,_⟩:=hQ9;exact aj.of (z _ _ (ba ndr) h3)) ?_ ?_⟩
    ·rintro i x σ H4 hx ⟨fQ,v4,v5,rfl,qg,lQ,m9,Cy,qb,Cz,JJ⟩
     have aT:i < rv.length:=(cz.mp hx).1;obtain⟨p,hp,a,b,rfl,ha,hb⟩:=tT F3 hx;have tk:ready.take (i+1)=ready.take i ++ [p]:=by rw[dg,hp];rfl
     have hpr:p∈iM (isDone kvs) rest:=by rw[yz];exact jH hp
     obtain⟨Cv,yU⟩:=M7.mp hpr;obtain⟨ia,oo,si,hL,pU⟩:=ok.line p (R.sub p Cv);have CB:=m9 _ _ (aX ha sD) ha
     have hb4:=m9 _ _ (aX hb sD) hb
     refine⟨a,_,rfl,aJ.of CB,rfl,_,_,rfl,_,_,rfl,rfl,?_⟩;refine⟨_,rfl,_,rfl,_,rfl,Bv.mk rfl qg hb4 (fun x hx=>Cy x (qb x (yU x hx))) ia si pU fun q5 H5 S5 h5=>?_⟩;refine⟨_,rfl,_,rfl,d,_,rfl,kr.k (k:=Sum.inr p.1) (S5 _ _ qg) ?_,?_⟩
     ·have h1:=R.lim
      have h2:ready.length<=rest.length:=by rw[<-yz];exact jJ _ _
      rw[aQ];omega
     ·have nq:q5≠d:=aX h5 (S5 _ _ qg)
      refine⟨_,_,_,rfl,ag,?_,fun b u nb e=>?_,fun x hx=>?_,fun x hx=>?_,fun y hy=>?_,JJ.put (R.sub p Cv)⟩
      ·have:=wj fQ (Sum.inr p.1) (V.ref q5);omega
      ·rw[ah nb];exact S5 _ _ (m9 b u nb e)
      ·unfold j6
       rw[qN]
       by_cases e:x=p.1
       ·subst e
        refine⟨q5,by rw[aF rfl],?_⟩
        rw[ah nq,hL];exact h5
       ·have e2 : ¬ ((Sum.inr x:Key)=Sum.inr p.1):=fun z=>e (oP z)
        have eO:isDone fQ x=true:=by unfold isDone at hx ⊢;rw[qN,ax e2]at hx;exact hx
        obtain⟨a',ea,SY⟩:=Cy x eO;refine⟨a',by rw[ax e2];exact ea,?_⟩
        rw[ah (aX SY qg)];exact S5 _ _ SY
      ·unfold isDone;rw[qN]
       split
       ·rfl
       ·exact qb x hx
      ·unfold isDone;rw[qN]
       split
       ·rfl
       ·rename_i hn
        rw[tk]at hy;rcases ff.mp hy with z|z
        ·exact Cz _ z
        ·have:y=p:=by simpa using z
         exact absurd (by rw[this]) hn
    ·rintro σ H4 ⟨fQ,v4,v5,rfl,qg,lQ,m9,Cy,qb,Cz,JJ⟩
     rw[lP,cQ]at Cz;have hf4:dJ H4 wv rest:=ix.keep fun b xs e=>m9 _ _ (aX e sD) e
     have Ta:=m9 _ _ (aX SX sD) SX
     have SH4:aq H H4:=fun b u e=>m9 b u (JH e) (S3 _ _ (R.same b u e));refine⟨_,rfl,wa,rfl,⟨_,aj.of Ta⟩,fun wb JK=>?_⟩;have nwb:d≠wb:=aA qg JK;refine i4 (xs:=wv) (fun i ys τ H5=>∃t0:Option V,τ = [t0,some (.ref d)]/\H5 wb=some (.lst ys)/\aq H4 H5/\dJ H5 ys ((rest.take i).filter fun p=>!isDone fQ p.1)) ⟨none,rfl,ag,ay JK,.nil⟩ (fun i ys τ H5 hQ9=>by obtain⟨_,_,z1,z2,_⟩:=hQ9;exact ⟨z1,aj.of (z2 _ _ Ta)⟩) ?_ ?_
     ·rintro i x ys τ H5 hx ⟨t0,rfl,h5,S5,F5⟩
      have aT:i < wv.length:=(cz.mp hx).1;obtain⟨p,hp,a,b,rfl,ha,hb⟩:=tT hf4 hx;have tk:rest.take (i+1)=rest.take i ++ [p]:=by rw[dg,hp];rfl
      have JL:=S5 _ _ ha;have yZ:=S5 _ _ hb;refine⟨_,rfl,a,_,0,.str p.1,rfl,rfl,aJ.of JL,(show eu [V.str p.1,V.ref b] ((0:Nat):Int)=some (.str p.1) from b9 rfl),?_⟩;refine⟨_,rfl,d,_,rfl,eM.k (k:=Sum.inr p.1) (S5 _ _ qg),_,rfl,?_⟩;refine cG (fun cx=>?_) (fun cx=>?_)
      ·refine⟨_,rfl,h5,?_,cw_next aT ⟨_,rfl,ag,fun b o hb=>by rw[ah (aA hb JK)];exact S5 b o hb,?_⟩⟩
       ·have h1:=F5.length
        have h2:=jJ (fun p:Str×List Str=>!isDone fQ p.1) (rest.take i);have h3:=R.lim;rw[cT]at h2;rw[aQ];omega
       ·rw[tk,jK,qE (by exact cx)]
        refine dJ.append (F5.keep fun b xs hb=>?_) ?_ ?_ (b:=b)
        ·rw[ah (aX hb h5)];exact hb
        ·rw[ah (aX JL h5)];exact JL
        ·rw[ah (aX yZ h5)];exact yZ
      ·refine cw_next aT ⟨_,rfl,h5,S5,?_⟩
       rw[tk,jK,tm (by exact cx),List.filter_nil,kS]
       exact F5
     ·rintro ys τ H5 ⟨t0,rfl,h5,S5,F5⟩
      rw[yY,cQ]at F5;have less:=Ya (dn:=isDone kvs) (Cu:=isDone fQ) (rest:=rest) (by rw[yz];exact Cz)
      rw[yz]at less;have hrp:0 < ready.length:=Vz Cw;refine⟨_,by rw[R.mm];omega,fQ,rest.filter fun p=>!isDone fQ p.1,ys,wb,⟨_,_,_,rfl⟩,rfl,S5 _ _ qg,h5,F5,fun p hp=>R.sub p (f6.mp hp).1,fun p hp=>?_,fun x hx=>(Cy x hx).same S5,SH4.trans S5,?_,?_⟩
      ·cases e:isDone fQ p.1 with
       |true=>exact .inl rfl
       |false =>
        refine .inr ?_;rcases R.all p hp with z|z
        ·rw[qb _ z]at e;cases e
        ·exact f6.mpr ⟨z,by rw[e];rfl⟩
      ·have h1:=R.lim
       omega
      ·exact JJ
  ·have hn:rest = []:=by
    cases wv with
    |nil=>exact zK yY.symm
    |cons _ _=>exact absurd rfl bc
   have dn:∀p∈aH,isDone kvs p.1=true:=fun p hp=>by
    rcases R.all p hp with z|z
    ·exact z
    ·rw[hn]at z;cases z
   exact⟨_,rfl,q d kvs H1 hd R.same R.hd (fun p hp=>R.ln p.1 (dn p hp)) (R.ky.perm ok dn)⟩
noncomputable def eI (H:Hp) (kvs:List (Key×V)) (L:Str->List Str) (x:Str):Prop:= ∃a,bQ kvs (Sum.inr x)=some (.ref a)/\H a=some (.lst ((L x).map V.str))
theorem eI.same {kvs:List (Key×V)} (h:eI H kvs L x) (s:aq H H'):eI H' kvs L x:=let ⟨a,e,q⟩:=h;⟨a,e,s _ _ q⟩
theorem aad {kvs:List (Key×V)} (h:∀x∈ps,eI H kvs L x):∃g:Str->V,(∀x∈ps,bQ kvs (Sum.inr x)=some (g x))/\jq (fun _=>True) H (ps.map g) (ps.map L):=by
 refine⟨fun x=>(bQ kvs (Sum.inr x)).getD .aI,fun x hx=>?_,?_⟩
 ·obtain⟨a,e,_⟩:=h x hx;show _=some ((bQ kvs (Sum.inr x)).getD V.aI);rw[e];rfl
 ·induction ps with
  |nil=>exact .nil
  |cons x ps ih =>
   obtain⟨a,e,q⟩:=h x bu;exact .cons ⟨a,by show(bQ kvs (Sum.inr x)).getD V.aI=_;rw[e];rfl,trivial,q⟩ (ih fun y hy=>h y (bO _ hy))
theorem M9:∀ {m:Nat}{rows:List (List Str)}{o:List Str},cJ m rows=some o->o.length<=m
 |0,rows,o,h=>by
  unfold cJ at h
  first
   |(cases h;exact aO _)
   |(split at h <;> first|(cases h;exact aO _)|cases h)
 |m+1,rows,o,h=>by
  unfold cJ at h;split at h
  ·cases e:iJ rows with
   |none=>rw[e]at h;cases h
   |some n =>
    rw[e]at h;obtain⟨o',h',rfl⟩:=kW.mp h;have:=M9 h';rw[cO];omega
  ·cases h;exact bR _
inductive xZ (vs:List V) (H:Hp) (Q:VK) (E:XK):Prop
 |mk {d oa:Addr}{kvs:List (Key×V)}{L:Str->List Str}{k:Str}{own:List Str} (_:vs = [.ref d,.str k,.ref oa]) (_:H d=some (.dK kvs)) (_:H oa=some (.lst (own.map V.str))) (_:(∀x∈own,eI H kvs L x)) (_:Small (rowsOf L own)) (_:(∀r∈rowsOf L own,r.Nodup)) (_:(cJ (total (rowsOf L own)) (rowsOf L own)=none -> ∀H',aq H H'->Q .aI H')) (_:(∀o,cJ (total (rowsOf L own)) (rowsOf L own)=some o -> ∀p H',H p=none->aq H H'->H' p=some (.lst ((k::o).map V.str))->Q (.ref p) H')):xZ vs H Q E
noncomputable abbrev Tb:List Str:= ["_law_lines","_law_kind","_law_own","_law_found"]
theorem QJ:bK Tb ["_law_lines","_law_kind","_law_own"] (aM xl):=b6
noncomputable abbrev eLL:Expr:=QF (gN (fV (b5 (b4 xl) 0)))
theorem QK:b8 Tb (aM xl) ["_law_one","_law_lines"] [none,some 0] (cK eLL):=dH
theorem acx {fM:Addr}{yX:FuncData} (F:a6 K "_law_line" "_law_line" xl f fd) (B:dY mg) (FM:a6 K "_law_merged" "_law_merged" mr fM yX) (bM:Binds K yX ["_law_rows"] []) (mM:mg "_law_merged" = some (.ref fM)) :
  a9 P w K mg base aK 2 f fd ["_law_lines","_law_kind","_law_own"] xZ:=by
 have GM:a9 P w K mg base aK 1 fM yX ["_law_rows"] Bt:=acs FM B;refine F.ok QJ (fun vs H Q E h=>?_) (fun aG A outer s H vs Q E hr h=>?_)
 ·obtain⟨rfl,_⟩:=h;rfl
 ·obtain @⟨d,oa,kvs,L,k,own,rfl,hd,ho,hl,hS,gE,qn,qs⟩:=h
  have hu:=hr.units;have cy:=iS hu;refine⟨_,aB (aW (i:=3) QJ.nd rfl (Or.inl rfl) (k7 GM hr rfl mM FM.kp bM .nil jo (aa (bA qX (eV rfl QK (iK (pv 2)) (fun s H fp=>⟨bw (i:=0) QK.nd rfl (Or.inl rfl),gv,jl cy (pv 1) (pv 0) (fun _ _=>rfl)⟩)) (cw (aa (f' wg rfl B.list boot_list (aa (pv 2) af)) af))) af)))
   (aB (bY (bU xf (pv 3) i6 (bz _)) (aN (br i6)) cf)
   (aN (br (bA qX (cw (aa (pv 1) af)) (pv 3))))),?_⟩
  obtain⟨g,hg,hR⟩:=aad hl;have cP:own.length<=20:=hS.short own (gr _ bu);refine⟨_,rfl,oa,rfl,⟨_,aj.of ho⟩,fun c hc=>X' ho hd hg hc (by omega) ?_⟩
  have S1:=ay (o:= .lst (own.map g)) hc;refine⟨_,rfl,oa,_,rfl,.inl (aj.of (S1 _ _ ho)),fun c1 nc=>?_⟩;have S2:=S1.trans (ay (o:= .lst (own.map V.str)) nc);refine⟨hW,fun c2 cU=>?_⟩;have S3:=S2.trans (ay (o:= .lst [V.ref c1]) cU);have k1:upd (upd H c (.lst (own.map g))) c1 (.lst (own.map V.str)) c=some (.lst (own.map g)):=by rw[ah (aA ag nc)];exact ag
  refine⟨c,c2,_,_,rfl,rfl,by rw[ah (aA k1 cU)];exact k1,ag,by rw[aE,aQ];show _+1<=_;omega,fun c3 iD=>?_⟩
  have S4:=S3.trans (ay (o:= .lst (own.map g ++ [V.ref c1])) iD);have k4:upd (upd (upd (upd H c (.lst (own.map g))) c1 (.lst (own.map V.str))) c2 (.lst [V.ref c1])) c3 (.lst (own.map g ++ [V.ref c1])) c1=some (.lst (own.map V.str)):=by
   have k2:upd (upd (upd H c (.lst (own.map g))) c1 (.lst (own.map V.str))) c2 (.lst [V.ref c1]) c1=some (.lst (own.map V.str)):=by rw[ah (aA ag cU)];exact ag
   rw[ah (aA k2 iD)];exact k2
  refine Bt.mk rfl (rows:=rowsOf L own) ag (DT (oT hR fun a xs _ e=>⟨trivial,S4 _ _ e⟩) trivial k4) hS gE (fun e H5 S5=>?_) (fun o e p H5 hp S5 h5=>?_)
  ·exact⟨_,rfl,rfl,_,rfl,qn e H5 (S4.trans S5)⟩
  ·refine⟨_,rfl,rfl,_,rfl,?_⟩
   refine⟨_,rfl,hW,fun c5 jf=>?_⟩;have S6:=S5.trans (ay (o:= .lst [V.str k]) jf);have hz:=(M9 e);have ht:=zS hS.short;have hfw:=hS.bV;refine⟨_,rfl,c5,p,_,_,rfl,rfl,ag,by rw[ah (aA h5 jf)];exact h5,by rw[aE,aQ];show 1+_<=_;omega,fun c6 sE=>?_⟩
   exact qs o e c6 _ (S4.free (S6.free sE)) (S4.trans (S6.trans (ay sE))) ag
theorem Mx {α:Type}:∀ (l:List α) (k:Nat) (h:k < l.length),(l[k]::l.eraseIdx k).Perm l
 |[],k,h=>absurd h (zJ _)
 |x::l,0,_=>qD _
 |x::l,k+1,h=>(List.Perm.swap _ _ _).trans ((Mx l k (DA h)).cons x)
theorem M' {α β:Type} (f:α->β):∀ (l:List α) (k:Nat),(l.map f).eraseIdx k=(l.eraseIdx k).map f
 |[],_=>rfl
 |_::_,0=>rfl
 |x::l,k+1=>eJ (f x :: ·) (M' f l k)
theorem boot_min:bootBuiltins "min" = some (.builtin "min"):=by decide +kernel
theorem acy {d:Int} (h0:0<=d) (h1:d < 7):∃v:Int,eu [V.int 0,.int 1,.int 1,.int 2,.int 2,.int 3,.int 4] d=some (.int v)/\0<=v/\v<=4:=by
 obtain⟨n,rfl⟩:=gK h0
 match n,(show n < 7 by omega) with
 |0,_=>exact⟨0,b9 rfl,by decide,by decide⟩
 |1,_=>exact⟨1,b9 rfl,by decide,by decide⟩
 |2,_=>exact⟨1,b9 rfl,by decide,by decide⟩
 |3,_=>exact⟨2,b9 rfl,by decide,by decide⟩
 |4,_=>exact⟨2,b9 rfl,by decide,by decide⟩
 |5,_=>exact⟨3,b9 rfl,by decide,by decide⟩
 |6,_=>exact⟨4,b9 rfl,by decide,by decide⟩
theorem two_at {d a b m:Int} (h0:0<=d) (h1:d < 2) (ha:0<=a/\a < m) (hb:0<=b/\b < m):∃v:Int,eu [V.int a,.int b] d=some (.int v)/\0<=v/\v < m:=by
 obtain⟨n,rfl⟩:=gK h0
 match n,(show n < 2 by omega) with
 |0,_=>exact⟨a,b9 rfl,ha⟩
 |1,_=>exact⟨b,b9 rfl,hb⟩
inductive A6 (vs:List V) (H:Hp) (Q:VK) (E:XK):Prop
 |mk {p n:Addr}{ys:List Str} (_:vs = [.ref p,.ref n]) (_:d9 p H) (_:p≠n) (_:H n=some (.lst (ys.map V.str))) (_:ys.length<=20) (_:∀ (l:Addr) (own rest:List Str) (H':Hp),H l=none->(own++rest).Perm ys->own.length<=4->aY p H H'->H' l=some (.lst (own.map V.str))->Q (.ref l) H'):A6 vs H Q E
noncomputable abbrev adW:List Str:= ["_law_pot_here","_law_made","_law_left","_law_own","_law_turn","_law_at"]
theorem xK:bK adW ["_law_pot_here","_law_made"] (aM El):=b6
theorem abi {sA:FuncData} (F:a6 K "_law_parents" "_law_parents" El f fd) (B:dY mg) (FD:a6 K "_law_digit" "_law_digit" xk fD sA) (bD:Binds K sA ["_law_pot_here","_law_many"] []) (mD:mg "_law_digit" = some (.ref fD)) :
  a9 P w K mg base aK 2 f fd ["_law_pot_here","_law_made"] A6:=by
 have GD:a9 P w K mg base aK 1 fD sA ["_law_pot_here","_law_many"] jO:=EL FD;refine F.ok xK (fun vs H Q E h=>?_) (fun aG A outer s H vs Q E hr h=>?_)
 ·obtain⟨rfl,_⟩:=h;rfl
 ·obtain @⟨p,n,ys,rfl,hp,hpn,hn,hlen,q⟩:=h
  have aZ:aV 1 _:=hr;refine⟨_,aB (aW (i:=2) xK.nd rfl (Or.inl rfl) (f' wg rfl B.list boot_list (aa (pv 1) af)))
   (aB (aW (i:=3) xK.nd rfl (Or.inl rfl) (cw af))
   (aB (lj j' rfl (mj rfl B.range (aa (bJ (MF rfl) rfl B.min boot_min (aa (bJ gu rfl B.len gs (aa (pv 2) af))
     (aa (aP bE (cw (aa ao (aa ao (aa ao (aa ao (aa ao (aa ao (aa ao af)))))))) (k7 GD aZ rfl mD FD.kp bD .nil jo (aa (pv 0) (aa ao af)))) af))) af)) (bw (i:=4) xK.nd rfl (Or.inl rfl))
    (aB (aW (i:=5) xK.nd rfl (Or.inl rfl) (aP bE (cw (aa (k7 GD aZ rfl mD FD.kp bD .nil jo (aa (pv 0) (aa (bJ gu rfl B.len gs (aa (pv 2) af)) af)))
      (aa (bA lq (bJ gu rfl B.len gs (aa (pv 2) af)) ao) af))) (k7 GD aZ rfl mD FD.kp bD .nil jo (aa (pv 0) (aa ao af)))))
    (aN (jN (mE tf DG DH tI (pv 3)
     (aa (mE tf PySem.F.slot_list_pop PySem.F.type_list_pop Yt (pv 2) (aa (pv 5) af)) af))))))
   (aN (br (pv 3))))),?_⟩
  refine⟨_,rfl,n,_,rfl,.inl (aj.of hn),fun la eG=>?_⟩;refine⟨bR _,fun fa kH=>?_⟩;have CC:p≠la:=hp.ne eG;have JM:la≠fa:=aA ag kH;have uI:H fa=none:=(ay eG).free kH;have vq:p≠fa:=hp.ne uI;have P0:aY p H (upd (upd H la (.lst (ys.map V.str))) fa (.lst [])):=((aY.refl hp).new eG).new kH;have eN:(upd (upd H la (.lst (ys.map V.str))) fa (.lst [])) la=some (.lst (ys.map V.str)):=by rw[ah JM];exact ag
  have HG:(upd (upd H la (.lst (ys.map V.str))) fa (.lst [])) fa=some (.lst []):=ag;generalize upd (upd H la (.lst (ys.map V.str))) fa (.lst [])=H0 at P0 eN HG ⊢;refine⟨_,rfl,la,_,rfl,.inl (aj.of eN),?_⟩;refine⟨by show 7<=sizeLine;rw[aQ];decide,fun c hc=>?_⟩
  have Pc:=P0.new (o:= .lst [V.int 0,.int 1,.int 1,.int 2,.int 2,.int 3,.int 4]) hc;refine⟨_,rfl,cF (p:=p) (m:=7) Pc.ok (by decide) (by decide) fun d H1 d0 d1 iE=>?_⟩
  have qh:p≠c:=P0.ok.ne hc;obtain⟨v,hv,v0,v4⟩:=acy d0 d1;refine⟨c,_,d,.int v,rfl,rfl,aj.of (iE.kp _ _ ag (ba qh)),hv,?_⟩;have P1:=Pc.trans iE;have x6:H1 la=some (.lst (ys.map V.str)):=iE.kp _ _ (by rw[ah (aA eN hc)];exact eN) (ba CC)
  have x8:H1 fa=some (.lst []):=iE.kp _ _ (by rw[ah (aA HG hc)];exact HG) (ba vq)
  refine⟨_,v,rfl,?_⟩;rw[aE];obtain⟨N,hN,hN4,hNl⟩:∃N:Nat,(if v < (ys.length:Int) then v else (ys.length:Int))=N/\N<=4/\N<=ys.length:=by
   split
   ·exact⟨v.toNat,by omega,by omega,by omega⟩
   ·exact⟨ys.length,rfl,by omega,aO _⟩
  rw[hN];refine⟨(N:Int),rfl,by omega,by omega,tH (fun i σ H1=>∃ (zs ls:List Str) (v4 v5:Option V),σ = [some (.ref p),some (.ref n),some (.ref la),some (.ref fa),v4,v5]/\zs.length=i/\(zs++ls).Perm ys/\aY p H H1/\H1 la=some (.lst (ls.map V.str))/\H1 fa=some (.lst (zs.map V.str)))
   ⟨[],ys,none,none,rfl,rfl,qD _,P1,x6,x8⟩ ?_ ?_⟩
  ·rintro i σ H1 hi ⟨zs,ls,v4,v5,rfl,hz,hP,pa,x6,x8⟩
   have acz:=hP.length_eq;rw[fu]at acz;have iV:i < N:=by simpa using hi
   have uH:0 < ls.length:=by omega
   refine⟨_,rfl,_,rfl,la,_,rfl,.inl (aj.of x6),?_⟩;refine cF (p:=p) pa.ok (by rw[aE];omega) (by rw[aE];omega) fun d H2 d0 d1 pb=>?_
   have HH:=pb.kp _ _ x6 (ba CC);have QL:=pb.kp _ _ x8 (ba vq);rw[aE]at d1;refine⟨_,rfl,la,_,rfl,.inl (aj.of HH),_,1,rfl,rfl,?_⟩;rw[aE];refine⟨cH,fun c2 cU=>?_⟩;have Tc:=(pa.trans pb).new (o:= .lst [V.int d,.int ((ls.length:Int) - 1)]) cU;have adX:p≠c2:=pb.ok.ne cU;refine⟨_,rfl,cF (p:=p) (m:=2) Tc.ok (by decide) (by decide) fun e H3 e0 e1 pe=>?_⟩
   obtain⟨v,hv,v0,v1⟩:=two_at (a:=d) (b:=(ls.length:Int) - 1) (m:=(ls.length:Int)) e0 e1 ⟨d0,d1⟩ ⟨by omega,by omega⟩
   have lD:H3 la=some (.lst (ls.map V.str)):=pe.kp _ _ (by rw[ah (aA HH cU)];exact HH) (ba CC)
   have uJ:H3 fa=some (.lst (zs.map V.str)):=pe.kp _ _ (by rw[ah (aA QL cU)];exact QL) (ba vq)
   have P3:=Tc.trans pe;refine⟨c2,_,e,.int v,rfl,rfl,aj.of (pe.kp _ _ ag (ba adX)),hv,?_⟩;have hd:v.toNat < ls.length:=by omega
   refine⟨_,rfl,.inl ⟨rfl,_,aj.of uJ⟩,_,rfl,.inl ⟨rfl,_,aj.of lD⟩,_,rfl,?_⟩;refine⟨la,_,v,v.toNat,.str ls[v.toNat],rfl,rfl,lD,by omega,by omega,Lg v0 (by rw[aE];exact v1),by rw[eK,bC hd];rfl,?_⟩
   have adY:(upd H3 la (.lst ((ls.map V.str).eraseIdx v.toNat))) fa=some (.lst (zs.map V.str)):=by rw[ah (ba JM)];exact uJ
   refine⟨fa,_,_,rfl,rfl,adY,by rw[aE,aQ];omega,?_⟩
   refine⟨zs ++ [ls[v.toNat]],ls.eraseIdx v.toNat,_,_,rfl,by rw[fu];simp[hz],?_,(P3.write eG CC).write uI vq,?_,?_⟩
   ·refine List.Perm.trans ?_ hP
    rw[Vv];exact amz zs (Mx ls _ hd)
   ·rw[ah JM,ag,M']
   ·rw[ag,bZ];rfl
  ·rintro σ H1 ⟨zs,ls,v4,v5,rfl,hz,hP,pa,x6,x8⟩
   have Cj:zs.length=N:=by simpa using hz
   exact⟨_,rfl,q fa zs ls H1 uI hP (by omega) pa x8⟩
end df
namespace df
open PySem L2 HT
def kept (rows:List (List Str)) (o:List Str):Bool:=rows.all fun r=>decide ((o.filter fun n=>decide (n∈r))=r)
theorem Eb {all:List (List Str)}{n:Str}:∀ {rest:List (List Str)},kZ all rest=some n->eU 0 all n=none /\ ∃ (i:Nat) (r:List Str),rest[i]? = some r/\r.head? = some n /\ ∀ (j:Nat) (q:List Str) (y:Str),rest[j]? = some q->q.head? = some y->eU 0 all y=none->i<=j
 |[],h=>by cases h
 |[]::rest,h=>by
  obtain⟨h1,i,r,e1,e2,e3⟩:=Eb (rest:=rest) h;refine⟨h1,i+1,r,by simpa using e1,e2,fun j q y hj hq hy=>?_⟩
  cases j with
  |zero =>
   obtain rfl : []=q:=by simpa using hj
   simp at hq
  |succ j=>have:=e3 j q y (by simpa using hj) hq hy;omega
 |(x::t)::rest,h=>by
  have h:(if (eU 0 all x).isNone then some x else kZ all rest)=some n:=h
  by_cases c:(eU 0 all x).isNone=true
  ·rw[aF c]at h
   cases h
   exact⟨by simpa using c,0,_,rfl,rfl,fun _ _ _ _ _ _=>bR _⟩
  ·rw[ax c]at h
   obtain⟨h1,i,r,e1,e2,e3⟩:=Eb (rest:=rest) h;refine⟨h1,i+1,r,by simpa using e1,e2,fun j q y hj hq hy=>?_⟩
   cases j with
   |zero =>
    obtain rfl:x::t=q:=by simpa using hj
    obtain rfl:x=y:=by simpa using hq
    exact absurd (by rw[hy];rfl) c
   |succ j=>have:=e3 j q y (by simpa using hj) hq hy;omega
noncomputable def aae (rest:List (List Str)) (q:List Str):Prop:=q.Nodup /\ ∀x,x∈q ↔ ∃r∈rest,x∈r
theorem EM {q:List Str}:kept rest q=true ↔ ∀r∈rest,(q.filter fun n=>decide (n∈r))=r:=by
 unfold kept;rw[j8];simp
theorem Me:(∃r∈L2.without n rest,x∈r) ↔ x≠n /\ ∃r∈rest,x∈r:=by
 constructor
 ·rintro⟨r,hr,hx⟩
  obtain⟨q,hq,rfl⟩:=bT.mp hr;have:=f6.mp hx;exact⟨by simpa using this.2,q,hq,this.1⟩
 ·rintro⟨h,q,hq,hx⟩
  exact⟨_,bT.mpr ⟨q,hq,rfl⟩,f6.mpr ⟨hx,by simpa using h⟩⟩
theorem aaf:(rest.any fun r=>!r.isEmpty)=true ↔ ∃r∈rest,∃x,x∈r:=by
 rw[zH]
 constructor
 ·rintro⟨r,hr,e⟩
  cases r with
  |nil=>simp at e
  |cons x t=>exact⟨_,hr,x,bu⟩
 ·rintro⟨r,hr,x,hx⟩
  refine⟨r,hr,?_⟩;cases r with
  |nil=>simp at hx
  |cons y t=>rfl
theorem sound:∀ (m:Nat) (rest:List (List Str)),total rest=m->(∀r∈rest,r.Nodup) -> ∀o,cJ (total rest) rest=some o->aae rest o/\kept rest o=true:=by
 intro m
 induction m using Nat.strongRecOn with
 |_ m ih =>
  intro rest hm gE o ho;cases hA:rest.any fun r=>!r.isEmpty with
  |false =>
   rw[D5 hA]at ho;cases ho
   have emp:∀r∈rest,∀x,x ∉ r:=fun r hr x hx=>by
    have:=aaf.mpr ⟨r,hr,x,hx⟩;rw[hA]at this;cases this
   refine⟨⟨qC,fun x=>⟨fun h=>by simp at h,fun⟨r,hr,hx⟩=>absurd hx (emp r hr x)⟩⟩,EM.mpr fun r hr=>?_⟩
   cases r with
   |nil=>rfl
   |cons y t=>exact absurd bu (emp _ hr y)
  |true =>
   cases e:iJ rest with
   |none=>rw[D6 hA e]at ho;cases ho
   |some n =>
    rw[D9 hA e]at ho;obtain⟨o',gz,rfl⟩:=kW.mp ho;have lt:=tq (tJ e);obtain⟨⟨h1,h2⟩,h3⟩:=ih _ (by omega) (L2.without n rest) rfl (Mu gE) o' gz
    rw[EM]at h3;have iu:n ∉ o':=fun z=>((Me.mp ((h2 n).mp z)).1 rfl);obtain⟨xq,_⟩:=Eb e;rw[z7]at xq;refine⟨⟨iZ.mpr ⟨iu,h1⟩,fun x=>?_⟩,EM.mpr fun r hr=>?_⟩
    ·rw[bH,h2,Me]
     constructor
     ·rintro(rfl|h)
      ·exact tJ e
      ·exact h.2
     ·intro h
      by_cases z:x=n
      ·exact .inl z
      ·exact .inr ⟨z,h⟩
    ·have CD:=h3 _ (bT.mpr ⟨r,hr,rfl⟩)
     have same:(o'.filter fun y=>decide (y∈r))=o'.filter fun y=>decide (y∈r.filter fun y=>!decide (y=n)):=by
      apply List.filter_congr
      intro y hy;have:y≠n:=fun z=>iu (z ▸ hy);simp[this]
     by_cases hn:n∈r
     ·have hh:=xq r hr hn
      cases r with
      |nil=>simp at hn
      |cons z t =>
       obtain rfl:z=n:=by simpa using hh
       have ht:z ∉ t:=(iZ.mp (gE _ hr)).1;have et:((z::t).filter fun y=>!decide (y=z))=t:=by
        rw[tm (by simp)]
        exact VZ.mpr fun y hy=>by
         have:y≠z:=fun w=>ht (w ▸ hy)
         simpa using this
       rw[qE (by simp),same,CD,et]
     ·have er:(r.filter fun y=>!decide (y=n))=r:=VZ.mpr fun y hy=>by
       have:y≠n:=fun w=>hn (w ▸ hy)
       simpa using this
      rw[tm (by simpa using hn),same,CD,er]
end df
namespace df
open PySem L2 PySem.W HT
theorem len_sub {a b:List Str} (nd:a.Nodup) (h:∀x∈a,x∈b):a.length<=b.length:=abc nd h
structure Fm (done:List Str) (L Ps:Str->List Str):Prop where
 ps:∀x∈done,(Ps x).Nodup/\(Ps x).length<=4 /\ ∀y∈Ps x,y∈done
 ln:∀x∈done,∃o,cJ (total (rowsOf L (Ps x))) (rowsOf L (Ps x))=some o/\L x=x::o
 ld:∀x∈done,(L x).Nodup /\ ∀y∈L x,y∈done
theorem My:r∈rowsOf L own ↔ (∃y∈own,r=L y)\/r=own:=by
 unfold rowsOf;rw[ff,bT,fw]
 constructor
 ·rintro(⟨y,h,rfl⟩|h)
  ·exact .inl ⟨y,h,rfl⟩
  ·exact .inr h
 ·rintro(⟨y,h,rfl⟩|h)
  ·exact .inl ⟨y,h,rfl⟩
  ·exact .inr h
theorem Fm.uc (F:Fm done L Ps) (nd:own.Nodup) (sub:∀y∈own,y∈done):∀r∈rowsOf L own,r.Nodup /\ ∀y∈r,y∈done:=fun r hr=>by
 rcases My.mp hr with⟨y,hy,rfl⟩|rfl
 ·exact F.ld y (sub y hy)
 ·exact⟨nd,sub⟩
theorem Fm.small (F:Fm done L Ps) (hk:∀x∈done,Nm x) (h8:done.length<=8) (nd:own.Nodup) (h4:own.length<=4) (sub:∀y∈own,y∈done):Small (rowsOf L own):=by
 refine⟨?_,fun r hr=>?_,fun r hr y hy=>?_⟩
 ·unfold rowsOf;rw[fu,aE,nN];omega
 ·obtain⟨h1,h2⟩:=F.uc nd sub r hr
  have:=len_sub h1 h2;omega
 ·exact hk y ((F.uc nd sub r hr).2 y hy)
theorem Fm.order (F:Fm done L Ps) {o:List Str} (nd:own.Nodup) (sub:∀y∈own,y∈done) (hm:cJ (total (rowsOf L own)) (rowsOf L own)=some o):o.Nodup/\(∀y∈o,y∈done) /\ ∀r∈rowsOf L own,∀y∈r,y∈o:=by
 obtain⟨⟨h1,h2⟩,_⟩:=sound _ _ rfl (fun r hr=>(F.uc nd sub r hr).1) o hm;refine⟨h1,fun y hy=>?_,fun r hr y hy=>(h2 y).mpr ⟨r,hr,hy⟩⟩;obtain⟨r,hr,h⟩:=(h2 y).mp hy;exact(F.uc nd sub r hr).2 y h
theorem Xp {L':Str->List Str} (h:∀y∈own,L' y=L y):rowsOf L' own=rowsOf L own:=by
 unfold rowsOf;rw[DC h]
theorem Fm.add (F:Fm done L Ps) {k:Str}{o:List Str} (hk:k ∉ done) (nd:own.Nodup) (h4:own.length<=4) (sub:∀y∈own,y∈done) (hm:cJ (total (rowsOf L own)) (rowsOf L own)=some o) :
  Fm (done ++ [k]) (fun x=>if x=k then k::o else L x) (fun x=>if x=k then own else Ps x):=by
 have nk:∀ {y},y∈done->y≠k:=fun h z=>hk (z ▸ h);have ext:∀ {ps:List Str},(∀y∈ps,y∈done)->rowsOf (fun x=>if x=k then k::o else L x) ps=rowsOf L ps:=fun h=>Xp fun y hy=>ax (nk (h y hy));obtain⟨o1,o2,_⟩:=F.order nd sub hm;refine⟨fun x hx=>?_,fun x hx=>?_,fun x hx=>?_⟩
 ·by_cases e:x=k
  ·rw[aF e];exact⟨nd,h4,fun y hy=>kQ _ (sub y hy)⟩
  ·rw[ax e]
   obtain⟨a,b,c⟩:=F.ps x (by rcases ff.mp hx with z|z;exact z;exact absurd (by simpa using z) e)
   exact⟨a,b,fun y hy=>kQ _ (c y hy)⟩
 ·by_cases e:x=k
  ·refine⟨o,?_,by rw[aF e,e]⟩
   rw[aF e,ext sub];exact hm
  ·have eO:x∈done:=by rcases ff.mp hx with z|z;exact z;exact absurd (by simpa using z) e
   obtain⟨o',h1,h2⟩:=F.ln x eO;refine⟨o',?_,by rw[ax e];exact h2⟩
   rw[ax e,ext (F.ps x eO).2.2];exact h1
 ·by_cases e:x=k
  ·rw[aF e]
   refine⟨iZ.mpr ⟨fun z=>hk (o2 k z),o1⟩,fun y hy=>?_⟩;rcases bH.mp hy with z|z
   ·rw[z];exact gr _ bu
   ·exact kQ _ (o2 y z)
  ·rw[ax e]
   have eO:x∈done:=by rcases ff.mp hx with z|z;exact z;exact absurd (by simpa using z) e
   obtain⟨a,b⟩:=F.ld x eO;exact⟨a,fun y hy=>kQ _ (b y hy)⟩
def jS (Ps:Str->List Str) (ks:List Str):List (Str×List Str):=ks.map fun x=>(x,Ps x)
theorem Mz (Ps:Str->List Str) (ks:List Str):(jS Ps ks).map (·.1)=ks:=by
 unfold jS;rw[md];exact List.map_id' _
theorem Fm.acA (F:Fm ks L Ps) (nd:ks.Nodup) (hk:∀x∈ks,Nm x) (h8:ks.length<=8):pB (jS Ps ks) L:=by
 have mem:∀ {p:Str×List Str},p∈jS Ps ks->p.1∈ks/\p.2=Ps p.1:=fun {p} hp=>by
  obtain⟨x,hx,rfl⟩:=bT.mp hp;exact⟨hx,rfl⟩
 refine⟨by rw[Mz];exact nd,by unfold jS;rw[aE];exact h8,fun p hp=>hk _ (mem hp).1,fun p hp x hx=>?_,⟨fun x=>(L x).length,fun p hp x hx=>?_⟩,fun p hp=>?_⟩
 ·obtain⟨h1,h2⟩:=mem hp
  rw[h2]at hx;exact⟨(x,Ps x),bT.mpr ⟨x,(F.ps _ h1).2.2 x hx,rfl⟩,rfl⟩
 ·obtain⟨h1,h2⟩:=mem hp
  rw[h2]at hx;obtain⟨o,hm,hL⟩:=F.ln _ h1;obtain⟨n1,_,n3⟩:=F.ps _ h1;obtain⟨_,_,h5⟩:=F.order n1 n3 hm;have:=len_sub (F.ld x (n3 x hx)).1 fun y hy=>h5 (L x) (My.mpr (.inl ⟨x,hx,rfl⟩)) y hy;show(L x).length < (L p.1).length;rw[hL,cO];omega
 ·obtain⟨h1,h2⟩:=mem hp
  rw[h2];obtain⟨o,hm,hL⟩:=F.ln _ h1;obtain⟨n1,n2,n3⟩:=F.ps _ h1;obtain⟨h3,h4,_⟩:=F.order n1 n3 hm;exact⟨F.small hk h8 n1 n2 n3,o,hm,hL,by have:=len_sub h3 h4;omega⟩
theorem Yb:cJ (total (rowsOf L [])) (rowsOf L [])=some []:=rfl
theorem Y8 (xs:List Str):gg (xs.map V.str) none (some (-1))=xs.dropLast.map V.str:=by
 unfold gg;have e1:HT.bj (xs.map V.str).length 0 none=0:=rfl;have e2:HT.bj (xs.map V.str).length (xs.map V.str).length (some (-1))=xs.length - 1:=by
  rw[aE];unfold HT.bj;simp;omega
 rw[e1,e2,Lr,VE,<-V0,List.dropLast_eq_take]
theorem jj {xs:List Str} (h:d9 p H) (e:H a=some (.lst (xs.map V.str))):a≠p:=by
 rintro rfl;obtain⟨x,y,e2,_⟩:=h;rw[e]at e2;have e3:xs.map V.str = [.int x,.int y]:=HO.lst.inj (fc e2);cases xs with
 |nil=>cases e3
 |cons z t=>cases e3
theorem eI.fq {kvs:List (Key×V)} (h:eI H kvs L x) (ok:d9 p H) (s:aY p H H'):eI H' kvs L x:=let ⟨a,e,q⟩:=h;⟨a,e,s.kp _ _ q (jj ok q)⟩
theorem eI.write {kvs HI:List (Key×V)}{u:HO} (h:eI H kvs L x) (hd:H d=some (.dK HI)) (e:H'=upd H d u):eI H' kvs L x:=let ⟨a,e1,q⟩:=h;⟨a,e1,by rw[e,ah (aX q hd)];exact q⟩
theorem Ou {kvs:List (Key×V)} (ok:d9 p H) (s:aY p H H') (e:H d=some (.dK kvs)):H' d=some (.dK kvs):=by
 obtain⟨x,y,ep,_⟩:=ok;exact s.kp _ _ e (aX e ep)
theorem Af (h:d9 p H) (s:aq H H'):aY p H H':=by
 obtain⟨x,y,e,r⟩:=h;exact⟨⟨x,y,s _ _ e,r⟩,fun b o e _=>s b o e⟩
theorem Ov {kvs:List (Key×V)}{k:Str}{l:List Str} (hd:H d=some (.dK kvs)) (hl:H a=some (.lst (l.map V.str))) (h:x≠k->eI H kvs L x) :
  eI (upd H d (.dK (putK kvs (Sum.inr k) (.ref a)))) (putK kvs (Sum.inr k) (.ref a)) (fun x=>if x=k then l else L x) x:=by
 unfold eI;rw[qN]
 by_cases e:x=k
 ·subst e
  refine⟨a,by rw[aF rfl],?_⟩
  rw[ah (aX hl hd)];show H a=some (.lst ((if x=x then l else L x).map V.str));rw[aF rfl];exact hl
 ·obtain⟨b,e1,e2⟩:=h e
  refine⟨b,by rw[ax (fun z=>e (oP z))];exact e1,?_⟩
  rw[ah (aX e2 hd)];show H b=some (.lst ((if x=k then l else L x).map V.str));rw[ax e];exact e2
theorem NR {kvs:List (Key×V)}{k:Str} (h:kvs.map (·.1)=done.map Sum.inr) (hk:k ∉ done):(putK kvs (Sum.inr k) v).map (·.1)=(done ++ [k]).map Sum.inr:=by
 have hv:bQ kvs (Sum.inr k)=none:=by
  have:(bQ kvs (Sum.inr k)).isSome=false:=by
   rw[<-qM,Vh];intro kv dc hd;have e:kv.1=Sum.inr k:=eT hd;have:kv.1∈kvs.map (·.1):=bT.mpr ⟨kv,dc,rfl⟩;rw[h,e]at this;obtain⟨y,hy,ey⟩:=bT.mp this;exact hk (oP ey ▸ hy)
  cases e:bQ kvs (Sum.inr k) with
  |none=>rfl
  |some _=>rw[e]at this;cases this
 rw[EA _ hv,bZ,bZ,h];rfl
structure acB (p:Addr) (H:Hp) (ks:List Str) (r d1 d2:Addr) (bf ip:List (Key×V)) (L Ps:Str->List Str) (H':Hp):Prop where
 pa:aY p H H'
 hr:H' r=some (.tup [.ref d1,.ref d2])
 h1:H' d1=some (.dK bf)
 h2:H' d2=some (.dK ip)
 k1:bf.map (·.1)=ks.map Sum.inr
 k2:ip.map (·.1)=ks.map Sum.inr
 l1:∀x∈ks,eI H' bf L x
 l2:∀x∈ks,eI H' ip Ps x
 fm:Fm ks L Ps
 n1:H d1=none
 n2:H d2=none
 n3:H r=none
 vt:d1≠d2
inductive Bw (vs:List V) (H:Hp) (Q:VK) (E:XK):Prop
 |mk {p n:Addr}{ks:List Str} (_:vs = [.ref p,.ref n]) (_:d9 p H) (_:H n=some (.lst (ks.map V.str))) (_:ks.Nodup) (_:(∀x∈ks,Nm x)) (_:ks.length<=8) (_:∀ (r d1 d2:Addr) (bf ip:List (Key×V)) (L Ps:Str->List Str) (H':Hp),acB p H ks r d1 d2 bf ip L Ps H'->Q (.ref r) H'):Bw vs H Q E
noncomputable abbrev nFm:List Str:= ["_law_pot_here","_law_kinds","_law_lines","_law_parents_here","_law_kind","_law_own","_law_turn"]
theorem uK:bK nFm ["_law_pot_here","_law_kinds"] (aM EK):=b6
theorem acC {fP:Addr}{dP:FuncData} (F:a6 K "_law_family" "_law_family" EK f fd) (B:dY mg) (B2:ja mg)
  (GP:bh P w K mg base aK 2 fP dP ["_law_pot_here","_law_made"] A6 "_law_parents")
  (GL:bh P w K mg base aK 2 fL dL ["_law_lines","_law_kind","_law_own"] xZ "_law_line") :
  a9 P w K mg base aK 3 f fd ["_law_pot_here","_law_kinds"] Bw:=by
 refine F.ok uK (fun vs H Q E h=>?_) (fun aG A outer s H vs Q E hr h=>?_)
 ·obtain⟨rfl,_⟩:=h;rfl
 ·obtain @⟨p,n,ks,rfl,hp,hn,knd,ie,k8,q⟩:=h
  have hu:=hr.units;have cy:=iS hu;refine⟨_,aB (aaI (i:=2) (j:=3) rfl uK.nd rfl rfl (by decide) rfl rfl (aa EB (aa EB af)) rfl)
   (aB (lj j' rfl (iK (pv 1)) (bw (i:=4) uK.nd rfl (Or.inl rfl))
    (aB (aW (i:=5) uK.nd rfl (Or.inl rfl) (aU GP hr (aa (pv 0) (aa (f' (DX rfl) rfl B.list boot_list (aa (pv 2) af)) af))))
    (aB (lj j' rfl (mj rfl B.range (aa ao af)) (bw (i:=6) uK.nd rfl (Or.inl rfl))
     (aN (bY (bU xf (aU GL hr (aa (pv 2) (aa (pv 4) (aa (pv 5) af)))) i6 (bz _))
      (aN (aW (i:=5) uK.nd rfl (Or.inl rfl) (kY oZ (pv 5) k9 (lg (FZ Ft ao))))) cf)))
    (aB (tR cy (pv 2) (pv 4) (aU GL hr (aa (pv 2) (aa (pv 4) (aa (pv 5) af)))) rfl)
    (aN (tR cy (pv 3) (pv 4) (pv 5) rfl))))))
   (aN (br (cg (aa (pv 2) (aa (pv 3) af)))))),?_⟩
  intro d1 qi d2 hd2;have S2:aq H (upd (upd H d1 (.dK [])) d2 (.dK [])):=(ay qi).trans (ay hd2);have vt:d1≠d2:=aA ag hd2;have HJ:H d2=none:=(ay qi).free hd2;have QM:(upd (upd H d1 (.dK [])) d2 (.dK [])) d1=some (.dK []):=by rw[ah vt];exact ag
  have QN:(upd (upd H d1 (.dK [])) d2 (.dK [])) d2=some (.dK []):=ag;have S3:=S2;clear S2;refine⟨_,_,rfl,?_⟩;generalize upd (upd H d1 (.dK [])) d2 (.dK [])=H0 at S3 QM QN ⊢;have P0:aY p H H0:=Af hp S3;have oK:p≠d1:=hp.ne qi;have np2:p≠d2:=hp.ne HJ;have Td:n≠p:=jj hp hn;refine⟨_,rfl,n,rfl,⟨_,aj.of (P0.kp _ _ hn Td)⟩,Ew (xs:=ks.map V.str) (fun i σ H1=>∃ (bf ip:List (Key×V)) (L Ps:Str->List Str) (v4 v5 v6:Option V),σ = [some (.ref p),some (.ref n),some (.ref d1),some (.ref d2),v4,v5,v6]/\aY p H H1 /\
   H1 d1=some (.dK bf)/\H1 d2=some (.dK ip)/\bf.map (·.1)=(ks.take i).map Sum.inr/\ip.map (·.1)=(ks.take i).map Sum.inr/\(∀x∈ks.take i,eI H1 bf L x)/\(∀x∈ks.take i,eI H1 ip Ps x)/\Fm (ks.take i) L Ps)
   ⟨[],[],fun _=>[],fun _=>[],none,none,none,rfl,P0,QM,QN,rfl,rfl,fun x hx=>(by cases hx),fun x hx=>(by cases hx),⟨fun x hx=>(by cases hx),fun x hx=>(by cases hx),fun x hx=>(by cases hx)⟩⟩ (fun i σ H1 _ hQ9=>by obtain⟨_,_,_,_,_,_,_,_,z,_⟩:=hQ9;exact aj.of (z.kp _ _ hn Td)) ?_ ?_⟩
  ·rintro i x σ H1 hx ⟨bf,ip,L,Ps,v4,v5,v6,rfl,P1,vw,JN,e1,e2,l1,l2,fm⟩
   have eQ:i < ks.length:=by simpa using (cz.mp hx).1
   obtain rfl:V.str ks[i]=x:=by simpa [eQ] using hx
   have gF:ks.take (i+1)=ks.take i ++ [ks[i]]:=by rw[dg,bC eQ];rfl
   have HK:ks[i] ∉ ks.take i:=by
    have:(ks.take (i+1)).Nodup:=knd.sublist (vW _ _);rw[gF]at this;exact fun z=>(l9.mp this).2.2 _ z _ bu rfl
   have dnd:(ks.take i).Nodup:=knd.sublist (vW _ _);have vx:∀x∈ks.take i,Nm x:=fun x hx=>ie x (wc hx);have d8:(ks.take i).length<=8:=by rw[cT];omega
   have JO:bf.length=(ks.take i).length:=by have:=eJ List.length e1;simpa using this
   have lk2:ip.length=(ks.take i).length:=by have:=eJ List.length e2;simpa using this
   refine⟨_,rfl,_,rfl,d1,bf,rfl,vw,fun l hl=>?_⟩;have ek:bf.map (fun kv=>kV kv.1)=(ks.take i).map V.str:=by
    have:bf.map (fun kv=>kV kv.1)=(bf.map (·.1)).map kV:=by rw[md];rfl
    rw[this,e1,md];rfl
   rw[ek];have Pl:=P1.new (o:= .lst ((ks.take i).map V.str)) hl;have Sl:=ay (o:= .lst ((ks.take i).map V.str)) hl;refine A6.mk rfl Pl.ok (P1.ok.ne hl) ag (by omega) fun oa own rest H3 oJ fg kG pb h3=>?_
   have P3:=Pl.trans pb;have kJ:own.Nodup:=(l9.mp (fg.nodup_iff.mpr dnd)).1;have ju:∀y∈own,y∈ks.take i:=fun y hy=>fg.mem_iff.mp (kQ _ hy);have JP:=Ou Pl.ok pb (Sl _ _ vw);have h32:=Ou Pl.ok pb (Sl _ _ JN);have JQ:∀x∈ks.take i,eI H3 bf L x:=fun x hx=>((l1 x hx).same Sl).fq Pl.ok pb;have l32:∀x∈ks.take i,eI H3 ip Ps x:=fun x hx=>((l2 x hx).same Sl).fq Pl.ok pb;refine⟨4,rfl,by decide,by decide,tH (fun j σ H4=>∃ (oa:Addr) (own:List Str) (v6:Option V),σ = [some (.ref p),some (.ref n),some (.ref d1),some (.ref d2),some (.str ks[i]),some (.ref oa),v6]/\aq H3 H4/\H4 oa=some (.lst (own.map V.str))/\own.Nodup/\(∀y∈own,y∈ks.take i)/\own.length<=4/\(cJ (total (rowsOf L own)) (rowsOf L own)≠none\/own.length+j<=4))
    ⟨oa,own,_,rfl,aq.refl _,h3,kJ,ju,kG,.inr kG⟩ ?_ ?_⟩
   ·clear fg kG kJ ju h3 oJ
    rintro j σ H4 hj ⟨oa,own,v6,rfl,S4,h4,kJ,ju,kG,JR⟩;have ia:=fm.small vx d8 kJ kG ju;have JS:=fun r hr=>(fm.uc kJ ju r hr).1;refine⟨_,rfl,_,rfl,_,rfl,xZ.mk rfl (S4 _ _ JP) h4 (fun x hx=>(JQ x (ju x hx)).same S4) ia JS (fun e H5 S5=>?_) (fun o e lp H5 hlp S5 h5=>?_)⟩
    ·refine⟨rfl,_,rfl,?_⟩
     refine⟨_,rfl,?_⟩;have bc:own ≠ []:=fun z=>by rw[z]at e;cases e
     have uH:0 < own.length:=qF.mpr bc;refine⟨1,rfl,_,rfl,oa,_,rfl,aj.of (S5 _ _ h4),fun c hc=>?_⟩;refine⟨c,own.dropLast,_,rfl,(S4.trans S5).trans (ay hc),?_,kJ.sublist (List.dropLast_sublist _),fun y hy=>ju y (List.dropLast_subset _ hy),by rw[am0];omega,.inr ?_⟩
     ·have:=Y8 own
      rw[ag];exact eJ some (eJ HO.lst this)
     ·rcases JR with z|z
      ·exact absurd e z
      ·rw[am0];omega
    ·refine⟨rfl,_,rfl,?_⟩
     exact⟨oa,own,_,rfl,S4.trans S5,S5 _ _ h4,kJ,ju,kG,.inl (by rw[e];exact LU _)⟩
   ·clear fg kG kJ ju h3 oJ
    rintro σ H4 ⟨oa,own,v6,rfl,S4,h4,kJ,ju,kG,JR⟩;have ia:=fm.small vx d8 kJ kG ju;have JS:=fun r hr=>(fm.uc kJ ju r hr).1;have hn0:cJ (total (rowsOf L own)) (rowsOf L own)≠none:=by
     rcases JR with z|z
     ·exact z
     ·have z2:own.length=0:=by have:own.length+Int.toNat 4<=4:=z;have e4:Int.toNat 4=4:=rfl;omega
      rw[List.length_eq_zero_iff.mp z2,Yb];exact LU _
    refine⟨_,rfl,_,rfl,_,rfl,xZ.mk rfl (S4 _ _ JP) h4 (fun x hx=>(JQ x (ju x hx)).same S4) ia JS (fun e=>absurd e hn0) (fun o e lp H5 hlp S5 h5=>?_)⟩;have y4:=S4.trans S5;have CF:=y4 _ _ JP;have h52:=y4 _ _ h32;refine⟨_,rfl,_,rfl,d1,_,rfl,kr.k (k:=Sum.inr ks[i]) CF (by rw[aQ];omega),?_⟩
    have JT:upd H5 d1 (.dK (putK bf (Sum.inr ks[i]) (.ref lp))) d2=some (.dK ip):=by rw[ah (ba vt)];exact h52
    refine⟨_,rfl,_,rfl,_,rfl,d2,_,rfl,kr.k (k:=Sum.inr ks[i]) JT (by rw[aQ];omega),?_⟩
    have P5:aY p H H5:=P3.trans (Af P3.ok y4);have l61:∀x∈ks.take (i+1),eI (upd H5 d1 (.dK (putK bf (Sum.inr ks[i]) (.ref lp)))) (putK bf (Sum.inr ks[i]) (.ref lp)) (fun x=>if x=ks[i] then ks[i]::o else L x) x:=fun x hx=>Ov CF h5 fun ne=>(JQ x (by
     rw[gF]at hx;rcases ff.mp hx with z|z
     ·exact z
     ·exact absurd (by simpa using z) ne)).same y4
    have h6o:upd H5 d1 (.dK (putK bf (Sum.inr ks[i]) (.ref lp))) oa=some (.lst (own.map V.str)):=by rw[ah (aX (S5 _ _ h4) CF)];exact S5 _ _ h4
    refine⟨_,_,_,_,_,_,_,rfl,(P5.write qi oK).write HJ np2,by rw[ah vt];exact ag,ag,by rw[gF];exact NR e1 HK,by rw[gF];exact NR e2 HK,fun x hx=>(l61 x hx).write JT rfl,fun x hx=>?_,by rw[gF];exact fm.add HK kJ kG ju e⟩
    refine Ov JT h6o fun ne=>?_;exact((l32 x (by
     rw[gF]at hx;rcases ff.mp hx with z|z
     ·exact z
     ·exact absurd (by simpa using z) ne)).same y4).write CF rfl
  ·rintro σ H1 ⟨bf,ip,L,Ps,v4,v5,v6,rfl,P1,vw,JN,e1,e2,l1,l2,fm⟩
   rw[aE,cQ]at e1 e2 l1 l2 fm;refine⟨_,rfl,_,rfl,cH,fun r hr=>?_⟩;have Sr:=ay (o:= .tup [V.ref d1,.ref d2]) hr;have hrH:H r=none:=by
    cases e:H r with
    |none=>rfl
    |some u =>
     have nrp:r≠p:=fun z=>by obtain⟨_,_,z2,_⟩:=P1.ok;rw[z,z2]at hr;cases hr
     rw[P1.kp r u e nrp]at hr;cases hr
   exact q r d1 d2 bf ip L Ps _ ⟨P1.trans (Af P1.ok Sr),ag,Sr _ _ vw,Sr _ _ JN,e1,e2,fun x hx=>(l1 x hx).same Sr,fun x hx=>(l2 x hx).same Sr,fm,qi,HJ,hrH,vt⟩
inductive Bx (vs:List V) (H:Hp) (Q:VK) (E:XK):Prop
 |mk {d:Addr}{kvs:List (Key×V)}{ks:List Str}{Ps:Str->List Str} (_:vs = [.ref d]) (_:H d=some (.dK kvs)) (_:kvs.map (·.1)=ks.map Sum.inr) (_:ks.Nodup) (_:ks.length<=8) (_:(∀x∈ks,eI H kvs Ps x)) (_:∀t o ws aH H',(∀b u,b≠d->H b=some u->H' b=some u)->H' t=some (.aR o (.tup ws))->o.dict=none->dJ H' ws aH->aH.Perm (jS Ps ks)->Q (.ref t) H'):Bx vs H Q E
theorem adZ:bK ["_law_parents_here"] ["_law_parents_here"] (aM w8):=b6
noncomputable abbrev eFt:Expr:=gN (gN (jY (b5 (b4 w8) 0)))
theorem QO:b8 ["_law_parents_here"] (aM w8) ["_law_kind","_law_parents_here"] [none,some 0] (cK eFt):=dH
theorem OT {kvs:List (Key×V)} (hk:kvs.map (·.1)=ks.map Sum.inr) {kv:Key×V} (h:kvs[i]? = some kv):∃x,ks[i]? = some x/\kv.1=Sum.inr x:=by
 have h1:(kvs.map (·.1))[i]? = some kv.1:=by rw[eK,h];rfl
 rw[hk,eK]at h1;obtain⟨x,hx,e⟩:=kW.mp h1;exact⟨x,hx,e.symm⟩
theorem dJ.keyed (h:dJ H vs aH):∃kvs,t8 H 1 vs kvs/\kvs.map (·.1)=(aH.map (·.1)).map fun x=>[x]:=by
 induction h with
 |nil=>exact⟨[],.nil,rfl⟩
 |@cons _ p _ _ h _ ih =>
  obtain⟨a,b,e,q,r⟩:=h;obtain⟨kvs,h1,h2⟩:=ih;exact⟨([p.1],[.ref b])::kvs,.cons ⟨a,e,q,rfl⟩ h1,by rw[ck,h2];rfl⟩
theorem acD (F:a6 K "_law_family_tuple" "_law_family_tuple" w8 f fd) (B:dY mg) (B2:ja mg):a9 P w K mg base aK 1 f fd ["_law_parents_here"] Bx:=by
 refine F.ok adZ (fun vs H Q E h=>?_) (fun aG A outer s H vs Q E hr h=>?_)
 ·obtain⟨rfl,_⟩:=h;rfl
 ·obtain @⟨d,kvs,ks,Ps,rfl,hd,hk,knd,k8,l2,q⟩:=h
  have hu:=hr.units;have cy:=iS hu;refine⟨_,aN (br (f' Wb rfl B.tuple boot_tuple (aa (bJ DQ rfl B2.sorted boot_sorted (aa (eV rfl QO (Oc (pv 0)) (fun s H fp=>⟨bw (i:=0) QO.nd rfl (Or.inl rfl),gv,
     cg (aa (pv 0) (aa (f' (L7 K rfl) rfl B.tuple boot_tuple (aa (jl cy (pv 1) (pv 0)) af)) af))⟩)) af)) af))),?_⟩
  have lk:kvs.length=ks.length:=by have:=eJ List.length hk;simpa using this
  refine⟨_,rfl,d,kvs,rfl,.inl ⟨hd,fun o2 c hc=>?_⟩⟩;have e7:∀b u,b≠d->H b=some u->upd H d (.aR o2 (.dK kvs)) b=some u:=fun b u n e=>by rw[ah n];exact e
  have cX:upd H d (.aR o2 (.dK kvs)) d=some (.aR o2 (.dK kvs)):=ag;have l0:∀x∈ks,eI (upd H d (.aR o2 (.dK kvs))) kvs Ps x:=fun x hx=>let ⟨b,e1,e2⟩:=l2 x hx;⟨b,e1,e7 _ _ (aX e2 hd) e2⟩
  generalize upd H d (.aR o2 (.dK kvs))=H1 at e7 cX l0 hc ⊢;refine MU (fun i ys τ H2=>∃t0:Option V,τ = [t0,some (.ref d)]/\H2 c=some (.lst ys)/\aq H1 H2/\dJ H2 ys (jS Ps (ks.take i))) ⟨none,rfl,ag,ay hc,.nil⟩ (fun i ys τ H2 hQ9=>by obtain⟨_,_,z1,z2,_⟩:=hQ9;exact ⟨z1,z2 _ _ cX⟩) ?_ ?_
  ·rintro i kv ys τ H2 dc ⟨t0,rfl,h2,iF,F2⟩
   have bX:i < kvs.length:=(cz.mp dc).1;have eQ:i < ks.length:=by omega
   obtain⟨x,Te,ek⟩:=OT hk dc;rw[ek];have hx:x∈ks:=jH Te;have gF:ks.take (i+1)=ks.take i ++ [x]:=by rw[dg,Te];rfl
   obtain⟨a,ea,ha⟩:=(l0 x hx).same iF;refine⟨_,rfl,_,rfl,_,rfl,d,.ref a,rfl,.inl ⟨kvs,Sum.inr x,.inr ⟨o2,iF _ _ cX⟩,rfl,ea.symm⟩,?_⟩;refine⟨a,_,rfl,.inl ⟨aj.of ha,fun b hb=>?_⟩⟩;have Sb:=ay (o:= .tup ((Ps x).map V.str)) hb;refine⟨cH,fun t ht=>?_⟩;have St:=Sb.trans (ay (o:= .tup [V.str x,.ref b]) ht);have Tf:upd (upd H2 b (.tup ((Ps x).map V.str))) t (.tup [V.str x,.ref b]) b=some (.tup ((Ps x).map V.str)):=by rw[ah (aA ag ht)];exact ag
   have vy:=St _ _ h2;refine⟨vy,?_,cw_next bX ⟨_,rfl,ag,fun x u hx=>by rw[ah (aA hx hc)];exact St _ _ (iF x u hx),?_⟩⟩
   ·have:=F2.length
    unfold jS at this;rw[aE,cT]at this;rw[aQ];omega
   ·have ef:jS Ps (ks.take (i+1))=jS Ps (ks.take i) ++ [(x,Ps x)]:=by rw[gF];unfold jS;rw[bZ];rfl
    rw[ef];refine dJ.append (F2.keep fun x xs hx=>?_) ?_ ?_ (b:=b)
    ·rw[ah (aX hx h2)];exact St _ _ hx
    ·rw[ah (aX ag vy)];exact ag
    ·rw[ah (aX Tf vy)];exact Tf
  ·rintro ys τ H2 ⟨t0,rfl,h2,iF,F2⟩
   rw[lk,cQ]at F2;obtain⟨HI,pv,ekv⟩:=F2.keyed;have Ct:=F2.length;have JU:(jS Ps ks).length=ks.length:=by unfold jS;exact aE ..
   refine⟨c,ys,HI,1,rfl,.inl (aj.of h2),pv,aO _,by rw[ekv,Mz];exact knd.map _ fun a b n e=>n (List.cons.inj e).1,by omega,fun D dM fQ hD fg Tg pZ qj=>?_⟩
   have SD:=ay (o:= .lst dM) hD;refine⟨D,dM,rfl,aj.of ag,fun t o ht ho=>?_⟩;have St:=SD.trans (ay (o:= .aR o (.tup dM)) ht);obtain⟨xY,vz,F3⟩:=Md fg F2;exact q t o dM xY _ (fun b u n e=>St _ _ (iF _ _ (e7 b u n e))) ag ho (dJ.same F3 St) vz
theorem boot_int:bootBuiltins "int" = some (.type "int"):=by decide +kernel
theorem boot_bool:bootBuiltins "bool" = some (.type "bool"):=by decide +kernel
structure HL (mg:Str->Option Value):Prop where
 int:mg "int" = none
 bool:mg "bool" = none
def jQ (d:PyData):Bool:=gC "int" d && !gC "bool" d
def fh (x:Str):Bool:=decide (1<=x.length) && (decide (x.length<=8) && x.cps.toList.all fun c=>decide (97<=c) && decide (c<=122))
def cY:PyData->Bool|.str x=>fh x|_=>false
inductive o8 (vs:List V) (H:Hp) (Q:VK) (E:XK):Prop
 |mk {p:Addr}{v:V}{d:PyData} (_:vs = [v]) (_:Dt p H v d) (_:Q (.bl (jQ d)) H):o8 vs H Q E
theorem aag:bK ["thing"] ["thing"] (aM EH):=b6
theorem Y9 (F:a6 K "is_whole" "is_whole" EH f fd) (B2:ja mg) (B3:HL mg):a9 P w K mg base aK 1 f fd ["thing"] o8:=by
 refine F.ok aag (fun vs H Q E h=>?_) (fun aG A outer s H vs Q E hr h=>?_)
 ·obtain⟨rfl,_⟩:=h;rfl
 ·obtain @⟨p,v,d,rfl,r,q⟩:=h
  refine⟨_,aN (br (ij (bJ qL rfl B2.kI kc (aa (pv 0) (aa (oY (v:= .ty "int") rfl B3.int boot_int rfl) af))) (jP (OG (bJ qL rfl B2.kI kc (aa (pv 0) (aa (oY (v:= .ty "bool") rfl B3.bool boot_bool rfl) af))))))),?_⟩;refine⟨_,rfl,rf ZY r ⟨_,rfl,?_⟩⟩;cases hb:gC "int" d with
  |false=>rw[show jQ d=false by unfold jQ;rw[hb];rfl]at q;exact q
  |true =>
   refine⟨_,rfl,rf YM r ⟨_,rfl,?_⟩⟩;rw[show jQ d = !gC "bool" d by unfold jQ;rw[hb];rfl]at q;exact q
inductive mx (vs:List V) (H:Hp) (Q:VK) (E:XK):Prop
 |mk {p:Addr}{v:V}{d:PyData} (_:vs = [v]) (_:Dt p H v d) (_:(∀x,d = .str x->x.length<=100000)) (_:∀H',aq H H'->Q (.bl (cY d)) H'):mx vs H Q E
theorem abj (c:Nat):(!decide ((⟨#[c]⟩:Str).cps.toList < (Str.ofString "a").cps.toList))=decide (97<=c):=by
 have hA:(Str.ofString "a").cps.toList = [97]:=by decide +kernel
 rw[hA,<-decide_not];refine we.mpr ?_;simp[am1]
theorem abk (c:Nat):(!decide ((Str.ofString "z").cps.toList < (⟨#[c]⟩:Str).cps.toList))=decide (c<=122):=by
 have hA:(Str.ofString "z").cps.toList = [122]:=by decide +kernel
 rw[hA,<-decide_not];refine we.mpr ?_;simp[am1]
theorem aah {d:PyData} (h:gC "str" d=false):cY d=false:=by cases d <;> first|rfl|cases h
theorem Y' (F:a6 K "is_name" "is_name" wZ f fd) (B:dY mg) (B2:ja mg):a9 P w K mg base aK 1 f fd ["thing"] mx:=by
 refine F.ok abf (fun vs H Q E h=>?_) (fun aG A outer s H vs Q E hr h=>?_)
 ·obtain⟨rfl,_⟩:=h;rfl
 ·obtain @⟨p0,v,d,rfl,r,hlen,q⟩:=h
  have hu:=hr.units;refine⟨_,aB (bY (PW.pt (pw_or (lh (i7 (bJ qL rfl B2.kI kc (aa (pv 0) (aa (oY (v:= .ty "str") rfl B2.str boot_str rfl) af)))))
     (pw_or1 (lh (Yn xt xt ao (bJ Wo rfl B.len gs (aa (pv 0) af)) ao))))) (aN (br mz)) cf)
   (aN (br (bJ (Eh rfl) rfl B.all boot_all (aa (eV rfl Pn (aaZ (pv 0)) (fun s H fp=>⟨bw (i:=0) Pn.nd rfl (Or.inl rfl),gv,Nh MQ MQ cu (pv 0) cu⟩)) af)))),?_⟩
  refine⟨_,rfl,rf E6 r ⟨_,rfl,?_⟩⟩;cases hb:gC "str" d with
  |false=>have q':=q _ (aq.refl _);rw[aah hb]at q';exact q'
  |true =>
   obtain⟨x,rfl⟩:∃x,d = .str x:=by cases d with
    |str x=>exact⟨x,rfl⟩
    |_=>cases hb
   obtain rfl:v = .str x:=by cases r;rfl
   have Th:=hlen x rfl;refine⟨_,rfl,x,rfl,by rw[aQ];omega,1,x.length,rfl,rfl,_,rfl,?_⟩
   by_cases h1:1<=x.length
   ·refine ite_tt (cm (by omega)) ?_
    refine⟨x.length,8,rfl,rfl,_,rfl,?_⟩
    by_cases h8:x.length<=8
    ·have e8:decide ((x.length:Int)<=8)=true:=cm (by omega)
     have hlc:x.cps.size<=8:=h8;rw[e8];refine⟨_,rfl,x,rfl,fun p hp=>?_⟩;refine YC (fun i ys τ H1=>∃t0:Option V,τ = [t0]/\ys=((x.cps.toList.take i).map fun c=>decide (97<=c) && decide (c<=122)).map V.bl/\H1=upd H p (.lst ys)) ⟨none,rfl,rfl,rfl⟩ (fun i ys τ H1 ⟨_,_,_,z⟩=>by rw[z];exact ag) ?_ ?_
     ·rintro i c ys τ H1 hc ⟨t0,rfl,rfl,rfl⟩
      have eQ:i < x.cps.size:=(Lm.mp hc).1;have yp:x.cps.toList.take (i+1)=x.cps.toList.take i ++ [c]:=by rw[dg,zE,hc];rfl
      refine⟨_,rfl,_,_,rfl,rfl,_,rfl,?_⟩;rw[abj];have len:((((x.cps.toList.take i).map fun c=>decide (97<=c) && decide (c<=122)).map V.bl).length) < sizeLine:=by rw[aE,aE,cT,f7,aQ];omega
      cases IJ:decide (97<=c) with
      |false =>
       refine ite_ff rfl ⟨ag,len,cw_next eQ ⟨_,rfl,?_,by rw[k6]⟩⟩
       rw[yp,bZ,bZ,ck,IJ];rfl
      |true =>
       refine ite_tt rfl ⟨_,_,rfl,rfl,ag,len,cw_next eQ ⟨_,rfl,?_,by rw[k6]⟩⟩
       rw[abk,yp,bZ,bZ,ck,IJ];rfl
     ·rintro ys τ H1 ⟨t0,rfl,rfl,rfl⟩
      refine⟨p,_,rfl,aj.of ag,?_⟩;have q':=q _ (ay (o:= .lst (((x.cps.toList.take x.cps.size).map fun c=>decide (97<=c) && decide (c<=122)).map V.bl)) hp);rw[show cY (.str x)=((x.cps.toList.take x.cps.size).map fun c=>decide (97<=c) && decide (c<=122)).all id by
       show fh x=_;unfold fh;rw[cm h1,cm h8,Dx,LS (by rw[f7];exact aO _)];rfl]at q'
      exact q'
    ·have e8:decide ((x.length:Int)<=8)=false:=dZ (by omega)
     rw[e8];have q':=q _ (aq.refl _);rw[show cY (.str x)=false by show fh x=_;unfold fh;rw[dZ h8];simp]at q'
     exact q'
   ·refine ite_ff (dZ (by omega)) ?_
    have q':=q _ (aq.refl _);rw[show cY (.str x)=false by show fh x=_;unfold fh;rw[dZ h1];simp]at q'
    exact⟨_,rfl,q'⟩
theorem AN {ds:List PyData} (r:Dt p H v (.tuple ds)):∃a vs,v = .ref a/\a≠p/\H a=some (.tup vs)/\bG p H vs ds:=by
 cases r with
 |tup n e rs=>exact⟨_,_,rfl,n,e,rs⟩
theorem oW {d:PyData}{ds:List PyData} (r:bG p H vs (d::ds)):∃v ws,vs=v::ws/\Dt p H v d/\bG p H ws ds:=by
 cases r with
 |cons a b=>exact⟨_,_,rfl,a,b⟩
theorem Ow (r:bG p H vs []):vs = []:=by cases r;rfl
theorem iO (r:Dt p H v (.str x)):v = .str x:=by cases r;rfl
theorem abl {x:Int} (r:Dt p H v (.int x)):v = .int x:=by cases r;rfl
theorem is_tup {d:PyData} (h:gC "tuple" d=true):∃ds,d = .tuple ds:=by
 cases d with
 |tuple ds=>exact⟨ds,rfl⟩
 |_=>cases h
theorem abm {d:PyData} (h:gC "str" d=true):∃x,d = .str x:=by
 cases d with
 |str x=>exact⟨x,rfl⟩
 |_=>cases h
theorem Yc {d:PyData} (h:jQ d=true):∃n,d = .int n:=by
 cases d with
 |int n=>exact⟨n,rfl⟩
 |_=>cases h
theorem eh {x:V}:eu (x::xs) 0=some x:=(show eu (x::xs) ((0:Nat):Int)=some x from b9 rfl)
theorem g8 {x:V}:eu (x::y::xs) 1=some y:=(show eu (x::y::xs) ((1:Nat):Int)=some y from b9 rfl)
theorem By {x z:V}:eu (x::y::z::xs) 2=some z:=(show eu (x::y::z::xs) ((2:Nat):Int)=some z from b9 rfl)
theorem uv {a b:Str}:decide (V.str a=V.str b)=(a==b):=by
 rw[show(a==b)=decide (a=b) from rfl];exact we.mpr ⟨fun e=>by injection e,fun e=>by rw[e]⟩
theorem NS:∀ {ds:List PyData}{d:PyData},d∈ds->d.bulk+1<=PyData.bulkAll ds
 |e::ds,d,h=>by
  rcases bH.mp h with rfl|h
  ·simp only[PyData.bulkAll];omega
  ·have:=NS h;simp only[PyData.bulkAll];omega
noncomputable def Sm (d:PyData):Prop:=d.bulk<=100000
theorem Sm.str {d:PyData} (h:Sm d):∀x,d = .str x->x.length<=100000:=fun x e=>by subst e;exact h
theorem Sm.tup {ds:List PyData} (h:Sm (.tuple ds)):∀d∈ds,Sm d:=fun d hd=>by
 have:=NS hd;have h':PyData.bulkAll ds<=100000:=h;unfold Sm;omega
def pF:PyData->Bool|.tuple (.str _::_)=>true|_=>false
def fj:PyData->Bool
 |.tuple (.str s::ds)=>if s == "onward" then ds.isEmpty else match ds with
  |[e]=>if s == "ask" then cY e else if s == "times" then (match e with|.int n=>decide (-9<=n) && decide (n<=9)|_=>false) else s == "add" && jQ e
  |_=>false
 |_=>false
def rj:PyData->Bool|.tuple ds=>decide (ds.length<=4) && ds.all fj|_=>false
def dj:PyData->Bool
 |.tuple (.str s::ds)=>match ds with
  |[e]=>if s == "plain" then jQ e else if s == "ahead" then false else (s == "behind" || s == "shut") && rj e
  |[e,g]=>s == "ahead" && (cY e && jQ g)
  |_=>false
 |_=>false
inductive uw (vs:List V) (H:Hp) (Q:VK) (E:XK):Prop
 |mk {p:Addr}{v:V}{d:PyData} (_:vs = [v]) (_:Dt p H v d) (_:Q (.bl (pF d)) H):uw vs H Q E
theorem acE:bK ["thing"] ["thing"] (aM Fg):=b6
theorem abn {d:PyData} (h:gC "tuple" d=false):pF d=false:=by cases d <;> first|rfl|cases h
theorem abo (F:a6 K "begins_with_text" "begins_with_text" Fg f fd) (B:dY mg) (B2:ja mg):a9 P w K mg base aK 1 f fd ["thing"] uw:=by
 refine F.ok acE (fun vs H Q E h=>?_) (fun aG A outer s H vs Q E hr h=>?_)
 ·obtain⟨rfl,_⟩:=h;rfl
 ·obtain @⟨p,v,d,rfl,r,q⟩:=h
  refine⟨_,aN (br (ij (bJ qL rfl B2.kI kc (aa (pv 0) (aa (oY (v:= .ty "tuple") rfl B.tuple boot_tuple rfl) af)))
   (ij (gx O6 (bJ gu rfl B.len gs (aa (pv 0) af)) ao (bz _))
    (jP (bJ qL rfl B2.kI kc (aa (aP gb (pv 0) ao) (aa (oY (v:= .ty "str") rfl B2.str boot_str rfl) af))))))),?_⟩
  refine⟨_,rfl,rf kit_tuple r ⟨_,rfl,?_⟩⟩;cases hb:gC "tuple" d with
  |false=>rw[abn hb]at q;exact q
  |true =>
   obtain⟨ds,rfl⟩:=is_tup hb;obtain⟨a,vs,rfl,na,ha,rs⟩:=AN r;refine⟨_,rfl,a,_,rfl,.inr (aJ.of ha),_,_,rfl,rfl,_,rfl,?_⟩;cases ds with
   |nil =>
    obtain rfl:=Ow rs;exact q
   |cons e ds =>
    obtain⟨u,us,rfl,re,rs⟩:=oW rs;refine ite_tt (cm (by rw[cO];omega)) ?_
    refine⟨_,rfl,a,_,0,u,rfl,rfl,aJ.of ha,eh,rf E6 re ?_⟩;rw[show pF (.tuple (e::ds))=gC "str" e by cases e <;> rfl]at q
    exact q
inductive Av (vs:List V) (H:Hp) (Q:VK) (E:XK):Prop
 |mk {p:Addr}{v:V}{d:PyData} (_:vs = [v]) (_:Dt p H v d) (_:Sm d) (_:∀H',aq H H'->Q (.bl (fj d)) H'):Av vs H Q E
theorem aai:bK ["thing"] ["thing"] (aM Ff):=b6
theorem NT {d:PyData} (h:pF d=true):∃s ds,d = .tuple (.str s::ds):=by
 match d,h with
 |.tuple (.str s::ds),_=>exact⟨s,ds,rfl⟩
theorem aaj {d:PyData} (h:pF d=false):fj d=false:=by
 match d,h with
 |.tuple (.str s::ds),h=>cases h
 |.tuple [],_=>rfl
 |.tuple (.none::_),_=>rfl
 |.tuple (.bool _::_),_=>rfl
 |.tuple (.int _::_),_=>rfl
 |.tuple (.list _::_),_=>rfl
 |.tuple (.tuple _::_),_=>rfl
 |.tuple (.dict _::_),_=>rfl
 |.none,_=>rfl
 |.bool _,_=>rfl
 |.int _,_=>rfl
 |.str _,_=>rfl
 |.list _,_=>rfl
 |.dict _,_=>rfl
theorem Za {d:PyData} (h:pF d=false):dj d=false:=by
 match d,h with
 |.tuple (.str s::ds),h=>cases h
 |.tuple [],_=>rfl
 |.tuple (.none::_),_=>rfl
 |.tuple (.bool _::_),_=>rfl
 |.tuple (.int _::_),_=>rfl
 |.tuple (.list _::_),_=>rfl
 |.tuple (.tuple _::_),_=>rfl
 |.tuple (.dict _::_),_=>rfl
 |.none,_=>rfl
 |.bool _,_=>rfl
 |.int _,_=>rfl
 |.str _,_=>rfl
 |.list _,_=>rfl
 |.dict _,_=>rfl
theorem Zb (F:a6 K "is_step" "is_step" Ff f fd) (B:dY mg) (mT:mg "MOST_TIMES" = some (.int 9 tk))
  (GB:bh P w K mg base aK 1 fB dB ["thing"] uw "begins_with_text")
  (GN:bh P w K mg base aK 1 fN dN ["thing"] mx "is_name")
  (GW:bh P w K mg base aK 1 fW dW ["thing"] o8 "is_whole"):a9 P w K mg base aK 2 f fd ["thing"] Av:=by
 refine F.ok aai (fun vs H Q E h=>?_) (fun aG A outer s H vs Q E hr h=>?_)
 ·obtain⟨rfl,_⟩:=h;rfl
 ·obtain @⟨p,v,d,rfl,r,ia,q⟩:=h
  have aZ:aV 1 _:=hr;refine⟨_,aB (bY (lh (i7 (aU GB aZ (aa (pv 0) af)))) (aN (br mz)) cf)
   (aB (bY (bU dw (aP gb (pv 0) ao) cu (bz _)) (aN (br (gx dw (bJ gu rfl B.len gs (aa (pv 0) af)) ao (bz _)))) cf)
   (aB (bY (bU xr (bJ gu rfl B.len gs (aa (pv 0) af)) ao (bz _)) (aN (br mz)) cf)
   (aB (bY (bU dw (aP gb (pv 0) ao) cu (bz _)) (aN (br (aU GN aZ (aa (aP gb (pv 0) ao) af)))) cf)
   (aB (bY (bU dw (aP gb (pv 0) ao) cu (bz _)) (aN (br (ij (aU GW aZ (aa (aP gb (pv 0) ao) af))
     (jP (Nh xt xt (FZ Ft (qR (v:= .int 9) rfl mT ⟨tk,rfl⟩)) (aP gb (pv 0) ao) (qR (v:= .int 9) rfl mT ⟨tk,rfl⟩)))))) cf)
   (aN (br (ij (gx dw (aP gb (pv 0) ao) cu (bz _)) (jP (aU GW aZ (aa (aP gb (pv 0) ao) af)))))))))),?_⟩
  refine⟨_,rfl,uw.mk rfl r ⟨_,rfl,?_⟩⟩;cases hb:pF d with
  |false=>have q':=q _ (aq.refl _);rw[aaj hb]at q';exact q'
  |true =>
   obtain⟨x,ds,rfl⟩:=NT hb;obtain⟨a,vs,rfl,na,ha,rs⟩:=AN r;obtain⟨u,us,rfl,re,r2⟩:=oW rs;obtain rfl:=iO re;have el:=r2.length;clear rs;refine⟨_,rfl,a,_,0,_,rfl,rfl,aJ.of ha,eh,rfl,_,rfl,?_⟩;rw[uv];have q0:=q _ (aq.refl _);cases h1:(x == "onward") with
   |true =>
    refine⟨_,rfl,a,_,rfl,.inr (aJ.of ha),rfl,?_⟩;rw[show fj (.tuple (.str x::ds))=ds.isEmpty by simp only[fj,h1,j7]]at q0
    rw[show decide (V.int (((V.str x::us).length:Nat):Int)=V.int 1)=ds.isEmpty by
     rw[Ak,cO,el];cases ds with
     |nil=>rfl
     |cons e ds=>rw[cO];exact lY.mpr (by omega)]
    exact q0
   |false =>
    refine⟨_,rfl,a,_,rfl,.inr (aJ.of ha),rfl,_,rfl,?_⟩;rw[Ak,cO,el]
    match ds,r2,q,q0,ia with
    |[],r2,q,q0,ia =>
     rw[show fj (.tuple [.str x])=false by simp only[fj,h1];rfl]at q0
     exact q0
    |e::e2::ds,r2,q,q0,ia =>
     rw[show fj (.tuple (.str x::e::e2::ds))=false by simp only[fj,h1];rfl]at q0
     rw[show(!((((e::e2::ds).length+1:Nat):Int)==2))=true by
      rw[Bool.not_eq_true'];exact lY.mpr (by simp only[cO];omega)]
     exact q0
    |[e],r2,q,q0,ia =>
     obtain⟨u1,w1,rfl,r1,r3⟩:=oW r2;obtain rfl:=Ow r3;clear r2;have sm1:Sm e:=ia.tup e (bO _ bu);refine⟨_,rfl,a,_,0,_,rfl,rfl,aJ.of ha,eh,rfl,_,rfl,?_⟩;rw[uv];cases h2:(x == "ask") with
     |true =>
      refine⟨_,rfl,a,_,1,_,rfl,rfl,aJ.of ha,g8,mx.mk rfl r1 sm1.str fun H1 S1=>?_⟩;have q1:=q _ S1;rw[show fj (.tuple [.str x,e])=cY e by simp only[fj,h1,h2];rfl]at q1
      exact q1
     |false =>
      refine⟨_,rfl,a,_,0,_,rfl,rfl,aJ.of ha,eh,rfl,_,rfl,?_⟩;rw[uv];cases h3:(x == "times") with
      |true =>
       refine⟨_,rfl,a,_,1,_,rfl,rfl,aJ.of ha,g8,o8.mk rfl r1 ⟨_,rfl,?_⟩⟩;cases hw:jQ e with
       |false =>
        rw[show fj (.tuple [.str x,e])=false by
         simp only[fj,h1,h2,h3];cases e <;> first|rfl|cases hw]at q0
        exact q0
       |true =>
        obtain⟨n,rfl⟩:=Yc hw;obtain rfl:=abl r1;rw[show fj (.tuple [.str x,.int n])=(decide (-9<=n) && decide (n<=9)) by simp only[fj,h1,h2,h3];rfl]at q0
        refine⟨9,rfl,_,rfl,a,_,1,_,rfl,rfl,aJ.of ha,g8,_,_,rfl,rfl,_,rfl,?_⟩;cases h9:decide (-9<=n) with
        |false=>rw[h9]at q0;exact ite_ff rfl q0
        |true=>rw[h9]at q0;exact ite_tt rfl ⟨_,_,rfl,rfl,q0⟩
      |false =>
       refine⟨_,rfl,a,_,0,_,rfl,rfl,aJ.of ha,eh,rfl,_,rfl,?_⟩;rw[uv];rw[show fj (.tuple [.str x,e])=(x == "add" && jQ e) by simp only[fj,h1,h2,h3];rfl]at q0
       cases h4:(x == "add") with
       |false=>rw[h4]at q0;exact q0
       |true=>rw[h4]at q0;exact⟨_,rfl,a,_,1,_,rfl,rfl,aJ.of ha,g8,o8.mk rfl r1 q0⟩
inductive AO (vs:List V) (H:Hp) (Q:VK) (E:XK):Prop
 |mk {p:Addr}{v:V}{d:PyData} (_:vs = [v]) (_:Dt p H v d) (_:Sm d) (_:∀H',aq H H'->Q (.bl (rj d)) H'):AO vs H Q E
theorem abp:bK ["thing"] ["thing"] (aM wD):=b6
def acF (e:Expr) (i:Nat):Expr:=match e with|.BoolOp _ es _=>es.getD i (.Constant .none 0 ⟨0,0,0,0⟩)|_=>.Constant .none 0 ⟨0,0,0,0⟩
noncomputable abbrev acG:Expr:=gN (acF (jY (b5 (b4 wD) 0)) 2)
theorem OU:b8 ["thing"] (aM wD) ["step"] [none] (cK acG):=dH
theorem Zc {d:PyData} (h:gC "tuple" d=false):rj d=false:=by cases d <;> first|rfl|cases h
theorem bG.same {ds:List PyData} (r:bG p H vs ds) (S:aq H H'):bG p H' vs ds:=r.keep fun b o e _=>S b o e
theorem Dt.same {d:PyData} (r:Dt p H v d) (S:aq H H'):Dt p H' v d:=r.keep fun b o e _=>S b o e
theorem Zd {c:Addr}{ds:List PyData}{g:PyData->Bool}{tl:St} (ha:H a=some (.tup vs)) (rs:bG p H vs ds) (hc:H c=none) (h4:ds.length<=1000)
  (hte:∀ (v:V) (d:PyData) (H1:Hp) (Q1:VK),d∈ds->aq H H1->Dt p H1 v d->(∀H2,aq H1 H2->Q1 (.bl (g d)) H2)->te (some v::tl) H1 Q1)
  (q:∀H1,aq H H1->H1 c=some (.lst ((ds.map g).map V.bl))->Q (.ref c) H1):jR (mY K a) (mC 0) xu te (none::tl) Q c H:=by
 have hl:=rs.length;refine wK (xs:=vs) (fun i ys τ H2=>∃t0:Option V,τ=t0::tl/\ys=((ds.take i).map g).map V.bl/\aq H H2/\H2 c=some (.lst ys)) ⟨none,rfl,rfl,ay hc,ag⟩ (fun i ys τ H2 hQ9=>by obtain⟨_,_,_,z,z2⟩:=hQ9;exact ⟨z2,aJ.of (z _ _ ha)⟩) ?_ ?_
 ·rintro i x ys τ H2 hx ⟨t0,rfl,rfl,S2,h2⟩
  have bX:i < vs.length:=(cz.mp hx).1;have JV:i < ds.length:=by omega
  obtain⟨v',r9,rd⟩:=rs.get (bC JV);rw[hx]at r9;cases r9;refine hte x ds[i] H2 _ (f9 JV) S2 (rd.keep fun b o e _=>S2 b o e) fun H3 S3=>⟨S3 _ _ h2,by rw[aE,aE,cT,aQ];omega,cw_next bX ⟨_,rfl,?_,fun b u e=>?_,ag⟩⟩
  ·rw[dg,bC JV,bZ,bZ];rfl
  ·rw[ah (aA e hc)];exact S3 _ _ (S2 _ _ e)
 ·rintro ys τ H2 ⟨t0,rfl,rfl,S2,h2⟩
  rw[hl,cQ]at h2;exact q H2 S2 h2
theorem aak (F:a6 K "are_steps" "are_steps" wD f fd) (B:dY mg) (B2:ja mg) (mM:mg "MOST_STEPS" = some (.int 4 tk))
  (GS:bh P w K mg base aK 2 fS dS ["thing"] Av "is_step"):a9 P w K mg base aK 3 f fd ["thing"] AO:=by
 refine F.ok abp (fun vs H Q E h=>?_) (fun aG A outer s H vs Q E hr h=>?_)
 ·obtain⟨rfl,_⟩:=h;rfl
 ·obtain @⟨p,v,d,rfl,r,ia,q⟩:=h
  have cW:aV 2 _:=hr;refine⟨_,aN (br (ij (bJ qL rfl B2.kI kc (aa (pv 0) (aa (oY (v:= .ty "tuple") rfl B.tuple boot_tuple rfl) af)))
   (ij (gx xt (bJ gu rfl B.len gs (aa (pv 0) af)) (qR (v:= .int 4) rfl mM ⟨tk,rfl⟩) (bz _))
    (jP (bJ (Eh rfl) rfl B.all boot_all (aa (eV rfl OU (qV (pv 0)) (fun s H fp=>⟨bw (i:=0) OU.nd rfl (Or.inl rfl),gv,aU GS cW (aa (pv 0) af)⟩)) af)))))),?_⟩
  refine⟨_,rfl,rf kit_tuple r ⟨_,rfl,?_⟩⟩;have q0:=q _ (aq.refl _);cases hb:gC "tuple" d with
  |false=>rw[Zc hb]at q0;exact q0
  |true =>
   obtain⟨ds,rfl⟩:=is_tup hb;obtain⟨a,vs,rfl,na,ha,rs⟩:=AN r;have hl:=rs.length;refine⟨_,rfl,a,_,rfl,.inr (aJ.of ha),_,_,rfl,rfl,_,rfl,?_⟩
   by_cases h4:ds.length<=4
   ·refine ite_tt (cm (by omega)) ?_
    refine⟨_,rfl,a,rfl,⟨_,aJ.of ha⟩,fun c hc=>Zd (g:=fj) ha rs hc (by omega) (fun v' d' H1 Q1 rV S1 rd' k=>⟨_,rfl,Av.mk rfl rd' (ia.tup d' rV) k⟩) fun H1 S1 h1=>⟨c,_,rfl,aj.of h1,?_⟩⟩
    have q1:=q _ S1;rw[show rj (.tuple ds)=(ds.map fj).all id by show(decide (ds.length<=4) && ds.all fj)=_;rw[cm h4,Dx];rfl]at q1
    exact q1
   ·rw[show rj (.tuple ds)=false by show(decide (ds.length<=4) && ds.all fj)=_;rw[dZ h4];rfl]at q0
    exact ite_ff (dZ (by omega)) q0
inductive AQ (vs:List V) (H:Hp) (Q:VK) (E:XK):Prop
 |mk {p:Addr}{v:V}{d:PyData} (_:vs = [v]) (_:Dt p H v d) (_:Sm d) (_:∀H',aq H H'->Q (.bl (dj d)) H'):AQ vs H Q E
theorem abq:bK ["thing"] ["thing"] (aM EJ):=b6
theorem ad0 {a b:Str} (h:(x==a)=true) (n:(a==b)=false):(x==b)=false:=by rw[eq_of_beq h];exact n
theorem Yd {ds:List PyData} (h:(x == "plain")=true) (hl:ds.length≠1):dj (.tuple (.str x::ds))=false:=by
 have n:(x == "ahead")=false:=ad0 h (by decide +kernel)
 match ds,hl with
 |[],_=>rfl
 |[e],hl=>exact absurd rfl hl
 |[e,g],_=>simp only[dj,n];rfl
 |_::_::_::_,_=>rfl
theorem Ye {ds:List PyData} (h1:(x == "plain")=false) (h:(x == "ahead")=true) (hl:ds.length≠2):dj (.tuple (.str x::ds))=false:=by
 match ds,hl with
 |[],_=>rfl
 |[e],_=>simp only[dj,h1,h];rfl
 |[e,g],hl=>exact absurd rfl hl
 |_::_::_::_,_=>rfl
theorem Ze {ds:List PyData} (h:(x == "ahead")=false) (hl:ds.length≠1):dj (.tuple (.str x::ds))=false:=by
 match ds,hl with
 |[],_=>rfl
 |[e],hl=>exact absurd rfl hl
 |[e,g],_=>simp only[dj,h];rfl
 |_::_::_::_,_=>rfl
theorem abr {a b:Str}:pR (V.str x) [V.str a,V.str b]=(x==a || x==b):=by
 show((a==x) || ((b==x) || false))=_;rw[Vt,show(a==x)=(x==a) from Bool.beq_comm,show(b==x)=(x==b) from Bool.beq_comm]
theorem aal (F:a6 K "is_entry" "is_entry" EJ f fd) (B:dY mg)
  (GB:bh P w K mg base aK 1 fB dB ["thing"] uw "begins_with_text")
  (GN:bh P w K mg base aK 1 fN dN ["thing"] mx "is_name")
  (GW:bh P w K mg base aK 1 fW dW ["thing"] o8 "is_whole")
  (GS:bh P w K mg base aK 3 fS dS ["thing"] AO "are_steps"):a9 P w K mg base aK 4 f fd ["thing"] AQ:=by
 refine F.ok abq (fun vs H Q E h=>?_) (fun aG A outer s H vs Q E hr h=>?_)
 ·obtain⟨rfl,_⟩:=h;rfl
 ·obtain @⟨p,v,d,rfl,r,ia,q⟩:=h
  have iX:aV 3 _:=hr;have aZ:aV 1 _:=iX.mono (by decide)
  refine⟨_,aB (bY (lh (i7 (aU GB aZ (aa (pv 0) af)))) (aN (br mz)) cf)
   (aB (bY (bU dw (aP gb (pv 0) ao) cu (bz _)) (aN (br (ij (gx dw (bJ gu rfl B.len gs (aa (pv 0) af)) ao (bz _)) (jP (aU GW aZ (aa (aP gb (pv 0) ao) af)))))) cf)
   (aB (bY (bU dw (aP gb (pv 0) ao) cu (bz _)) (aN (br (ij (gx dw (bJ gu rfl B.len gs (aa (pv 0) af)) ao (bz _)) (ij (aU GN aZ (aa (aP gb (pv 0) ao) af)) (jP (aU GW aZ (aa (aP gb (pv 0) ao) af))))))) cf)
   (aN (br (ij (gx (wW K rfl) (aP gb (pv 0) ao) (cg (aa cu (aa cu af))) rfl) (ij (gx dw (bJ gu rfl B.len gs (aa (pv 0) af)) ao (bz _)) (jP (aU GS iX (aa (aP gb (pv 0) ao) af))))))))),?_⟩
  refine⟨_,rfl,uw.mk rfl r ⟨_,rfl,?_⟩⟩;have q0:=q _ (aq.refl _);cases hb:pF d with
  |false=>rw[Za hb]at q0;exact q0
  |true =>
   obtain⟨x,ds,rfl⟩:=NT hb;obtain⟨a,vs,rfl,na,ha,rs⟩:=AN r;obtain⟨u,us,rfl,re,r2⟩:=oW rs;obtain rfl:=iO re;have el:=r2.length;clear rs;refine⟨_,rfl,a,_,0,_,rfl,rfl,aJ.of ha,eh,rfl,_,rfl,?_⟩;rw[uv];have HM:∀k:Int,decide (V.int (((V.str x::us).length:Nat):Int)=V.int k)=decide ((ds.length:Int)+1=k):=fun k=>by
    rw[cO,el];exact we.mpr ⟨fun e=>by injection e with e,fun e=>by rw[<-e];exact eJ V.int (Int.natCast_add _ _)⟩
   cases h1:(x == "plain") with
   |true =>
    refine⟨_,rfl,a,_,rfl,.inr (aJ.of ha),rfl,_,rfl,?_⟩;rw[HM]
    by_cases hl:ds.length=1
    ·obtain⟨e,rfl⟩:=LQ.mp hl
     obtain⟨u1,w1,rfl,r1,r3⟩:=oW r2;refine ite_tt (cm (by omega)) ?_
     rw[show dj (.tuple [.str x,e])=jQ e by simp only[dj,h1];rfl]at q0
     exact⟨_,rfl,a,_,1,_,rfl,rfl,aJ.of ha,g8,o8.mk rfl r1 q0⟩
    ·rw[Yd h1 hl]at q0
     refine ite_ff (dZ (by omega)) ?_
     exact q0
   |false =>
    refine⟨_,rfl,a,_,0,_,rfl,rfl,aJ.of ha,eh,rfl,_,rfl,?_⟩;rw[uv];cases h2:(x == "ahead") with
    |true =>
     refine⟨_,rfl,a,_,rfl,.inr (aJ.of ha),rfl,_,rfl,?_⟩;rw[HM]
     by_cases hl:ds.length=2
     ·obtain⟨e,g,rfl⟩:∃e g,ds = [e,g]:=by match ds,hl with | [e,g],_=>exact⟨e,g,rfl⟩
      obtain⟨u1,w1,rfl,r1,r3⟩:=oW r2;obtain⟨u2,w2,rfl,r4,r5⟩:=oW r3;refine ite_tt (cm (by omega)) ?_
      refine⟨_,rfl,a,_,1,_,rfl,rfl,aJ.of ha,g8,mx.mk rfl r1 (ia.tup e (bO _ bu)).str fun H1 S1=>⟨_,rfl,?_⟩⟩;have q1:=q _ S1;rw[show dj (.tuple [.str x,e,g])=(cY e && jQ g) by simp only[dj,h2,V1]]at q1
      cases hn:cY e with
      |false=>rw[hn]at q1;exact q1
      |true=>rw[hn]at q1;exact⟨_,rfl,a,_,2,_,rfl,rfl,aJ.of (S1 _ _ ha),By,o8.mk rfl (Dt.same r4 S1) q1⟩
     ·rw[Ye h1 h2 hl]at q0
      refine ite_ff (dZ (by omega)) ?_
      exact q0
    |false =>
     refine⟨_,rfl,a,_,0,_,rfl,rfl,aJ.of ha,eh,cH,fun c hc=>?_⟩;have S1:=ay (o:= .tup [V.str "behind",V.str "shut"]) hc;refine⟨c,_,rfl,.inr (aJ.of ag),rfl,mq ["behind","shut"],_,rfl,?_⟩;rw[ax cD,show pR (V.str x) [V.str "behind",V.str "shut"]=(x == "behind" || x == "shut") from abr];have q1:=q _ S1;cases h3:(x == "behind" || x == "shut") with
     |false =>
      rw[show dj (.tuple (.str x::ds))=false by
       match ds with
       |[]=>rfl
       |[e]=>simp only[dj,h1,h2,h3];rfl
       |[e,g]=>simp only[dj,h2];rfl
       |_::_::_::_=>rfl]at q1
      exact q1
     |true =>
      refine⟨_,rfl,a,_,rfl,.inr (aJ.of (S1 _ _ ha)),rfl,_,rfl,?_⟩;rw[HM]
      by_cases hl:ds.length=1
      ·obtain⟨e,rfl⟩:=LQ.mp hl
       obtain⟨u1,w1,rfl,r1,r3⟩:=oW r2;refine ite_tt (cm (by omega)) ?_
       refine⟨_,rfl,a,_,1,_,rfl,rfl,aJ.of (S1 _ _ ha),g8,AO.mk rfl (Dt.same r1 S1) (ia.tup e (bO _ bu)) fun H2 S2=>?_⟩;have q2:=q _ (S1.trans S2);rw[show dj (.tuple [.str x,e])=rj e by simp only[dj,h1,h2,h3];rfl]at q2
       exact q2
      ·rw[Ze h2 hl]at q1
       refine ite_ff (dZ (by omega)) ?_
       exact q1
end df
namespace L2
open PySem PySem.W
theorem Rep.tupI {ds:List PyData} (r:Rep H v (.tuple ds)):∃a vs,v = .ref a/\H a=some (.tup vs)/\cB H vs ds:=by
 cases r with
 |tup e rs=>exact⟨_,_,rfl,e,rs⟩
theorem Rep.n9 (r:Rep H v (.str x)):v = .str x:=by cases r;rfl
theorem Rep.pG {x:Int} (r:Rep H v (.int x)):v = .int x:=by cases r;rfl
theorem cB.mF {d:PyData}{ds:List PyData} (r:cB H vs (d::ds)):∃v ws,vs=v::ws/\Rep H v d/\cB H ws ds:=by
 cases r with
 |cons a b=>exact⟨_,_,rfl,a,b⟩
theorem cB.x9 (r:cB H vs []):vs = []:=by cases r;rfl
theorem cB.length {H:Hp}:∀ {vs:List V}{ds:List PyData},cB H vs ds->vs.length=ds.length
 |_,_,.nil=>rfl
 |_,_,.cons _ rs=>by rw[cO,cO,cB.length rs]
end L2
namespace df
open PySem L2 PySem.W HT
inductive gq:PyData->Prop where
 |add (n:Int) (h:n.natAbs<=10 ^ 18):gq (.tuple [.str "add",.int n])
 |times (n:Int) (lo : -9<=n) (hi:n<=9):gq (.tuple [.str "times",.int n])
 |ud:gq (.tuple [.str "onward"])
 |ask (x:Str) (h:Nm x):gq (.tuple [.str "ask",.str x])
inductive Ent:PyData->Prop where
 |plain (n:Int) (h:n.natAbs<=10 ^ 18):Ent (.tuple [.str "plain",.int n])
 |ahead (x:Str) (n:Int) (h:Nm x) (hn:n.natAbs<=10 ^ 18):Ent (.tuple [.str "ahead",.str x,.int n])
 |behind (ds:List PyData) (h4:ds.length<=4) (hs:∀d∈ds,gq d):Ent (.tuple [.str "behind",.tuple ds])
 |uL (ds:List PyData) (h4:ds.length<=4) (hs:∀d∈ds,gq d):Ent (.tuple [.str "shut",.tuple ds])
theorem two1 {s:Str}{d:PyData} (r:Rep H v (.tuple [.str s,d])):∃a u,v = .ref a/\H a=some (.tup [.str s,u])/\Rep H u d:=by
 obtain⟨a,vs,rfl,ha,rs⟩:=r.tupI;obtain⟨v0,w0,rfl,r0,rs⟩:=rs.mF;obtain⟨v1,w1,rfl,r1,rs⟩:=rs.mF;obtain rfl:=rs.x9;obtain rfl:=r0.n9;exact⟨a,v1,rfl,ha,r1⟩
theorem gq.keep {d:PyData} (s:gq d) (r:Rep H v d) (k:∀b xs,H b=some (.tup xs)->H' b=some (.tup xs)):Rep H' v d:=by
 cases s with
 |add n =>
  obtain⟨a,u,rfl,ha,r1⟩:=two1 r;obtain rfl:=r1.pG;exact .tup (k _ _ ha) (.cons (.str _) (.cons (.int _) .nil))
 |times n =>
  obtain⟨a,u,rfl,ha,r1⟩:=two1 r;obtain rfl:=r1.pG;exact .tup (k _ _ ha) (.cons (.str _) (.cons (.int _) .nil))
 |ask x =>
  obtain⟨a,u,rfl,ha,r1⟩:=two1 r;obtain rfl:=r1.n9;exact .tup (k _ _ ha) (.cons (.str _) (.cons (.str _) .nil))
 |ud =>
  obtain⟨a,vs,rfl,ha,rs⟩:=r.tupI;obtain⟨v0,w0,rfl,r0,rs⟩:=rs.mF;obtain rfl:=rs.x9;obtain rfl:=r0.n9;exact .tup (k _ _ ha) (.cons (.str _) .nil)
theorem En (k:∀b xs,H b=some (.tup xs)->H' b=some (.tup xs)) {ds:List PyData} (r:cB H vs ds) (h:∀d∈ds,gq d):cB H' vs ds:=by
 induction vs generalizing ds with
 |nil=>cases r;exact .nil
 |cons x xs ih=>cases r with|cons r rs=>exact .cons ((h _ bu).keep r k) (ih rs fun d hd=>h d (bO _ hd))
theorem Ent.keep {d:PyData} (s:Ent d) (r:Rep H v d) (k:∀b xs,H b=some (.tup xs)->H' b=some (.tup xs)):Rep H' v d:=by
 cases s with
 |plain n =>
  obtain⟨a,u,rfl,ha,r1⟩:=two1 r;obtain rfl:=r1.pG;exact .tup (k _ _ ha) (.cons (.str _) (.cons (.int _) .nil))
 |ahead x n =>
  obtain⟨a,vs,rfl,ha,rs⟩:=r.tupI;obtain⟨v0,w0,rfl,r0,rs⟩:=rs.mF;obtain⟨v1,w1,rfl,r1,rs⟩:=rs.mF;obtain⟨v2,w2,rfl,r2,rs⟩:=rs.mF;obtain rfl:=rs.x9;obtain rfl:=r0.n9;obtain rfl:=r1.n9;obtain rfl:=r2.pG;exact .tup (k _ _ ha) (.cons (.str _) (.cons (.str _) (.cons (.int _) .nil)))
 |behind ds h4 hs =>
  obtain⟨a,u,rfl,ha,r1⟩:=two1 r;obtain⟨b,vs,rfl,hb,rs⟩:=r1.tupI;exact .tup (k _ _ ha) (.cons (.str _) (.cons (.tup (k _ _ hb) (En k rs hs)) .nil))
 |uL ds h4 hs =>
  obtain⟨a,u,rfl,ha,r1⟩:=two1 r;obtain⟨b,vs,rfl,hb,rs⟩:=r1.tupI;exact .tup (k _ _ ha) (.cons (.str _) (.cons (.tup (k _ _ hb) (En k rs hs)) .nil))
theorem Aw (pk:d9 p H) (pa:aY p H H'):∀b xs,H b=some (.tup xs)->H' b=some (.tup xs):=fun b xs e=>by
 obtain⟨x,y,e0,_⟩:=pk;exact pa.kp b _ e (aX e e0)
theorem Wl {ds:List PyData}{d:PyData} (h:cB H vs ds) (r:Rep H v d):cB H (vs ++ [v]) (ds ++ [d]):=by
 induction vs generalizing ds with
 |nil=>cases h;exact .cons r .nil
 |cons x xs ih=>cases h with|cons a as=>exact .cons a (ih as)
inductive rJ (vs:List V) (H:Hp) (Q:VK) (E:XK):Prop
 |mk {p:Addr} (_:vs = [.ref p]) (_:d9 p H) (_:∀ (n:Int) (H':Hp),n.natAbs<=10 ^ 18->aY p H H'->Q (.int n) H'):rJ vs H Q E
noncomputable abbrev ad1:List Str:= ["_law_pot_here","_law_near","_law_far"]
theorem Gp:bK ad1 ["_law_pot_here"] (aM Fh):=b6
theorem abt (F:a6 K "_law_number" "_law_number" Fh f fd)
  (GD:bh P w K mg base aK 1 fD dD ["_law_pot_here","_law_many"] jO "_law_digit"):a9 P w K mg base aK 2 f fd ["_law_pot_here"] rJ:=by
 refine F.ok Gp (fun vs H Q E h=>?_) (fun aG A outer s H vs Q E hr h=>?_)
 ·obtain⟨rfl,_⟩:=h;rfl
 ·obtain @⟨p,rfl,pk,q⟩:=h
  have aZ:aV 1 _:=hr;refine⟨_,aB (aW (i:=1) Gp.nd rfl (Or.inl rfl) (bA lq (aU GD aZ (aa (pv 0) (aa ao af))) ao))
   (aB (aW (i:=2) Gp.nd rfl (Or.inl rfl) (bA iN (bA lq (aU GD aZ (aa (pv 0) (aa (bA lq (bA AE ao (bA Fs ao ao)) ao) af))) (bA Fs ao ao)) ao))
   (aN (br (aP bE (cw (aa (pv 1) (aa (pv 1) (aa ao (aa (pv 2) af))))) (aU GD aZ (aa (pv 0) (aa ao af))))))),?_⟩
  refine⟨_,rfl,cF (p:=p) (m:=41) pk (by decide) (by decide) fun d1 H1 a0 a1 p1=>⟨_,_,rfl,rfl,?_⟩⟩
  refine⟨_,rfl,_,_,rfl,rfl,⟨by decide,by decide,by decide⟩,_,_,rfl,rfl,.inl ⟨by decide,by decide⟩,_,_,rfl,rfl,?_⟩
  refine cF (p:=p) (m:=2 * 10 ^ (18:Int).toNat - 1) p1.ok (by decide) (by decide) fun d2 H2 b0 b1 p2=>⟨_,_,rfl,rfl,⟨by decide,by decide,by decide⟩,_,_,rfl,rfl,_,_,rfl,rfl,?_⟩
  refine⟨_,rfl,_,rfl,_,rfl,by show 4<=sizeLine;rw[aQ];decide,fun c hc=>?_⟩
  have p3:=(p1.trans p2).new (o:= .lst [.int (d1 - 20),.int (d1 - 20),.int 0,.int (d2 - 10 ^ (18:Int).toNat+1)]) hc;refine⟨_,rfl,cF (p:=p) (m:=4) p3.ok (by decide) (by decide) fun d3 H3 c0 c1 p4=>?_⟩
  have hcp:c≠p:=ba ((p1.trans p2).ok.ne hc);have h3:=p4.kp _ _ ag hcp;obtain⟨j,rfl⟩:=gK c0;have CG:(10:Int) ^ (18:Int).toNat=1000000000000000000:=rfl;have fin:∀n:Int,n.natAbs<=10 ^ 18->Q (.int n) H3:=fun n hn=>q n H3 hn (p3.trans p4);have hj:j=0\/j=1\/j=2\/j=3:=by omega
  rcases hj with rfl|rfl|rfl|rfl
  ·exact⟨c,_,((0:Nat):Int),_,rfl,rfl,aj.of h3,b9 rfl,fin _ (by first|omega|(rw[CG]at b1 ⊢;omega))⟩
  ·exact⟨c,_,((1:Nat):Int),_,rfl,rfl,aj.of h3,b9 rfl,fin _ (by first|omega|(rw[CG]at b1 ⊢;omega))⟩
  ·exact⟨c,_,((2:Nat):Int),_,rfl,rfl,aj.of h3,b9 rfl,fin _ (by first|omega|(rw[CG]at b1 ⊢;omega))⟩
  ·exact⟨c,_,((3:Nat):Int),_,rfl,rfl,aj.of h3,b9 rfl,fin _ (by first|omega|(rw[CG]at b1 ⊢;omega))⟩
inductive A7 (vs:List V) (H:Hp) (Q:VK) (E:XK):Prop
 |mk {p l:Addr}{ys:List Str}{k:Nat} (_:vs = [.ref p,.ref l,.int k]) (_:d9 p H) (_:H l=some (.lst (ys.map V.str))) (_:ys ≠ []) (_:ys.length<=20) (_:(∀y∈ys,Nm y)) (_:∀ (v:V) (d:PyData) (H':Hp),aY p H H'->Rep H' v d->gq d->Q v H'):A7 vs H Q E
noncomputable abbrev ad2:List Str:= ["_law_pot_here","_law_names_here","_law_at","_law_way","_law_later"]
theorem A8:bK ad2 ["_law_pot_here","_law_names_here","_law_at"] (aM Gh):=b6
theorem abu (F:a6 K "_law_step" "_law_step" Gh f fd) (B:dY mg)
  (GD:bh P w K mg base aK 1 fD dD ["_law_pot_here","_law_many"] jO "_law_digit")
  (GN:bh P w K mg base aK 2 fN dN ["_law_pot_here"] rJ "_law_number"):a9 P w K mg base aK 3 f fd ["_law_pot_here","_law_names_here","_law_at"] A7:=by
 refine F.ok A8 (fun vs H Q E h=>?_) (fun aG A outer s H vs Q E hr h=>?_)
 ·obtain⟨rfl,_⟩:=h;rfl
 ·obtain @⟨p,l,ys,k,rfl,pk,hl,ne,CH,nm,q⟩:=h
  have hu:=hr.units;have cW:aV 2 _:=hr;have aZ:aV 1 _:=cW.mono (by decide)
  refine⟨_,aB (aW (i:=3) A8.nd rfl (Or.inl rfl) (aU GD aZ (aa (pv 0) (aa ao af))))
   (aB (bY (bU dw (pv 3) ao (bz _)) (aN (br (cg (aa cu (aa (aU GN cW (aa (pv 0) af)) af))))) cf)
   (aB (bY (bU dw (pv 3) ao (bz _)) (aN (br (cg (aa cu (aa (bA lq (aU GD aZ (aa (pv 0) (aa ao af))) ao) af))))) cf)
   (aB (bY (bU rq (pv 3) ao (bz _)) (aN (br (cg (aa cu af)))) cf)
   (aB (aW (i:=4) A8.nd rfl (Or.inl rfl) (kY oZ (pv 1) (lg (bA iN (pv 2) ao)) k9))
   (aB (bY (PW.pt (pw_or (bU (AI hu) (pv 4) (cw af) (bz _)) (pw_or1 (bU dw (aU GD aZ (aa (pv 0) (aa ao af))) ao (bz _))))) (aN (aW (i:=4) A8.nd rfl (Or.inl rfl) (pv 1))) cf)
   (aN (br (cg (aa cu (aa (aP bE (pv 4) (aU GD aZ (aa (pv 0) (aa (bJ gu rfl B.len gs (aa (pv 4) af)) af)))) af)))))))))),?_⟩
  refine⟨_,rfl,cF (p:=p) (m:=6) pk (by decide) (by decide) fun wy H1 a0 a1 p1=>?_⟩
  refine⟨_,rfl,rfl,_,rfl,?_⟩;refine cG (fun h0=>?_) (fun h0=>?_)
  ·refine⟨_,rfl,rJ.mk rfl p1.ok fun n H2 hn p2=>⟨cH,fun t ht=>?_⟩⟩
   exact q _ _ _ ((p1.trans p2).new ht) (.tup ag (.cons (.str _) (.cons (.int _) .nil))) (.add n hn)
  refine⟨_,rfl,rfl,_,rfl,?_⟩;refine cG (fun h1=>?_) (fun h1=>?_)
  ·refine⟨_,rfl,cF (p:=p) (m:=19) p1.ok (by decide) (by decide) fun n H2 b0 b1 p2=>⟨_,_,rfl,rfl,cH,fun t ht=>?_⟩⟩
   exact q _ _ _ ((p1.trans p2).new ht) (.tup ag (.cons (.str _) (.cons (.int _) .nil))) (.times (n - 9) (by omega) (by omega))
  refine⟨_,rfl,_,_,rfl,rfl,_,rfl,?_⟩;refine cG (fun h2=>?_) (fun h2=>?_)
  ·refine⟨hW,fun t ht=>?_⟩
   exact q _ _ _ (p1.new ht) (.tup ag (.cons (.str _) .nil)) .ud
  have lR:l≠p:=jj pk hl;refine⟨_,rfl,_,rfl,_,_,rfl,rfl,_,rfl,l,_,rfl,aj.of (p1.kp _ _ hl lR),fun c hc=>?_⟩;have HN:gg (ys.map V.str) (some ((k:Int)+1)) none=(ys.drop (k+1)).map V.str:=by
   rw[zO];exact tP (ys.map V.str) (k+1)
  rw[HN];have p2:=p1.new (o:= .lst ((ys.drop (k+1)).map V.str)) hc;have cU:upd H1 c (.lst ((ys.drop (k+1)).map V.str)) c=some (.lst ((ys.drop (k+1)).map V.str)):=ag;generalize upd H1 c (.lst ((ys.drop (k+1)).map V.str))=H2 at p2 cU ⊢;have vx:∀y∈ys.drop (k+1),Nm y:=fun y hy=>nm y (LV hy);have dl:(ys.drop (k+1)).length<=ys.length:=by rw[sT];omega
  generalize ys.drop (k+1)=zs at cU vx dl;refine⟨_,rfl,bR _,fun e0 Ti=>?_⟩;have p3:=p2.new (o:= .lst []) Ti;have iD:upd H2 e0 (.lst []) c=some (.lst (zs.map V.str)):=by rw[ah (aA cU Ti)];exact cU
  have y6:upd H2 e0 (.lst []) e0=some (.lst []):=ag;generalize upd H2 e0 (.lst [])=H3 at p3 iD y6 ⊢;refine eq_nil iD y6 vx ⟨_,rfl,?_⟩;have m6:=p3.kp _ _ hl lR;refine cG (fun hE=>?_) (fun hE=>?_)
  ·refine⟨_,rfl,?_⟩
   refine⟨_,rfl,_,rfl,_,rfl,l,_,rfl,.inl (aj.of m6),?_⟩;rw[aE];have uH:0 < ys.length:=qF.mpr ne;have hle:ys.length<=20:=CH;refine cF (p:=p) (m:=(ys.length:Int)) p3.ok (by omega) (by omega) fun dz H5 c0 c1 p5=>?_
   obtain⟨j,rfl⟩:=gK c0;have hj:j < ys.length:=by omega
   have h5:=p5.kp _ _ m6 (jj p3.ok m6);refine⟨l,_,(j:Int),.str ys[j],rfl,rfl,aj.of h5,b9 (by rw[eK,bC hj];rfl),cH,fun t ht=>?_⟩
   exact q _ _ _ ((p3.trans p5).new ht) (.tup ag (.cons (.str _) (.cons (.str _) .nil))) (.ask _ (nm _ (f9 hj)))
  have zne:zs ≠ []:=fun z=>hE (by simp[z])
  refine⟨_,rfl,cF (p:=p) (m:=4) p3.ok (by decide) (by decide) fun wz H4 b0 b1 p4=>⟨rfl,_,rfl,?_⟩⟩
  have P4:=p3.trans p4;have lQ:=P4.kp _ _ hl lR;have iW:=p4.kp _ _ iD (jj p3.ok iD);refine cG (fun hE2=>?_) (fun hE2=>?_)
  ·refine⟨_,rfl,?_⟩
   refine⟨_,rfl,_,rfl,_,rfl,l,_,rfl,.inl (aj.of lQ),?_⟩;rw[aE];have uH:0 < ys.length:=qF.mpr ne;have hle:ys.length<=20:=CH;refine cF (p:=p) (m:=(ys.length:Int)) P4.ok (by omega) (by omega) fun dz H5 c0 c1 p5=>?_
   obtain⟨j,rfl⟩:=gK c0;have hj:j < ys.length:=by omega
   have h5:=p5.kp _ _ lQ (jj P4.ok lQ);refine⟨l,_,(j:Int),.str ys[j],rfl,rfl,aj.of h5,b9 (by rw[eK,bC hj];rfl),cH,fun t ht=>?_⟩
   exact q _ _ _ ((P4.trans p5).new ht) (.tup ag (.cons (.str _) (.cons (.str _) .nil))) (.ask _ (nm _ (f9 hj)))
  ·refine⟨_,rfl,_,rfl,_,rfl,c,_,rfl,.inl (aj.of iW),?_⟩
   rw[aE];have uH:0 < zs.length:=qF.mpr zne;have hle:zs.length<=20:=(by omega)
   refine cF (p:=p) (m:=(zs.length:Int)) P4.ok (by omega) (by omega) fun dz H5 c0 c1 p5=>?_
   obtain⟨j,rfl⟩:=gK c0;have hj:j < zs.length:=by omega
   have h5:=p5.kp _ _ iW (jj P4.ok iW);refine⟨c,_,(j:Int),.str zs[j],rfl,rfl,aj.of h5,b9 (by rw[eK,bC hj];rfl),cH,fun t ht=>?_⟩
   exact q _ _ _ ((P4.trans p5).new ht) (.tup ag (.cons (.str _) (.cons (.str _) .nil))) (.ask _ (vx _ (f9 hj)))
inductive ux (vs:List V) (H:Hp) (Q:VK) (E:XK):Prop
 |mk {p l:Addr}{ys:List Str}{k:Nat} (_:vs = [.ref p,.ref l,.int k]) (_:d9 p H) (_:H l=some (.lst (ys.map V.str))) (_:ys ≠ []) (_:ys.length<=20) (_:(∀y∈ys,Nm y)) (_:∀ (v:V) (d:PyData) (H':Hp),aY p H H'->Rep H' v d->Ent d->Q v H'):ux vs H Q E
noncomputable abbrev QP:List Str:= ["_law_pot_here","_law_names_here","_law_at","_law_way","_law_steps"]
theorem Gq:bK QP ["_law_pot_here","_law_names_here","_law_at"] (aM xm):=b6
noncomputable abbrev ad3:Expr:=gN (fV (b5 (b4 xm) 3))
theorem Pq:b8 QP (aM xm) ["_law_turn","_law_pot_here","_law_names_here","_law_at"] [none,some 0,some 1,some 2] (cK ad3):=dH
theorem abv (F:a6 K "_law_entry" "_law_entry" xm f fd) (B:dY mg)
  (GD:bh P w K mg base aK 1 fD dD ["_law_pot_here","_law_many"] jO "_law_digit")
  (GN:bh P w K mg base aK 2 fN dN ["_law_pot_here"] rJ "_law_number")
  (GS:bh P w K mg base aK 3 fS dS ["_law_pot_here","_law_names_here","_law_at"] A7 "_law_step"):a9 P w K mg base aK 4 f fd ["_law_pot_here","_law_names_here","_law_at"] ux:=by
 refine F.ok Gq (fun vs H Q E h=>?_) (fun aG A outer s H vs Q E hr h=>?_)
 ·obtain⟨rfl,_⟩:=h;rfl
 ·obtain @⟨p,l,ys,k,rfl,pk,hl,ne,CH,nm,q⟩:=h
  have iX:aV 3 _:=hr;have cW:aV 2 _:=iX.mono (by decide)
  have aZ:aV 1 _:=cW.mono (by decide)
  refine⟨_,aB (aW (i:=3) Gq.nd rfl (Or.inl rfl) (aU GD aZ (aa (pv 0) (aa ao af))))
   (aB (bY (bU dw (pv 3) ao (bz _)) (aN (br (cg (aa cu (aa (aU GN cW (aa (pv 0) af)) af))))) cf)
   (aB (bY (bU dw (pv 3) ao (bz _)) (aN (br (cg (aa cu (aa (aP bE (pv 1) (bA t4 (bA iN (bA iN (pv 2) ao) (aU GD aZ (aa (pv 0) (aa (bJ gu rfl B.len gs (aa (pv 1) af)) af)))) (bJ gu rfl B.len gs (aa (pv 1) af)))) (aa (aU GN cW (aa (pv 0) af)) af)))))) cf)
   (aB (aW (i:=4) Gq.nd rfl (Or.inl rfl) (f' qG rfl B.tuple boot_tuple (aa (eV rfl Pq (mj rfl B.range (aa (aU GD aZ (aa (pv 0) (aa ao af))) af)) (fun s H fp=>⟨bw (i:=0) Pq.nd rfl (Or.inl rfl),gv,aU GS iX (aa (pv 1) (aa (pv 2) (aa (pv 3) af)))⟩)) af)))
   (aN (br (cg (aa (aP bE (cw (aa cu (aa cu (aa cu af)))) (bA lq (pv 3) ao)) (aa (pv 4) af)))))))),?_⟩
  have lR:l≠p:=jj pk hl;have uH:0 < ys.length:=qF.mpr ne;refine⟨_,rfl,cF (p:=p) (m:=5) pk (by decide) (by decide) fun wy H1 a0 a1 p1=>?_⟩
  refine⟨_,rfl,rfl,_,rfl,?_⟩;refine cG (fun h0=>?_) (fun h0=>?_)
  ·refine⟨_,rfl,rJ.mk rfl p1.ok fun n H2 hn p2=>⟨cH,fun t ht=>?_⟩⟩
   exact q _ _ _ ((p1.trans p2).new ht) (.tup ag (.cons (.str _) (.cons (.int _) .nil))) (.plain n hn)
  have iz:=p1.kp _ _ hl lR;refine⟨_,rfl,rfl,_,rfl,?_⟩;refine cG (fun h1=>?_) (fun h1=>?_)
  ·refine⟨_,rfl,_,rfl,_,_,rfl,rfl,_,rfl,_,rfl,l,_,rfl,.inl (aj.of iz),?_⟩
   rw[aE];refine cF (p:=p) (m:=(ys.length:Int)) p1.ok (by omega) (by omega) fun dz H2 b0 b1 p2=>?_
   have gQ:=p2.kp _ _ iz lR;refine⟨_,_,rfl,rfl,_,rfl,l,_,rfl,.inl (aj.of gQ),_,_,rfl,rfl,by rw[aE];omega,?_⟩
   rw[aE];obtain⟨j,ej⟩:=gK (DI ((k:Int)+1+dz) (show(ys.length:Int)≠0 by omega))
   have hj:j < ys.length:=by
    have:=DJ ((k:Int)+1+dz) (show(0:Int) < (ys.length:Int) by omega)
    rw[ej]at this;omega
   refine⟨l,_,(j:Int),.str ys[j],rfl,(eJ V.int ej:V.int (((k:Int)+1+dz) % (ys.length:Int))=V.int (j:Int)),aj.of gQ,b9 (by rw[eK,bC hj];rfl),_,rfl,rJ.mk rfl p2.ok fun n H3 hn p3=>⟨oz,fun t ht=>?_⟩⟩
   exact q _ _ _ (((p1.trans p2).trans p3).new ht) (.tup ag (.cons (.str _) (.cons (.str _) (.cons (.int _) .nil)))) (.ahead _ n (nm _ (f9 hj)) hn)
  have hw:wy=2\/wy=3\/wy=4:=by
   have e0:wy≠0:=fun z=>h0 (by rw[z];rfl)
   have e1:wy≠1:=fun z=>h1 (by rw[z];rfl)
   omega
  refine⟨_,rfl,cF (p:=p) (m:=5) p1.ok (by decide) (by decide) fun dn H2 b0 b1 p2=>⟨dn,rfl,by omega,by omega,fun c hc=>?_⟩⟩
  have P2:=p1.trans p2;have qh:p≠c:=P2.ok.ne hc;have gQ:=P2.kp _ _ hl lR;refine wo (fun i zs τ H4=>∃ (ds:List PyData) (t0:Option V),τ = [t0,some (.ref p),some (.ref l),some (.int (k:Int))]/\cB H4 zs ds/\ds.length=i/\(∀d∈ds,gq d)/\aY p H2 H4/\H4 c=some (.lst zs))
   ⟨[],none,rfl,.nil,rfl,(fun d hd=>by cases hd),(aY.refl P2.ok).new hc,ag⟩ (fun i zs τ H4 hQ9=>by obtain⟨_,_,_,_,_,_,_,z⟩:=hQ9;exact z) ?_ ?_
  ·rintro j zs τ H4 hj ⟨ds,t0,rfl,rs,dl,vA,pe,hz⟩
   refine⟨_,rfl,_,rfl,_,rfl,A7.mk rfl pe.ok (pe.kp _ _ gQ lR) ne CH nm fun v d H5 pf rd sd=>?_⟩;have Cq:=pf.kp _ _ hz (ba qh);have up:∀b xs,H5 b=some (.tup xs)->upd H5 c (.lst (zs ++ [v])) b=some (.tup xs):=fun b xs e=>by rw[ah (aX e Cq)];exact e
   refine⟨Cq,by rw[rs.length,dl,aQ];omega,cw_next hj ⟨ds ++ [d],_,rfl,Wl (En (fun b xs e=>up b xs (Aw pe.ok pf b xs e)) rs vA) (sd.keep rd up),by rw[fu,dl];rfl,fun x hx=>?_,(pe.trans pf).write hc qh,ag⟩⟩
   rcases ff.mp hx with z|z
   ·exact vA x z
   ·rw[fw.mp z];exact sd
  rintro zs τ H4 ⟨ds,t0,rfl,rs,dl,vA,pe,hz⟩;refine⟨c,_,rfl,.inl ⟨aj.of hz,fun b hb=>?_⟩⟩;have P4:=P2.trans pe;have p5:=P4.new (o:= .tup zs) hb;have Sb:=ay (o:= .tup zs) hb;have yZ:upd H4 b (.tup zs) b=some (.tup zs):=ag;have Tj:=cB.same rs Sb;generalize upd H4 b (.tup zs)=H5 at p5 yZ Tj ⊢;refine⟨oz,fun c5 jf=>?_⟩;have p6:=p5.new (o:= .lst [V.str "behind",V.str "behind",V.str "shut"]) jf;have S6:=ay (o:= .lst [V.str "behind",V.str "behind",V.str "shut"]) jf;have CI:upd H5 c5 (.lst [V.str "behind",V.str "behind",V.str "shut"]) c5=some (.lst [V.str "behind",V.str "behind",V.str "shut"]):=ag;have CJ:=S6 _ _ yZ;have CL:=cB.same Tj S6;generalize upd H5 c5 (.lst [V.str "behind",V.str "behind",V.str "shut"])=H6 at p6 CI CJ CL ⊢;have d4:ds.length<=4:=by omega
  refine⟨_,rfl,_,_,rfl,rfl,?_⟩;rcases hw with rfl|rfl|rfl
  ·refine⟨c5,_,((0:Nat):Int),.str "behind",rfl,rfl,aj.of CI,b9 rfl,_,rfl,cH,fun t ht=>?_⟩
   exact q _ _ _ (p6.new ht) (.tup ag (.cons (.str _) (.cons (.tup ((ay ht) _ _ CJ) (cB.same CL (ay ht))) .nil))) (.behind ds d4 vA)
  ·refine⟨c5,_,((1:Nat):Int),.str "behind",rfl,rfl,aj.of CI,b9 rfl,_,rfl,cH,fun t ht=>?_⟩
   exact q _ _ _ (p6.new ht) (.tup ag (.cons (.str _) (.cons (.tup ((ay ht) _ _ CJ) (cB.same CL (ay ht))) .nil))) (.behind ds d4 vA)
  ·refine⟨c5,_,((2:Nat):Int),.str "shut",rfl,rfl,aj.of CI,b9 rfl,_,rfl,cH,fun t ht=>?_⟩
   exact q _ _ _ (p6.new ht) (.tup ag (.cons (.str _) (.cons (.tup ((ay ht) _ _ CJ) (cB.same CL (ay ht))) .nil))) (.uL ds d4 vA)
theorem EN:∀xs ys:List Str,PyData.eqvAll (xs.map PyData.str) (ys.map PyData.str)=decide (xs=ys)
 |[],[]=>rfl
 |[],y::ys=>rfl
 |x::xs,[]=>rfl
 |x::xs,y::ys=>by
  show((x==y) && PyData.eqvAll (xs.map PyData.str) (ys.map PyData.str))=_;rw[EN xs ys]
  by_cases e:x=y
  ·by_cases f:xs=ys <;> simp[e,f]
  ·simp[e]
abbrev Bk:=List (Str×Str×PyData)
def bg (p:Str×Str×PyData):List Str:= [p.1,p.2.1]
def iG (p:Str×Str×PyData):PyData:= .tuple [.str p.1,.str p.2.1,p.2.2]
noncomputable def bF (H:Hp) (vs:List V) (bk:Bk):Prop:=Paired (fun v p=>∃a u,v=V.ref a/\H a=some (.tup [.str p.1,.str p.2.1,u])/\Rep H u p.2.2) vs bk
structure iq (bk:Bk):Prop where
 nm:∀p∈bk,Nm p.1/\Nm p.2.1
 ent:∀p∈bk,Ent p.2.2
 nd:(bk.map bg).Nodup
 bV:bk.length<=48
def cq (bk:Bk) (k n:Str):Bk:=bk.filter fun p=>!decide (bg p = [k,n])
theorem bF.keep (k:∀b xs,H b=some (.tup xs)->H' b=some (.tup xs)) {bk:Bk} (h:bF H vs bk) (he:∀p∈bk,Ent p.2.2):bF H' vs bk:=L2.Paired.Qe h fun v p hp x=>by obtain⟨a,u,e,h,r⟩:=x;exact⟨a,u,e,k _ _ h,(he p hp).keep r k⟩
theorem bF.same (S:aq H H') {bk:Bk} (h:bF H vs bk):bF H' vs bk:=Paired.imp' (fun v p x=>by obtain⟨a,u,e,h,r⟩:=x;exact⟨a,u,e,S _ _ h,r.same S⟩) h
theorem bF.length {bk:Bk} (h:bF H vs bk):vs.length=bk.length:=gV h
theorem bF.append {u:V}{p:Str×Str×PyData} (ha:H a=some (.tup [.str p.1,.str p.2.1,u])) (r:Rep H u p.2.2) {bk:Bk} (h:bF H vs bk):bF H (vs ++ [.ref a]) (bk ++ [p]):=oS h ⟨a,u,rfl,ha,r⟩
theorem bF.rep {bk:Bk} (h:bF H vs bk):cB H vs (bk.map iG):=by
 induction h with
 |nil=>exact .nil
 |cons x _ ih=>obtain⟨a,u,e,h,r⟩:=x;subst e;exact .cons (.tup h (.cons (.str _) (.cons (.str _) (.cons r .nil)))) ih
theorem bF.keyed {bk:Bk} (h:bF H vs bk):∃kvs,t8 H 2 vs kvs/\kvs.map (·.1)=bk.map bg:=by
 induction h with
 |nil=>exact⟨[],.nil,rfl⟩
 |cons x _ ih =>
  obtain⟨a,u,e,h,r⟩:=x;obtain⟨kvs,h1,h2⟩:=ih;exact⟨(bg _,[u])::kvs,.cons ⟨a,e,h,rfl⟩ h1,by rw[ck,ck,h2]⟩
theorem Na {bk:Bk}{kvs:List (List Str×List V)} (h:bF H vs bk) (h':t8 H 2 vs kvs):kvs.map (·.1)=bk.map bg:=L2.Paired.both h (fun v p c x y=>by
 obtain⟨a,u,e,q,r⟩:=x;obtain⟨a',e',q',l'⟩:=y;rw[e]at e';cases e';rw[q]at q';obtain⟨ks,rest⟩:=c;cases ks with
 |nil=>simp at l'
 |cons k1 ks =>
  cases ks with
  |nil=>simp at l'
  |cons k2 ks =>
   cases ks with
   |cons k3 ks=>simp at l'
   |nil=>injection (fc q') with z;injection z with z1 z2;injection z2 with z3 z4;injection z1 with z1;injection z3 with z3;unfold bg;rw[z1,z3]) h'
theorem aam {d:PyData} (s:gq d):d.canLay0=true/\d.depth<=1:=by
 cases s with
 |add n=>exact⟨by show(PyData.strOk "add" && (true && true))=true;decide +kernel,by simp[PyData.depth,PyData.depthAll]⟩
 |times n=>exact⟨by show(PyData.strOk "times" && (true && true))=true;decide +kernel,by simp[PyData.depth,PyData.depthAll]⟩
 |ud=>exact⟨by decide +kernel,by decide +kernel⟩
 |ask x h =>
  refine⟨?_,by simp[PyData.depth,PyData.depthAll]⟩
  show(PyData.strOk "ask" && (PyData.strOk x && true))=true;rw[pA h];decide +kernel
theorem EO:∀ {ds:List PyData},(∀d∈ds,gq d)->PyData.canLayAll0 ds=true/\PyData.depthAll ds<=1
 |[],_=>⟨rfl,by decide⟩
 |d::ds,h=>by
  obtain⟨a1,a2⟩:=aam (h d bu);obtain⟨b1,b2⟩:=EO fun x hx=>h x (bO _ hx);refine⟨?_,?_⟩
  ·show(d.canLay0 && PyData.canLayAll0 ds)=true
   rw[a1,b1];rfl
  ·simp only[PyData.depthAll];omega
theorem Ox {d:PyData} (s:Ent d):d.canLay0=true/\d.depth<=3:=by
 cases s with
 |plain n=>exact⟨by show(PyData.strOk "plain" && (true && true))=true;decide +kernel,by simp[PyData.depth,PyData.depthAll]⟩
 |ahead x n h =>
  refine⟨?_,by simp[PyData.depth,PyData.depthAll]⟩
  show(PyData.strOk "ahead" && (PyData.strOk x && (true && true)))=true;rw[pA h];decide +kernel
 |behind ds h4 hs =>
  obtain⟨b1,b2⟩:=EO hs;refine⟨?_,?_⟩
  ·show(PyData.strOk "behind" && (PyData.canLayAll0 ds && true))=true
   rw[b1];decide +kernel
  ·simp only[PyData.depth,PyData.depthAll];omega
 |uL ds h4 hs =>
  obtain⟨b1,b2⟩:=EO hs;refine⟨?_,?_⟩
  ·show(PyData.strOk "shut" && (PyData.canLayAll0 ds && true))=true
   rw[b1];decide +kernel
  ·simp only[PyData.depth,PyData.depthAll];omega
theorem tU:∀ {bk:Bk},(∀p∈bk,Nm p.1/\Nm p.2.1)->(∀p∈bk,Ent p.2.2)->PyData.canLayAll0 (bk.map iG)=true/\PyData.depthAll (bk.map iG)<=4
 |[],_,_=>⟨rfl,by decide⟩
 |p::bk,h,he=>by
  obtain⟨b1,b2⟩:=tU (fun x hx=>h x (bO _ hx)) fun x hx=>he x (bO _ hx);obtain⟨n1,n2⟩:=h p bu;obtain⟨e1,e2⟩:=Ox (he p bu);refine⟨?_,?_⟩
  ·show((PyData.strOk p.1 && (PyData.strOk p.2.1 && (p.2.2.canLay0 && true))) && PyData.canLayAll0 (bk.map iG))=true
   rw[pA n1,pA n2,e1,b1];rfl
  ·rw[ck]
   simp only[PyData.depthAll,iG,PyData.depth];omega
theorem MA:∀ {xs ys:List PyData},PyData.eqvAll xs ys=true->xs.length=ys.length
 |[],[],_=>rfl
 |[],y::ys,h=>by cases h
 |x::xs,[],h=>by cases h
 |x::xs,y::ys,h=>by
  have h':(PyData.eqv x y && PyData.eqvAll xs ys)=true:=h;rw[cO,cO,MA (l7.mp h').2]
inductive uy (vs:List V) (H:Hp) (Q:VK) (E:XK):Prop
 |mk {t:Addr}{ws:List V}{bk:Bk}{k n:Str} (_:vs = [.ref t,.str k,.str n]) (_:H t=some (.tup ws)) (_:bF H ws bk) (_:iq bk) (_:Nm k) (_:Nm n) (_:∀r gD H',aq H H'->H' r=some (.tup gD)->bF H' gD (cq bk k n)->Q (.ref r) H'):uy vs H Q E
noncomputable abbrev ad4:Expr:=gN (jY (b5 (b4 wF) 0))
noncomputable def lU (bk:Bk):Prop:=(bk.map bg).Pairwise fun a b=>hX a b=true
theorem rm {bk:Bk} (ok:iq bk) (k n:Str):iq (cq bk k n):=
 ⟨fun p hp=>ok.nm p (f6.mp hp).1,fun p hp=>ok.ent p (f6.mp hp).1,ok.nd.sublist (V2 _ am2),gW (jJ _ _) ok.bV⟩
theorem Ax {bk:Bk}{k:Str} : [k,n] ∉ (cq bk k n).map bg:=fun h=>by
 obtain⟨p,hp,e⟩:=bT.mp h;have:=(f6.mp hp).2;simp[e]at this
theorem bF.perm {To:List V}{bk:Bk} (p:To.Perm vs) (h:bF H vs bk):∃gG,gG.Perm bk/\bF H To gG:=Md p h
noncomputable abbrev Bz:List Str:= ["family","book","kind","name","entry"]
noncomputable abbrev ad5:List Str:= ["family","book","kind","name","told"]
theorem Yf {bk:Bk}{k:Str} (h : [k,n]∈bk.map bg):(cq bk k n).length < bk.length:=by
 obtain⟨p,hp,e⟩:=bT.mp h;unfold cq;exact amT.mpr ⟨p,hp,by simp[e]⟩
def ku (p:Str×Str×PyData):List Key:= [Sum.inr p.1,Sum.inr p.2.1]
noncomputable def cb (H:Hp) (kvs:List (List Key×V)) (aw:Bk):Prop:=Paired (fun kv p=>kv.1=ku p/\Rep H kv.2 p.2.2) kvs aw
theorem cb.keep (k:∀b xs,H b=some (.tup xs)->H' b=some (.tup xs)) {aw:Bk} (h:cb H kvs aw) (he:∀p∈aw,Ent p.2.2):cb H' kvs aw:=L2.Paired.Qe h fun v p hp x=>⟨x.1,(he p hp).keep x.2 k⟩
theorem cb.same (S:aq H H') {aw:Bk} (h:cb H kvs aw):cb H' kvs aw:=by
 induction h with
 |nil=>exact .nil
 |cons x _ ih=>exact .cons ⟨x.1,x.2.same S⟩ ih
theorem cb.length {aw:Bk} (h:cb H kvs aw):kvs.length=aw.length:=gV h
theorem oX {p:Str×Str×PyData}{k:Str}:ku p = [Sum.inr k,Sum.inr n] ↔ bg p = [k,n]:=by
 unfold ku bg
 constructor
 ·intro h
  injection h with h1 h2;injection h2 with h3 _;rw[oP h1,oP h3]
 ·intro h
  injection h with h1 h2;injection h2 with h3 _;rw[h1,h3]
theorem cb.val {H:Hp}{k n:Str}:∀ {kvs:List (List Key×V)}{aw:Bk},cb H kvs aw->(bQ kvs [Sum.inr k,Sum.inr n]=none /\ [k,n] ∉ aw.map bg) \/ ∃v d,bQ kvs [Sum.inr k,Sum.inr n]=some v/\(k,n,d)∈aw/\Rep H v d
 |_,_,.nil=>.inl ⟨rfl,by simp⟩
 |_,_,.cons (a:=kv) (b:=p) ⟨e,r⟩ t=>by
  by_cases hk:kv.1 = [Sum.inr k,Sum.inr n]
  ·have hp:=oX.mp (e.symm.trans hk)
   have e1:p.1=k:=by injection hp
   have e2:p.2.1=n:=by injection hp with _ z;injection z
   exact .inr ⟨kv.2,p.2.2,jM hk,by rw[<-e1,<-e2];exact bu,r⟩
  ·have hp:bg p ≠ [k,n]:=fun z=>hk (e.trans (oX.mpr z))
   rcases cb.val (k:=k) (n:=n) t with⟨a,b⟩|⟨v,d,a,b,c⟩
   ·refine .inl ⟨(i5 hk).trans a,fun z=>?_⟩
    rw[ck]at z;rcases bH.mp z with z|z
    ·exact hp z.symm
    ·exact b z
   ·exact .inr ⟨v,d,(i5 hk).trans a,bO _ b,c⟩
theorem cb.drop {H:Hp}{k n:Str}:∀ {kvs:List (List Key×V)}{aw:Bk},cb H kvs aw->cb H (iP kvs [Sum.inr k,Sum.inr n]) (cq aw k n)
 |_,_,.nil=>.nil
 |_,_,.cons (a:=kv) (b:=p) ⟨e,r⟩ t=>by
  have ih:=cb.drop (k:=k) (n:=n) t;unfold iP cq at ih ⊢;rw[DK,DK]
  by_cases hk:kv.1 = [Sum.inr k,Sum.inr n]
  ·have hp:=oX.mp (e.symm.trans hk)
   rw[ax (by simp[hk]),ax (by simp[hp])];exact ih
  ·have hp:bg p ≠ [k,n]:=fun z=>hk (e.trans (oX.mpr z))
   rw[aF (by simp[hk]),aF (by simp[hp])];exact .cons ⟨e,r⟩ ih
theorem Ag {bk:Bk}{k:Str} (h : [k,n] ∉ bk.map bg):cq bk k n=bk:=VZ.mpr fun p hp=>by
 have:bg p ≠ [k,n]:=fun e=>h (e ▸ bT.mpr ⟨p,hp,rfl⟩)
 simpa using this
theorem NU:∀a:List Str,hX a a=false
 |[]=>rfl
 |x::xs=>by
  unfold hX;simp[NU xs,NH]
theorem ER {a b:Bk} (ha:lU a) (hb:lU b) (p:a.Perm b):a=b:=by
 unfold lU at ha hb;rw[LC]at ha hb;refine am3 (fun x y _ _ h1 h2=>?_) ha hb p;have:=Fw (a:=bg x) (b:=bg y) (c:=bg x) rfl rfl h1 h2;rw[NU]at this;cases this
theorem NV {k n:Str}{d:PyData}:∀ {aw:Bk},(aw.map bg).Nodup -> [k,n]∈aw.map bg->(aw.map fun p=>if bg p = [k,n] then (k,n,d) else p).Perm (cq aw k n ++ [(k,n,d)])
 |[],_,h=>by simp at h
 |p::aw,nd,h=>by
  rw[ck,iZ]at nd
  by_cases e:bg p = [k,n]
  ·have hn : [k,n] ∉ aw.map bg:=e ▸ nd.1
   have e1:(aw.map fun p=>if bg p = [k,n] then (k,n,d) else p)=aw:=by
    refine(DC (g:=id) fun q hq=>?_).trans (List.map_id aw);have:bg q ≠ [k,n]:=fun z=>hn (z ▸ bT.mpr ⟨q,hq,rfl⟩);rw[ax this];rfl
   have e2:cq (p::aw) k n=aw:=by
    have:=Ag hn;unfold cq at this ⊢;rw[tm (by simp[e])];exact this
   rw[ck,aF e,e1,e2];exact(List.perm_append_singleton _ _).symm
  ·have cx : [k,n]∈aw.map bg:=by
    rw[ck]at h;rcases bH.mp h with z|z
    ·exact absurd z.symm e
    ·exact z
   have e2:cq (p::aw) k n=p::cq aw k n:=by unfold cq;rw[qE (by simp[e])]
   rw[ck,ax e,e2];exact(NV nd.2 cx).cons p
theorem cb.HP {H:Hp}{k n:Str}{v:V}{d:PyData} (r:Rep H v d):∀ {kvs:List (List Key×V)}{aw:Bk},cb H kvs aw->cb H (kvs.map fun kv=>if kv.1 = [Sum.inr k,Sum.inr n] then (kv.1,v) else kv) (aw.map fun p=>if bg p = [k,n] then (k,n,d) else p)
 |_,_,.nil=>.nil
 |_,_,.cons (a:=kv) (b:=p) ⟨e,r'⟩ t=>by
  rw[ck,ck]
  by_cases hk:kv.1 = [Sum.inr k,Sum.inr n]
  ·have hp:=oX.mp (e.symm.trans hk)
   rw[aF hk,aF hp];exact .cons ⟨hk,r⟩ (cb.HP r t)
  ·have hp:bg p ≠ [k,n]:=fun z=>hk (e.trans (oX.mpr z))
   rw[ax hk,ax hp];exact .cons ⟨e,r'⟩ (cb.HP r t)
theorem cb.snoc {k:Str}{d:PyData} (r:Rep H v d) {aw:Bk} (h:cb H kvs aw):cb H (kvs ++ [([Sum.inr k,Sum.inr n],v)]) (aw ++ [(k,n,d)]):=oS h ⟨rfl,r⟩
theorem cb.put {k:Str}{d:PyData}{aw:Bk} (h:cb H kvs aw) (nd:(aw.map bg).Nodup) (r:Rep H v d):∃ya,cb H (putK kvs [Sum.inr k,Sum.inr n] v) ya/\ya.Perm (cq aw k n ++ [(k,n,d)]):=by
 rcases h.val (k:=k) (n:=n) with⟨a,b⟩|⟨v0,d0,a,b,_⟩
 ·rw[EA v a,Ag b]
  exact⟨_,h.snoc r,.refl _⟩
 ·have e:putK kvs [Sum.inr k,Sum.inr n] v=kvs.map fun kv=>if kv.1 = [Sum.inr k,Sum.inr n] then (kv.1,v) else kv:=by
   unfold putK;rw[aF (by rw[qM,a];rfl)]
  rw[e];exact⟨_,h.HP r,NV nd (bT.mpr ⟨_,b,rfl⟩)⟩
theorem Fi {a b:Bk} (p:a.Perm b) (ok:iq b):iq a:=
 ⟨fun q hq=>ok.nm q (p.mem_iff.mp hq),fun q hq=>ok.ent q (p.mem_iff.mp hq),(p.map bg).nodup_iff.mpr ok.nd,by rw[p.length_eq];exact ok.bV⟩
theorem FG:∀ {bk:Bk}{p q:Str×Str×PyData},(bk.map bg).Nodup->p∈bk->q∈bk->p≠q->bg p≠bg q
 |[],_,_,_,h,_,_=>by cases h
 |x::bk,p,q,nd,hp,hq,ne=>by
  rw[ck,iZ]at nd;rcases bH.mp hp with e1|kC
  ·rcases bH.mp hq with e2|sr
   ·exact absurd (e1.trans e2.symm) ne
   ·intro z
    exact nd.1 (e1 ▸ z ▸ bT.mpr ⟨q,sr,rfl⟩)
  ·rcases bH.mp hq with e2|sr
   ·intro z
    exact nd.1 (e2 ▸ z ▸ bT.mpr ⟨p,kC,rfl⟩)
   ·exact FG nd.2 kC sr ne
inductive pH (vs:List V) (H:Hp) (Q:VK) (E:XK):Prop
 |mk {d:Addr}{kvs:List (List Key×V)}{aw:Bk} (_:vs = [.ref d]) (_:H d=some (.dT kvs)) (_:cb H kvs aw) (_:iq aw) (_:∀r ws bk H',aq H H'->H' r=some (.tup ws)->bF H' ws bk->bk.Perm aw->lU bk->Q (.ref r) H'):pH vs H Q E
theorem ad6:bK ["_law_book_here"] ["_law_book_here"] (aM wM):=b6
noncomputable abbrev eBt:Expr:=gN (gN (jY (b5 (b4 wM) 0)))
theorem HQ:b8 ["_law_book_here"] (aM wM) ["_law_kind","_law_name","_law_book_here"] [none,none,some 0] (cK eBt):=dH
theorem wO (K:Frag) (h:X.K=K) {k:Nat}{t:pN}{n:Nat} (hc:X.calm=true) (hh:yj X es t)
  (hn:(assignEach es X.env).length=n:=by rfl) (rW:(assignEach es X.env).findIdx? (·.1)=none:=by rfl):PG X (.Tuple es k pos) (PN K n t):=by subst h;exact tX hc hh hn rW
theorem acH (F:a6 K "_law_book_tuple" "_law_book_tuple" wM f fd) (B:dY mg) (B2:ja mg):a9 P w K mg base aK 1 f fd ["_law_book_here"] pH:=by
 refine F.ok ad6 (fun vs H Q E h=>?_) (fun aG A outer s H vs Q E hr h=>?_)
 ·obtain⟨rfl,_⟩:=h;rfl
 ·obtain @⟨d,kvs,aw,rfl,hd,dv,ok,q⟩:=h
  have hu:=hr.units;have cy:=iS hu;refine⟨_,aN (br (E7 (f' qG rfl B.tuple boot_tuple (aa (bJ DQ rfl B2.sorted boot_sorted (aa (eV rfl HQ (NK (pv 0)) (fun s H fp=>⟨wO (n:=2) K rfl rfl (fH (bw (i:=0) HQ.nd rfl (Or.inl rfl)) (fH (bw (i:=1) HQ.nd rfl (Or.inl rfl)) mw)),gv,
     cg (aa (pv 0) (aa (pv 1) (aa (jl cy (pv 2) (cg (aa (pv 0) (aa (pv 1) af)))) af)))⟩)) af)) af)))),?_⟩
  have lk:=dv.length;have bV:=ok.bV;refine⟨_,rfl,d,kvs,rfl,hd,fun o c hc=>?_⟩;have e7:∀b u,b≠d->H b=some u->upd H d (.aR o (.dT kvs)) b=some u:=fun b u n e=>by rw[ah n];exact e
  have cX:upd H d (.aR o (.dT kvs)) d=some (.aR o (.dT kvs)):=ag;have ng:cb (upd H d (.aR o (.dT kvs))) kvs aw:=dv.keep (fun b xs e=>e7 _ _ (aX e hd) e) ok.ent
  generalize upd H d (.aR o (.dT kvs))=H1 at e7 cX ng hc ⊢;refine Mq (fun i ys τ H2=>∃t0 t1:Option V,τ = [t0,t1,some (.ref d)]/\H2 c=some (.lst ys)/\aq H1 H2/\bF H2 ys (aw.take i)) ⟨none,none,rfl,ag,ay hc,.nil⟩ (fun i ys τ H2 hQ9=>by obtain⟨_,_,_,z1,z2,_⟩:=hQ9;exact ⟨z1,z2 _ _ cX⟩) ?_ ?_
  ·rintro i kv b ys τ H2 dc hb ⟨t0,t1,rfl,h2,S2,sF⟩
   have bX:i < kvs.length:=(cz.mp dc).1;obtain⟨p,hp,ek,rp⟩:=L2.Paired.get (ng.same S2) dc;have pm:=jH hp;have gF:aw.take (i+1)=aw.take i ++ [p]:=by rw[dg,hp];rfl
   replace hb:H2 b=some (.tup [V.str p.1,V.str p.2.1]):=by rw[ek]at hb;exact hb
   refine⟨b,_,rfl,aJ.of hb,rfl,_,_,rfl,_,_,rfl,rfl,?_⟩;refine⟨_,rfl,_,rfl,_,rfl,_,rfl,_,rfl,cH,fun kt gU=>?_⟩;have Sk:=ay (o:= .tup [V.str p.1,V.str p.2.1]) gU;have lV:upd H2 kt (.tup [V.str p.1,V.str p.2.1]) kt=some (.tup ((ku p).map kV)):=ag;generalize upd H2 kt (.tup [V.str p.1,V.str p.2.1])=H3 at Sk lV ⊢;have S3:=S2.trans Sk;obtain⟨v,hv⟩:∃v,bQ kvs (ku p)=some v/\Rep H3 v p.2.2:=by
    rcases (ng.same S3).val (k:=p.1) (n:=p.2.1) with⟨_,z⟩|⟨v,d',z1,z2,z3⟩
    ·exact absurd (bT.mpr ⟨p,pm,rfl⟩) z
    ·refine⟨v,z1,?_⟩
     have:(p.1,p.2.1,d')=p:=by
      by_cases e:(p.1,p.2.1,d')=p
      ·exact e
      ·exact absurd (show bg (p.1,p.2.1,d')=bg p from rfl) (FG ok.nd z2 pm e)
     rw[<-this];exact z3
   refine⟨d,v,rfl,.inr ⟨kvs,ku p,kt,.inr ⟨o,S3 _ _ cX⟩,rfl,lV,hv.1.symm⟩,oz,fun t ht=>?_⟩;have St:=Sk.trans (ay (o:= .tup [V.str p.1,V.str p.2.1,v]) ht);have Tp:upd H3 t (.tup [V.str p.1,V.str p.2.1,v]) t=some (.tup [V.str p.1,V.str p.2.1,v]):=ag;have Tq:=hv.2.same (ay (o:= .tup [V.str p.1,V.str p.2.1,v]) ht);generalize upd H3 t (.tup [V.str p.1,V.str p.2.1,v])=H4 at St Tp Tq ⊢;have vy:=St _ _ h2;have up:∀ {zs:List V} b xs,H4 b=some (.tup xs)->upd H4 c (.lst zs) b=some (.tup xs):=fun b xs e=>by rw[ah (aX e vy)];exact e
   refine⟨vy,?_,cw_next bX ⟨_,_,rfl,ag,fun x u hx=>by rw[ah (aA hx hc)];exact St _ _ (S2 x u hx),?_⟩⟩
   ·have:=sF.length
    rw[cT]at this;rw[aQ];omega
   ·rw[gF]
    exact bF.append (up _ _ Tp) ((ok.ent p pm).keep Tq up) (bF.keep up (bF.same St sF) fun q hq=>ok.ent q (wc hq))
  ·rintro ys τ H2 ⟨t0,t1,rfl,h2,S2,sF⟩
   rw[lk,cQ]at sF;obtain⟨JW,K6,ek⟩:=sF.keyed;have l2:=sF.length;refine⟨c,_,JW,2,rfl,.inl (aj.of h2),K6,by decide,by rw[ek];exact ok.nd,by omega,fun D dM IX hD fg hK pZ qj=>?_⟩
   obtain⟨gG,vz,B7⟩:=bF.perm fg sF;rw[Na B7 hK]at qj;have SD:=ay (o:= .lst dM) hD;refine⟨D,dM,rfl,.inl ⟨aj.of ag,fun t' jE=>?_⟩⟩;have St:=S2.trans (SD.trans (ay (o:= .tup dM) jE));have JX:=St _ _ cX;have hT:upd (upd H2 D (.lst dM)) t' (.tup dM) t'=some (.tup dM):=ag;have B8:=bF.same (SD.trans (ay (o:= .tup dM) jE)) B7;generalize upd (upd H2 D (.lst dM)) t' (.tup dM)=H5 at St JX hT B8 ⊢;refine⟨d,o,kvs,JX,fun o' u' z=>?_,?_⟩
   ·have:H d=some (.aR o' u'):=z
    rw[hd]at this;cases this
   ·have up:∀b xs,H5 b=some (.tup xs)->upd H5 d (.dT kvs) b=some (.tup xs):=fun b xs e=>by rw[ah (aX e JX)];exact e
    refine q t' dM gG _ (fun b u e=>?_) (up _ _ hT) (bF.keep up B8 fun p hp=>ok.ent p (vz.mem_iff.mp hp)) vz qj
    by_cases hb:b=d
    ·subst hb;rw[ag,<-e,hd]
    ·rw[ah hb];exact St _ _ (e7 b u hb e)
theorem OV (xs:List V) (k:Nat):gg xs none (some (k:Int))=xs.take k:=by
 unfold gg;have e1:HT.bj xs.length 0 none=0:=rfl;rw[e1,Lr,VE];have e2:HT.bj xs.length xs.length (some (k:Int))=min k xs.length:=by
  unfold HT.bj;simp;omega
 rw[e2]
 by_cases h:k<=xs.length
 ·rw[Nat.min_eq_left h]
 ·rw[Nat.min_eq_right (by omega),LS (aO _),LS (by omega)]
theorem OW {aw:Bk}{k:Str}{d:PyData} (ok:iq aw) (hk:Nm k) (hn:Nm n) (hd:Ent d) (bV:(cq aw k n).length<=47):iq (cq aw k n ++ [(k,n,d)]):=by
 have w:=rm ok k n;refine⟨fun p hp=>?_,fun p hp=>?_,?_,by rw[fu,nN];omega⟩
 ·rcases ff.mp hp with z|z
  ·exact w.nm p z
  ·rw[fw.mp z];exact⟨hk,hn⟩
 ·rcases ff.mp hp with z|z
  ·exact w.ent p z
  ·rw[fw.mp z];exact hd
 ·rw[bZ]
  refine l9.mpr ⟨w.nd,by simp,fun a ha b hb=>?_⟩
  have:b = [k,n]:=by simpa [bg] using hb
  rw[this];intro z;exact Ax (z ▸ ha)
structure mG (H:Hp) (b:Addr) (kvs:List (List Key×V)) (aw:Bk) (ks ns:List Str):Prop where
 hb:H b=some (.dT kvs)
 dv:cb H kvs aw
 ok:iq aw
 sub:∀q∈aw,q.1∈ks/\q.2.1∈ns
structure nj (H:Hp) (l:Addr) (ys:List Str):Prop where
 hl:H l=some (.lst (ys.map V.str))
 ne:ys ≠ []
 bV:ys.length<=20
 nm:∀y∈ys,Nm y
theorem nj.fq {ys:List Str} (h:nj H l ys) (pk:d9 p H) (pa:aY p H H'):nj H' l ys:=⟨pa.kp _ _ h.hl (jj pk h.hl),h.ne,h.bV,h.nm⟩
theorem nj.same {ys:List Str} (h:nj H l ys) (S:aq H H'):nj H' l ys:=⟨S _ _ h.hl,h.ne,h.bV,h.nm⟩
theorem mG.fq {aw:Bk} (h:mG H b kvs aw ks ns) (pk:d9 p H) (pa:aY p H H'):mG H' b kvs aw ks ns:=by
 obtain⟨x,y,e0,_⟩:=id pk;exact⟨pa.kp _ _ h.hb (aX h.hb e0),h.dv.keep (Aw pk pa) h.ok.ent,h.ok,h.sub⟩
theorem mG.same {aw:Bk} (h:mG H b kvs aw ks ns) (S:aq H H'):mG H' b kvs aw ks ns:=⟨S _ _ h.hb,h.dv.same S,h.ok,h.sub⟩
theorem Zf {i:Int} (h0:0<=i) (h1:i < 3):∃v:Int,eu [V.int 4,.int 13,.int 49] i=some (.int v)/\0 < v/\v<=49:=by
 obtain⟨n,rfl⟩:=gK h0
 match n,h1 with
 |0,_=>exact⟨4,b9 rfl,by decide,by decide⟩
 |1,_=>exact⟨13,b9 rfl,by decide,by decide⟩
 |2,_=>exact⟨49,b9 rfl,by decide,by decide⟩
 |n+3,h=>exact absurd h (by omega)
inductive AR (vs:List V) (H:Hp) (Q:VK) (E:XK):Prop
 |mk {p lk ln:Addr}{ks ns:List Str} (_:vs = [.ref p,.ref lk,.ref ln]) (_:d9 p H) (_:nj H lk ks) (_:nj H ln ns) (_:∀ (d:Addr) (kvs:List (List Key×V)) (aw:Bk) (H':Hp),H d=none->aY p H H'->mG H' d kvs aw ks ns->Q (.ref d) H'):AR vs H Q E
noncomputable abbrev Gr:List Str:= ["_law_pot_here","_law_kinds","_law_names_here"]
noncomputable abbrev acI:List Str:= ["_law_pot_here","_law_kinds","_law_names_here","_law_book_here","_law_many","_law_turn","_law_kind","_law_at"]
theorem ue:bK acI Gr (aM Gi):=b6
theorem aan (F:a6 K "_law_book" "_law_book" Gi f fd) (B:dY mg)
  (GD:bh P w K mg base aK 1 fD dD ["_law_pot_here","_law_many"] jO "_law_digit")
  (GE:bh P w K mg base aK 4 fE dE ["_law_pot_here","_law_names_here","_law_at"] ux "_law_entry"):a9 P w K mg base aK 5 f fd Gr AR:=by
 refine F.ok ue (fun vs H Q E h=>?_) (fun aG A outer s H vs Q E hr h=>?_)
 ·obtain⟨rfl,_⟩:=h;rfl
 ·obtain @⟨p,lk,ln,ks,ns,rfl,pk,nk,nn,q⟩:=h
  have hu:=hr.units;have cy:=iS hu;have jg:aV 4 _:=hr;have aZ:aV 1 _:=jg.mono (by decide)
  refine⟨_,aB (aW (i:=3) ue.nd rfl (Or.inl rfl) Np)
   (aB (aW (i:=4) ue.nd rfl (Or.inl rfl) (aU GD aZ (aa (pv 0) (aa (aP bE (cw (aa ao (aa ao (aa ao af)))) (aU GD aZ (aa (pv 0) (aa ao af)))) af))))
   (aB (lj j' rfl (mj rfl B.range (aa (pv 4) af)) (bw (i:=5) ue.nd rfl (Or.inl rfl))
    (aB (aW (i:=6) ue.nd rfl (Or.inl rfl) (aP bE (pv 1) (aU GD aZ (aa (pv 0) (aa (bJ gu rfl B.len gs (aa (pv 1) af)) af)))))
    (aB (aW (i:=7) ue.nd rfl (Or.inl rfl) (aU GD aZ (aa (pv 0) (aa (bJ gu rfl B.len gs (aa (pv 2) af)) af))))
    (aN (tR cy (pv 3) (cg (aa (pv 6) (aa (aP bE (pv 2) (pv 7)) af))) (aU GE jg (aa (pv 0) (aa (pv 2) (aa (pv 7) af)))) rfl)))))
   (aN (br (pv 3))))),?_⟩
  have kl:0 < ks.length:=qF.mpr nk.ne;have nl:0 < ns.length:=qF.mpr nn.ne;have k20:=nk.bV;have JY:=nn.bV;intro d hd;have JA:p≠d:=pk.ne hd;have P0:=(aY.refl pk).new (o:= .dT []) hd;have cX:upd H d (.dT []) d=some (.dT []):=ag;generalize upd H d (.dT [])=H0 at P0 cX ⊢;have qf:d≠p:=ba JA;refine⟨_,rfl,oz,fun c hc=>?_⟩;have P1:=P0.new (o:= .lst [V.int 4,.int 13,.int 49]) hc;have nc:upd H0 c (.lst [V.int 4,.int 13,.int 49]) c=some (.lst [V.int 4,.int 13,.int 49]):=ag;have qi:upd H0 c (.lst [V.int 4,.int 13,.int 49]) d=some (.dT []):=by rw[ah (aA cX hc)];exact cX
  have y8:c≠p:=ba (P0.ok.ne hc);generalize upd H0 c (.lst [V.int 4,.int 13,.int 49])=H1 at P1 nc qi ⊢;refine⟨_,rfl,cF (p:=p) (m:=3) P1.ok (by decide) (by decide) fun i3 H2 a0 a1 p2=>?_⟩
  obtain⟨v,hv,v0,v1⟩:=Zf a0 a1;refine⟨c,_,i3,.int v,rfl,rfl,aj.of (p2.kp _ _ nc y8),hv,?_⟩;have P2:=P1.trans p2;refine cF (p:=p) (m:=v) P2.ok v0 (by omega) fun mn H3 b0 b1 p3=>?_
  have P3:=P2.trans p3;have sD:H3 d=some (.dT []):=p3.kp _ _ (p2.kp _ _ qi qf) qf;obtain⟨M,rfl⟩:=gK b0;refine⟨_,rfl,(M:Int),rfl,by omega,by omega,tH (fun i σ H4=>∃ (kvs:List (List Key×V)) (aw:Bk) (v5 v6 v7:Option V),σ = [some (.ref p),some (.ref lk),some (.ref ln),some (.ref d),some (.int M),v5,v6,v7]/\aY p H H4/\mG H4 d kvs aw ks ns/\aw.length<=i)
   ⟨[],[],none,none,none,rfl,P3,⟨sD,.nil,⟨fun q hq=>(by cases hq),fun q hq=>(by cases hq),qC,bR _⟩,fun q hq=>(by cases hq)⟩,aO _⟩ ?_ ?_⟩
  ·rintro i σ H4 hi ⟨kvs,aw,v5,v6,v7,rfl,P4,D4,dl⟩
   have iV:i < M:=by simpa using hi
   have nk4:=nk.fq pk P4;have nn4:=nn.fq pk P4;refine⟨_,rfl,_,rfl,_,rfl,lk,_,rfl,.inl (aj.of nk4.hl),?_⟩;rw[aE];refine cF (p:=p) (m:=(ks.length:Int)) P4.ok (by omega) (by omega) fun dk H5 c0 c1 p5=>?_
   have P5:=P4.trans p5;obtain⟨jk,rfl⟩:=gK c0;have Tr:jk < ks.length:=by omega
   refine⟨lk,_,(jk:Int),.str ks[jk],rfl,rfl,aj.of (nk.fq pk P5).hl,b9 (by rw[eK,bC Tr];rfl),?_⟩
   have eF:ks[jk]∈ks:=f9 Tr;generalize ks[jk]=k at eF ⊢;refine⟨_,rfl,_,rfl,ln,_,rfl,.inl (aj.of (nn.fq pk P5).hl),?_⟩;rw[aE];refine cF (p:=p) (m:=(ns.length:Int)) P5.ok (by omega) (by omega) fun dn H6 e0 e1 p6=>?_
   have P6:=P5.trans p6;obtain⟨jn,rfl⟩:=gK e0;have y9:jn < ns.length:=by omega
   have nn6:=nn.fq pk P6;refine⟨_,rfl,_,rfl,_,rfl,ux.mk rfl (p:=p) (k:=jn) P6.ok nn6.hl nn.ne JY nn.nm fun ve dd H7 p7 r7 en=>?_⟩;have P7:=P6.trans p7;have D7:=((D4.fq P4.ok p5).fq P5.ok p6).fq P6.ok p7;have gp:ns[jn]∈ns:=f9 y9;refine⟨_,rfl,_,rfl,_,rfl,_,rfl,ln,_,(jn:Int),.str ns[jn],rfl,rfl,aj.of (nn.fq pk P7).hl,b9 (by rw[eK,bC y9];rfl),cH,fun kt gU=>?_⟩
   generalize ns[jn]=n at gp gU ⊢;have S8:=ay (o:= .tup [V.str k,V.str n]) gU;have P8:=P7.new (o:= .tup [V.str k,V.str n]) gU;have Ts:upd H7 kt (.tup [V.str k,V.str n]) kt=some (.tup (([Sum.inr k,Sum.inr n]:List Key).map kV)):=ag;have D8:=D7.same S8;have r8:=r7.same S8;generalize upd H7 kt (.tup [V.str k,V.str n])=H8 at S8 P8 Ts D8 r8 ⊢;have kvl:=D8.dv.length;refine⟨d,_,rfl,kr.t (k:= [Sum.inr k,Sum.inr n]) D8.hb Ts (by rw[aQ];omega),?_⟩
   have up:∀b xs,H8 b=some (.tup xs)->upd H8 d (.dT (putK kvs [Sum.inr k,Sum.inr n] ve)) b=some (.tup xs):=fun b xs e=>by rw[ah (aX e D8.hb)];exact e
   obtain⟨ya,JZ,vB⟩:=(D8.dv.keep up D8.ok.ent).put (k:=k) (n:=n) (v:=ve) (d:=dd) D8.ok.nd (en.keep r8 up);have wl:(cq aw k n).length<=i:=gW (jJ _ _) dl;have okc:=OW D8.ok (nk.nm k eF) (nn.nm n gp) en (by omega)
   refine⟨_,ya,_,_,_,rfl,P8.write hd JA,⟨ag,JZ,Fi vB okc,fun z hz=>?_⟩,by rw[vB.length_eq,fu,nN];omega⟩
   rcases ff.mp (vB.mem_iff.mp hz) with y|y
   ·exact D8.sub z (f6.mp y).1
   ·rw[fw.mp y];exact⟨eF,gp⟩
  ·rintro σ H4 ⟨kvs,aw,v5,v6,v7,rfl,P4,D4,dl⟩
   exact⟨_,rfl,q d kvs aw H4 hd P4 D4⟩
def dq (bk:Bk) (k n:Str):Option PyData:=(bk.find? fun p=>decide (bg p = [k,n])).map (·.2.2)
def bB (bk:Bk) (n:Str):List Str->Option (Str×PyData)
 |[]=>none
 |x::r=>match dq bk x n with
  |some d=>some (x,d)
  |none=>bB bk n r
theorem wm {k:Str}{bk:Bk}:dq bk k n=none ↔ [k,n] ∉ bk.map bg:=by
 unfold dq;rw[Option.map_eq_none_iff,List.find?_eq_none]
 constructor
 ·intro h z
  obtain⟨p,hp,e⟩:=bT.mp z;exact h p hp (cm e)
 ·intro h p hp z
  exact h (bT.mpr ⟨p,hp,eT z⟩)
theorem tF {k:Str}{d:PyData}{bk:Bk} (h:dq bk k n=some d):(k,n,d)∈bk:=by
 unfold dq at h;obtain⟨p,hp,rfl⟩:=kW.mp h;have hm:=List.mem_of_find?_eq_some hp;have hk:bg p = [k,n]:=eT (List.find?_some (p:=fun q=>decide (bg q = [k,n])) hp);obtain⟨a,b,c⟩:=p;injection hk with e1 e2;injection e2 with e2 _;subst e1 e2;exact hm
theorem MB {k:Str}{d:PyData}{bk:Bk} (nd:(bk.map bg).Nodup) (h:(k,n,d)∈bk):dq bk k n=some d:=by
 cases e:dq bk k n with
 |none=>exact absurd (bT.mpr ⟨_,h,rfl⟩) (wm.mp e)
 |some d' =>
  have h':=tF e
  by_cases z:d=d'
  ·rw[z]
  ·exact absurd (show bg (k,n,d)=bg (k,n,d') from rfl) (FG nd h h' (fun w=>z (by injection w with _ w;injection w)))
theorem WX {k:Str}{a b:Bk} (p:a.Perm b) (nd:(b.map bg).Nodup):dq a k n=dq b k n:=by
 cases e:dq a k n with
 |none =>
  exact(wm.mpr fun z=>wm.mp e ((p.map bg).mem_iff.mpr z)).symm
 |some d=>exact(MB nd (p.mem_iff.mp (tF e))).symm
theorem ES {n:Str}{a b:Bk} (p:a.Perm b) (nd:(b.map bg).Nodup):∀l:List Str,bB a n l=bB b n l
 |[]=>rfl
 |x::r=>by unfold bB;rw[WX p nd,ES p nd r]
theorem uf {bk:Bk} (h:dq bk x n=none):bB bk n (x::r)=bB bk n r:=by
 show(match dq bk x n with|some d=>some (x,d)|none=>bB bk n r)=_;rw[h]
theorem tV {bk:Bk}{d:PyData} (h:dq bk x n=some d):bB bk n (x::r)=some (x,d):=by
 show(match dq bk x n with|some d=>some (x,d)|none=>bB bk n r)=_;rw[h]
theorem Ec {bk:Bk}{n:Str}{x:Str}:∀ (l:List Str),(∀y∈l,dq bk y n=none) -> ∀r,bB bk n (l++r)=bB bk n r
 |[],_,_=>rfl
 |y::l,h,r=>by
  show bB bk n (y::(l++r))=_;rw[uf (h y bu)];exact Ec (x:=x) l (fun z hz=>h z (bO _ hz)) r
theorem Fj {bk:Bk}{n x:Str}{d:PyData}:∀ {l:List Str},bB bk n l=some (x,d)->x∈l/\dq bk x n=some d
 |[],h=>by cases h
 |y::l,h=>by
  unfold bB at h;cases e:dq bk y n with
  |some d'=>rw[e]at h;cases h;exact⟨bu,e⟩
  |none =>
   rw[e]at h;obtain⟨a,b⟩:=Fj (l:=l) h;exact⟨bO _ a,b⟩
theorem cb.look {k:Str}{aw:Bk} (h:cb H kvs aw) (nd:(aw.map bg).Nodup):(dq aw k n=none/\bQ kvs [Sum.inr k,Sum.inr n]=none) \/ ∃v d,dq aw k n=some d/\bQ kvs [Sum.inr k,Sum.inr n]=some v/\Rep H v d:=by
 rcases h.val (k:=k) (n:=n) with⟨a,b⟩|⟨v,d,a,b,c⟩
 ·exact .inl ⟨wm.mpr b,a⟩
 ·exact .inr ⟨v,d,MB nd b,a,c⟩
def kx (H:Hp) (v:V):Option (Str×PyData)->Prop
 |none=>v = .aI
 |some (x,d)=>∃t u,v = .ref t/\H t=some (.tup [.str x,u])/\Rep H u d
def outD:Option (Str×PyData)->PyData
 |none=>.none
 |some (x,d)=>.tuple [.str x,d]
theorem kx.rep {r:Option (Str×PyData)} (h:kx H v r):Rep H v (outD r):=by
 cases r with
 |none=>cases h;exact .aI
 |some p =>
  obtain⟨t,u,rfl,ht,r⟩:=h;exact .tup ht (.cons (.str _) (.cons r .nil))
theorem kx.keep (k:∀b xs,H b=some (.tup xs)->H' b=some (.tup xs)) {r:Option (Str×PyData)} (h:kx H v r) (he:∀x d,r=some (x,d)->Ent d):kx H' v r:=by
 cases r with
 |none=>exact h
 |some p =>
  obtain⟨t,u,rfl,ht,r⟩:=h;exact⟨t,u,rfl,k _ _ ht,(he _ _ rfl).keep r k⟩
theorem Zg {r:Option (Str×PyData)} (h:∀x d,r=some (x,d)->Nm x/\Ent d):(outD r).canLay0=true/\(outD r).depth<=5:=by
 cases r with
 |none=>exact⟨by decide +kernel,by decide +kernel⟩
 |some p =>
  obtain⟨hx,hd⟩:=h p.1 p.2 rfl;obtain⟨e1,e2⟩:=Ox hd;refine⟨?_,?_⟩
  ·show(PyData.strOk p.1 && (p.2.canLay0 && true))=true
   rw[pA hx,e1];rfl
  ·show PyData.depthAll [.str p.1,p.2]+1<=5
   simp only[PyData.depthAll,PyData.depth];omega
def Oy (e:Expr):Scope:=match e with|.DictComp _ _ _ sc _=>sc|.SetComp _ _ sc _=>sc|_=>{ kind:= .function,names:= [],isGenerator:=false,isCoroutine:=false }
def eX (line:List Str) (b:Str):List Str:=if b = "" then line else line.drop (line.idxOf b+1)
def fF (dl de dh:Addr) (m:Int):List (Str×V):= [("lines",.ref dl),("entries",.ref de),("hits",.ref dh),("met",.int m)]
theorem nT {f g:Str}{x:V}{r:List (Str×V)} (h:g≠f):eg f v ((g,x)::r)=(g,x)::eg f v r:=ax h
theorem aao {f:Str}{x:V}{r:List (Str×V)}:eg f v ((f,x)::r)=(f,v)::r:=aF rfl
theorem Ah {f:Str}:eg f v [] = [(f,v)]:=rfl
theorem aap (dl de dh:Addr):eg "met" (.int 0) (eg "hits" (.ref dh) (eg "entries" (.ref de) (eg "lines" (.ref dl) [])))=fF dl de dh 0:=by
 rw[Ah,nT (f:= "entries") (by decide +kernel),Ah,nT (f:= "hits") (by decide +kernel),nT (f:= "hits") (by decide +kernel),Ah,nT (f:= "met") (by decide +kernel),nT (f:= "met") (by decide +kernel),nT (f:= "met") (by decide +kernel),Ah]
 rfl
theorem abw (dl de dh:Addr) (m m':Int):eg "met" (.int m') (fF dl de dh m)=fF dl de dh m':=by
 unfold fF;rw[nT (f:= "met") (by decide +kernel),nT (f:= "met") (by decide +kernel),nT (f:= "met") (by decide +kernel),aao]
theorem mH {α:Type}{y:Str}{v:α}{r:List (Str×α)} (h:x≠y):List.lookup x ((y,v)::r)=List.lookup x r:=by
 rw[iI];have:(x==y)=false:=by simpa using h
 rw[this]
theorem A9 {α:Type}{v:α}{r:List (Str×α)}:List.lookup x ((x,v)::r)=some v:=by
 rw[iI,Vu]
section
variable{dl de dh:Addr}{m:Int}
theorem ET:(fF dl de dh m).lookup ("lines" : Str)=some (V.ref dl):=A9
theorem MC:(fF dl de dh m).lookup ("entries" : Str)=some (V.ref de):=by unfold fF;rw[mH (by decide +kernel)];exact A9
theorem Ay:(fF dl de dh m).lookup ("hits" : Str)=some (V.ref dh):=by unfold fF;rw[mH (by decide +kernel),mH (by decide +kernel)];exact A9
theorem abx:(fF dl de dh m).lookup ("met" : Str)=some (V.int m):=by unfold fF;rw[mH (by decide +kernel),mH (by decide +kernel),mH (by decide +kernel)];exact A9
theorem Gs (h1:x ≠ "lines") (h2:x ≠ "entries") (h3:x ≠ "hits") (h4:x ≠ "met"):(fF dl de dh m).lookup x=none:=by unfold fF;rw[mH h1,mH h2,mH h3,mH h4];rfl
end
structure rR (K:Frag) (mg:Str->Option Value) (C:Addr):Prop where
 cl:lJ K C
 nl:lr K C "lines"
 ne:lr K C "entries"
 nh:lr K C "hits"
 nm:lr K C "met"
 mgC:mg "Finds" = some (.ref C)
structure FI (C x dx dl de dh:Addr) (kl:List (Key×V)) (ke kh:List (List Key×V)) (m:Int) (bk:Bk) (H:Hp):Prop where
 hx:H x=some (.ins C dx (fF dl de dh m))
 hl:H dl=some (.dK kl)
 he:H de=some (.dT ke)
 hh:H dh=some (.dT kh)
 du:cb H ke bk
 ok:iq bk
 nn:de≠dh
inductive BA (vs:List V) (H:Hp) (Q:VK) (E:XK):Prop
 |mk {t:Addr}{ws:List V}{bk:Bk} (_:vs = [.ref t]) (_:H t=some (.tup ws)) (_:bF H ws bk) (_:iq bk) (_:∀d kvs H',H d=none->aq H H'->H' d=some (.dT kvs)->cb H' kvs bk->Q (.ref d) H'):BA vs H Q E
theorem ad7:bK ["book"] ["book"] (aM wL):=b6
noncomputable abbrev eEb:Expr:=jY (b5 (b4 wL) 0)
theorem BB:b8 ["book"] (aM wL) ["kind","name","entry"] [none,none,none] (Oy eEb):=dH
theorem acJ (F:a6 K "entries_by_place" "entries_by_place" wL f fd):a9 P w K mg base aK 1 f fd ["book"] BA:=by
 refine F.ok ad7 (fun vs H Q E h=>?_) (fun aG A outer s H vs Q E hr h=>?_)
 ·obtain⟨rfl,_⟩:=h;rfl
 ·obtain @⟨t,ws,bk,rfl,ht,bv,ok,q⟩:=h
  have hu:=hr.units;have cy:=iS hu;refine⟨_,aN (br (X1 rfl BB (qV (pv 0)) (fun s H fp=>⟨wO (n:=3) K rfl rfl (fH (bw (i:=0) BB.nd rfl (Or.inl rfl)) (fH (bw (i:=1) BB.nd rfl (Or.inl rfl)) (fH (bw (i:=2) BB.nd rfl (Or.inl rfl)) mw))),gv,acg cy (cg (aa (pv 0) (aa (pv 1) af))) (pv 2)⟩))),?_⟩;have hlen:=bv.length;have bV:=ok.bV;refine⟨_,rfl,t,rfl,⟨_,aJ.of ht⟩,fun c hc=>?_⟩;refine M1 (xs:=ws) (fun i τ H1=>∃ (t0 t1 t2:Option V) (kvs:List (List Key×V)),τ = [t0,t1,t2]/\aq H H1/\H1 c=some (.dT kvs)/\cb H1 kvs (bk.take i)) ⟨none,none,none,[],rfl,ay hc,ag,.nil⟩ (fun i τ H1 hQ9=>by obtain⟨_,_,_,_,_,z,_⟩:=hQ9;exact aJ.of (z _ _ ht)) ?_ ?_
  ·rintro i x τ H1 hx ⟨t0,t1,t2,kvs,rfl,S1,h1,D1⟩
   have aT:i < ws.length:=(cz.mp hx).1;obtain⟨p,hp,a,u,rfl,ha,ru⟩:=L2.Paired.get (bF.same S1 bv) hx;have pm:=jH hp;have tk:bk.take (i+1)=bk.take i ++ [p]:=by rw[dg,hp];rfl
   refine⟨a,_,rfl,aJ.of ha,rfl,_,_,rfl,_,_,rfl,_,_,rfl,rfl,?_⟩;refine⟨_,rfl,_,rfl,cH,fun kt gU=>?_⟩;have Sk:=ay (o:= .tup [V.str p.1,V.str p.2.1]) gU;have lV:upd H1 kt (.tup [V.str p.1,V.str p.2.1]) kt=some (.tup ((ku p).map kV)):=ag;have m8:=Sk _ _ ha;have Tt:=ru.same Sk;have D3:=cb.same Sk D1;have qk:=Sk _ _ h1;generalize upd H1 kt (.tup [V.str p.1,V.str p.2.1])=H3 at Sk lV m8 Tt D3 qk ⊢;have kl:=D3.length;have iu:bQ kvs (ku p)=none:=by
    rcases D3.val (k:=p.1) (n:=p.2.1) with⟨z,_⟩|⟨v,d',_,z2,_⟩
    ·exact z
    ·exfalso
     have nd:((bk.take (i+1)).map bg).Nodup:=ok.nd.sublist (V2 _ (vW _ _));rw[tk,bZ]at nd;exact(l9.mp nd).2.2 _ (bT.mpr ⟨_,z2,rfl⟩) (bg p) (by simp) rfl
   refine⟨_,rfl,kvs,ku p,kt,rfl,lV,qk,?_,ED aT ⟨_,_,_,_,rfl,fun b v e=>?_,ag,?_⟩⟩
   ·rw[cT]at kl
    rw[aQ];omega
   ·rw[ah (aA e hc)];exact Sk _ _ (S1 _ _ e)
   ·rw[tk,EA _ iu]
    have up:∀b xs,H3 b=some (.tup xs)->upd H3 c (.dT (kvs ++ [(ku p,u)])) b=some (.tup xs):=fun b xs e=>by rw[ah (aX e qk)];exact e
    exact cb.snoc (k:=p.1) (n:=p.2.1) ((ok.ent p pm).keep Tt up) (D3.keep up fun q hq=>ok.ent q (wc hq))
  ·rintro τ H1 ⟨t0,t1,t2,kvs,rfl,S1,h1,D1⟩
   rw[hlen,cQ]at D1;exact q c kvs H1 hc S1 h1 D1
theorem Yg {b:Str}:pR (.str b) ((("" : Str)::line).map V.str)=decide (b = "" \/ b∈line):=by
 rw[oV]
 by_cases e:b = "" \/ b∈line
 ·rw[cm e]
  exact cm (by rcases e with z|z;rw[z];exact bu;exact bO _ z)
 ·rw[dZ e]
  exact dZ (fun z=>e (by rcases bH.mp z with y|y;exact .inl y;exact .inr y))
theorem ad8:bK ["line","thing"] ["line","thing"] (aM Ek):=b6
theorem ad9:bK ["line","thing"] ["line","thing"] (aM Fe):=b6
inductive Ba (C:Addr) (vs:List V) (H:Hp) (Q:VK) (E:XK):Prop
 |mk {x dl de dx:Addr} (_:vs = [.ref x,.ref dl,.ref de]) (_:H x=some (.ins C dx [])) (_:∀dh,H dh=none->Q .aI (upd (upd H dh (.dT [])) x (.ins C dx (fF dl de dh 0)))):Ba C vs H Q E
theorem acK:bK ["self","lines","entries"] ["self","lines","entries"] (aM uq):=b6
theorem aby (F:a6 K "__init__" "Finds.__init__" uq f fd) (T:rR K mg C):a9 P w K mg base aK 1 f fd ["self","lines","entries"] (Ba C):=by
 refine F.ok acK (fun vs H Q E h=>?_) (fun aG A outer s H vs Q E hr h=>?_)
 ·obtain⟨rfl,_⟩:=h;rfl
 ·obtain @⟨x,dl,de,dx,rfl,hx,q⟩:=h
  refine⟨_,aB (AF (pv 0) (pv 1) rfl) (aB (AF (pv 0) (pv 2) rfl) (aB (AF (pv 0) Np rfl) (aN (AF (pv 0) ao rfl)))),?_⟩;refine⟨_,rfl,_,rfl,x,C,dx,[],rfl,hx,T.cl,T.nl,(by show 0 < 1000;decide),?_⟩
  refine⟨_,rfl,_,rfl,x,C,dx,_,rfl,ag,T.cl,T.ne,(by show 1 < 1000;decide),?_⟩
  rw[k6];intro dh kK;have nx:x≠dh:=aA ag kK;refine⟨_,rfl,x,C,dx,_,rfl,by rw[ah nx];exact ag,T.cl,T.nh,(by show 2 < 1000;decide),?_⟩
  refine⟨_,rfl,x,C,dx,_,rfl,ag,T.cl,T.nm,(by show 3 < 1000;decide),?_⟩
  rw[k6,aap];have JH:H dh=none:=by
   cases e:H dh with
   |none=>rfl
   |some u=>rw[ah (ba nx),e]at kK;cases kK
  have e:∀o o':HO,upd (upd (upd H x o) dh (.dT [])) x o'=upd (upd H dh (.dT [])) x o':=fun o o'=>by
   funext b
   by_cases h1:b=x
   ·subst h1;rw[ag,ag]
   ·rw[ah h1,ah h1]
    by_cases h2:b=dh
    ·subst h2;rw[ag,ag]
    ·rw[ah h2,ah h2,ah h1]
  rw[e];exact q dh JH
theorem aaq {c:Bool}{i0:Int} (jv:Nat->Prop) (h1:c=true -> ∃s:Nat,i0=s/\jv s) (h2:c=false->(∀s:Nat,jv s->Q (.int s) H)->tb σ H Q) (h3:∀s:Nat,jv s->Q (.int s) H):if c=true then tC (.int i0) σ H Q else tb σ H Q:=by
 cases c with
 |false=>exact h2 rfl h3
 |true =>
  obtain⟨s,e,hc⟩:=h1 rfl;show Q (.int i0) H;rw[e];exact h3 s hc
theorem NW {b:Str} (h:b∈line):line[line.idxOf b]? = some b /\ ∀m,m < line.idxOf b->line[m]? ≠ some b:=by
 have hl:=List.idxOf_lt_length_iff.mpr h;refine⟨by rw[bC hl,List.getElem_idxOf],fun m hm z=>?_⟩
 obtain⟨je,e⟩:=cz.mp z;have:=List.not_of_lt_findIdx (p:=fun x=>x==b) (xs:=line) (i:=m) hm;simp[e]at this
theorem qT {bk:Bk}{l:List Str} (ok:iq bk):∀x d,bB bk n l=some (x,d)->Nm x/\Ent d:=fun x d h=>by
 have hm:=tF (Fj h).2;exact⟨(ok.nm _ hm).1,ok.ent _ hm⟩
inductive AS (C:Addr) (vs:List V) (H:Hp) (Q:VK) (E:XK):Prop
 |mk {x dx dl de dh a:Addr}{kl:List (Key×V)}{ke kh:List (List Key×V)}{m:Int}{bk:Bk}{kind name a7:Str}{line:List Str} (_:vs = [.ref x,.str kind,.str name,.str a7]) (_:FI C x dx dl de dh kl ke kh m bk H) (_:bQ kl (Sum.inr kind)=some (.ref a)) (_:H a=some (.tup (line.map V.str))) (_:line.length<=200) (_:(a7 = "" \/ a7∈line)) (_:∀v m' H',(∀b u,b≠x->H b=some u->H' b=some u)->H' x=some (.ins C dx (fF dl de dh m'))->kx H' v (bB bk name (eX line a7))->Q v H'):AS C vs H Q E
noncomputable abbrev nWk:List Str:= ["self","kind","name","behind","line","start","other"]
theorem BC:bK nWk ["self","kind","name","behind"] (aM uu):=b6
theorem aar (F:a6 K "walk" "Finds.walk" uu f fd) (T:rR K mg C):a9 P w K mg base aK 1 f fd ["self","kind","name","behind"] (AS C):=by
 refine F.ok BC (fun vs H Q E h=>?_) (fun aG A outer s H vs Q E hr h=>?_)
 ·obtain⟨rfl,_⟩:=h;rfl
 ·obtain @⟨x,dx,dl,de,dh,a,kl,ke,kh,m,bk,kind,name,a7,line,rfl,fi,ea,ha,hl,hb,q⟩:=h
  have hu:=hr.units;have cy:=iS hu;refine⟨_,aB (aW (i:=4) BC.nd rfl (Or.inl rfl) (jl cy (pj (pv 0) rfl) (pv 1)))
   (aB (aW (i:=5) BC.nd rfl (Or.inl rfl) (Yl (bU dw (pv 3) cu (bz _)) ao (bA iN (mE PySem.F.plainAttrs_tuple amG PySem.F.type_tuple_index XY (pv 4) (aa (pv 3) af)) ao)))
   (aB (lj j' rfl (qV (kY N8 (pv 4) (lg (pv 5)) k9)) (bw (i:=6) BC.nd rfl (Or.inl rfl))
    (aB (XA (pv 0) ao aaL)
    (aN (bY (xb (xh cy (cg (aa (pv 6) (aa (pv 2) af))) (pj (pv 0) rfl))) (aN (br (cg (aa (pv 6) (aa (jl cy (pj (pv 0) rfl) (cg (aa (pv 6) (aa (pv 2) af)))) af))))) cf))))
   (aN (br i6)))),?_⟩
  refine⟨_,rfl,x,C,dx,_,.ref dl,rfl,fi.hx,T.cl,T.nl,ET,_,rfl,dl,.ref a,rfl,.inl ⟨kl,Sum.inr kind,.inl fi.hl,rfl,ea.symm⟩,?_⟩;refine⟨_,rfl,rfl,_,rfl,?_⟩;refine aaq (fun s0=>eX line a7=line.drop s0) (fun e=>⟨0,rfl,?_⟩) (fun e k=>?_) ?_
  ·have e:=eT e
   injection e with e;unfold eX;rw[aF e];rfl
  ·have bc:a7 ≠ "" :=fun z=>by rw[z]at e;exact absurd e (by rw[cm rfl];intro y;cases y)
   have hm:a7∈line:=hb.resolve_left bc;obtain⟨i1,i2⟩:=NW hm;exact⟨_,rfl,.inr (.inr (.inr (.inr ⟨rfl,_,Rd.of ha⟩))),_,rfl,a,line,a7,line.idxOf a7,rfl,rfl,aJ.of ha,i1,i2,_,_,rfl,rfl,k (line.idxOf a7+1) (by unfold eX;rw[ax bc])⟩
  intro s0 hs0;refine⟨_,rfl,_,rfl,_,rfl,a,_,rfl,ha,fun sp H0 S0 gk=>?_⟩;rw[tP,<-zO,<-hs0]at gk;obtain⟨rest,uz⟩:∃rest,eX line a7=rest:=⟨_,rfl⟩;rw[uz]at gk q;have Tu:=S0 _ _ fi.hx;refine⟨sp,rfl,⟨_,aJ.of gk⟩,Zt (xs:=rest.map V.str) (fun i σ H1=>∃ (m':Int) (v6:Option V),σ = [some (.ref x),some (.str kind),some (.str name),some (.str a7),some (.ref a),some (.int s0),v6]/\(∀b u,b≠x->H0 b=some u->H1 b=some u)/\H1 x=some (.ins C dx (fF dl de dh m')) /\ ∀y∈rest.take i,dq bk y name=none)
   ⟨m,none,rfl,fun b u _ e=>e,Tu,fun y hy=>(by cases hy)⟩ (fun i σ H1 _ hQ9=>by obtain⟨_,_,_,z,_⟩:=hQ9;exact aJ.of (z _ _ (aX gk Tu (by intro y;cases y)) gk)) ?_ ?_⟩
  ·rintro i y σ H1 hy ⟨m',v6,rfl,kp,va,no⟩
   have eQ:i < rest.length:=by simpa using (cz.mp hy).1
   obtain rfl:V.str rest[i]=y:=by simpa [eQ] using hy
   have gF:rest.take (i+1)=rest.take i ++ [rest[i]]:=by rw[dg,bC eQ];rfl
   refine⟨_,rfl,x,C,dx,_,.int m',rfl,va,T.cl,T.nm,abx,_,_,rfl,rfl,dx,_,va,by show 4 < 1000;decide,?_⟩
   rw[abw];have ql:∀b u,b≠x->H0 b=some u->upd H1 x (.ins C dx (fF dl de dh (m'+1))) b=some u:=fun b u n e=>by rw[ah n];exact kp b u n e
   have ou:upd H1 x (.ins C dx (fF dl de dh (m'+1))) x=some (.ins C dx (fF dl de dh (m'+1))):=ag;generalize upd H1 x (.ins C dx (fF dl de dh (m'+1)))=H2 at ql ou ⊢;refine⟨_,rfl,_,rfl,cH,fun kt gU=>?_⟩;have Sk:=ay (o:= .tup [V.str rest[i],V.str name]) gU;have lV:upd H2 kt (.tup [V.str rest[i],V.str name]) kt=some (.tup (([Sum.inr rest[i],Sum.inr name]:List Key).map kV)):=ag;have kL:=Sk _ _ ou;have kM:∀b u,b≠x->H0 b=some u->upd H2 kt (.tup [V.str rest[i],V.str name]) b=some u:=fun b u n e=>Sk _ _ (ql b u n e);generalize upd H2 kt (.tup [V.str rest[i],V.str name])=H3 at Sk lV kL kM ⊢;have ned:de≠x:=aX fi.he fi.hx
   have y6:H3 de=some (.dT ke):=kM _ _ ned (S0 _ _ fi.he);have D3:cb H3 ke bk:=fi.du.keep (fun b xs e=>kM _ _ (aX e fi.hx) (S0 _ _ e)) fi.ok.ent
   refine⟨_,rfl,x,C,dx,_,.ref de,rfl,kL,T.cl,T.ne,MC,de,_,rfl,eM.t (k:= [Sum.inr rest[i],Sum.inr name]) y6 lV,_,rfl,?_⟩;rcases D3.look (k:=rest[i]) (n:=name) fi.ok.nd with⟨l1,l2⟩|⟨v,d,l1,l2,l3⟩
   ·rw[l2]
    refine⟨m'+1,_,rfl,kM,kL,fun y hy=>?_⟩;rw[gF]at hy;rcases ff.mp hy with z|z
    ·exact no y z
    ·rw[fw.mp z];exact l1
   ·rw[l2]
    refine⟨_,rfl,_,rfl,x,C,dx,_,.ref de,rfl,kL,T.cl,T.ne,MC,_,rfl,_,rfl,cH,fun k2 J0=>?_⟩;have S4:=ay (o:= .tup [V.str rest[i],V.str name]) J0;have qm:upd H3 k2 (.tup [V.str rest[i],V.str name]) k2=some (.tup (([Sum.inr rest[i],Sum.inr name]:List Key).map kV)):=ag;have Tv:=S4 _ _ y6;have Tw:=S4 _ _ kL;have r4:=l3.same S4;have m9:∀b u,b≠x->H0 b=some u->upd H3 k2 (.tup [V.str rest[i],V.str name]) b=some u:=fun b u n e=>S4 _ _ (kM b u n e);generalize upd H3 k2 (.tup [V.str rest[i],V.str name])=H4 at S4 qm Tv Tw r4 m9 ⊢;refine⟨de,v,rfl,by rw[<-l2];exact eM.t (k:= [Sum.inr rest[i],Sum.inr name]) Tv qm,cH,fun t ht=>?_⟩
    have S5:=ay (o:= .tup [V.str rest[i],v]) ht;have ef:bB bk name rest=some (rest[i],d):=by
     conv=>lhs;rw[<-Ly i rest,zG eQ]
     rw[Ec (x:=rest[i]) _ no];exact tV l1
    refine q (.ref t) (m'+1) _ (fun b u n e=>S5 _ _ (m9 b u n (S0 _ _ e))) (S5 _ _ Tw) ?_;rw[ef];exact⟨t,v,rfl,ag,r4.same S5⟩
  ·rintro σ H1 ⟨m',v6,rfl,kp,va,no⟩
   rw[aE,cQ]at no;refine q .aI m' H1 (fun b u n e=>kp b u n (S0 _ _ e)) va ?_;have ef:bB bk name rest=none:=by
    have:=Ec (x:=name) rest no [];rw[kS]at this;exact this
   rw[ef];rfl
noncomputable def pw (H:Hp) (kh:List (List Key×V)) (bk:Bk) (L:Str->List Str):Prop:= ∀k n b v,bQ kh [Sum.inr k,Sum.inr n,Sum.inr b]=some v->kx H v (bB bk n (eX (L k) b))
theorem pw.keep {kh:List (List Key×V)}{bk:Bk} (h:pw H kh bk L) (ok:iq bk) (k:∀b xs,H b=some (.tup xs)->H' b=some (.tup xs)):pw H' kh bk L:=fun a n b v e=>(h a n b v e).keep k fun x d z=>(qT ok x d z).2
inductive ug (C:Addr) (vs:List V) (H:Hp) (Q:VK) (E:XK):Prop
 |mk {x dx dl de dh:Addr}{kl:List (Key×V)}{ke kh:List (List Key×V)}{m:Int}{bk:Bk}{kind name a7:Str}{L:Str->List Str} (_:vs = [.ref x,.str kind,.str name,.str a7]) (_:FI C x dx dl de dh kl ke kh m bk H) (_:j6 H kl L kind) (_:(L kind).length<=200) (_:(a7 = "" \/ a7∈L kind)) (_:pw H kh bk L) (_:kh.length<=2000) (_:∀v vC m' H',(∀b u,b≠x->b≠dh->H b=some u->H' b=some u)->FI C x dx dl de dh kl ke vC m' bk H'->pw H' vC bk L->vC.length<=kh.length+1->kx H' v (bB bk name (eX (L kind) a7))->Q v H'):ug C vs H Q E
noncomputable abbrev nLk:List Str:= ["self","kind","name","behind","place"]
theorem QQ:bK nLk ["self","kind","name","behind"] (aM ur):=b6
theorem aas (F:a6 K "look" "Finds.look" ur f fd) (T:rR K mg C) (GW:a9 P w K mg base aK 1 fW dW ["self","kind","name","behind"] (AS C)) (MW:Meth K C "walk" fW) (bW:Binds K dW ["self","kind","name","behind"] []):a9 P w K mg base aK 2 f fd ["self","kind","name","behind"] (ug C):=by
 refine F.ok QQ (fun vs H Q E h=>?_) (fun aG A outer s H vs Q E hr h=>?_)
 ·obtain⟨rfl,_⟩:=h;rfl
 ·obtain @⟨x,dx,dl,de,dh,kl,ke,kh,m,bk,kind,name,a7,L,rfl,fi,⟨a,ea,ha⟩,hl,hb,ho,hk1,q⟩:=h
  have hu:=hr.units;have cy:=iS hu;refine⟨_,aB (aW (i:=4) QQ.nd rfl (Or.inl rfl) (cg (aa (pv 1) (aa (pv 2) (aa (pv 3) af)))))
   (aB (bY (xb (Ei cy (pv 4) (pj (pv 0) rfl))) (aN (tR cy (pj (pv 0) rfl) (pv 4) (EW (pv 0) T.cl MW GW hr bW .nil jo (aa (pv 1) (aa (pv 2) (aa (pv 3) af)))) rfl)) cf)
   (aN (br (jl cy (pj (pv 0) rfl) (pv 4))))),?_⟩
  refine⟨_,rfl,_,rfl,_,rfl,oz,fun pt hpt=>?_⟩;have S1:=ay (o:= .tup [V.str kind,V.str name,V.str a7]) hpt;have pV:upd H pt (.tup [V.str kind,V.str name,V.str a7]) pt=some (.tup (([Sum.inr kind,Sum.inr name,Sum.inr a7]:List Key).map kV)):=ag;generalize upd H pt (.tup [V.str kind,V.str name,V.str a7])=H1 at S1 pV ⊢;have iY:FI C x dx dl de dh kl ke kh m bk H1:=⟨S1 _ _ fi.hx,S1 _ _ fi.hl,S1 _ _ fi.he,S1 _ _ fi.hh,fi.du.same S1,fi.ok,fi.nn⟩;have oC:pw H1 kh bk L:=ho.keep fi.ok fun b xs e=>S1 _ _ e;have CM:x≠dh:=aX fi.hx fi.hh
  have nlh:dl≠dh:=aX fi.hl fi.hh
  refine⟨_,rfl,_,rfl,x,C,dx,_,.ref dh,rfl,iY.hx,T.cl,T.nh,Ay,dh,_,rfl,eM.t (k:= [Sum.inr kind,Sum.inr name,Sum.inr a7]) iY.hh pV,_,rfl,?_⟩;cases ev:bQ kh [Sum.inr kind,Sum.inr name,Sum.inr a7] with
  |some v =>
   refine⟨_,rfl,x,C,dx,_,.ref dh,rfl,iY.hx,T.cl,T.nh,Ay,_,rfl,dh,v,rfl,by rw[<-ev];exact eM.t (k:= [Sum.inr kind,Sum.inr name,Sum.inr a7]) iY.hh pV,?_⟩
   exact q v kh m H1 (fun b u _ _ e=>S1 _ _ e) iY oC (oQ _) (oC kind name a7 v ev)
  |none =>
   refine⟨_,rfl,x,dx,_,rfl,iY.hx,Gs (by decide +kernel) (by decide +kernel) (by decide +kernel) (by decide +kernel),_,rfl,_,rfl,_,rfl,AS.mk rfl iY ea (S1 _ _ ha) hl hb fun v m' H2 ql ou ov2=>?_⟩
   have J1:∀b xs,H1 b=some (.tup xs)->H2 b=some (.tup xs):=fun b xs e=>ql _ _ (aX e iY.hx) e
   have CO:=ql _ _ (ba CM) iY.hh;have kC:=J1 _ _ pV;have D2:cb H2 ke bk:=iY.du.keep J1 fi.ok.ent;refine⟨_,rfl,x,C,dx,_,.ref dh,rfl,ou,T.cl,T.nh,Ay,_,rfl,dh,_,rfl,kr.t (k:= [Sum.inr kind,Sum.inr name,Sum.inr a7]) CO kC (by rw[aQ];omega),?_⟩
   have J2:upd H2 dh (.dT (putK kh [Sum.inr kind,Sum.inr name,Sum.inr a7] v)) dh=some (.dT (putK kh [Sum.inr kind,Sum.inr name,Sum.inr a7] v)):=ag;have kM:∀b u,b≠dh->H2 b=some u->upd H2 dh (.dT (putK kh [Sum.inr kind,Sum.inr name,Sum.inr a7] v)) b=some u:=fun b u n e=>by rw[ah n];exact e
   generalize upd H2 dh (.dT (putK kh [Sum.inr kind,Sum.inr name,Sum.inr a7] v))=H3 at J2 kM ⊢;have qa:∀b xs,H2 b=some (.tup xs)->H3 b=some (.tup xs):=fun b xs e=>kM _ _ (aX e CO) e
   have kL:=kM _ _ CM ou;have fi3:FI C x dx dl de dh kl ke (putK kh [Sum.inr kind,Sum.inr name,Sum.inr a7] v) m' bk H3:=⟨kL,kM _ _ nlh (ql _ _ (aX iY.hl iY.hx) iY.hl),kM _ _ fi.nn (ql _ _ (aX iY.he iY.hx) iY.he),J2,D2.keep qa fi.ok.ent,fi.ok,fi.nn⟩
   have Tx:kx H3 v (bB bk name (eX (L kind) a7)):=ov2.keep qa fun x d z=>(qT fi.ok x d z).2;have yD:pw H3 (putK kh [Sum.inr kind,Sum.inr name,Sum.inr a7] v) bk L:=fun k n b u e=>by
    rw[qN]at e
    by_cases z:([Sum.inr k,Sum.inr n,Sum.inr b]:List Key) = [Sum.inr kind,Sum.inr name,Sum.inr a7]
    ·rw[aF z]at e
     cases e
     injection z with z1 z;injection z with z2 z;injection z with z3 z;injection z1 with z1;injection z2 with z2;injection z3 with z3;rw[z1,z2,z3];exact Tx
    ·rw[ax z]at e
     exact((oC k n b u e).keep J1 fun x d z=>(qT fi.ok x d z).2).keep qa fun x d z=>(qT fi.ok x d z).2
   refine⟨_,rfl,x,C,dx,_,.ref dh,rfl,kL,T.cl,T.nh,Ay,_,rfl,dh,v,rfl,?_,?_⟩
   ·have:=eM.t (k:= [Sum.inr kind,Sum.inr name,Sum.inr a7]) J2 (qa _ _ kC)
    rw[qN,aF rfl]at this;exact this
   ·exact q v _ m' H3 (fun b u n1 n2 e=>kM _ _ n2 (ql _ _ n1 (S1 _ _ e))) fi3 yD (wj _ _ _) Tx
structure FB (H:Hp) (t tb:Addr) (o:Obj) (ws wb:List V) (aH:List (Str×List Str)) (L:Str->List Str) (bk:Bk):Prop where
 ht:H t=some (.aR o (.tup ws))
 od:o.dict=none
 fv:dJ H ws aH
 fo:pB aH L
 hb:H tb=some (.tup wb)
 bv:bF H wb bk
 ok:iq bk
theorem FB.same {t tb:Addr}{bk:Bk} (h:FB H t tb o ws wb aH L bk) (S:aq H H'):FB H' t tb o ws wb aH L bk:=
 ⟨S _ _ h.ht,h.od,h.fv.same S,h.fo,S _ _ h.hb,bF.same S h.bv,h.ok⟩
theorem FB.bV {t tb:Addr}{bk:Bk} (h:FB H t tb o ws wb aH L bk) {k:Str} (hk:k∈aH.map (·.1)):(L k).length<=200:=by
 obtain⟨p,hp,rfl⟩:=bT.mp hk;obtain⟨_,q,_,e,hl⟩:=h.fo.line p hp;rw[e,cO];omega
inductive uM (C:Addr) (vs:List V) (H:Hp) (Q:VK) (E:XK):Prop
 |mk {t tb:Addr}{o:Obj}{ws wb:List V}{aH:List (Str×List Str)}{L:Str->List Str}{bk:Bk} (_:vs = [.ref t,.ref tb]) (_:FB H t tb o ws wb aH L bk) (_:∀x dx dl de dh kl ke H',aq H H'->FI C x dx dl de dh kl ke [] 0 bk H'->(∀p∈aH,j6 H' kl L p.1)->H x=none->H dh=none->Q (.ref x) H'):uM C vs H Q E
theorem aea:bK ["family","book"] ["family","book"] (aM EI):=b6
theorem acL (F:a6 K "finds_in" "finds_in" EI f fd) (T:rR K mg C)
  (GL:bh P w K mg base aK 5 fL dL ["family"] Au "lines_of")
  (GE:bh P w K mg base aK 1 fE dE ["book"] BA "entries_by_place")
  (M:Mk K C fI) (GI:a9 P w K mg base aK 1 fI dI ["self","lines","entries"] (Ba C)) (bI:Binds K dI ["self","lines","entries"] []):a9 P w K mg base aK 6 f fd ["family","book"] (uM C):=by
 refine F.ok aea (fun vs H Q E h=>?_) (fun aG A outer s H vs Q E hr h=>?_)
 ·obtain⟨rfl,_⟩:=h;rfl
 ·obtain @⟨t,tb,o,ws,wb,aH,L,bk,rfl,fb,q⟩:=h
  have oM:aV 5 _:=hr;have cW:aV 2 _:=oM.mono (by decide)
  have aZ:aV 1 _:=oM.mono (by decide)
  refine⟨_,aN (br (Zy M GI cW rfl T.mgC bI .nil jo (aa (aU GL oM (aa (pv 0) af)) (aa (aU GE aZ (aa (pv 1) af)) af)))),?_⟩;refine⟨_,rfl,Au.mk rfl fb.ht fb.fv fb.fo fun dl kl H1 hdl S1 h1 ln1 _=>?_⟩;have J3:=fb.same S1;refine⟨_,rfl,BA.mk rfl J3.hb J3.bv J3.ok fun de ke H2 hde S2 h2 D2=>?_⟩;intro x dx hx hdx ne;have Sa:=ay (o:= .own x) hdx;have eO:upd H2 dx (.own x) x=none:=by rw[ah (ba ne)];exact hx
  have Sb:=Sa.trans (ay (o:= .ins C dx []) eO);have kL:upd (upd H2 dx (.own x)) x (.ins C dx []) x=some (.ins C dx []):=ag;have xe:∀b u,b≠x->upd (upd H2 dx (.own x)) x (.ins C dx []) b=some u->True:=fun _ _ _ _=>trivial;generalize upd (upd H2 dx (.own x)) x (.ins C dx [])=H3 at Sb kL ⊢;refine Ba.mk rfl kL fun dh kK=>⟨rfl,?_⟩;have Sc:=ay (o:= .dT []) kK;have CM:x≠dh:=aA kL kK;have Tz:upd H3 dh (.dT []) dh=some (.dT []):=ag;generalize upd H3 dh (.dT [])=H4 at Sc Tz ⊢;have ig:=S1.trans S2;have lW:=Sb.trans Sc;have za:∀b u,H2 b=some u->upd H4 x (.ins C dx (fF dl de dh 0)) b=some u:=fun b u e=>by rw[ah (aA e hx)];exact lW _ _ e
  refine q x dx dl de dh kl ke _ (fun b u e=>za _ _ (ig _ _ e)) ⟨ag,za _ _ (S2 _ _ h1),za _ _ h2,by rw[ah (ba CM)];exact Tz,D2.same za,fb.ok,?_⟩ (fun p hp=>(ln1 p hp).same fun b u e=>za _ _ (S2 _ _ e)) (ig.free hx) ((ig.trans Sb).free kK)
  exact aA (Sb _ _ h2) kK
noncomputable abbrev nFa:List Str:= ["family","book","kind","name","behind","finds"]
noncomputable abbrev J4:List Str:= ["family","book","kind","name","behind"]
theorem QR:bK nFa J4 (aM tO):=b6
end df
namespace df
open PySem L2 PySem.W HT HS
def pI:Option (Str×PyData)->Str
 |none => ""
 |some p=>p.1
theorem NX {bk:Bk}{n:Str}:∀ {l:List Str},bB bk n l≠none ↔ ∃x∈l,dq bk x n≠none
 |[]=>⟨fun h=>absurd rfl h,fun⟨_,h,_⟩=>(by cases h)⟩
 |y::l=>by
  cases e:dq bk y n with
  |some d =>
   rw[tV e];exact⟨fun _=>⟨y,bu,by rw[e];exact LU _⟩,fun _=>LU _⟩
  |none =>
   rw[uf e,NX (l:=l)]
   constructor
   ·rintro⟨x,hx,h⟩;exact⟨x,bO _ hx,h⟩
   ·rintro⟨x,hx,h⟩
    rcases bH.mp hx with z|z
    ·rw[z,e]at h;exact absurd rfl h
    ·exact⟨x,z,h⟩
theorem OX {bk:Bk}{l:List Str}:bB bk n l≠none ↔ ∃q∈bk,q.2.1=n/\q.1∈l:=by
 rw[NX]
 constructor
 ·rintro⟨x,hx,h⟩
  cases e:dq bk x n with
  |none=>exact absurd e h
  |some d=>exact⟨_,tF e,rfl,hx⟩
 ·rintro⟨⟨a,b,c⟩,hq,e,hl⟩
  subst e;exact⟨a,hl,fun z=>wm.mp z (bT.mpr ⟨_,hq,rfl⟩)⟩
noncomputable def oN (H:Hp) (ys:List V) (ps:List (Str×Str)):Prop:=Paired (fun v p=>∃t,v=V.ref t/\H t=some (.tup [.str p.1,.str p.2])) ys ps
theorem oN.keep {ps:List (Str×Str)} (h:oN H ys ps) (k:∀b xs,H b=some (.tup xs)->H' b=some (.tup xs)):oN H' ys ps:=Paired.imp' (fun _ _ ⟨t,e,q⟩=>⟨t,e,k _ _ q⟩) h
theorem FI.keep {x dl de dh:Addr}{kl:List (Key×V)}{ke kh:List (List Key×V)}{m:Int}{bk:Bk} (h:FI C x dx dl de dh kl ke kh m bk H) (kp:∀b u,(∀zs,u ≠ .lst zs)->H b=some u->H' b=some u):FI C x dx dl de dh kl ke kh m bk H':=
 ⟨kp _ _ (fun _ z=>by cases z) h.hx,kp _ _ (fun _ z=>by cases z) h.hl,kp _ _ (fun _ z=>by cases z) h.he,kp _ _ (fun _ z=>by cases z) h.hh,h.du.keep (fun b xs e=>kp _ _ (fun _ z=>by cases z) e) h.ok.ent,h.ok,h.nn⟩
noncomputable abbrev J6:List Str:= ["family","book","kind","finds","line","names"]
noncomputable abbrev J7:List Str:= ["family","book","kind"]
theorem BD:bK J6 J7 (aM qJ):=b6
noncomputable abbrev aeb:Expr:=gN (fV (b5 (b4 qJ) 3))
noncomputable abbrev aec:Expr:=jY (b5 (b4 qJ) 4)
theorem Bb:b8 J6 (aM qJ) ["other","name","entry","line"] [none,none,none,some 4] (Oy aeb):=dH
theorem Pr:b8 J6 (aM qJ) ["name","finds","kind"] [none,some 3,some 2] (cK aec):=dH
end df
namespace df
open PySem L2 PySem.W HT
def d6 (ks:List Str):PyData->Bool|.str x=>fh x && decide (x∈ks)|_=>false
def jw (line:List Str):PyData->Bool|.str b=>decide (b = "" \/ b∈line)|_=>false
theorem Oz {d:PyData} (h:cY d=false):d6 ks d=false:=by
 cases d with
 |str x=>show(fh x && _)=false;rw[show fh x=false from h];rfl
 |_=>rfl
theorem Ai {d:PyData} (h:cY d=true):∃x,d = .str x/\fh x=true:=by
 cases d with
 |str x=>exact⟨x,rfl,h⟩
 |_=>cases h
theorem w9 (h:fh x=true):Nm x:=by
 unfold df.fh at h;simp only[nM,VP,j8]at h;exact⟨h.1,h.2.1,fun c hc=>h.2.2 c hc⟩
theorem wQ (h:Nm x):fh x=true:=by
 unfold df.fh;rw[cm h.lo,cm h.hi,V1,V1,j8];intro c hc;have:=h.az c hc;rw[cm this.1,cm this.2];rfl
theorem Nb:∀ (kvs:List (Str×V)) (x:Str),(bQ (pq kvs) (Sum.inr x)).isSome=decide (x∈kvs.map (·.1))
 |[],x=>by simp[pq,bQ]
 |p::kvs,x=>by
  show(bQ ((Sum.inr p.1,p.2)::pq kvs) (Sum.inr x)).isSome=_
  by_cases e:p.1=x
  ·rw[jM (by rw[e])];simp[e]
  ·rw[i5 (fun z=>e (oP z)),Nb kvs x]
   simp[bH,ba e]
noncomputable def FK (H:Hp) (t:Addr) (ks:List Str):Prop:= ∃o ws kvs,H t=some (.aR o (.tup ws))/\o.dict=none/\t7 H ws kvs/\kvs.map (·.1)=ks/\ks.Nodup
structure uh (K:Frag) (mg:Str->Option Value) (x:Str) (C:Addr):Prop where
 q:jm K C none=true
 kp:keepIn K (.ref C)=true
 m:mg x=some (.ref C)
 x:jU K C
noncomputable def sG (C:Addr) (H:Hp) (a:Addr):Prop:=(∃n dx,H a=some (jX n C dx a) /\ ∀d,dx=some d -> ∃fs,H d=some (rN d fs))/\ack H (some (.ref a))
theorem sG.plain (h:H a=some (jX (some .none) C none a)):sG C H a:=⟨⟨_,_,h,fun d e=>by cases e⟩,a,C,none,rfl,.inl h⟩
noncomputable def BE (C:Addr) (b:Bool) (H:Hp) (Q:VK) (E:XK):Prop:=(b=true -> ∀H',aq H H'->Q .aI H')/\(b=false -> ∀a H',aq H H'->sG C H' a->E (.ref C) (some a) H')
theorem Fl {b:Bool}{E:XK} (S1:aq H H1) (c:BE C b H Q E) (x:jU K C) (qx:jm K C none=true) (e:Addr) (he:H1 e=none) (hb:b=false):E (.ref C) (some e) (upd (upd H1 e (lB C none e)) e (jX (some .none) C none e)):=by
 refine c.2 hb e _ (fun a o ha=>?_) (.plain ag);have nb:a≠e:=aA (S1 _ _ ha) he;rw[ah nb,ah nb];exact S1 _ _ ha
inductive BF (vs:List V) (H:Hp) (Q:VK) (E:XK):Prop
 |mk {p t:Addr}{ks:List Str}{v:V}{d:PyData} (_:vs = [.ref t,v]) (_:FK H t ks) (_:Dt p H v d) (_:Sm d) (_:∀H',aq H H'->Q (.bl (d6 ks d)) H'):BF vs H Q E
theorem acM {J8:FuncData} (F:a6 K "is_kind" "is_kind" Fc f fd) (B2:ja mg) (GN:bh P w K mg base aK 1 fN J8 ["thing"] mx "is_name"):a9 P w K mg base aK 2 f fd ["family","thing"] BF:=by
 refine F.ok abg (fun vs H Q E h=>?_) (fun aG A outer s H vs Q E hr h=>?_)
 ·obtain⟨rfl,_⟩:=h;rfl
 ·obtain @⟨p,t,ks,v,d,rfl,⟨o,ws,kvs,ht,ho,hp,rfl,nd⟩,r,hb,q⟩:=h
  have hu:=hr.units;refine⟨_,aN (br (ij (aU GN hr (aa (pv 1) af)) (jP (Fp (xh (iS hu) (pv 1) (f' (Xf rfl) rfl B2.dict boot_dict (aa (pv 0) af))))))),?_⟩;refine⟨_,rfl,mx.mk rfl r hb.str fun H1 S1=>⟨cY d,rfl,?_⟩⟩;cases hn:cY d with
  |false=>have q1:=q _ S1;rw[Oz hn]at q1;exact q1
  |true =>
   obtain⟨x,rfl,hx⟩:=Ai hn;obtain rfl:=iO r;refine⟨_,rfl,_,rfl,t,o,ws,kvs,rfl,S1 _ _ ht,ho,hp.same S1,nd,fun d hd=>⟨d,_,rfl,eM.k (k:=Sum.inr x) ag,?_⟩⟩;have q1:=q _ (S1.trans (ay (o:= .dK (pq kvs)) hd));rw[show d6 (kvs.map (·.1)) (.str x)=decide (x∈kvs.map (·.1)) by show(fh x && _)=_;rw[hx];rfl]at q1
   rw[Nb];exact q1
inductive rK (C:Addr) (vs:List V) (H:Hp) (Q:VK) (E:XK):Prop
 |mk {p t:Addr}{ks:List Str}{v:V}{d:PyData} (_:vs = [.ref t,v]) (_:FK H t ks) (_:Dt p H v d) (_:Sm d) (_:BE C (d6 ks d) H Q E):rK C vs H Q E
theorem AU {t:Addr}{d:PyData}{E:XK} (ht:FK H t ks) (r:Dt p H v d) (hb:Sm d) (q:d6 ks d=true -> ∀H',aq H H'->Q .aI H') (qn:d6 ks d=false -> ∀a H',aq H H'->sG C H' a->E (.ref C) (some a) H'):rK C [.ref t,v] H Q E:=⟨rfl,ht,r,hb,q,qn⟩
theorem abz {fK:Addr}{fdK:FuncData} (F:a6 K "check_kind" "check_kind" Fd f fd) (T:uh K mg "NoKind" C) (GK:bh P w K mg base aK 2 fK fdK ["family","thing"] BF "is_kind"):a9 P w K mg base (cC P w) 3 f fd ["family","thing"] (rK C):=by
 refine F.vi aaa (fun vs H Q E h=>?_) (fun aG A outer s H vs Q E hr h=>?_)
 ·obtain⟨rfl,_⟩:=h;rfl
 ·obtain @⟨p,t,ks,v,d,rfl,ht,r,hb,c⟩:=h
  have cW:aV 2 _:=hr;refine⟨_,aN (bY (lh (i7 (aU GK cW (aa (pv 0) (aa (pv 1) af))))) (aN (wA (wV T.q T.kp rfl T.m (aa cu af)))) cf),?_⟩;refine⟨_,rfl,_,rfl,BF.mk rfl ht r hb fun H1 S1=>⟨_,rfl,?_⟩⟩;cases hk:d6 ks d with
  |true=>exact c.1 hk H1 S1
  |false=>exact⟨by show 1<=100;decide,fun e he=>⟨e,C,none,none,rfl,ag,(fun d ed=>by cases ed),T.x,T.q,S1.free he,Fl S1 c T.x T.q e he hk⟩⟩
inductive uA (C:Addr) (vs:List V) (H:Hp) (Q:VK) (E:XK):Prop
 |mk {p:Addr}{v:V}{d:PyData} (_:vs = [v]) (_:Dt p H v d) (_:Sm d) (_:BE C (cY d) H Q E):uA C vs H Q E
theorem FH {d:PyData}{E:XK} (r:Dt p H v d) (hb:Sm d) (q:cY d=true -> ∀H',aq H H'->Q .aI H') (qn:cY d=false -> ∀a H',aq H H'->sG C H' a->E (.ref C) (some a) H'):uA C [v] H Q E:=⟨rfl,r,hb,q,qn⟩
theorem acN:bK ["thing"] ["thing"] (aM Fb):=b6
theorem abA {J8:FuncData} (F:a6 K "check_name" "check_name" Fb f fd) (T:uh K mg "NoName" C) (GN:bh P w K mg base aK 1 fN J8 ["thing"] mx "is_name"):a9 P w K mg base (cC P w) 2 f fd ["thing"] (uA C):=by
 refine F.vi acN (fun vs H Q E h=>?_) (fun aG A outer s H vs Q E hr h=>?_)
 ·obtain⟨rfl,_⟩:=h;rfl
 ·obtain @⟨p,v,d,rfl,r,hb,c⟩:=h
  have aZ:aV 1 _:=hr;refine⟨_,aN (bY (lh (i7 (aU GN aZ (aa (pv 0) af)))) (aN (wA (wV T.q T.kp rfl T.m (aa cu af)))) cf),?_⟩;refine⟨_,rfl,mx.mk rfl r hb.str fun H1 S1=>⟨_,rfl,?_⟩⟩;cases hk:cY d with
  |true=>exact c.1 hk H1 S1
  |false=>exact⟨by show 1<=100;decide,fun e he=>⟨e,C,none,none,rfl,ag,(fun d ed=>by cases ed),T.x,T.q,S1.free he,Fl S1 c T.x T.q e he hk⟩⟩
inductive Bc (vs:List V) (H:Hp) (Q:VK) (E:XK):Prop
 |mk {p t:Addr}{line:List Str}{v:V}{d:PyData} (_:vs = [.ref t,v]) (_:H t=some (.tup (line.map V.str))) (_:line.length<=200) (_:Dt p H v d) (_:∀H',aq H H'->Q (.bl (jw line d)) H'):Bc vs H Q E
theorem abB (F:a6 K "is_behind" "is_behind" Ek f fd) (B2:ja mg):a9 P w K mg base aK 1 f fd ["line","thing"] Bc:=by
 refine F.ok ad8 (fun vs H Q E h=>?_) (fun aG A outer s H vs Q E hr h=>?_)
 ·obtain⟨rfl,_⟩:=h;rfl
 ·obtain @⟨p,t,line,v,d,rfl,ht,hl,r,q⟩:=h
  refine⟨_,aN (br (ij (bJ qL rfl B2.kI kc (aa (pv 1) (aa (oY (v:= .ty "str") rfl B2.str boot_str rfl) af))) (jP (gx zW (pv 1) (bA E1 (cg (aa cu af)) (pv 0)) rfl)))),?_⟩;refine⟨_,rfl,rf E6 r ⟨_,rfl,?_⟩⟩;cases hb:gC "str" d with
  |false =>
   have q0:=q _ (aq.refl _);rw[show jw line d=false by cases d <;> first|rfl|cases hb]at q0
   exact q0
  |true =>
   obtain⟨b,rfl⟩:=abm hb;obtain rfl:=iO r;refine⟨_,rfl,hW,fun c hc=>?_⟩;have Sc:=ay (o:= .tup [V.str ""]) hc;refine⟨_,rfl,c,t,_,_,rfl,rfl,ag,Sc _ _ ht,by rw[aE,aQ];show 1+_<=_;omega,fun p' H' S' h'=>?_⟩
   have iy:H' p'=some (.tup ((("" : Str)::line).map V.str)):=h';refine⟨p',_,rfl,.inr (aJ.of iy),rfl,mq _,?_⟩;rw[ax cD,Yg];exact q H' (Sc.trans S')
inductive Bd (C:Addr) (vs:List V) (H:Hp) (Q:VK) (E:XK):Prop
 |mk {p t:Addr}{line:List Str}{v:V}{d:PyData} (_:vs = [.ref t,v]) (_:H t=some (.tup (line.map V.str))) (_:line.length<=200) (_:Dt p H v d) (_:BE C (jw line d) H Q E):Bd C vs H Q E
theorem abC {t:Addr}{d:PyData}{E:XK} (ht:H t=some (.tup (line.map V.str))) (hl:line.length<=200) (r:Dt p H v d) (q:jw line d=true -> ∀H',aq H H'->Q .aI H') (qn:jw line d=false -> ∀a H',aq H H'->sG C H' a->E (.ref C) (some a) H'):Bd C [.ref t,v] H Q E:=⟨rfl,ht,hl,r,q,qn⟩
theorem abD (F:a6 K "check_behind" "check_behind" Fe f fd) (T:uh K mg "NotAbove" C) (GI:bh P w K mg base aK 1 fI dI ["line","thing"] Bc "is_behind"):a9 P w K mg base (cC P w) 2 f fd ["line","thing"] (Bd C):=by
 refine F.vi ad9 (fun vs H Q E h=>?_) (fun aG A outer s H vs Q E hr h=>?_)
 ·obtain⟨rfl,_⟩:=h;rfl
 ·obtain @⟨p,t,line,v,d,rfl,ht,hl,r,c⟩:=h
  have aZ:aV 1 _:=hr;refine⟨_,aN (bY (lh (i7 (aU GI aZ (aa (pv 0) (aa (pv 1) af))))) (aN (wA (wV T.q T.kp rfl T.m (aa cu af)))) cf),?_⟩;refine⟨_,rfl,_,rfl,Bc.mk rfl ht hl r fun H1 S1=>⟨_,rfl,?_⟩⟩;cases hk:jw line d with
  |true=>exact c.1 hk H1 S1
  |false=>exact⟨by show 1<=100;decide,fun e he=>⟨e,C,none,none,rfl,ag,(fun d ed=>by cases ed),T.x,T.q,S1.free he,Fl S1 c T.x T.q e he hk⟩⟩
end df
namespace df
open PySem L2 PySem.W HT PyProof.Rows
abbrev Rf (C:Addr) (H:Hp) (E:XK):Prop:= ∀a H',aq H H'->sG C H' a->E (.ref C) (some a) H'
theorem xa {d:PyData} (h:d6 ks d=true):∃x,d = .str x/\x∈ks/\Nm x:=by
 cases d with
 |str x =>
  have h':(fh x && decide (x∈ks))=true:=h;simp only[nM,VP]at h';exact⟨x,rfl,h'.2,w9 h'.1⟩
 |_=>cases h
theorem FB.fk {t tb:Addr}{bk:Bk} (fb:FB H t tb o ws wb aH L bk):FK H t (aH.map (·.1)):=by
 obtain⟨kv,Tg,acO⟩:=fb.fv.pairs;exact⟨o,ws,kv,fb.ht,fb.od,Tg,acO,fb.fo.nd⟩
theorem Zh {k:Nat} (F:xU K x qual st dv f fd) (S:bK N ps (aM st)) (len:∀vs H Q E,sp vs H Q E->vs.length=ps.length)
  (rC:∀ (aG:Value) (A:Around) (outer:List Env) (s:Shared) (H:Hp) (vs:List V) (Q:VK) (E:XK),aV k (A.deeper (envOfC qual (aM st) s.heap.objs.size f aG))->sp vs H Q E ->
   ∃t,eY (gf (cC P w) P w K mg base N qual (aM st) f aG A outer s H E) (b4 st) t/\t { nx:=fun _ H'=>Q .aI H',rt:=Q } (start N vs) H):a9 P w K mg base (cC P w) (k+1) f fd ps sp:=by
 obtain⟨oc,od,kV,doc,pm,an,aG,ct,jc,rfl,lk,d7⟩:=F.ex;exact F1 lk d7 S len fun A outer s H vs Q E hr gk=>rC aG A outer s H vs Q E hr gk
inductive Gu (CK CN CA:Addr) (vs:List V) (H:Hp) (Q:VK) (E:XK):Prop
 |mk {p t tb:Addr}{o:Obj}{ws wb:List V}{aH:List (Str×List Str)}{L:Str->List Str}{bk:Bk}{vk vn vb:V}{dk dn db:PyData} (_:vs = [.ref t,.ref tb,vk,vn,vb]) (_:FB H t tb o ws wb aH L bk) (_:Dt p H vk dk) (_:Sm dk) (_:Dt p H vn dn) (_:Sm dn) (_:Dt p H vb db) (_:(d6 (aH.map (·.1)) dk=false->Rf CK H E)) (_:(d6 (aH.map (·.1)) dk=true->cY dn=false->Rf CN H E)) (_:(∀kind,dk = .str kind->kind∈aH.map (·.1)->cY dn=true->jw (L kind) db=false->Rf CA H E)) (_:(∀kind name a7,dk = .str kind->kind∈aH.map (·.1)->dn = .str name->Nm name->db = .str a7->(a7 = "" \/ a7∈L kind) -> ∀v H',aq H H'->kx H' v (bB bk name (eX (L kind) a7))->Q v H')):Gu CK CN CA vs H Q E
theorem abE {CA fF:Addr}{dC:FuncData} (F:xU K "found_at" "found_at" tO dv f fd) (T:rR K mg C)
  (GC:bh P w K mg base (cC P w) 3 fC dC ["family","thing"] (rK CK) "check_kind")
  (GN:bh P w K mg base (cC P w) 2 fN dN ["thing"] (uA CN) "check_name")
  (GF:bh P w K mg base aK 6 fF dF ["family","book"] (uM C) "finds_in")
  (GB:bh P w K mg base (cC P w) 2 fB dB ["line","thing"] (Bd CA) "check_behind")
  (GL:a9 P w K mg base aK 2 fL dL ["self","kind","name","behind"] (ug C)) (ML:Meth K C "look" fL) (bL:Binds K dL ["self","kind","name","behind"] []):a9 P w K mg base (cC P w) 7 f fd J4 (Gu CK CN CA):=by
 refine Zh F QR (fun vs H Q E h=>?_) (fun aG A outer s H vs Q E hr h=>?_)
 ·obtain⟨rfl,_⟩:=h;rfl
 ·obtain @⟨p,t,tb,o,ws,wb,aH,L,bk,vk,vn,vb,dk,dn,db,rfl,fb,rk,sk,rn,sn,rb,q1,q2,q3,q⟩:=h
  have hu:=hr.units;have sH:aV 6 _:=hr;have iX:aV 3 _:=sH.mono (by decide)
  have cW:aV 2 _:=sH.mono (by decide)
  refine⟨_,aB (jN (o3 GC iX (aa (pv 0) (aa (pv 2) af))))
   (aB (jN (o3 GN cW (aa (pv 3) af)))
   (aB (aW (i:=5) QR.nd rfl (Or.inl rfl) (aU GF sH (aa (pv 0) (aa (pv 1) af))))
   (aB (jN (o3 GB cW (aa (jl (iS hu) (pj (pv 5) rfl) (pv 2)) (aa (pv 4) af))))
   (aN (br (EW (pv 5) T.cl ML GL cW bL .nil jo (aa (pv 2) (aa (pv 3) (aa (pv 4) af))))))))),?_⟩
  refine⟨_,rfl,_,rfl,AU fb.fk rk sk (fun hk H1 S1=>?_) (fun hk a H1 S1 e=>q1 hk a H1 S1 e)⟩;refine⟨_,rfl,FH (Dt.same rn S1) sn (fun hn H2 iF=>?_) (fun hn a H2 iF e=>q2 hk hn a H2 (S1.trans iF) e)⟩;have S2:=S1.trans iF;obtain⟨kind,rfl,eF,vD⟩:=xa hk;obtain⟨name,rfl,lX⟩:=Ai hn;obtain rfl:=iO rk;obtain rfl:=iO rn;obtain⟨pk,pZ,ek⟩:=bT.mp eF;refine⟨_,rfl,_,rfl,uM.mk rfl (fb.same S2) fun x dx dl de dh kl ke H3 S3 fi ln hx kK=>?_⟩;obtain⟨a,ea,ha⟩:j6 H3 kl L kind:=ek ▸ ln pk pZ;refine⟨_,rfl,x,C,dx,_,.ref dl,rfl,fi.hx,T.cl,T.nl,ET,_,rfl,dl,.ref a,rfl,.inl ⟨kl,Sum.inr kind,.inl fi.hl,rfl,ea.symm⟩,_,rfl,abC ha (fb.bV eF) (Dt.same rb (S2.trans S3)) (fun hb H4 S4=>?_) (fun hb a' H4 S4 e=>q3 kind rfl eF hn hb a' H4 ((S2.trans S3).trans S4) e)⟩;obtain⟨a7,rfl,uY⟩:∃a7,db = .str a7/\(a7 = "" \/ a7∈L kind):=by
   cases db with
   |str b=>exact⟨b,rfl,eT hb⟩
   |_=>cases hb
  obtain rfl:=iO rb;have qp:FI C x dx dl de dh kl ke [] 0 bk H4:=⟨S4 _ _ fi.hx,S4 _ _ fi.hl,S4 _ _ fi.he,S4 _ _ fi.hh,fi.du.same S4,fi.ok,fi.nn⟩;refine⟨_,rfl,x,dx,_,rfl,qp.hx,Gs (by decide +kernel) (by decide +kernel) (by decide +kernel) (by decide +kernel),_,rfl,_,rfl,_,rfl,ug.mk rfl qp ⟨a,ea,S4 _ _ ha⟩ (fb.bV eF) uY (fun k n b v e=>(by cases e)) (bR _) fun v vC m' H5 vE _ _ _ ov=>?_⟩
  have ou:=S2.free hx;have CO:=S2.free kK;exact q kind name a7 rfl eF rfl (w9 lX) rfl uY v H5 (fun b u e=>vE _ _ (aA e ou) (aA e CO) (S4 _ _ (S3 _ _ (S2 _ _ e)))) ov
end df
namespace df
open PySem L2 PySem.W HT HS
inductive Gv (CK:Addr) (vs:List V) (H:Hp) (Q:VK) (E:XK):Prop
 |mk {p t tb:Addr}{o:Obj}{ws wb:List V}{aH:List (Str×List Str)}{L:Str->List Str}{bk:Bk}{vk:V}{dk:PyData} (_:vs = [.ref t,.ref tb,vk]) (_:FB H t tb o ws wb aH L bk) (_:Dt p H vk dk) (_:Sm dk) (_:(d6 (aH.map (·.1)) dk=false->Rf CK H E)) (_:(∀kind,dk = .str kind->kind∈aH.map (·.1) ->
 ∀ (r:Addr) (ys:List V) (ss:List Str) (H':Hp),aq H H'->H r=none->H' r=some (.lst ys)->oN H' ys (ss.map fun n=>(n,pI (bB bk n (L kind))))->PyProof.Rows.sortedS ss=true->ss.Nodup->(∀y,y∈ss ↔ bB bk y (L kind)≠none)->ss.length<=48->Q (.ref r) H')):Gv CK vs H Q E
theorem abF {fF:Addr}{dC:FuncData} (F:a6 K "all_found" "all_found" qJ f fd) (B2:ja mg) (T:rR K mg C)
  (GC:bh P w K mg base (cC P w) 3 fC dC ["family","thing"] (rK CK) "check_kind")
  (GF:bh P w K mg base aK 6 fF dF ["family","book"] (uM C) "finds_in")
  (GL:a9 P w K mg base aK 2 fL dL ["self","kind","name","behind"] (ug C)) (ML:Meth K C "look" fL) (bL:Binds K dL ["self","kind","name","behind"] []):a9 P w K mg base (cC P w) 7 f fd J7 (Gv CK):=by
 refine F.vi BD (fun vs H Q E h=>?_) (fun aG A outer s H vs Q E hr h=>?_)
 ·obtain⟨rfl,_⟩:=h;rfl
 ·obtain @⟨p0,t,tb,o,ws,wb,aH,L,bk,vk,dk,rfl,fb,rk,sk,q1,q2⟩:=h
  have hu:=hr.units;have cy:=iS hu;have sH:aV 6 _:=hr;have iX:aV 3 _:=sH.mono (by decide)
  have cW:aV 2 _:=sH.mono (by decide)
  refine⟨_,aB (jN (o3 GC iX (aa (pv 0) (aa (pv 2) af))))
   (aB (aW (i:=3) BD.nd rfl (Or.inr rfl) (aU GF sH (aa (pv 0) (aa (pv 1) af))))
   (aB (aW (i:=4) BD.nd rfl (Or.inr rfl) (jl cy (pj (pv 3) rfl) (pv 2)))
   (aB (aW (i:=5) BD.nd rfl (Or.inl rfl) (bJ (LY rfl) rfl B2.sorted boot_sorted (aa (YS rfl Bb (qV (pv 1)) (fun s H fp=>⟨wO (n:=3) K rfl rfl (fH (bw (i:=0) Bb.nd rfl (Or.inl rfl)) (fH (bw (i:=1) Bb.nd rfl (Or.inl rfl)) (fH (bw (i:=2) Bb.nd rfl (Or.inl rfl)) mw))),jL (bU (wW K rfl) (pv 0) (pv 3) rfl),aa4 rfl rfl (pv 1)⟩)) af)))
   (aN (br (eV rfl Pr (iK (pv 5)) (fun s H fp=>⟨bw (i:=0) Pr.nd rfl (Or.inl rfl),gv,cg (aa (pv 0) (aa (aP (Ez K rfl) (EW (pv 1) T.cl ML GL cW bL .nil jo (aa (pv 2) (aa (pv 0) (aa cu af)))) ao) af))⟩))))))),?_⟩
  refine⟨_,rfl,_,rfl,AU fb.fk rk sk (fun jA H1 S1=>?_) (fun hk a H1 S1 e=>q1 hk a H1 S1 e)⟩;obtain⟨kind,rfl,hk,vD⟩:=xa jA;obtain rfl:=iO rk;have q:=q2 kind rfl hk;obtain⟨pk,pZ,ek⟩:=bT.mp hk;refine⟨_,rfl,_,rfl,uM.mk rfl (fb.same S1) fun x dx dl de dh kl ke H2 S2 fi ln hx kK=>?_⟩;obtain⟨a,ea,ha⟩:j6 H2 kl L kind:=ek ▸ ln pk pZ;refine⟨_,rfl,x,C,dx,_,.ref dl,rfl,fi.hx,T.cl,T.nl,ET,_,rfl,dl,.ref a,rfl,.inl ⟨kl,Sum.inr kind,.inl fi.hl,rfl,ea.symm⟩,?_⟩;have ig:=S1.trans S2;have J9:=fb.same ig;have hlen:=fb.bv.length;have bV:=fb.ok.bV;refine⟨_,rfl,tb,rfl,⟨_,aJ.of J9.hb⟩,fun ps gT=>?_⟩;refine M1 (xs:=wb) (fun i τ H3=>∃ (t0 t1 t2:Option V) (ds:List Str),τ = [t0,t1,t2,some (.ref a)]/\aq H2 H3/\H3 ps=some (jW P w ps ds)/\ds.Nodup/\ds.length<=i /\ ∀y,y∈ds ↔ ∃q∈bk.take i,q.2.1=y/\q.1∈L kind) ⟨none,none,none,[],rfl,ay gT,ag,qC,aO _,fun y=>⟨fun z=>(by cases z),fun⟨_,z,_⟩=>(by cases z)⟩⟩ (fun i τ H3 hQ9=>by obtain⟨_,_,_,_,_,z,_⟩:=hQ9;exact aJ.of (z _ _ J9.hb)) ?_ ?_
  ·rintro i y τ H3 hy ⟨t0,t1,t2,ds,rfl,S3,h3,nd,QS,mem⟩
   have aT:i < wb.length:=(cz.mp hy).1;obtain⟨p,hp,a1,u,rfl,jC,ru⟩:=L2.Paired.get (bF.same S3 J9.bv) hy;have tk:bk.take (i+1)=bk.take i ++ [p]:=by rw[dg,hp];rfl
   refine⟨a1,_,rfl,aJ.of jC,rfl,_,_,rfl,_,_,rfl,_,_,rfl,rfl,?_⟩;refine⟨_,rfl,_,rfl,a,_,rfl,.inr (aJ.of (S3 _ _ ha)),rfl,mq _,_,rfl,?_⟩;rw[ax cD,oV];refine cG (fun cx=>?_) (fun cx=>?_)
   ·have cx:p.1∈L kind:=eT cx
    refine⟨_,rfl,ds,p.2.1,rfl,h3,by omega,ED aT ⟨_,_,_,ik ds p.2.1,rfl,fun b v e=>?_,ag,E3 nd _,gW (Nx _ _) (by omega),fun z=>?_⟩⟩
    ·rw[ah (aA e gT)];exact S3 _ _ e
    ·rw[Ny,mem z,tk]
     constructor
     ·rintro(⟨q,hq,h⟩|h)
      ·exact⟨q,kQ _ hq,h⟩
      ·exact⟨p,gr _ bu,h.symm,cx⟩
     ·rintro⟨q,hq,h⟩
      rcases ff.mp hq with hq|hq
      ·exact .inl ⟨q,hq,h⟩
      ·rw[fw.mp hq]at h;exact .inr h.1.symm
   ·have cx:p.1 ∉ L kind:=fun z=>cx (cm z)
    refine ED aT ⟨_,_,_,ds,rfl,S3,h3,nd,by omega,fun z=>?_⟩
    rw[mem z,tk]
    constructor
    ·rintro⟨q,hq,h⟩;exact⟨q,kQ _ hq,h⟩
    ·rintro⟨q,hq,h⟩
     rcases ff.mp hq with hq|hq
     ·exact⟨q,hq,h⟩
     ·rw[fw.mp hq]at h;exact absurd h.2 cx
  ·rintro τ H3 ⟨t0,t1,t2,ds,rfl,S3,h3,nd,QS,mem⟩
   rw[hlen,cQ]at mem;rw[hlen]at QS;refine⟨ps,ds,rfl,h3,by omega,fun D ss hD fg qj=>?_⟩
   have SD:=ay (o:= .lst (ss.map V.str)) hD;have vF:upd H3 D (.lst (ss.map V.str)) D=some (.lst (ss.map V.str)):=ag;generalize upd H3 D (.lst (ss.map V.str))=H4 at SD vF ⊢;have lW:=S3.trans SD;have qp:FI C x dx dl de dh kl ke [] 0 bk H4:=fi.keep fun b u _ e=>lW _ _ e;have snd:ss.Nodup:=fg.nodup_iff.mpr nd;have yb:∀y,y∈ss ↔ bB bk y (L kind)≠none:=fun y=>by rw[fg.mem_iff,mem y,OX]
   have QT:ss.length<=48:=by rw[fg.length_eq];omega
   refine⟨_,rfl,D,rfl,⟨_,aj.of vF⟩,fun c hc=>?_⟩;have S5:=ay (o:= .lst []) hc;have ncx:c≠x:=(aA qp.hx hc).symm;have g9:c≠dh:=(aA qp.hh hc).symm;have nDx:D≠x:=aX vF qp.hx
   have nDh:D≠dh:=aX vF qp.hh
   have nDc:D≠c:=aA vF hc;refine i4 (xs:=ss.map V.str) (fun i ys τ H5=>∃ (t0:Option V) (kh:List (List Key×V)) (m:Int),τ = [t0,some (.ref x),some (.str kind)]/\H5 c=some (.lst ys)/\(∀b u,b≠x->b≠dh->b≠c->H4 b=some u->H5 b=some u)/\FI C x dx dl de dh kl ke kh m bk H5/\pw H5 kh bk L/\kh.length<=i/\oN H5 ys ((ss.take i).map fun n=>(n,pI (bB bk n (L kind)))))
    ⟨none,[],0,rfl,ag,fun b u _ _ n e=>by rw[ah n];exact e,qp.keep fun b u _ e=>S5 _ _ e,fun k n b v e=>(by cases e),aO _,.nil⟩ (fun i ys τ H5 hQ9=>by obtain⟨_,_,_,_,z1,z2,_⟩:=hQ9;exact ⟨z1,aj.of (z2 _ _ nDx nDh nDc vF)⟩) ?_ ?_
   ·rintro i y ys τ H5 hy ⟨t0,kh,m,rfl,jf,vE,zb,TB,kl5,zd⟩
    obtain⟨bX,eQ,rfl,gF⟩:=t6 hy;have nax:a≠x:=aX ha fi.hx
    have nah:a≠dh:=aX ha fi.hh
    have CB:=lW _ _ ha;have nac:a≠c:=aA CB hc;refine⟨_,rfl,_,rfl,x,dx,_,rfl,zb.hx,Gs (by decide +kernel) (by decide +kernel) (by decide +kernel) (by decide +kernel),_,rfl,_,rfl,ug.mk rfl (L:=L) zb ⟨a,ea,vE _ _ nax nah nac CB⟩ (fb.bV hk) (.inl rfl) TB (by omega) fun v vC m' H6 J' fi6 ho6 kl6 ov=>?_⟩
    have eb:eX (L kind) "" = L kind:=aF rfl;rw[eb]at ov;cases ef:bB bk ss[i] (L kind) with
    |none=>exact absurd ef ((yb _).mp (f9 eQ))
    |some r =>
     rw[ef]at ov;obtain⟨tt,u,rfl,htt,ru⟩:=ov;refine⟨tt,_,0,.str r.1,rfl,rfl,aJ.of htt,eh,cH,fun tn Ka=>?_⟩;have S7:=ay (o:= .tup [V.str ss[i],V.str r.1]) Ka;have QU:upd H6 tn (.tup [V.str ss[i],V.str r.1]) tn=some (.tup [V.str ss[i],V.str r.1]):=ag;generalize upd H6 tn (.tup [V.str ss[i],V.str r.1])=H7 at S7 QU ⊢;have sE:=J' _ _ ncx g9 jf;have TF:=S7 _ _ sE;have yl:=gV zd;rw[aE,cT]at yl;have up:∀ {zs:List V} b u,(∀zs,u ≠ .lst zs)->H7 b=some u->upd H7 c (.lst zs) b=some u:=fun {zs} b u n e=>by rw[ah (aX e TF (n ys))];exact e
     refine⟨TF,by rw[aQ];omega,cw_next bX ⟨_,vC,m',rfl,ag,fun b u n1 n2 n3 e=>?_,(fi6.keep fun b u _ e=>S7 _ _ e).keep up,(ho6.keep fb.ok fun b xs e=>S7 _ _ e).keep fb.ok fun b xs e=>up _ _ (fun _ z=>by cases z) e,by omega,?_⟩⟩
     ·rw[ah n3];exact S7 _ _ (J' _ _ n1 n2 (vE _ _ n1 n2 n3 e))
     ·rw[gF,bZ]
      have pr7:oN H7 ys ((ss.take i).map fun n=>(n,pI (bB bk n (L kind)))):=zd.keep fun b xs e=>S7 _ _ (J' _ _ (aX e zb.hx) (aX e zb.hh) e)
      have pr8:=pr7.keep (H':=upd H7 c (.lst (ys ++ [.ref tn]))) fun b xs e=>up _ _ (fun _ z=>by cases z) e
      refine oS pr8 ⟨tn,rfl,?_⟩;rw[up _ _ (fun _ z=>by cases z) QU]
      show _=some (HO.tup [V.str ss[i],V.str (pI (bB bk ss[i] (L kind)))]);rw[ef];rfl
   ·rintro ys τ H5 ⟨t0,kh,m,rfl,jf,vE,zb,TB,kl5,zd⟩
    rw[aE,cQ]at zd;have old:∀b u,H b=some u->b≠x/\b≠dh:=fun b u e=>⟨aA (S1 _ _ e) hx,aA (S1 _ _ e) kK⟩;have Kb:=ig.trans lW;refine q c ys ss H5 (fun b u e=>?_) (Kb.free hc) jf zd qj snd yb QT;exact vE _ _ (old b u e).1 (old b u e).2 (aA (Kb _ _ e) hc) (Kb _ _ e)
end df
namespace df
open PySem L2 PySem.W HT
theorem acP:bK ["book","kind","name"] ["book","kind","name"] (aM wF):=b6
theorem Pt:b8 ["book","kind","name"] (aM wF) ["triple","kind","name"] [none,some 1,some 2] (cK ad4):=dH
theorem abG (F:a6 K "without_name" "without_name" wF f fd) (B:dY mg):a9 P w K mg base aK 1 f fd ["book","kind","name"] uy:=by
 refine F.ok acP (fun vs H Q E h=>?_) (fun aG A outer s H vs Q E hr h=>?_)
 ·obtain⟨rfl,_⟩:=h;rfl
 ·obtain @⟨t,ws,bk,k,n,rfl,ht,hb,ok,hk,hn,q⟩:=h
  have hu:=hr.units;refine⟨_,aN (br (f' qG rfl B.tuple boot_tuple (aa (eV rfl Pt (qV (pv 0)) (fun s H fp=>⟨bw (i:=0) Pt.nd rfl (Or.inl rfl),jL (bU (t5 hu) (kY N8 (pv 0) k9 (lg ao)) (cg (aa (pv 1) (aa (pv 2) af))) (bz _)),pv 0⟩)) af))),?_⟩;have hlen:=hb.length;have bV:=ok.bV;refine⟨_,rfl,t,rfl,⟨_,aJ.of ht⟩,fun c hc=>?_⟩;refine wK (xs:=ws) (fun i ys τ H1=>∃t0:Option V,τ = [t0,some (.str k),some (.str n)]/\aq H H1/\H1 c=some (.lst ys)/\bF H1 ys (cq (bk.take i) k n)) ⟨none,rfl,ay hc,ag,.nil⟩ (fun i ys τ H1 hQ9=>by obtain⟨_,_,z,z2,_⟩:=hQ9;exact ⟨z2,aJ.of (z _ _ ht)⟩) ?_ ?_
  ·rintro i x ys τ H1 hx ⟨t0,rfl,S1,h1,B1⟩
   have aT:i < ws.length:=(cz.mp hx).1;obtain⟨p,hp,a,u,rfl,ha,ru⟩:=L2.Paired.get (hb.same S1) hx;have pm:=jH hp;have tk:bk.take (i+1)=bk.take i ++ [p]:=by rw[dg,hp];rfl
   refine⟨_,rfl,2,rfl,a,_,rfl,ha,fun sp H2 S2 h2=>?_⟩;have HN:gg [V.str p.1,V.str p.2.1,u] none (some 2) = [p.1,p.2.1].map V.str:=rfl;rw[HN]at h2;refine⟨_,rfl,_,rfl,cH,fun tp TH=>?_⟩;have S3:=S2.trans (ay (o:= .tup [V.str k,V.str n]) TH);have TJ:=(ay (o:= .tup [V.str k,V.str n]) TH) _ _ h2;have TK:upd H2 tp (.tup [V.str k,V.str n]) tp=some (.tup ([k,n].map V.str)):=ag;generalize upd H2 tp (.tup [V.str k,V.str n])=H3 at S3 TJ TK ⊢;have l1:(PyData.tuple ([p.1,p.2.1].map PyData.str)).canLay0=true:=qP (xs:= [p.1,p.2.1]) fun y hy=>by
    rcases bH.mp hy with z|z
    ·rw[z];exact(ok.nm p pm).1
    ·rw[fw.mp z];exact(ok.nm p pm).2
   have l2:(PyData.tuple ([k,n].map PyData.str)).canLay0=true:=qP (xs:= [k,n]) fun y hy=>by
    rcases bH.mp hy with z|z
    ·rw[z];exact hk
    ·rw[fw.mp z];exact hn
   refine⟨.tuple ([p.1,p.2.1].map PyData.str),.tuple ([k,n].map PyData.str),.tup TJ (qO _ _),.tup TK (qO _ _),l1,l2,by show PyData.depthAll _+1<=60;rw[wq];decide,_,rfl,?_⟩
   rw[show PyData.eqv (.tuple ([p.1,p.2.1].map PyData.str)) (.tuple ([k,n].map PyData.str))=decide ([p.1,p.2.1] = [k,n]) from EN _ _];have qk:=S3 _ _ h1;have up:∀ {zs:List V} b xs,H1 b=some (.tup xs)->upd H3 c (.lst zs) b=some (.tup xs):=fun b xs e=>by rw[ah (aX e h1)];exact S3 _ _ e
   have aed:∀q∈cq (bk.take i) k n,Ent q.2.2:=fun q hq=>ok.ent q (wc (f6.mp hq).1);refine cG (fun bc=>?_) (fun bc=>?_)
   ·have e1:cq (bk.take (i+1)) k n=cq (bk.take i) k n ++ [p]:=by rw[tk];unfold cq;rw[jK,qE (by exact bc)];rfl
    refine⟨_,rfl,qk,?_,cw_next aT ⟨_,rfl,fun b v e=>?_,ag,?_⟩⟩
    ·have h2:(cq (bk.take i) k n).length<=(bk.take i).length:=jJ _ _
     rw[cT]at h2;rw[B1.length,aQ];omega
    ·rw[ah (aA e hc)];exact S3 _ _ (S1 _ _ e)
    ·rw[e1]
     exact bF.append (up _ _ ha) ((ok.ent p pm).keep ru up) (bF.keep up B1 aed)
   ·have e1:cq (bk.take (i+1)) k n=cq (bk.take i) k n:=by rw[tk];unfold cq;rw[jK,tm (by exact bc)];simp
    exact cw_next aT ⟨_,rfl,S1.trans S3,qk,by rw[e1];exact bF.same S3 B1⟩
  ·rintro ys τ H1 ⟨t0,rfl,S1,h1,B1⟩
   rw[hlen,cQ]at B1;refine⟨c,_,rfl,.inl ⟨aj.of h1,fun r hr=>?_⟩⟩;have S:=ay (o:= .tup ys) hr;exact q r ys _ (S1.trans S) ag (bF.same S B1)
inductive FJ (CK CN CE:Addr) (vs:List V) (H:Hp) (Q:VK) (E:XK):Prop
 |mk {p t tb:Addr}{o:Obj}{ws wb:List V}{aH:List (Str×List Str)}{L:Str->List Str}{bk:Bk}{vk vn v:V}{dk dn d:PyData} (_:vs = [.ref t,.ref tb,vk,vn,v]) (_:FB H t tb o ws wb aH L bk) (_:Dt p H vk dk) (_:Sm dk) (_:Dt p H vn dn) (_:Sm dn) (_:Dt p H v d) (_:Sm d) (_:(d6 (aH.map (·.1)) dk=false->Rf CK H E)) (_:(d6 (aH.map (·.1)) dk=true->cY dn=false->Rf CN H E)) (_:(d6 (aH.map (·.1)) dk=true->cY dn=true->dj d=false->Rf CE H E)) (_:(dj d=true->Rep H v d/\Ent d)) (_:(∀k n,dk = .str k->k∈aH.map (·.1)->dn = .str n->Nm n->Ent d -> ∀r gD gG H',aq H H'->H' r=some (.tup gD)->bF H' gD gG->gG.Perm (cq bk k n ++ [(k,n,d)])->lU gG->Q (.ref r) H')):FJ CK CN CE vs H Q E
theorem acQ:bK Bz Bz (aM FA):=b6
theorem aat {CE:Addr}{dC:FuncData} (F:a6 K "name_given" "name_given" FA f fd) (B:dY mg) (B2:ja mg) (T:uh K mg "NoEntry" CE)
  (GC:bh P w K mg base (cC P w) 3 fC dC ["family","thing"] (rK CK) "check_kind")
  (GN:bh P w K mg base (cC P w) 2 fN dN ["thing"] (uA CN) "check_name")
  (GE:bh P w K mg base aK 4 fE dE ["thing"] AQ "is_entry")
  (GW:bh P w K mg base aK 1 fW dW ["book","kind","name"] uy "without_name"):a9 P w K mg base (cC P w) 5 f fd Bz (FJ CK CN CE):=by
 refine F.vi acQ (fun vs H Q E h=>?_) (fun aG A outer s H vs Q E hr h=>?_)
 ·obtain⟨rfl,_⟩:=h;rfl
 ·obtain @⟨p,t,tb,o,ws,wb,aH,L,bk,vk,vn,v,dk,dn,d,rfl,fb,rk,sk,rn,sn,re,se,q1,q2,q3,good,q⟩:=h
  have hb:=fb.hb;have bv:=fb.bv;have ok:=fb.ok;have bV:=ok.bV;have jg:aV 4 _:=hr;have iX:aV 3 _:=jg.mono (by decide)
  have cW:aV 2 _:=jg.mono (by decide)
  have aZ:aV 1 _:=jg.mono (by decide)
  refine⟨_,aB (jN (o3 GC iX (aa (pv 0) (aa (pv 2) af))))
   (aB (jN (o3 GN cW (aa (pv 3) af)))
   (aB (bY (lh (i7 (aU GE jg (aa (pv 4) af)))) (aN (wA (wV T.q T.kp rfl T.m (aa cu af)))) cf)
   (aN (br (f' qG rfl B.tuple boot_tuple (aa (bJ DQ rfl B2.sorted boot_sorted (aa (bA E1 (aU GW aZ (aa (pv 1) (aa (pv 2) (aa (pv 3) af)))) (cg (aa (cg (aa (pv 2) (aa (pv 3) (aa (pv 4) af)))) af))) af)) af)))))),?_⟩
  refine⟨_,rfl,_,rfl,AU fb.fk rk sk (fun jA H1 S1=>?_) (fun hk a H1 S1 e=>q1 hk a H1 S1 e)⟩;refine⟨_,rfl,FH (Dt.same rn S1) sn (fun mX H2 iF=>?_) (fun hn a H2 iF e=>q2 jA hn a H2 (S1.trans iF) e)⟩;have S2:=S1.trans iF;refine⟨_,rfl,AQ.mk rfl (Dt.same re S2) se fun H3 S3=>⟨_,rfl,?_⟩⟩;have S3:=S2.trans S3;cases CP:dj d with
  |false =>
   refine⟨by show 1<=100;decide,fun e he=>⟨e,CE,none,none,rfl,ag,(fun d ed=>by cases ed),T.x,T.q,S3.free he,?_⟩⟩
   refine q3 jA mX CP e _ (fun b o hb=>?_) (.plain ag);have nb:b≠e:=aA (S3 _ _ hb) he;rw[ah nb,ah nb];exact S3 _ _ hb
  |true =>
  obtain⟨r,en⟩:=good CP;obtain⟨k,rfl,hk,vD⟩:=xa jA;obtain⟨n,rfl,lX⟩:=Ai mX;obtain rfl:=iO rk;obtain rfl:=iO rn;have hn:=w9 lX;refine⟨_,rfl,_,rfl,_,rfl,uy.mk rfl (S3 _ _ hb) (bv.same S3) ok vD hn fun a1 w1 H4 S4 h4 B4=>?_⟩;have S4:=S3.trans S4;refine⟨_,rfl,_,rfl,_,rfl,oz,fun c1 nc=>⟨hW,fun c2 cU=>?_⟩⟩;have T1:=ay (o:= .tup [V.str k,.str n,v]) nc;have T2:=T1.trans (ay (o:= .tup [V.ref c1]) cU);have QV:upd (upd H4 c1 (.tup [V.str k,.str n,v])) c2 (.tup [V.ref c1]) c1=some (.tup [V.str k,.str n,v]):=by rw[ah (aA ag cU)];exact ag
  have QW:upd (upd H4 c1 (.tup [V.str k,.str n,v])) c2 (.tup [V.ref c1]) c2=some (.tup [V.ref c1]):=ag;generalize upd (upd H4 c1 (.tup [V.str k,.str n,v])) c2 (.tup [V.ref c1])=H5 at T2 QV QW ⊢;have S5:=S4.trans T2;have l1:=B4.length;have l2:=(rm ok k n).bV;refine⟨a1,c2,_,_,rfl,rfl,T2 _ _ h4,QW,by rw[aQ];show _+1<=_;omega,fun c3 H6 S6 h6=>?_⟩
  have TL:=S5.trans S6;have B6:bF H6 (w1 ++ [.ref c1]) (cq bk k n ++ [(k,n,d)]):=bF.append (p:=(k,n,d)) (S6 _ _ QV) (r.same TL) (bF.same (T2.trans S6) B4);obtain⟨JW,K6,ek⟩:=B6.keyed;have nd6:((cq bk k n ++ [(k,n,d)]).map bg).Nodup:=by
   rw[bZ];refine l9.mpr ⟨(rm ok k n).nd,by simp,fun a ha b hb=>?_⟩
   have:b = [k,n]:=by simpa [bg] using hb
   rw[this];intro z;exact Ax (z ▸ ha)
  refine⟨c3,_,JW,2,rfl,.inr (aJ.of h6),K6,by decide,by rw[ek];exact nd6,by rw[fu,nN];omega,fun D dM IX hD fg hK pZ qj=>?_⟩
  obtain⟨gG,vz,B7⟩:=bF.perm fg B6;rw[Na B7 hK]at qj;have SD:=ay (o:= .lst dM) hD;refine⟨D,dM,rfl,.inl ⟨aj.of ag,fun t' jE=>?_⟩⟩;have St:=SD.trans (ay (o:= .tup dM) jE);exact q k n rfl hk rfl hn en t' dM gG _ (TL.trans St) ag (bF.same St B7) vz qj
inductive FO (CK CN:Addr) (vs:List V) (H:Hp) (Q:VK) (E:XK):Prop
 |mk {p t tb:Addr}{o:Obj}{ws wb:List V}{aH:List (Str×List Str)}{L:Str->List Str}{bk:Bk}{vk vn:V}{dk dn:PyData} (_:vs = [.ref t,.ref tb,vk,vn]) (_:FB H t tb o ws wb aH L bk) (_:Dt p H vk dk) (_:Sm dk) (_:Dt p H vn dn) (_:Sm dn) (_:(d6 (aH.map (·.1)) dk=false->Rf CK H E)) (_:(d6 (aH.map (·.1)) dk=true->cY dn=false->Rf CN H E)) (_:(∀k n,dk = .str k->k∈aH.map (·.1)->dn = .str n->Nm n -> [k,n] ∉ bk.map bg->Rf CN H E)) (_:(∀k n,dk = .str k->k∈aH.map (·.1)->dn = .str n->Nm n -> [k,n]∈bk.map bg -> ∀r gD H',aq H H'->H' r=some (.tup gD)->bF H' gD (cq bk k n)->Q (.ref r) H')):FO CK CN vs H Q E
theorem Pu:bK ad5 ["family","book","kind","name"] (aM FC):=b6
theorem aau {dC:FuncData} (F:a6 K "name_taken" "name_taken" FC f fd) (T:uh K mg "NoName" CN)
  (GC:bh P w K mg base (cC P w) 3 fC dC ["family","thing"] (rK CK) "check_kind")
  (GN:bh P w K mg base (cC P w) 2 fN dN ["thing"] (uA CN) "check_name")
  (GW:bh P w K mg base aK 1 fW dW ["book","kind","name"] uy "without_name"):a9 P w K mg base (cC P w) 5 f fd ["family","book","kind","name"] (FO CK CN):=by
 refine F.vi Pu (fun vs H Q E h=>?_) (fun aG A outer s H vs Q E hr h=>?_)
 ·obtain⟨rfl,_⟩:=h;rfl
 ·obtain @⟨p,t,tb,o,ws,wb,aH,L,bk,vk,vn,dk,dn,rfl,fb,rk,sk,rn,sn,q1,q2,q3,q⟩:=h
  have hb:=fb.hb;have bv:=fb.bv;have ok:=fb.ok;have hu:=hr.units;have hg:=hr.gd;have jg:aV 4 _:=hr;have iX:aV 3 _:=jg.mono (by decide)
  have cW:aV 2 _:=jg.mono (by decide)
  have aZ:aV 1 _:=jg.mono (by decide)
  refine⟨_,aB (jN (o3 GC iX (aa (pv 0) (aa (pv 2) af))))
   (aB (jN (o3 GN cW (aa (pv 3) af)))
   (aB (aW (i:=4) Pu.nd rfl (Or.inl rfl) (aU GW aZ (aa (pv 1) (aa (pv 2) (aa (pv 3) af)))))
   (aB (bY (bU (AI hu) (pv 4) (pv 1) (bz _)) (aN (wA (wV T.q T.kp rfl T.m (aa (ZI (Am cu (Am (OO hu hg (pv 2)) (Am cu (Am (OO hu hg (pv 3)) aaV))))) af)))) cf)
   (aN (br (pv 4)))))),?_⟩
  refine⟨_,rfl,_,rfl,AU fb.fk rk sk (fun jA H1 S1=>?_) (fun hk a H1 S1 e=>q1 hk a H1 S1 e)⟩;refine⟨_,rfl,FH (Dt.same rn S1) sn (fun mX H2 iF=>?_) (fun hn a H2 iF e=>q2 jA hn a H2 (S1.trans iF) e)⟩;have S2:=S1.trans iF;obtain⟨k,rfl,hk,vD⟩:=xa jA;obtain⟨n,rfl,lX⟩:=Ai mX;obtain rfl:=iO rk;obtain rfl:=iO rn;have hn:=w9 lX;refine⟨_,rfl,_,rfl,_,rfl,uy.mk rfl (S2 _ _ hb) (bv.same S2) ok vD hn fun a1 w1 H3 S3 h3 B3=>?_⟩;have S3:=S2.trans S3;obtain⟨y1,y2⟩:=tU (rm ok k n).nm (rm ok k n).ent;obtain⟨z1,z2⟩:=tU ok.nm ok.ent;refine⟨_,rfl,_,rfl,.tuple ((cq bk k n).map iG),.tuple (bk.map iG),.tup h3 B3.rep,.tup (S3 _ _ hb) (bF.rep (bv.same S3)),y1,z1,by show PyData.depthAll _+1<=60;omega,_,rfl,?_⟩
  by_cases cx : [k,n]∈bk.map bg
  ·have hf:PyData.eqv (.tuple ((cq bk k n).map iG)) (.tuple (bk.map iG))=false:=by
    cases e:PyData.eqv (.tuple ((cq bk k n).map iG)) (.tuple (bk.map iG)) with
    |false=>rfl
    |true =>
     have:=MA (show PyData.eqvAll _ _=true from e);rw[aE,aE]at this;have:=Yf cx;omega
   rw[hf];exact⟨_,rfl,q k n rfl hk rfl hn cx a1 w1 H3 S3 h3 B3⟩
  ·have ht:PyData.eqv (.tuple ((cq bk k n).map iG)) (.tuple (bk.map iG))=true:=by rw[Ag cx];exact SeqAt.eqv_refl _ z1
   rw[ht];refine⟨⟨_,rfl,by decide +kernel⟩,_,rfl,.inl ⟨k,rfl,by have:=vD.hi;omega⟩,fun y hy=>⟨⟨_,rfl,hy⟩,⟨_,rfl,by decide +kernel⟩,_,rfl,.inl ⟨n,rfl,by have:=hn.hi;omega⟩,fun y2 sj=>⟨⟨_,rfl,sj⟩,fun z hz=>⟨by show 1<=100;decide,fun e he=>?_⟩⟩⟩⟩
   refine⟨e,CN,none,none,rfl,ag,(fun d ed=>by cases ed),T.x,T.q,S3.free he,?_⟩
   refine q3 k n rfl hk rfl hn cx e _ (fun b o hb=>?_) (.plain ag);have nb:b≠e:=aA (S3 _ _ hb) he;rw[ah nb,ah nb];exact S3 _ _ hb
section
variable{t:TA}
theorem Aj {pos p2} (hc:PT X c tc) (he:PE X e te):PS X (.If c [.Return (some e) p2] [] pos) (PL tc (Bi te) O4):=bY hc (aN (br he)) cf
theorem my {p2} (he:PE X e te):eY X [.Return (some e) p2] (Bi te):=aN (br he)
theorem BG {i j pos} (hr:PA X es t):PA X (.Constant (.int i) j pos::es) (nV (tC (.int i)) t):=aa ao hr
theorem BH {x j pos} (hr:PA X es t):PA X (.Constant (.str x) j pos::es) (nV (tC (.str x)) t):=aa cu hr
theorem aee {fs x1 pos}{t1:TA} (h:PA X fs t1) (hr:PA X es t):PA X (.Tuple fs x1 pos::es) (nV (Bj t1) t):=aa (cg h) hr
theorem QX {fs pos}{t1:TA} (h:PA X fs t1) (hr:PA X es t):PA X (.List fs pos::es) (nV (pD t1) t):=aa (cw h) hr
theorem aef {b j pos} (hr:PA X es t):PA X (.Constant (.bool b) j pos::es) (nV (tC (.bl b)) t):=aa mz hr
theorem aeg {j pos} (hr:PA X es t):PA X (.Constant .none j pos::es) (nV (tC .aI) t):=aa i6 hr
end
structure pJ (d:PyData):Prop where
 no:∀b,d = .str b->b ≠ "" /\ ¬ Nm b
 sm:Sm d
theorem wR {s:Str}{c:Nat} (h:c∈s.cps.toList) (n : ¬ (97<=c/\c<=122)):s ≠ "" /\ ¬ Nm s:=by
 refine⟨fun e=>?_,fun m=>n (m.az c h)⟩;rw[e,show((Str.ofString "").cps.toList) = [] by decide +kernel]at h
 cases h
theorem app_list (x y:Str):(x++y).cps.toList=x.cps.toList++y.cps.toList:=by show(x.cps++y.cps).toList=_;simp
theorem len_app (x y:Str):(x++y).length=x.length+y.length:=by show(x.cps++y.cps).size=_;simp;rfl
theorem OY (h:Nm x):(Txt.upper x ≠ "" /\ ¬ Nm (Txt.upper x))/\(Txt.upper x).length=x.length:=by
 have e:=Oj h.az;have l:(Txt.upper x).length=x.length:=by
  have:=eJ List.length e;rw[aE,f7,f7]at this;exact this
 refine⟨?_,l⟩;obtain⟨c,hc⟩:∃c,c∈x.cps.toList:=by
  cases hl:x.cps.toList with
  |nil =>
   have l1:=h.lo;have z:x.cps.toList.length=0:=by rw[hl];rfl
   rw[f7]at z;have l2:x.length=0:=z;omega
  |cons c l=>exact⟨c,bu⟩
 exact wR (c:=c - 32) (by rw[e];exact bT.mpr ⟨c,hc,rfl⟩) (by have:=h.az c hc;omega)
theorem qQ {d:PyData} (h:∀b,d = .str b->False) (s:Sm d):pJ d:=⟨fun b e=>(h b e).elim,s⟩
theorem qU {s:Str} (h:s ≠ "" /\ ¬ Nm s) (l:s.length<=1000):pJ (.str s):=⟨fun b e=>by cases e;exact h,by show s.length<=100000;omega⟩
theorem Az {d:Int}{k:Nat} (h:(k:Int)<=d) (h2:d < m):∃j:Nat,d - (k:Int)=(j:Int)/\j < m - k:=⟨(d - k).toNat,by omega,by omega⟩
abbrev sI (H H':Hp) (u:V) (d:PyData):Prop:= ∀q o,H q=some o->Dt q H' u d
theorem AA {o:HO} (pa:aY p H H1) (h:H q=some o):∃o',H1 q=some o':=by
 by_cases e:q=p
 ·obtain⟨x,y,z,_⟩:=pa.ok
  exact⟨_,e ▸ z⟩
 ·exact⟨o,pa.kp _ _ h e⟩
abbrev OnQ (p:Addr) (H:Hp) (Q:VK):Prop:= ∀ (u:V) (d:PyData) (H':Hp),aY p H H'->sI H H' u d->pJ d->Q u H'
inductive uN (vs:List V) (H:Hp) (Q:VK) (E:XK):Prop
 |mk {p:Addr}{sp nm:Str} (_:vs = [.ref p,.str sp,.str nm]) (_:d9 p H) (_:Nm sp) (_:Nm nm) (_:OnQ p H Q):uN vs H Q E
noncomputable abbrev Kc:List Str:= ["_law_pot_here","_law_spare","_law_name"]
noncomputable abbrev nOn:List Str:= ["_law_pot_here","_law_spare","_law_name","_law_way"]
theorem QY:bK nOn Kc (aM Gj):=b6
theorem Gw {H0:Hp}{c:Addr} (hc:H c=some (.lst xs)) (hj:j < xs.length) (all:∀x∈xs,∃e,sI H0 H x e/\pJ e) (q:∀u e,sI H0 H u e->pJ e->Q u H):nZ K (.ref c) (.int (j:Int)) H Q:=by
 obtain⟨e,r,g⟩:=all xs[j] (f9 hj);exact⟨c,xs,_,xs[j],rfl,rfl,aj.of hc,b9 (bC hj),q _ e r g⟩
theorem acR (F:a6 K "_law_odd_name" "_law_odd_name" Gj f fd)
  (GD:bh P w K mg base aK 1 fD dD ["_law_pot_here","_law_many"] jO "_law_digit"):a9 P w K mg base aK 2 f fd Kc uN:=by
 refine F.ok QY (fun vs H Q E h=>?_) (fun aG A outer s H vs Q E hr h=>?_)
 ·obtain⟨rfl,_⟩:=h;rfl
 ·obtain @⟨p,sp,nm,rfl,pk,g1,g2,q⟩:=h
  have aZ:aV 1 _:=hr;refine⟨_,aB (aW (i:=3) QY.nd rfl (Or.inl rfl) (aU GD aZ (aa (pv 0) (BG af))))
   (aB (Aj (bU rq (pv 3) ao (bz _)) (aP bE (cw (aa (bA zT (pv 2) cu) (BH (aa (OM VY am4 am5 NN (pv 2)) (aa (bA zT cu (pv 2)) (BH af)))))) (pv 3)))
   (aB (Aj (bU rq (pv 3) ao (bz _)) (aP bE (cw (BH (aeg (BG (aef (BG af)))))) (bA lq (pv 3) ao)))
   (my (aP bE (cw (QX af (QX (aa (pv 2) af) (aee (aa (pv 2) af) (aa (OM VY am4 am5 NN (pv 1)) af))))) (bA lq (pv 3) ao))))),?_⟩
  have qh:∀ {c q:Addr}{H2:Hp}{o:HO},aY p H H2->H q=some o->H2 c=none->c≠q:=fun z hq hc e=>by obtain⟨o',h'⟩:=AA z hq;rw[e,h']at hc;cases hc
  refine⟨_,rfl,cF (p:=p) (m:=14) pk (by decide) (by decide) fun wy H1 a0 a1 p1=>?_⟩
  refine⟨_,rfl,_,_,rfl,rfl,_,rfl,?_⟩;refine cG (fun h0=>?_) (fun h0=>?_)
  ·have h6:wy < 5:=eT h0
   obtain⟨j,rfl⟩:=gK a0;have up:=OY g2;have hi:=g2.hi;refine⟨_,rfl,_,_,rfl,rfl,by show nm.length+1<=sizeLine;rw[aQ];omega,?_⟩
   refine⟨_,rfl,rfl,nm,rfl,rfl,g2.az,by omega,_,rfl,_,_,rfl,rfl,by show 1+nm.length<=sizeLine;rw[aQ];omega,by show 5<=sizeLine;rw[aQ];decide,fun c hc=>⟨_,rfl,?_⟩⟩
   refine Gw (H0:=H) ag (show j < 5 by omega) (fun x hx=>?_) fun u e r g=>q u e _ (p1.new hc) r g
   simp only[bH,mh,mi]at hx;rcases hx with rfl|rfl|rfl|rfl|rfl
   ·exact⟨_,fun _ _ _=>.str _,qU (wR (c:=45) (by rw[app_list];exact gr _ (by decide +kernel)) (by decide)) (by rw[len_app];show nm.length+1<=1000;omega)⟩
   ·exact⟨_,fun _ _ _=>.str _,qU ⟨by decide +kernel,fun m=>absurd m.hi (by decide +kernel)⟩ (by decide +kernel)⟩
   ·exact⟨_,fun _ _ _=>.str _,qU up.1 (by rw[up.2];omega)⟩
   ·exact⟨_,fun _ _ _=>.str _,qU (wR (c:=32) (by rw[app_list];exact kQ _ (by decide +kernel)) (by decide)) (by rw[len_app];show 1+nm.length<=1000;omega)⟩
   ·exact⟨_,fun _ _ _=>.str _,qU (wR (c:=96) (by decide +kernel) (by decide)) (by decide +kernel)⟩
  have h6 : ¬ wy < 5:=fun z=>h0 (cm z);refine⟨_,rfl,_,_,rfl,rfl,_,rfl,?_⟩;refine cG (fun h1=>?_) (fun h1=>?_)
  ·have h14:wy < 10:=eT h1
   obtain⟨j,ej,hj⟩:=Az (d:=wy) (k:=5) (m:=10) (by omega) (by omega)
   refine⟨by show 5<=sizeLine;rw[aQ];decide,fun c hc=>?_⟩
   refine⟨_,rfl,_,_,rfl,rfl,?_⟩;show nZ _ (.ref c) (.int (wy - 5)) _ _;rw[show wy - 5=(j:Int) from ej];refine Gw (H0:=H) ag (show j < 5 by omega) (fun x hx=>?_) fun u e r g=>q u e _ (p1.new hc) r g
   simp only[bH,mh,mi]at hx;rcases hx with rfl|rfl|rfl|rfl|rfl
   ·exact⟨_,fun _ _ _=>.str _,qU (wR (c:=123) (by decide +kernel) (by decide)) (by decide +kernel)⟩
   ·exact⟨_,fun _ _ _=>.aI,qQ (fun _ e=>nomatch e) (by unfold Sm;decide +kernel)⟩
   ·exact⟨_,fun _ _ _=>.int _,qQ (fun _ e=>nomatch e) (by unfold Sm;decide +kernel)⟩
   ·exact⟨_,fun _ _ _=>.bl _,qQ (fun _ e=>nomatch e) (by unfold Sm;decide +kernel)⟩
   ·exact⟨_,fun _ _ _=>.int _,qQ (fun _ e=>nomatch e) (by unfold Sm;decide +kernel)⟩
  have h14 : ¬ wy < 10:=fun z=>h1 (cm z);obtain⟨j,ej,hj⟩:=Az (d:=wy) (k:=10) (m:=14) (by omega) (by omega)
  have up:=OY g1;have hi:=g1.hi;have Jn:=g2.hi;refine⟨bR _,fun t1 TM=>⟨_,rfl,hW,fun t2 sJ=>⟨_,rfl,hW,fun t3 vG=>?_⟩⟩⟩;refine⟨_,rfl,rfl,sp,rfl,rfl,g1.az,by omega,by show 4<=sizeLine;rw[aQ];decide,fun c hc=>⟨_,rfl,_,_,rfl,rfl,?_⟩⟩
  show nZ _ (.ref c) (.int (wy - 10)) _ _;rw[show wy - 10=(j:Int) from ej];have e1:=p1.new (o:= .lst []) TM;have e2:=e1.new (o:= .lst [V.str nm]) sJ;have e3:=e2.new (o:= .tup [V.str nm]) vG;have k2:=ay (o:= .lst [V.str nm]) sJ;have k3:=ay (o:= .tup [V.str nm]) vG;have k5:=ay (o:= .lst [V.ref t1,V.ref t2,V.ref t3,V.str (Txt.upper sp)]) hc;refine Gw (H0:=H) ag (show j < 4 by omega) (fun x hx=>?_) fun u e r g=>q u e _ (e3.new hc) r g
  simp only[bH,mh,mi]at hx;rcases hx with rfl|rfl|rfl|rfl
  ·exact⟨.list [],fun q o hq=>.lst (qh p1 hq TM) (k5 _ _ (k3 _ _ (k2 _ _ ag))) .nil,qQ (fun _ e=>nomatch e) (by unfold Sm;decide +kernel)⟩
  ·exact⟨.list [.str nm],fun q o hq=>.lst (qh e1 hq sJ) (k5 _ _ (k3 _ _ ag)) (.cons (.str _) .nil),qQ (fun _ e=>nomatch e) (by show _<=100000;simp only[PyData.bulk,PyData.bulkAll];change nm.length+1+0<=100000;omega)⟩
  ·exact⟨.tuple [.str nm],fun q o hq=>.tup (qh e2 hq vG) (k5 _ _ ag) (.cons (.str _) .nil),qQ (fun _ e=>nomatch e) (by show _<=100000;simp only[PyData.bulk,PyData.bulkAll];change nm.length+1+0<=100000;omega)⟩
  ·exact⟨_,fun _ _ _=>.str _,qU up.1 (by rw[up.2];omega)⟩
def cV:Expr->Option V
 |.Constant .none _ _=>some .aI
 |.Constant (.bool b) _ _=>some (.bl b)
 |.Constant (.int i) _ _=>some (.int i)
 |.Constant (.str x) _ _=>some (.str x)
 |.UnaryOp .USub (.Constant (.int i) _ _) _=>some (.int (-i))
 |_=>none
theorem acS (h:cV e=some v):PE X e (tC v):=by
 unfold cV at h;split at h
 ·cases h;exact i6
 ·cases h;exact mz
 ·cases h;exact ao
 ·cases h;exact cu
 ·cases h;exact fun pins s σ H Q I q=>FZ Ft ao pins s σ H Q I ⟨_,rfl,q⟩
 ·cases h
theorem Zi (h:cV e=some v):starEach (e::es) X.env=(false,eval e X.env)::starEach es X.env:=by
 unfold cV at h;split at h <;> first|rfl|cases h
mutual
inductive CT where
 |v (x:V)
 |nm
 |tup (l:gH)
 |lst (l:gH)
 |mul (a:CT)
inductive gH where
 |nil
 |cons (a:CT) (b:gH)
end
mutual
def jF:CT->Expr->Bool
 |.v x,e=>decide (cV e=some x)
 |.nm,e=>match e with|.Name x _=>decide (x = "_law_name")|_=>false
 |.tup l,e=>match e with|.Tuple es _ _=>mS l es|_=>false
 |.lst l,e=>match e with|.List es _=>mS l es|_=>false
 |.mul a,e=>match e with|.BinOp (.Tuple [x] _ _) .Mult (.Constant (.int 5) _ _) _=>jF a x|_=>false
def mS:gH->List Expr->Bool
 |.nil,es=>es.isEmpty
 |.cons a b,es=>match es with|e::r=>jF a e && mS b r | []=>false
end
mutual
def tE (K:Frag):CT->TE
 |.v x=>tC x
 |.nm=>km 1
 |.tup l=>Bj (tA K l)
 |.lst l=>pD (tA K l)
 |.mul a=>uV (Pk K) (Bj (nV (tE K a) Hb)) (tC (.int 5))
def tA (K:Frag):gH->TA
 |.nil=>Hb
 |.cons a b=>nV (tE K a) (tA K b)
end
theorem Nc {c:CT} (h:jF c e=true):starEach (e::es) X.env=(false,eval e X.env)::starEach es X.env:=by
 cases c with
 |v x=>unfold jF at h;exact Zi (eT h)
 |nm=>unfold jF at h;split at h <;> first|rfl|cases h
 |tup l=>unfold jF at h;split at h <;> first|rfl|cases h
 |lst l=>unfold jF at h;split at h <;> first|rfl|cases h
 |mul l=>unfold jF at h;split at h <;> first|rfl|cases h
mutual
theorem Pw {X:Cx} (hn:∀pos,PE X (.Name "_law_name" pos) (km 1)):∀ (c:CT) {e:Expr},jF c e=true->PE X e (tE X.K c)
 |.v x,e,h=>by unfold jF at h;unfold tE;exact acS (eT h)
 |.nm,e,h=>by
  unfold jF at h;unfold tE;split at h
  ·obtain rfl:=eT h
   exact hn _
  ·cases h
 |.tup l,e,h=>by
  unfold jF at h;unfold tE;split at h
  ·exact cg (AV hn l h)
  ·cases h
 |.lst l,e,h=>by
  unfold jF at h;unfold tE;split at h
  ·exact cw (AV hn l h)
  ·cases h
 |.mul a,e,h=>by
  unfold jF at h;unfold tE;split at h
  ·exact bA Z6 (cg (aa (Pw hn a h) af (Nc h))) ao
  ·cases h
theorem AV {X:Cx} (hn:∀pos,PE X (.Name "_law_name" pos) (km 1)):∀ (l:gH) {es:List Expr},mS l es=true->PA X es (tA X.K l)
 |.nil,es,h=>by
  unfold mS at h;unfold tA;cases es with
  |nil=>exact af
  |cons a b=>cases h
 |.cons a b,es,h=>by
  unfold mS at h;unfold tA;split at h
  ·obtain⟨h1,h2⟩:=l7.mp h
   exact aa (Pw hn a h1) (AV hn b h2) (Nc h1)
  ·cases h
end
def dV:V->PyData|.aI=>.none|.bl b=>.bool b|.int i=>.int i|.str x=>.str x|_=>.none
def TN:V->Bool|.aI=>true|.bl _=>true|.int _=>true|.str _=>true|_=>false
def jZ:gH->Nat|.nil=>0|.cons _ b=>jZ b+1
mutual
def dC (n:Str):CT->PyData
 |.v x=>dV x
 |.nm=>.str n
 |.tup l=>.tuple (jh n l)
 |.lst l=>.list (jh n l)
 |.mul a=>.tuple [dC n a,dC n a,dC n a,dC n a,dC n a]
def jh (n:Str):gH->List PyData
 |.nil=>[]
 |.cons a b=>dC n a::jh n b
end
mutual
def sL:CT->Bool
 |.v x=>TN x
 |.nm=>true
 |.tup l=>lE l && decide (jZ l<=100)
 |.lst l=>lE l && decide (jZ l<=100)
 |.mul a=>sL a
def lE:gH->Bool
 |.nil=>true
 |.cons a b=>sL a && lE b
end
theorem acT {x:V} (h:TN x=true):Dt p H x (dV x):=by
 cases x <;> first|constructor|cases h
theorem AB {n:Nat} (h:n<=100):n<=sizeLine:=by rw[aQ];omega
mutual
theorem Px {K:Frag}{σ:St}{n:Str} (hn:σ[1]? = some (some (.str n))):∀ (c:CT) {H:Hp}{Q:VK},sL c=true->(∀v H',aq H H'->sI H H' v (dC n c)->Q v H')->tE K c σ H Q
 |.v x,H,Q,hw,q=>by unfold tE;unfold sL at hw;unfold dC at q;exact q x H (aq.refl _) fun _ _ _=>acT hw
 |.nm,H,Q,hw,q=>by unfold tE;unfold dC at q;exact⟨_,hn,q _ H (aq.refl _) fun _ _ _=>.str _⟩
 |.tup l,H,Q,hw,q=>by
  unfold tE;unfold sL at hw;unfold dC at q;obtain⟨h1,h2⟩:=l7.mp hw;refine AW hn l h1 fun vs H1 S1 len r=>⟨AB (by rw[len];exact eT h2),fun a ha=>?_⟩
  exact q _ _ (S1.trans (ay ha)) fun p o hp=>.tup (ba (aA (S1 _ _ hp) ha)) ag (bG.same (r p o hp) (ay ha))
 |.lst l,H,Q,hw,q=>by
  unfold tE;unfold sL at hw;unfold dC at q;obtain⟨h1,h2⟩:=l7.mp hw;refine AW hn l h1 fun vs H1 S1 len r=>⟨AB (by rw[len];exact eT h2),fun a ha=>?_⟩
  exact q _ _ (S1.trans (ay ha)) fun p o hp=>.lst (ba (aA (S1 _ _ hp) ha)) ag (bG.same (r p o hp) (ay ha))
 |.mul a,H,Q,hw,q=>by
  unfold tE;unfold sL at hw;unfold dC at q;show tE K a σ H _;refine Px hn a hw fun v H1 S1 r=>⟨AB (by show 1<=100;decide),fun a ha=>⟨a,v,rfl,rfl,aJ.of ag,fun b hb=>?_⟩⟩
  have S2:=ay (o:= .tup [v]) ha;have S3:=ay (o:= .tup [v,v,v,v,v]) hb;refine q _ _ ((S1.trans S2).trans S3) fun p o hp=>?_;have r3:=Dt.same (Dt.same (r p o hp) S2) S3;exact .tup (ba (aA (S2 _ _ (S1 _ _ hp)) hb)) ag (.cons r3 (.cons r3 (.cons r3 (.cons r3 (.cons r3 .nil)))))
theorem AW {K:Frag}{σ:St}{n:Str} (hn:σ[1]? = some (some (.str n))):∀ (l:gH) {H:Hp}{Q:List V->Hp->Prop},lE l=true->(∀vs H',aq H H'->vs.length=jZ l->(∀p o,H p=some o->bG p H' vs (jh n l))->Q vs H')->tA K l σ H Q
 |.nil,H,Q,hw,q=>by unfold tA;unfold jh at q;exact q [] H (aq.refl _) rfl fun _ _ _=>.nil
 |.cons a b,H,Q,hw,q=>by
  unfold tA;unfold lE at hw;unfold jh at q;obtain⟨h1,h2⟩:=l7.mp hw;refine Px hn a h1 fun v H1 S1 r1=>AW hn b h2 fun vs H2 S2 len r2=>?_;exact q (v::vs) H2 (S1.trans S2) (by rw[cO,len];rfl) fun p o hp=>.cons (Dt.same (r1 p o hp) S2) (r2 p o (S1 _ _ hp))
end
@[irreducible] noncomputable def tB (K:Frag) (l:gH):TA:=tA K l
theorem FQ (l:gH) (hn:∀pos,PE X (.Name "_law_name" pos) (km 1)) (h:mS l es=true):PA X es (tB X.K l):=by unfold tB;exact AV hn l h
theorem OZ {l:gH} (hn:σ[1]? = some (some (.str n))) (hw:lE l=true) (hl:jZ l<=100) (q:∀a vs H',aq H H'->H' a=some (.lst vs)->vs.length=jZ l->(∀p o,H p=some o->bG p H' vs (jh n l))->Q (.ref a) H'):pD (tB K l) σ H Q:=by
 unfold tB;exact AW hn l hw fun vs H1 S1 len r=>⟨AB (by rw[len];exact hl),fun a ha=>q a vs _ (S1.trans (ay ha)) ag len fun p o hp=>bG.same (r p o hp) (ay ha)⟩
theorem aav {l:gH} (hn:σ[1]? = some (some (.str n))) (hw:lE l=true) (hl:jZ l<=100) (q:∀a vs H',aq H H'->H' a=some (.lst vs)->vs.length=jZ l->(∀p o,H p=some o->bG p H' vs (jh n l))->te σ H' fun y H2=>nZ K (.ref a) y H2 D.rt):Bi (uV (nZ K) (pD (tB K l)) te) D σ H:=by
 show pD (tB K l) σ H fun x H1=>te σ H1 fun y H2=>nZ K x y H2 D.rt;exact OZ hn hw hl q
theorem OA {l:gH}{t:TS} (hn:σ[1]? = some (some (.str n))) (hw:lE l=true) (hl:jZ l<=100) (q:∀a vs H',aq H H'->H' a=some (.lst vs)->vs.length=jZ l->(∀p o,H p=some o->bG p H' vs (jh n l))->mC i (.ref a) σ H' (t D)):Bh (xO (pD (tB K l)) (mC i)) t D σ H:=by
 show pD (tB K l) σ H fun x H1=>mC i x σ H1 (t D);exact OZ hn hw hl q
theorem O0 {ds:List PyData} (h:bG p H vs ds) (l:i < vs.length):∃v d,vs[i]? = some v/\ds[i]? = some d/\Dt p H v d:=by
 induction vs generalizing ds i with
 |nil=>cases l
 |cons x xs ih =>
  cases h with
  |cons r rs =>
   cases i with
   |zero=>exact⟨_,_,rfl,rfl,r⟩
   |succ i=>exact ih rs (DA l)
structure BI (d:PyData):Prop where
 no:dj d=false
 sm:Sm d
abbrev cS (x:Str):CT:= .v (.str x)
abbrev cI (x:Int):CT:= .v (.int x)
abbrev c1 (a:CT):gH:= .cons a .nil
abbrev c2 (a b:CT):gH:= .cons a (.cons b .nil)
@[irreducible] noncomputable def qq:gH:= .cons (.v .aI) (.cons (.tup .nil) (.cons (.lst .nil) (.cons (cI 0) (c2 (.tup (c2 (cS "plain") (.v (.bl true)))) (.tup (c2 (cS "plain") .nm))))))
@[irreducible] noncomputable def qu:gH:= .cons (.lst (c2 (cS "plain") (cI 1))) (.cons (.tup (c2 (cS "behind") (.lst .nil))) (.cons (.tup (.cons (cS "ahead") (c2 (cS "Ab") (cI 1)))) (c2 (.tup (.cons (cS "ahead") (c2 .nm (.v .aI)))) (.tup (c2 (cS "shut") (.tup (c1 (.tup (c2 (cS "times") (cI 10))))))))))
@[irreducible] noncomputable def qv:gH:= .cons (.tup (c1 (.tup (c2 (cS "times") (cI (-10)))))) (.cons (.tup (c1 (.tup (c2 (cS "onward") (cI 1))))) (.cons (.tup (c1 (.tup (c2 (cS "ask") (cI 1))))) (c2 (.tup (c1 (.tup .nil))) (.mul (.tup (c2 (cS "add") (cI 1)))))))
def FR (e:Expr):List Expr:=match e with|.List es _=>es|_=>[]
def lstP (e:Expr):Pos:=match e with|.List _ p=>p|_=>⟨0,0,0,0⟩
def QZ (s:Stmt):List Expr:=match s with|.Assign t _ _=>t|_=>[]
def Q0 (s:Stmt):Pos:=match s with|.Assign _ _ p=>p|_=>⟨0,0,0,0⟩
def HR (e:Expr):Expr:=match e with|.Subscript o _ _=>o|_=>.Constant .none 0 ⟨0,0,0,0⟩
def aeh (e:Expr):Expr:=match e with|.Subscript _ i _=>i|_=>.Constant .none 0 ⟨0,0,0,0⟩
def aei (e:Expr):Pos:=match e with|.Subscript _ _ p=>p|_=>⟨0,0,0,0⟩
def aej (s:Stmt):Pos:=match s with|.Return _ p=>p|_=>⟨0,0,0,0⟩
def TQ (s:Stmt):Expr:=match s with|.If c _ _ _=>c|_=>.Constant .none 0 ⟨0,0,0,0⟩
def TR (s:Stmt):Pos:=match s with|.If _ _ _ p=>p|_=>⟨0,0,0,0⟩
noncomputable abbrev SE (k:Nat):Stmt:=b5 (b4 xI) k
noncomputable abbrev rA:Stmt:=b5 (rh (SE 1)) 0
noncomputable abbrev rB:Stmt:=b5 (rh (SE 2)) 0
@[irreducible] noncomputable def CQ:List Expr:=FR (HR (jY rA))
@[irreducible] noncomputable def CS:List Expr:=FR (fV rB)
@[irreducible] noncomputable def CU:List Expr:=FR (fV (SE 3))
theorem aek:mS qq CQ=true:=by unfold CQ qq;decide +kernel
theorem ael:mS qu CS=true:=by unfold CS qu;decide +kernel
theorem aem:mS qv CU=true:=by unfold CU qv;decide +kernel
theorem Kd:lE qq=true/\jZ qq=6:=by unfold qq;decide +kernel
theorem Ke:lE qu=true/\jZ qu=5:=by unfold qu;decide +kernel
theorem Kf:lE qv=true/\jZ qv=5:=by unfold qv;decide +kernel
theorem bdE:b4 xI = [SE 0,.If (TQ (SE 1)) [.Return (some (.Subscript (.List CQ (lstP (HR (jY rA)))) (aeh (jY rA)) (aei (jY rA)))) (aej rA)] [] (TR (SE 1)),
  .If (TQ (SE 2)) [.Assign (QZ rB) (.List CS (lstP (fV rB))) (Q0 rB),b5 (rh (SE 2)) 1] [] (TR (SE 2)),.Assign (QZ (SE 3)) (.List CU (lstP (fV (SE 3)))) (Q0 (SE 3)),SE 4]:=by unfold CQ CS CU;rfl
theorem aen (h:Nm nm):∀d∈jh nm qq,BI d:=by
 have hi:=h.hi;unfold qq;simp only[jh,dC,dV,bH,mh,mi];rintro d (rfl|rfl|rfl|rfl|rfl|rfl)
 ·exact⟨rfl,by unfold Sm;decide +kernel⟩
 ·exact⟨rfl,by unfold Sm;decide +kernel⟩
 ·exact⟨rfl,by unfold Sm;decide +kernel⟩
 ·exact⟨rfl,by unfold Sm;decide +kernel⟩
 ·exact⟨by decide +kernel,by unfold Sm;decide +kernel⟩
 ·exact⟨rfl,by show _<=100000;simp only[PyData.bulk,PyData.bulkAll];change 5+1+(nm.length+1+0)<=100000;omega⟩
theorem aeo (h:Nm nm):∀d∈jh nm qu,BI d:=by
 have hi:=h.hi;unfold qu;simp only[jh,dC,dV,bH,mh,mi];rintro d (rfl|rfl|rfl|rfl|rfl)
 ·exact⟨by decide +kernel,by unfold Sm;decide +kernel⟩
 ·exact⟨by decide +kernel,by unfold Sm;decide +kernel⟩
 ·exact⟨by decide +kernel,by unfold Sm;decide +kernel⟩
 ·exact⟨by show((("ahead" : Str) == "ahead") && (cY (.str nm) && false))=false;rw[V3,V3],by show _<=100000;simp only[PyData.bulk,PyData.bulkAll];change 5+1+(nm.length+1+_)<=100000;simp;omega⟩
 ·exact⟨by decide +kernel,by unfold Sm;decide +kernel⟩
theorem aep:∀d∈jh nm qv,BI (.tuple [.str "behind",d]):=by
 unfold qv;simp only[jh,dC,dV,bH,mh,mi];rintro d (rfl|rfl|rfl|rfl|rfl)
 ·exact⟨by decide +kernel,by unfold Sm;decide +kernel⟩
 ·exact⟨by decide +kernel,by unfold Sm;decide +kernel⟩
 ·exact⟨by decide +kernel,by unfold Sm;decide +kernel⟩
 ·exact⟨by decide +kernel,by unfold Sm;decide +kernel⟩
 ·exact⟨by decide +kernel,by unfold Sm;decide +kernel⟩
abbrev OeQ (p:Addr) (H:Hp) (Q:VK):Prop:= ∀ (u:V) (d:PyData) (H':Hp),aY p H H'->sI H H' u d->BI d->Q u H'
inductive BJ (vs:List V) (H:Hp) (Q:VK) (E:XK):Prop
 |mk {p:Addr}{nm:Str} (_:vs = [.ref p,.str nm]) (_:d9 p H) (_:Nm nm) (_:OeQ p H Q):BJ vs H Q E
noncomputable abbrev Kg:List Str:= ["_law_pot_here","_law_name"]
noncomputable abbrev nOe:List Str:= ["_law_pot_here","_law_name","_law_way","_law_odd","_law_steps"]
theorem BK:bK nOe Kg (aM xI):=b6
theorem Kh {H0:Hp}{c:Addr}{o:HO}{ds:List PyData}{i:Int} (hp:H0 p=some o) (hc:H c=some (.lst xs)) (r:∀q o,H0 q=some o->bG q H xs ds) (ei:i=(j:Int)) (hj:j < xs.length) (q:∀u e,sI H0 H u e->e∈ds->Q u H):nZ K (.ref c) (.int i) H Q:=by
 obtain⟨v,d,e,m,rv⟩:=O0 (r p o hp) hj;refine⟨c,xs,_,v,rfl,rfl,aj.of hc,by rw[ei];exact b9 e,q _ d (fun a oa ha=>?_) (jH m)⟩
 obtain⟨v',d',e',m',rv'⟩:=O0 (r a oa ha) hj;rw[e]at e';rw[m]at m';cases e'
 cases m'
 exact rv'
theorem Fn (h:d9 p H) (S:aq H H'):aY p H H':=⟨let ⟨x,y,e,z⟩:=h;⟨x,y,S _ _ e,z⟩,fun b o e _=>S _ _ e⟩
theorem acU (F:a6 K "_law_odd_entry" "_law_odd_entry" xI f fd)
  (GD:bh P w K mg base aK 1 fD dD ["_law_pot_here","_law_many"] jO "_law_digit"):a9 P w K mg base aK 2 f fd Kg BJ:=by
 refine F.ok BK (fun vs H Q E h=>?_) (fun aG A outer s H vs Q E hr h=>?_)
 ·obtain⟨rfl,_⟩:=h;rfl
 ·obtain @⟨p,nm,rfl,pk,g2,q⟩:=h
  have aZ:aV 1 _:=hr;rw[bdE];refine⟨_,aB (aW (i:=2) BK.nd rfl (Or.inl rfl) (aU GD aZ (aa (pv 0) (BG af))))
   (aB (Aj (bU rq (pv 2) ao (bz _)) (aP bE (cw (FQ qq (fun _=>pv 1) aek)) (pv 2)))
   (aB (bY (bU rq (pv 2) ao (bz _)) (aB (aW (i:=3) BK.nd rfl (Or.inl rfl) (cw (FQ qu (fun _=>pv 1) ael))) (my (aP bE (pv 3) (bA lq (pv 2) ao)))) cf)
   (aB (aW (i:=4) BK.nd rfl (Or.inl rfl) (cw (FQ qv (fun _=>pv 1) aem)))
   (my (cg (BH (aa (aP bE (pv 4) (bA lq (pv 2) ao)) af))))))),?_⟩
  refine⟨_,rfl,cF (p:=p) (m:=16) pk (by decide) (by decide) fun wy H1 a0 a1 p1=>?_⟩
  obtain⟨z1,z2,z3,_⟩:=id p1.ok;refine⟨_,rfl,_,_,rfl,rfl,_,rfl,?_⟩;refine cG (fun h0=>?_) (fun h0=>?_)
  ·have h6:wy < 6:=eT h0
   obtain⟨j,rfl⟩:=gK a0;refine aav (n:=nm) rfl Kd.1 (by rw[Kd.2];decide) fun a vs H2 S2 h2 len r=>⟨_,rfl,Kh z3 h2 r rfl (by rw[len,Kd.2];omega) fun u e ru me=>q u e H2 (p1.trans (Fn p1.ok S2)) (fun a o ha=>let ⟨o',h'⟩:=AA p1 ha;ru a o' h') (aen g2 e me)⟩
  have h6 : ¬ wy < 6:=fun z=>h0 (cm z);refine⟨_,rfl,_,_,rfl,rfl,_,rfl,?_⟩;refine cG (fun h1=>?_) (fun h1=>?_)
  ·have vw:wy < 11:=eT h1
   obtain⟨j,ej,hj⟩:=Az (d:=wy) (k:=6) (m:=11) (by omega) (by omega)
   refine OA (n:=nm) rfl Ke.1 (by rw[Ke.2];decide) fun a vs H2 S2 h2 len r=>⟨_,rfl,_,rfl,_,_,rfl,rfl,Kh z3 h2 r ej (by rw[len,Ke.2];omega) fun u e ru me=>q u e H2 (p1.trans (Fn p1.ok S2)) (fun a o ha=>let ⟨o',h'⟩:=AA p1 ha;ru a o' h') (aeo g2 e me)⟩
  have vw : ¬ wy < 11:=fun z=>h1 (cm z);obtain⟨j,ej,hj⟩:=Az (d:=wy) (k:=11) (m:=16) (by omega) (by omega)
  refine OA (n:=nm) rfl Kf.1 (by rw[Kf.2];decide) fun a vs H2 S2 h2 len r=>⟨_,rfl,_,rfl,_,_,rfl,rfl,Kh z3 h2 r ej (by rw[len,Kf.2];omega) fun u e ru me=>⟨cH,fun t ht=>?_⟩⟩
  have S3:=ay (o:= .tup [V.str "behind",u]) ht;have nt:=S2.trans S3;exact q _ (.tuple [.str "behind",e]) _ (p1.trans (Fn p1.ok nt)) (fun a o ha=>let ⟨o',h'⟩:=AA p1 ha;.tup (ba (aA (S2 _ _ h') ht)) ag (.cons (.str _) (.cons (Dt.same (ru a o' h') S3) .nil))) (aep e me)
end df
namespace df
open PySem L2 PySem.W HT
theorem BL {x z u:V}:eu (x::y::z::u::xs) 3=some u:=(show eu (x::y::z::u::xs) ((3:Nat):Int)=some u from b9 rfl)
def vH (p:Str×Str):PyData:= .tuple [.str p.1,.str p.2]
theorem oN.rep {ps:List (Str×Str)} (h:oN H ys ps):cB H ys (ps.map vH):=by
 induction h with
 |nil=>exact .nil
 |cons x _ ih=>obtain⟨t,e,h⟩:=x;subst e;exact .cons (.tup h (.cons (.str _) (.cons (.str _) .nil))) ih
theorem aaw {d:PyData} (h:gq d):fj d=true:=by
 cases h with
 |add n h=>rfl
 |times n lo hi=>show(decide (-9<=n) && decide (n<=9))=true;rw[cm lo,cm hi];rfl
 |ud=>rfl
 |ask x h=>exact wQ h
theorem OB {d:PyData} (h:Ent d):dj d=true:=by
 have st:∀ds:List PyData,ds.length<=4->(∀d∈ds,gq d)->rj (.tuple ds)=true:=fun ds h4 hs=>by
  show(decide (ds.length<=4) && ds.all fj)=true;rw[cm h4,j8.mpr fun d hd=>aaw (hs d hd)];rfl
 cases h with
 |plain n h=>rfl
 |ahead x n h hn=>show(fh x && true)=true;rw[wQ h];rfl
 |behind ds h4 hs=>exact st ds h4 hs
 |uL ds h4 hs=>exact st ds h4 hs
theorem NY {k:Str} (h:k∈ks) (n:Nm k):d6 ks (.str k)=true:=by show(fh k && decide (k∈ks))=true;rw[wQ n,cm h];rfl
theorem aax:bootBuiltins "ValueError" = some (.type "ValueError"):=by decide +kernel
structure Q3 (K:Frag) (mg:Str->Option Value) (c:Nat->Addr):Prop where
 n0:mg "NoKind" = some (.ref (c 0))
 n1:mg "NoName" = some (.ref (c 1))
 n2:mg "NoEntry" = some (.ref (c 2))
 n3:mg "NotAbove" = some (.ref (c 3))
 ve:mg "ValueError" = none
 k:∀i j,i < 4->j < 4->kitOne K (.ref (c i)) (.ref (c j))=some (decide (i=j))
 v:∀i,i < 4->kitOne K (.ref (c i)) (.type "ValueError")=some true
 x:∀i,i < 4->jU K (c i)
 b:∀B,mg "LineError" = some (.ref B) -> ∀i,i < 4->mroIn K (c i) (.ref B)=some true
def pK (way:Nat) (b0 b1 b2 b3:Bool):Option Nat:=if b0 then some 0 else if decide (way≠3) && b1 then some 1 else if decide (way=0) && b2 then some 2 else if decide (way=2) && b3 then some 3 else none
theorem OC (h:pK way b0 b1 b2 b3=some i):i < 4:=by
 unfold pK at h;(repeat' split at h) <;> cases h <;> decide
def mI (bk:Bk):PyData->PyData->Bool
 |.str k,.str n=>decide ([k,n]∈bk.map bg)
 |_,_=>false
def vI (way:Nat) (b0 b1 h:Bool):Bool:=b1 || (decide (way=1) && (!b0 && !h))
structure Arg (p:Addr) (H:Hp) (ks:List Str) (L:Str->List Str) (vk vn ve vb:V) (dk dn de db:PyData) (b0 b1 b2 b3:Bool):Prop where
 rk:Dt p H vk dk
 sk:Sm dk
 rn:Dt p H vn dn
 sn:Sm dn
 re:Dt p H ve de
 se:Sm de
 rb:Dt p H vb db
 k:d6 ks dk = !b0
 n:cY dn = !b1
 e:dj de = !b2
 ge:dj de=true->Rep H ve de/\Ent de
 b:∀kind,b0=false->dk = .str kind->jw (L kind) db = !b3
theorem Arg.same {vk vn ve vb:V}{dk dn de db:PyData} (h:Arg p H ks L vk vn ve vb dk dn de db b0 b1 b2 b3) (S:aq H H'):Arg p H' ks L vk vn ve vb dk dn de db b0 b1 b2 b3:=
 ⟨Dt.same h.rk S,h.sk,Dt.same h.rn S,h.sn,Dt.same h.re S,h.se,Dt.same h.rb S,h.k,h.n,h.e,fun z=>⟨(h.ge z).1.same S,(h.ge z).2⟩,h.b⟩
noncomputable def Told (way:Nat) (L:Str->List Str) (bk:Bk) (dk dn de db D:PyData):Prop:=
 match way with
 |0=>∃k n gG,dk = .str k/\dn = .str n/\gG.Perm (cq bk k n ++ [(k,n,de)])/\lU gG/\D = .tuple (gG.map iG)
 |1=>∃k n gG,dk = .str k/\dn = .str n/\gG.Perm (cq bk k n)/\lU gG/\D = .tuple (gG.map iG)
 |2=>∃k n b,dk = .str k/\dn = .str n/\db = .str b/\D=outD (bB bk n (eX (L k) b))
 |_=>∃k ss,dk = .str k/\PyProof.Rows.sortedS ss=true/\ss.Nodup/\(∀y,y∈ss ↔ bB bk y (L k)≠none)/\D = .list ((ss.map fun n=>(n,pI (bB bk n (L k)))).map vH)
theorem aay {bk:Bk}{k:Str} (h:lU bk):lU (cq bk k n):=by
 unfold lU at h ⊢;exact h.sublist (V2 _ (am2))
theorem aeq {c:Nat->Addr}{Gx:V->Hp->Prop}{Gy:Nat->Prop}{C1:V->Hp->Prop}{E':XK} (h:(∀v H',Gx v H'->C1 v H')->(∀i,Gy i->Rf (c i) H E')->G) (h1:∀v H',Gx v H'->C1 v H') (h2:∀i,Gy i->Rf (c i) H E'):G:=h h1 h2
def pz (i:Nat):List Bool:= [decide (i=0),decide (i=1),decide (i=2),decide (i=3),true]
inductive FT (vs:List V) (H:Hp) (Q:VK) (E:XK):Prop
 |mk {p t tb la:Addr}{way:Nat}{o:Obj}{ws wb:List V}{aH:List (Str×List Str)}{L:Str->List Str}{bk:Bk}{vk vn ve vb:V}{dk dn de db:PyData}{b0 b1 b2 b3:Bool} (_:vs = [.int way,.ref t,.ref tb,.ref la]) (_:way < 4) (_:FB H t tb o ws wb aH L bk) (_:lU bk) (_:H la=some (.lst [vk,vn,ve,vb])) (_:Arg p H (aH.map (·.1)) L vk vn ve vb dk dn de db b0 b1 b2 b3) (_:(∀i,pK way b0 (vI way b0 b1 (mI bk dk dn)) b2 b3=some i -> ∀t' l H',aq H H'->H' t'=some (.tup [.str "refused",.ref l])->H' l=some (.lst ((pz i).map V.bl))->Q (.ref t') H')) (_:(pK way b0 (vI way b0 b1 (mI bk dk dn)) b2 b3=none -> ∀t' v D H',aq H H'->H' t'=some (.tup [.str "told",v])->Rep H' v D->Told way L bk dk dn de db D->Q (.ref t') H')):FT vs H Q E
noncomputable abbrev Ki:List Str:= ["_law_way","_law_family_here","_law_book_here","_law_args_here"]
noncomputable abbrev nCa:List Str:= ["_law_way","_law_family_here","_law_book_here","_law_args_here","_law_told","_law_refused","e"]
theorem og:bK nCa Ki (aM Gk):=b6
theorem aaz {c:Nat->Addr}{B0 fG fT fA:Addr}{dG dT dA:FuncData} (F:a6 K "_law_call" "_law_call" Gk f fd) (B2:ja mg) (T:Q3 K mg c)
  (mB:mg "LineError" = some (.ref B0)) (qB:∃ci,jm K B0 ci=true)
  (GG:bh P w K mg base (cC P w) 5 fG dG Bz (FJ (c 0) (c 1) (c 2)) "name_given")
  (GT:bh P w K mg base (cC P w) 5 fT dT ["family","book","kind","name"] (FO (c 0) (c 1)) "name_taken")
  (GA:bh P w K mg base (cC P w) 7 fA dA J4 (Gu (c 0) (c 1) (c 3)) "found_at")
  (GL:bh P w K mg base (cC P w) 7 fL dL J7 (Gv (c 0)) "all_found") :
  a9 P w K mg base aK 8 f fd Ki FT:=by
 obtain⟨ci,qB⟩:=qB;refine F.ok og (fun vs H Q E h=>?_) (fun aG A outer s H vs Q E hr h=>?_)
 ·obtain⟨rfl,_⟩:=h;rfl
 ·obtain @⟨p,t,tb,la,way,o,ws,wb,aH,L,bk,vk,vn,ve,vb,dk,dn,de,db,b0,b1,b2,b3,rfl,hw,fb,pW,eG,ar,qr,qt⟩:=h
  have Kj:aV 7 _:=hr;have oM:aV 5 _:=Kj.mono (by decide)
  refine⟨_,aB (tY (cg (aa i6 (aa i6 af))) (tX rfl (fH (bw (i:=4) og.nd rfl (Or.inl rfl)) (fH (bw (i:=5) og.nd rfl (Or.inl rfl)) mw))))
   (aB (YV (j:=6) (C:=B0) (fun pins D=>aN (bY (bU dw (pv 0) ao (bz _))
      (aN (aW (i:=4) og.nd rfl (Or.inl rfl) (Ap GG oM (aa (pv 1) (aa (pv 2) (aa (aP (gX K rfl) (pv 3) ao) (aa (aP (gX K rfl) (pv 3) ao) (aa (aP (gX K rfl) (pv 3) ao) af))))))))
      (aN (bY (bU dw (pv 0) ao (bz _))
       (aN (aW (i:=4) og.nd rfl (Or.inl rfl) (Ap GT oM (aa (pv 1) (aa (pv 2) (aa (aP (gX K rfl) (pv 3) ao) (aa (aP (gX K rfl) (pv 3) ao) af)))))))
       (aN (bY (bU dw (pv 0) ao (bz _))
        (aN (aW (i:=4) og.nd rfl (Or.inl rfl) (Ap GA Kj (aa (pv 1) (aa (pv 2) (aa (aP (gX K rfl) (pv 3) ao) (aa (aP (gX K rfl) (pv 3) ao) (aa (aP (gX K rfl) (pv 3) ao) af))))))))
        (aN (aW (i:=4) og.nd rfl (Or.inl rfl) (Ap GL Kj (aa (pv 1) (aa (pv 2) (aa (aP (gX K rfl) (pv 3) ao) af))))))))))))
     og.nd rfl rfl rfl rfl rfl rfl rfl mB qB (fun a=>aB (aW (i:=5) og.nd rfl (Or.inl rfl) (cw (aa (bJ wB rfl B2.kI kc (aa (pv 6) (aa (qR (v:= .ref (c 0)) rfl T.n0 rfl) af)))
       (aa (bJ wB rfl B2.kI kc (aa (pv 6) (aa (qR (v:= .ref (c 1)) rfl T.n1 rfl) af)))
       (aa (bJ wB rfl B2.kI kc (aa (pv 6) (aa (qR (v:= .ref (c 2)) rfl T.n2 rfl) af)))
       (aa (bJ wB rfl B2.kI kc (aa (pv 6) (aa (qR (v:= .ref (c 3)) rfl T.n3 rfl) af))) af))))))
      (aN (jN (mE tf DG DH tI (pv 5) (aa (bJ wB rfl B2.kI kc (aa (pv 6) (aa (oY (v:= .ty "ValueError") rfl T.ve aax rfl) af))) af))))))
   (aB (Aj (bU xf (pv 5) i6 (bz _)) (cg (aa cu (aa (pv 4) af))))
   (my (cg (aa cu (aa (pv 5) af)))))),?_⟩
  have sz:∀n:Nat,n<=100->n<=sizeLine:=fun n h=>by rw[aQ];omega
  refine⟨sz 2 (by decide),fun c0 hc0=>⟨c0,_,rfl,aJ.of ag,rfl,_,_,rfl,_,_,rfl,rfl,?_⟩⟩
  have S0:=ay (o:= .tup [V.aI,V.aI]) hc0;generalize upd H c0 (.tup [V.aI,V.aI])=H0 at S0 ⊢;have nu:=ar.same S0;have CV:=fb.same S0;have eN:=S0 _ _ eG;have k0:d6 (aH.map (·.1)) dk=false->b0=true:=fun z=>by rw[ar.k]at z;cases b0 <;> first|rfl|cases z
  have k1:d6 (aH.map (·.1)) dk=true->b0=false:=fun z=>by rw[ar.k]at z;cases b0 <;> first|rfl|cases z
  have n0:cY dn=false->b1=true:=fun z=>by rw[ar.n]at z;cases b1 <;> first|rfl|cases z
  have n1:cY dn=true->b1=false:=fun z=>by rw[ar.n]at z;cases b1 <;> first|rfl|cases z
  have e0:dj de=false->b2=true:=fun z=>by rw[ar.e]at z;cases b2 <;> first|rfl|cases z
  have e1:dj de=true->b2=false:=fun z=>by rw[ar.e]at z;cases b2 <;> first|rfl|cases z
  have kn:∀k,k∈aH.map (·.1)->Nm k:=fun k hk=>by obtain⟨q,hq,e⟩:=bT.mp hk;exact e ▸ fb.fo.nm q hq
  have kk:∀k,dk = .str k->k∈aH.map (·.1)->b0=false:=fun k e hk=>k1 (by rw[e];exact NY hk (kn k hk))
  have nn:∀n,dn = .str n->Nm n->b1=false:=fun n e hn=>n1 (by rw[e];exact wQ hn)
  apply aeq (c:=c) (H:=H0) (Gx:=fun v H'=>∃D,aq H0 H'/\Rep H' v D/\Told way L bk dk dn de db D/\pK way b0 (vI way b0 b1 (mI bk dk dn)) b2 b3=none) (Gy:=fun i=>pK way b0 (vI way b0 b1 (mI bk dk dn)) b2 b3=some i)
  ·intro tell refuse
   rcases (by omega:way=2\/way=0\/way=1\/way=3) with hy|hy|hy|hy
   ·refine⟨_,rfl,rfl,_,rfl,ite_ff (by rw[hy];decide) ?_⟩
    refine⟨_,rfl,rfl,_,rfl,ite_ff (by rw[hy];decide) ?_⟩
    refine⟨_,rfl,rfl,_,rfl,ite_tt (by rw[hy];decide) ?_⟩
    refine⟨_,rfl,_,rfl,_,rfl,la,_,0,_,rfl,rfl,aj.of eN,eh,_,rfl,la,_,1,_,rfl,rfl,aj.of eN,g8,_,rfl,la,_,3,_,rfl,rfl,aj.of eN,BL,?_⟩;refine⟨rfl,CV,nu.rk,ar.sk,nu.rn,ar.sn,nu.rb,fun z=>refuse 0 (by rw[k0 z];rfl),fun z1 z2=>refuse 1 (by rw[hy,k1 z1,n0 z2];rfl),fun k f1 hk hn hb=>refuse 3 ?_,fun k n b f1 hk f2 hn f3 hb v H' S' ov=>tell _ _ ⟨_,S',ov.rep,(by rw[hy];exact⟨k,n,b,f1,f2,f3,rfl⟩),?_⟩⟩
    ·have jD:=ar.b k (kk k f1 hk) f1
     rw[hb]at jD;rw[hy,kk k f1 hk,n1 hn,show b3=true by cases b3 <;> first|rfl|cases jD];rfl
    ·have jD:=ar.b k (kk k f1 hk) f1
     rw[f3,show jw (L k) (.str b)=true from cm hb]at jD;rw[hy,kk k f1 hk,nn n f2 hn,show b3=false by cases b3 <;> first|rfl|cases jD];rfl
   ·refine⟨_,rfl,rfl,_,rfl,ite_tt (by rw[hy];decide) ?_⟩
    refine⟨_,rfl,_,rfl,_,rfl,la,_,0,_,rfl,rfl,aj.of eN,eh,_,rfl,la,_,1,_,rfl,rfl,aj.of eN,g8,_,rfl,la,_,2,_,rfl,rfl,aj.of eN,By,?_⟩;refine⟨rfl,CV,nu.rk,ar.sk,nu.rn,ar.sn,nu.re,ar.se,fun z=>refuse 0 (by rw[k0 z];rfl),fun z1 z2=>refuse 1 (by rw[hy,k1 z1,n0 z2];rfl),fun z1 z2 z3=>refuse 2 (by rw[hy,k1 z1,n1 z2,e0 z3];rfl),nu.ge,fun k n f1 hk f2 hn en r gD gG H' S' h' bv pm so=>tell _ _ ⟨_,S',.tup h' (bF.rep bv),(by rw[hy];exact⟨k,n,gG,f1,f2,pm,so,rfl⟩),?_⟩⟩
    rw[hy,kk k f1 hk,nn n f2 hn,e1 (OB en)];rfl
   ·refine⟨_,rfl,rfl,_,rfl,ite_ff (by rw[hy];decide) ?_⟩
    refine⟨_,rfl,rfl,_,rfl,ite_tt (by rw[hy];decide) ?_⟩
    refine⟨_,rfl,_,rfl,_,rfl,la,_,0,_,rfl,rfl,aj.of eN,eh,_,rfl,la,_,1,_,rfl,rfl,aj.of eN,g8,?_⟩;refine⟨rfl,CV,nu.rk,ar.sk,nu.rn,ar.sn,fun z=>refuse 0 (by rw[k0 z];rfl),fun z1 z2=>refuse 1 (by rw[hy,k1 z1,n0 z2];rfl),fun k n f1 hk f2 hn no=>refuse 1 ?_,fun k n f1 hk f2 hn yes r gD H' S' h' bv=>tell _ _ ⟨_,S',.tup h' (bF.rep bv),(by rw[hy];exact⟨k,n,_,f1,f2,.refl _,aay pW,rfl⟩),?_⟩⟩
    ·rw[hy,kk k f1 hk,nn n f2 hn,f1,f2,show mI bk (.str k) (.str n)=false from dZ no];rfl
    ·rw[hy,kk k f1 hk,nn n f2 hn,f1,f2,show mI bk (.str k) (.str n)=true from cm yes];rfl
   ·refine⟨_,rfl,rfl,_,rfl,ite_ff (by rw[hy];decide) ?_⟩
    refine⟨_,rfl,rfl,_,rfl,ite_ff (by rw[hy];decide) ?_⟩
    refine⟨_,rfl,rfl,_,rfl,ite_ff (by rw[hy];decide) ?_⟩
    refine⟨_,rfl,_,rfl,_,rfl,la,_,0,_,rfl,rfl,aj.of eN,eh,?_⟩;refine⟨rfl,CV,nu.rk,ar.sk,fun z=>refuse 0 (by rw[k0 z];rfl),fun k f1 hk r ys ss H' S' hr h' pr so nd mem len=>tell _ _ ⟨_,S',.lst h' pr.rep,(by rw[hy];exact⟨k,ss,f1,so,nd,mem,rfl⟩),?_⟩⟩
    rw[hy,kk k f1 hk];rfl
  ·rintro v H1 ⟨D,S1,rp,td,hd⟩
   refine⟨_,rfl,rfl,_,rfl,ite_tt (by decide) ?_⟩
   refine⟨_,rfl,sz 2 (by decide),fun t' jE=>?_⟩
   have S2:=ay (o:= .tup [V.str "told",v]) jE;exact qt hd t' v D _ (S0.trans (S1.trans S2)) ag (rp.same S2) td
  ·intro i hi a H1 S1 er
   have h4:=OC hi;refine⟨⟨c i,rfl,T.b B0 mB i h4⟩,a,rfl,?_⟩;obtain⟨⟨m,dx,eo,rr⟩,_⟩:=er;refine⟨_,rfl,a,m,c i,dx,.ref (c 0),.ref (c 0),_,rfl,.inl ⟨_,rfl,rfl⟩,eo,T.x i h4,rr,T.k i 0 h4 (by decide),?_⟩
   refine⟨_,rfl,a,m,c i,dx,.ref (c 1),.ref (c 1),_,rfl,.inl ⟨_,rfl,rfl⟩,eo,T.x i h4,rr,T.k i 1 h4 (by decide),?_⟩
   refine⟨_,rfl,a,m,c i,dx,.ref (c 2),.ref (c 2),_,rfl,.inl ⟨_,rfl,rfl⟩,eo,T.x i h4,rr,T.k i 2 h4 (by decide),?_⟩
   refine⟨_,rfl,a,m,c i,dx,.ref (c 3),.ref (c 3),_,rfl,.inl ⟨_,rfl,rfl⟩,eo,T.x i h4,rr,T.k i 3 h4 (by decide),?_⟩
   refine⟨sz 4 (by decide),fun l hl=>?_⟩
   have S2:=ay (o:= .lst [V.bl (decide (i=0)),V.bl (decide (i=1)),V.bl (decide (i=2)),V.bl (decide (i=3))]) hl;have e2:upd H1 l (.lst [V.bl (decide (i=0)),V.bl (decide (i=1)),V.bl (decide (i=2)),V.bl (decide (i=3))]) l=_:=ag;generalize upd H1 l (.lst [V.bl (decide (i=0)),V.bl (decide (i=1)),V.bl (decide (i=2)),V.bl (decide (i=3))])=H2 at S2 e2 ⊢;refine⟨_,rfl,.inl ⟨rfl,_,aj.of e2⟩,_,rfl,?_⟩;refine⟨a,m,c i,dx,.ty "ValueError",.type "ValueError",true,rfl,.inr ⟨_,rfl,rfl⟩,S2 _ _ eo,T.x i h4,fun d ed=>let ⟨fs,z⟩:=rr d ed;⟨fs,S2 _ _ z⟩,T.v i h4,l,_,_,rfl,rfl,e2,sz 5 (by decide),?_⟩
   have e3:upd H2 l (.lst ([V.bl (decide (i=0)),V.bl (decide (i=1)),V.bl (decide (i=2)),V.bl (decide (i=3))] ++ [V.bl true])) l=some (.lst ((pz i).map V.bl)):=ag;have S3:aq H0 (upd H2 l (.lst ([V.bl (decide (i=0)),V.bl (decide (i=1)),V.bl (decide (i=2)),V.bl (decide (i=3))] ++ [V.bl true]))):=fun b o hb=>by rw[ah (aA (S1 _ _ hb) hl)];exact S2 _ _ (S1 _ _ hb)
   generalize upd H2 l (.lst ([V.bl (decide (i=0)),V.bl (decide (i=1)),V.bl (decide (i=2)),V.bl (decide (i=3))] ++ [V.bl true]))=H3 at e3 S3 ⊢;refine⟨_,rfl,rfl,_,rfl,ite_ff (by simp) ?_⟩
   refine⟨_,rfl,sz 2 (by decide),fun t' jE=>?_⟩
   have S4:=ay (o:= .tup [V.str "refused",V.ref l]) jE;exact qr i hi t' l _ (S0.trans (S3.trans S4)) ag (S4 _ _ e3)
inductive Be (vs:List V) (H:Hp) (Q:VK) (E:XK):Prop
 |mk {l:Addr}{bs:List Bool}{i:Nat} (_:vs = [.ref l]) (_:H l=some (.lst (bs.map V.bl))) (_:bs[i]? = some true) (_:(∀m,m < i->bs[m]? ≠ some true)) (_:∀t' l' H',aq H H'->H' t'=some (.tup [.str "refused",.ref l'])->H' l'=some (.lst ((pz i).map V.bl))->Q (.ref t') H'):Be vs H Q E
theorem acV:bK ["_law_bad"] ["_law_bad"] (aM xn):=b6
def Py (e:Expr) (i:Nat):Expr:=match e with|.Tuple es _ _=>es.getD i (.Constant .none 0 ⟨0,0,0,0⟩)|_=>.Constant .none 0 ⟨0,0,0,0⟩
def opL (e:Expr):Expr:=match e with|.BinOp a _ _ _=>a|_=>.Constant .none 0 ⟨0,0,0,0⟩
noncomputable abbrev aer:Expr:=opL (Py (jY (b5 (b4 xn) 0)) 1)
theorem Pz:b8 ["_law_bad"] (aM xn) ["_law_k","_law_bad"] [none,some 0] (cK aer):=dH
theorem abH (F:a6 K "_law_first" "_law_first" xn f fd) (B:dY mg):a9 P w K mg base aK 1 f fd ["_law_bad"] Be:=by
 refine F.ok acV (fun vs H Q E h=>?_) (fun aG A outer s H vs Q E hr h=>?_)
 ·obtain⟨rfl,_⟩:=h;rfl
 ·obtain @⟨l,bs,i,rfl,hl,hi,no,q⟩:=h
  refine⟨_,my (cg (aa cu (aa (bA qX (eV rfl Pz (mj rfl B.range (aa ao af)) (fun s H fp=>⟨bw (i:=0) Pz.nd rfl (Or.inl rfl),gv,gx dw (pv 0) (ZX K rfl tf am6 am7 XO (pv 1) (aa mz af)) (bz _)⟩)) (cw (aa mz af))) af))),?_⟩;refine⟨4,rfl,by decide,by decide,fun c hc=>?_⟩
  refine wo (fun j zs τ H1=>∃t0:Option V,τ = [t0,some (.ref l)]/\zs=(List.range j).map (fun k=>V.bl (decide (i=k)))/\aq H H1/\H1 c=some (.lst zs)) ⟨none,rfl,rfl,ay hc,ag⟩ (fun j zs τ H1 hQ9=>by obtain⟨_,_,_,_,z⟩:=hQ9;exact z) ?_ ?_
  ·rintro j zs τ H1 hj ⟨t0,rfl,rfl,S1,h1⟩
   have iz:=S1 _ _ hl;refine⟨_,rfl,_,rfl,.inl ⟨rfl,_,aj.of iz⟩,l,bs,true,i,rfl,rfl,iz,hi,no,rfl,h1,by rw[aE,Dw,aQ];omega,cw_next hj ⟨_,rfl,?_,fun b o e=>by rw[ah (aA e hc)];exact S1 _ _ e,ag⟩⟩
   rw[LG,bZ];have e:decide (V.int (0+(j:Int))=V.int (i:Int))=decide (i=j):=we.mpr ⟨fun z=>by injection z with z;omega,fun z=>by rw[z];congr 1;omega⟩
   show _ ++ [V.bl (decide (V.int (0+(j:Int))=V.int (i:Int)))]=_;rw[e];rfl
  ·rintro zs τ H1 ⟨t0,rfl,rfl,S1,h1⟩
   refine⟨hW,fun c2 cU=>⟨c,c2,_,_,rfl,rfl,ay cU _ _ h1,ag,by show 5<=sizeLine;rw[aQ];decide,fun c3 iD=>⟨cH,fun t' jE=>?_⟩⟩⟩
   have T:=ay (o:= .tup [V.str "refused",V.ref c3]) jE;exact q t' c3 _ (((S1.trans (ay cU)).trans (ay iD)).trans T) ag (T _ _ ag)
theorem boot_set:bootBuiltins "set" = some (.type "set"):=by decide +kernel
theorem AX {α:Type} [DecidableEq α]:∀ {a b:List α},a.Nodup->(∀x∈a,x∈b)->a.length<=b.length
 |[],_,_,_=>bR _
 |x::a,b,nd,h=>by
  obtain⟨n1,n2⟩:=iZ.mp nd;have hx:=h x bu;have:=AX (a:=a) (b:=b.erase x) n2 fun y hy=>(VA (fun e:y=x=>n1 (e ▸ hy))).mpr (h y (bO _ hy));rw[Vy hx]at this;have:=Vz hx;rw[cO];omega
theorem Zj (ks ns:List Str):(ks.flatMap fun k=>ns.map fun n=>[k,n]).length=ks.length * ns.length:=by
 induction ks with
 |nil=>simp
 |cons k ks ih=>rw[List.flatMap_cons,fu,ih,aE,cO,Nat.succ_mul,Nat.add_comm]
theorem acW {aw:Bk}{k:Str} (ok:iq aw) (sub:∀q∈aw,q.1∈ks/\q.2.1∈ns) (k8:ks.length<=8) (n6:ns.length<=6) (hk:k∈ks) (hn:n∈ns):(cq aw k n).length<=47:=by
 have h:([k,n]::(cq aw k n).map bg).length<=(ks.flatMap fun k=>ns.map fun n=>[k,n]).length:=AX (iZ.mpr ⟨Ax,(rm ok k n).nd⟩) fun x hx=>by
  rcases bH.mp hx with e|hx
  ·rw[e];exact List.mem_flatMap.mpr ⟨k,hk,bT.mpr ⟨n,hn,rfl⟩⟩
  ·obtain⟨q,hq,e⟩:=bT.mp hx
   have:=sub q (f6.mp hq).1;rw[<-e];exact List.mem_flatMap.mpr ⟨q.1,this.1,bT.mpr ⟨q.2.1,this.2,rfl⟩⟩
 rw[Zj,cO,aE]at h;have:ks.length * ns.length<=8 * 6:=Nat.mul_le_mul k8 n6;omega
theorem Zk {aw:Bk} (h:cb H kvs aw):kvs.map (·.1)=aw.map ku:=by
 induction h with
 |nil=>rfl
 |cons x _ ih=>rw[ck,ck,ih,x.1]
theorem abI {aw:Bk} (h:cb H kvs aw) (nd:(aw.map bg).Nodup):(kvs.map (·.1)).Nodup:=by
 rw[Zk h,show aw.map ku=(aw.map bg).map (List.map Sum.inr) by rw[md];rfl,LA,LC]
 refine(LA.mp nd).imp fun h z=>h ?_;exact List.map_inj_right (fun _ _ e=>oP e) |>.mp z
theorem drop_take {k:List Key}{kv:List Key×V} (h:kvs[i]? = some kv):iP (kvs.take (i+1)) k=iP (kvs.take i) k++(if kv.1=k then [] else [kv]):=by
 rw[dg,h];unfold iP;rw[jK]
 by_cases e:kv.1=k
 ·rw[aF e];simp[e]
 ·rw[ax e];simp[e]
theorem aes {jv C:Addr->Hp->Prop} (h1:(∀sb H6,jv sb H6->C sb H6)->G) (h2:∀sb H6,jv sb H6->C sb H6):G:=h1 h2
theorem FU {bk:Bk}{n:Str} (b:List Str):∀a:List Str,bB bk n (a++b)=match bB bk n a with|some r=>some r|none=>bB bk n b
 |[]=>rfl
 |x::a=>by
  rw[List.cons_append];cases e:dq bk x n with
  |none=>rw[uf e,uf e,FU b a]
  |some d=>rw[tV e,tV e]
def xo (H:Hp) (ys:List V):Option (Str×PyData)->Prop
 |none=>ys = []
 |some r=>∃t u zs,ys=V.ref t::zs/\H t=some (.tup [.str r.1,u])/\Rep H u r.2
theorem xo.keep {r:Option (Str×PyData)} (h:xo H ys r) (en:∀x d,r=some (x,d)->Ent d) (k:∀b xs,H b=some (.tup xs)->H' b=some (.tup xs)):xo H' ys r:=by
 cases r with
 |none=>exact h
 |some r=>obtain⟨t,u,zs,e,g1,g2⟩:=h;exact⟨t,u,zs,e,k _ _ g1,(en r.1 r.2 rfl).keep g2 k⟩
def kz (aw:Bk) (line:List Str) (i:Nat):List Str:=((aw.take i).filter fun p=>decide (p.1∈line)).map (·.2.1)
theorem NZ (aw:Bk) (line:List Str) (i:Nat):(kz aw line i).length<=aw.length:=by
 unfold kz;rw[aE];refine gW (jJ _ _) ?_;rw[cT];omega
theorem Zl {aw:Bk}{p:Str×Str×PyData} (h:aw[i]? = some p) (cx:p.1∈line):kz aw line (i+1)=kz aw line i ++ [p.2.1]:=by
 unfold kz;rw[dg,h,jK,bZ];simp[cx]
theorem aaA {aw:Bk}{p:Str×Str×PyData} (h:aw[i]? = some p) (cx:p.1 ∉ line):kz aw line (i+1)=kz aw line i:=by
 unfold kz;rw[dg,h,jK,bZ];simp[cx]
theorem Zm {aw:Bk}{y:Str}:y∈kz aw line aw.length ↔ ∃q∈aw,q.2.1=y/\q.1∈line:=by
 unfold kz;rw[cQ,bT]
 constructor
 ·rintro⟨q,hq,e⟩
  obtain⟨a,b⟩:=f6.mp hq;exact⟨q,a,e,eT b⟩
 ·rintro⟨q,hq,e,b⟩
  exact⟨q,f6.mpr ⟨hq,cm b⟩,e⟩
theorem MD {bk:Bk}{n x:Str}{d:PyData}:∀ {l:List Str},bB bk n l=some (x,d) -> ∃r,(l.filter fun y=>(dq bk y n).isSome)=x::r
 |[],h=>by cases h
 |y::l,h=>by
  cases e:dq bk y n with
  |some d'=>rw[tV e]at h;cases h;exact⟨_,qE (by simp[e])⟩
  |none=>rw[uf e]at h;rw[tm (by simp[e])];exact MD h
noncomputable abbrev Kk:List Str:= ["_law_way","_law_lines","_law_book_here","_law_args_here"]
noncomputable abbrev sM:List Str:= ["_law_way","_law_lines","_law_book_here","_law_args_here","_law_line_here","_law_after","_law_found","_law_names_here"]
theorem uO:bK sM Kk (aM mR):=b6
noncomputable abbrev DU (k:Nat):Stmt:=b5 (b4 mR) k
noncomputable abbrev eD1:Expr:=gN (fV (b5 (rh (DU 1)) 0))
noncomputable abbrev eD2:Expr:=fV (b5 (rh (DU 2)) 1)
noncomputable abbrev eD3:Expr:=gN (gN (fV (DU 3)))
noncomputable abbrev Kl:Expr:=jY (DU 4)
noncomputable abbrev eD5:Expr:=HR (Py (Gm Kl) 1)
theorem HU:b8 sM (aM mR) ["_law_key","_law_entry_here","_law_args_here"] [none,none,some 3] (cK eD1):=dH
theorem Q4:b8 sM (aM mR) ["_law_kind","_law_book_here","_law_args_here"] [none,some 2,some 3] (cK eD2):=dH
theorem HV:b8 sM (aM mR) ["_law_kind","_law_name","_law_line_here"] [none,none,some 4] (cK eD3):=dH
theorem Q5:b8 sM (aM mR) ["_law_name","_law_line_here","_law_book_here"] [none,some 4,some 2] (cK Kl):=dH
theorem aet:b8 ["_law_name","_law_line_here","_law_book_here"] (relabel (cK Kl) env) ["_law_kind","_law_name","_law_book_here"] [none,some 0,some 2] (cK eD5):=nest rfl (by decide +kernel) (by decide +kernel) rfl (by decide +kernel) (by decide +kernel)
theorem aeu:(["_law_kind","_law_name","_law_book_here"]:List Str).Nodup:=by decide +kernel
structure Ra (way:Nat) (H:Hp) (ks ns:List Str) (L:Str->List Str) (kind:Str) (vk vn ve vb:V) (dk dn de db:PyData):Prop where
 hk:vk = .str kind/\dk = .str kind/\kind∈ks
 hn:way≠3 -> ∃n,vn = .str n/\dn = .str n/\n∈ns
 he:way=0->Rep H ve de/\Ent de
 hb:way=2 -> ∃b,vb = .str b/\db = .str b/\(b = "" \/ b∈L kind)
inductive HW (vs:List V) (H:Hp) (Q:VK) (E:XK):Prop
 |mk {way:Nat}{d1 d la:Addr}{bf:List (Key×V)}{L:Str->List Str}{kvs:List (List Key×V)}{aw bk:Bk}{ks ns:List Str}{kind:Str}{vk vn ve vb:V}{dk dn de db:PyData} (_:vs = [.int way,.ref d1,.ref d,.ref la]) (_:way < 4) (_:H d1=some (.dK bf)) (_:eI H bf L kind) (_:(L kind).length<=200) (_:mG H d kvs aw ks ns) (_:ks.length<=8) (_:ns.length<=6) (_:ks.Nodup) (_:ns.Nodup) (_:(∀x∈ks,Nm x)) (_:(∀x∈ns,Nm x)) (_:bk.Perm aw) (_:H la=some (.lst [vk,vn,ve,vb])) (_:Ra way H ks ns L kind vk vn ve vb dk dn de db) (_:∀v D H',aq H H'->Rep H' v D->Told way L bk dk dn de db D->Q v H'):HW vs H Q E
theorem acX (F:a6 K "_law_due" "_law_due" mR f fd) (B:dY mg) (B2:ja mg) (Km:mg "set" = none)
  (GB:bh P w K mg base aK 1 fB dB ["_law_book_here"] pH "_law_book_tuple"):a9 P w K mg base aK 2 f fd Kk HW:=by
 refine F.ok uO (fun vs H Q E h=>?_) (fun aG A outer s H vs Q E hr h=>?_)
 ·obtain⟨rfl,_⟩:=h;rfl
 ·obtain @⟨way,d1,d,la,bf,L,kvs,aw,bk,ks,ns,kind,vk,vn,ve,vb,dk,dn,de,db,rfl,hw,h1,⟨ll,el,hl⟩,Rb,D0,k8,n6,knd,TU,ie,sN,pm,eG,da,q⟩:=h
  have aZ:aV 1 _:=hr;have hu:=hr.units;have cy:=iS hu;have hu2:=Nat.lt_of_le_of_lt (Nat.add_le_add_left (show 2<=64 by decide) _) hu
  refine⟨_,aB (aW (i:=4) uO.nd rfl (Or.inr rfl) (jl cy (pv 1) (aP bE (pv 3) ao)))
   (aB (bY (bU rq (pv 0) ao (bz _))
    (aB (aW (i:=5) uO.nd rfl (Or.inl rfl) (E7 (f' (WT rfl hu2) rfl B2.dict boot_dict (aa (eV rfl HU (X4 (pv 2)) (fun s H fp=>⟨wO (n:=2) K rfl rfl (fH (bw (i:=0) HU.nd rfl (Or.inl rfl)) (fH (bw (i:=1) HU.nd rfl (Or.inl rfl)) mw)),jL (bU (t5 hu) (pv 0) (cg (aa (aP (gX K rfl) (pv 2) ao) (aa (aP (gX K rfl) (pv 2) ao) af))) (bz _)),cg (aa (pv 0) (aa (pv 1) af))⟩)) af))))
    (aB (bY (bU dw (pv 0) ao (bz _)) (aN (tR cy (pv 5) (cg (aa (aP bE (pv 3) ao) (aa (aP bE (pv 3) ao) af))) (aP bE (pv 3) ao) rfl)) cf)
    (my (aU GB aZ (aa (pv 5) af))))) cf)
   (aB (bY (bU dw (pv 0) ao (bz _))
    (aB (bY (bU xr (aP bE (pv 3) ao) cu (bz _)) (aN (aW (i:=4) uO.nd rfl (Or.inr rfl) (kY oZ (pv 4) (lg (bA iN (mE tf am6 am7 Yy (pv 4) (aa (aP bE (pv 3) ao) af)) ao)) k9))) cf)
    (aB (qI rfl Q4 uO.nd (i:=6) rfl rfl (iK (pv 4)) (fun s H fp=>⟨bw (i:=0) Q4.nd rfl (Or.inl rfl),jL (xb (xh cy (cg (aa (pv 0) (aa (aP (gX K rfl) (pv 2) ao) af))) (pv 1))),cg (aa (pv 0) (aa (jl cy (pv 1) (cg (aa (pv 0) (aa (aP (gX K rfl) (pv 2) ao) af)))) af))⟩))
    (my (aP bE (bA qX (pv 6) (cw (aa i6 af))) ao)))) cf)
   (aB (aW (i:=7) uO.nd rfl (Or.inl rfl) (E7 (bJ (LY rfl) rfl B2.sorted boot_sorted (aa (f' (YL rfl) rfl Km boot_set (aa (eV rfl HV (NK (pv 2)) (fun s H fp=>⟨wO (n:=2) K rfl rfl (fH (bw (i:=0) HV.nd rfl (Or.inl rfl)) (fH (bw (i:=1) HV.nd rfl (Or.inl rfl)) mw)),jL (bU (wW K rfl) (pv 0) (pv 2) rfl),pv 1⟩)) af)) af))))
   (my (eV rfl Q5 (iK (pv 7)) (fun s H fp=>⟨bw (i:=0) Q5.nd rfl (Or.inr rfl),gv,cg (aa (pv 0) (aa (aP (gX K rfl) (eV rfl aet (Eg K rfl (pv 1)) (fun s H fp=>⟨bw (i:=0) aeu rfl (Or.inl rfl),jL (xb (xh cy (cg (aa (pv 0) (aa (pv 1) af))) (pv 2))),pv 0⟩)) ao) af))⟩)))))),?_⟩
  obtain⟨rfl,vJ,eF⟩:=da.hk;have cH:2<=sizeLine:=by rw[aQ];decide
  refine⟨_,rfl,_,rfl,la,_,0,_,rfl,rfl,aj.of eG,eh,d1,.ref ll,rfl,.inl ⟨bf,Sum.inr kind,.inl h1,rfl,el.symm⟩,?_⟩;refine⟨_,rfl,_,_,rfl,rfl,_,rfl,?_⟩;have lk:=D0.dv.length;have bV:=D0.ok.bV;have CY:∀o u,H d≠some (.aR o u):=fun o u e=>by rw[D0.hb]at e;cases e
  refine cG (fun aT=>?_) (fun aT=>?_)
  ·have aT:(way:Int) < 2:=eT aT
   obtain⟨n,rfl,CZ,gp⟩:=da.hn (by omega)
   refine⟨_,rfl,d,kvs,rfl,D0.hb,fun o c hc=>?_⟩;have e7:∀b u,b≠d->H b=some u->upd H d (.aR o (.dT kvs)) b=some u:=fun b u n e=>by rw[ah n];exact e
   have cX:upd H d (.aR o (.dT kvs)) d=some (.aR o (.dT kvs)):=ag;have Rc:∀b xs,H b=some (.tup xs)->upd H d (.aR o (.dT kvs)) b=some (.tup xs):=fun b xs e=>e7 _ _ (aX e D0.hb) e
   have ng:cb (upd H d (.aR o (.dT kvs))) kvs aw:=D0.dv.keep Rc D0.ok.ent;have eN:=e7 _ _ (aX eG D0.hb) eG
   have TV:∀b,upd H d (.aR o (.dT kvs)) b=none->H b=none:=fun b e=>by
    by_cases z:b=d
    ·rw[z,ag]at e;cases e
    ·rwa [ah z]at e
   generalize upd H d (.aR o (.dT kvs))=H1 at e7 cX ng eN TV Rc hc ⊢;refine WR (fun i ys τ H2=>∃t0 t1:Option V,τ = [t0,t1,some (.ref la)]/\H2 c=some (.lst ys)/\aq H1 H2/\xi H2 ys (iP (kvs.take i) [Sum.inr kind,Sum.inr n])) ⟨none,none,rfl,ag,ay hc,.nil⟩ (fun i ys τ H2 hQ9=>by obtain⟨_,_,_,z1,z2,_⟩:=hQ9;exact ⟨z1,z2 _ _ cX⟩) ?_ ?_
   ·rintro i kv t b ys τ H2 dc ht hb ⟨t0,t1,rfl,h2,S2,P2⟩
    have bX:i < kvs.length:=(cz.mp dc).1;obtain⟨p,hp,ek,rp⟩:=L2.Paired.get ng dc;have vB:=jH hp;have S3:=ay (o:= .tup [V.ref b,kv.2]) ht;have vG:upd H2 t (.tup [V.ref b,kv.2]) t=some (.tup [V.ref b,kv.2]):=ag;generalize upd H2 t (.tup [V.ref b,kv.2])=H3 at S3 vG ⊢;have nt:=S2.trans S3;have lD:=nt _ _ eN;have jD:H3 b=some (.tup ([p.1,p.2.1].map V.str)):=by have:=S3 _ _ hb;rw[ek]at this;exact this
    refine⟨t,_,rfl,aJ.of vG,rfl,_,_,rfl,_,_,rfl,rfl,?_⟩;refine⟨_,rfl,_,rfl,la,_,0,_,rfl,rfl,aj.of lD,eh,_,rfl,la,_,1,_,rfl,rfl,aj.of lD,g8,cH,fun kt gU=>?_⟩;have S4:=ay (o:= .tup [V.str kind,V.str n]) gU;have qm:upd H3 kt (.tup [V.str kind,V.str n]) kt=some (.tup ([kind,n].map V.str)):=ag;generalize upd H3 kt (.tup [V.str kind,V.str n])=H4 at S4 qm ⊢;have lW:=S3.trans S4;have l1:(PyData.tuple ([p.1,p.2.1].map PyData.str)).canLay0=true:=qP (xs:= [p.1,p.2.1]) fun y hy=>by
     rcases bH.mp hy with z|z
     ·rw[z];exact(D0.ok.nm p vB).1
     ·rw[fw.mp z];exact(D0.ok.nm p vB).2
    have l2:(PyData.tuple ([kind,n].map PyData.str)).canLay0=true:=qP (xs:= [kind,n]) fun y hy=>by
     rcases bH.mp hy with z|z
     ·rw[z];exact ie _ eF
     ·rw[fw.mp z];exact sN _ gp
    refine⟨.tuple ([p.1,p.2.1].map PyData.str),.tuple ([kind,n].map PyData.str),.tup (S4 _ _ jD) (qO _ _),.tup qm (qO _ _),l1,l2,by show PyData.depthAll _+1<=60;rw[wq];decide,_,rfl,?_⟩
    rw[show PyData.eqv (.tuple ([p.1,p.2.1].map PyData.str)) (.tuple ([kind,n].map PyData.str))=decide ([p.1,p.2.1] = [kind,n]) from EN _ _];have h4:=lW _ _ h2;have P4:=P2.keep (H':=H4) fun b xs e=>lW _ _ e;have yl:=gV P2;have yl2:(iP (kvs.take i) [Sum.inr kind,Sum.inr n]).length<=(kvs.take i).length:=jJ _ _;rw[cT]at yl2;refine cG (fun bc=>?_) (fun bc=>?_)
    ·have bc : ¬ kv.1 = [Sum.inr kind,Sum.inr n]:=fun z=>by
      have:bg p = [kind,n]:=oX.mp (ek.symm.trans z);rw[show [p.1,p.2.1] = [kind,n] from this]at bc;simp at bc
     refine⟨_,rfl,_,rfl,cH,fun t2 sJ=>?_⟩;have S5:=ay (o:= .tup [V.ref b,kv.2]) sJ;have ze:upd H4 t2 (.tup [V.ref b,kv.2]) t2=some (.tup [V.ref b,kv.2]):=ag;generalize upd H4 t2 (.tup [V.ref b,kv.2])=H5 at S5 ze ⊢;have h5:=S5 _ _ h4;have up:∀ {zs:List V} b xs,H5 b=some (.tup xs)->upd H5 c (.lst zs) b=some (.tup xs):=fun b xs e=>by rw[ah (aX e h5)];exact e
     refine⟨h5,by rw[aQ];omega,cw_next bX ⟨_,_,rfl,ag,fun b u e=>by rw[ah (aA e hc)];exact S5 _ _ (lW _ _ (S2 _ _ e)),?_⟩⟩
     rw[drop_take dc,ax bc];exact oS ((P4.keep fun b xs e=>S5 _ _ e).keep up) ⟨t2,b,rfl,up _ _ ze,up _ _ (S5 _ _ (lW _ _ hb))⟩
    ·have bc:kv.1 = [Sum.inr kind,Sum.inr n]:=by
      rw[ek];refine oX.mpr ?_
      by_cases z : [p.1,p.2.1] = [kind,n]
      ·exact z
      ·exact absurd (by simp[z]) bc
     refine cw_next bX ⟨_,_,rfl,h4,S2.trans lW,?_⟩;rw[drop_take dc,aF bc,kS];exact P4
   ·rintro ys τ H2 ⟨t0,t1,rfl,h2,S2,P2⟩
    rw[cQ]at P2;have Kn:cb H2 (iP kvs [Sum.inr kind,Sum.inr n]) (cq aw kind n):=(ng.same S2).drop;have vK:=rm D0.ok kind n;refine⟨c,ys,_,rfl,h2,P2,abI Kn vK.nd,fun ad vL=>⟨d,o,kvs,?_,CY,?_⟩⟩
    ·rw[ah (aA (S2 _ _ cX) vL)];exact S2 _ _ cX
    have nad:ad≠d:=fun z=>by rw[z,S2 _ _ cX]at vL;cases vL
    have S6:aq H (upd (upd H2 ad (.dT (iP kvs [Sum.inr kind,Sum.inr n]))) d (.dT kvs)):=fun b u e=>by
     by_cases z:b=d
     ·rw[z]at e ⊢;rw[ag,<-e,D0.hb]
     ·have e2:=S2 _ _ (e7 _ _ z e)
      rw[ah z,ah (aA e2 vL)];exact e2
    have HX:upd (upd H2 ad (.dT (iP kvs [Sum.inr kind,Sum.inr n]))) d (.dT kvs) ad=some (.dT (iP kvs [Sum.inr kind,Sum.inr n])):=by rw[ah nad];exact ag
    have Ko:cb (upd (upd H2 ad (.dT (iP kvs [Sum.inr kind,Sum.inr n]))) d (.dT kvs)) (iP kvs [Sum.inr kind,Sum.inr n]) (cq aw kind n):=Kn.keep (fun b xs e=>by rw[ah (aX e (S2 _ _ cX)),ah (aA e vL)];exact e) vK.ent
    have fr6:H ad=none:=TV ad (S2.free vL);generalize upd (upd H2 ad (.dT (iP kvs [Sum.inr kind,Sum.inr n]))) d (.dT kvs)=H6 at S6 HX Ko ⊢;have rP:=S6 _ _ eG;refine⟨_,rfl,rfl,_,rfl,?_⟩;refine cG (fun h0=>?_) (fun h0=>?_)
    ·have hy:way=0:=by
      have:=eT h0;injection this;omega
     obtain⟨re,en⟩:=da.he hy;refine⟨_,rfl,la,_,2,_,rfl,rfl,aj.of rP,By,_,rfl,_,rfl,la,_,0,_,rfl,rfl,aj.of rP,eh,_,rfl,la,_,1,_,rfl,rfl,aj.of rP,g8,cH,fun kt gU=>?_⟩;have C0:=ay (o:= .tup [V.str kind,V.str n]) gU;have TX:upd H6 kt (.tup [V.str kind,V.str n]) kt=some (.tup (([Sum.inr kind,Sum.inr n]:List Key).map kV)):=ag;generalize upd H6 kt (.tup [V.str kind,V.str n])=H7 at C0 TX ⊢;have S7:=S6.trans C0;have Rg:=C0 _ _ HX;have lw:=Kn.length;refine⟨ad,_,rfl,kr.t (k:= [Sum.inr kind,Sum.inr n]) Rg TX (by have:=vK.bV;rw[aQ];omega),?_⟩
     have up:∀b xs,H7 b=some (.tup xs)->upd H7 ad (.dT (putK (iP kvs [Sum.inr kind,Sum.inr n]) [Sum.inr kind,Sum.inr n] ve)) b=some (.tup xs):=fun b xs e=>by rw[ah (aX e Rg)];exact e
     obtain⟨ya,JZ,Kq⟩:=((Ko.same C0).keep up vK.ent).put (k:=kind) (n:=n) (v:=ve) (d:=de) vK.nd (en.keep (re.same S7) up);rw[Ag Ax]at Kq;have Kr:=Fi Kq (OW D0.ok (ie _ eF) (sN _ gp) en (acW D0.ok D0.sub k8 n6 eF gp));have S8:aq H (upd H7 ad (.dT (putK (iP kvs [Sum.inr kind,Sum.inr n]) [Sum.inr kind,Sum.inr n] ve))):=fun b u e=>by rw[ah (aA e fr6)];exact S7 _ _ e
     refine⟨_,rfl,pH.mk rfl ag JZ Kr fun r ws sO H9 S9 h9 bv zf zg=>q (.ref r) _ H9 (S8.trans S9) (.tup h9 (bF.rep bv)) ?_⟩;rw[hy];exact⟨kind,n,sO,vJ,CZ,zf.trans (Kq.trans ((pm.symm.filter _).append_right _)),zg,rfl⟩
    ·have hy:way=1:=by
      have : ¬ way=0:=fun z=>h0 (by rw[z];decide)
      omega
     refine⟨_,rfl,pH.mk rfl HX Ko vK fun r ws sO H9 S9 h9 bv zf zg=>q (.ref r) _ H9 (S6.trans S9) (.tup h9 (bF.rep bv)) ?_⟩;rw[hy];exact⟨kind,n,sO,vJ,CZ,zf.trans (pm.symm.filter _),zg,rfl⟩
  ·have aT : ¬ way < 2:=fun z=>aT (cm (by omega))
   refine⟨_,rfl,rfl,_,rfl,?_⟩;refine cG (fun h0=>?_) (fun h0=>?_)
   ·have hy:way=2:=by
     have:=eT h0;injection this;omega
    obtain⟨n,rfl,CZ,gp⟩:=da.hn (by omega)
    obtain⟨a7,rfl,gj,uY⟩:=da.hb hy;refine⟨_,rfl,la,_,3,_,rfl,rfl,aj.of eG,BL,rfl,_,rfl,?_⟩
    apply aes (jv:=fun sb H6=>aq H H6/\H6 sb=some (.lst ((eX (L kind) a7).map V.str)))
    ·intro k
     refine cG (fun e=>?_) (fun e=>?_)
     ·have bc:a7 ≠ "" :=fun z=>by rw[z]at e;simp at e
      obtain⟨i1,i2⟩:=NW (uY.resolve_left bc);refine⟨_,rfl,_,rfl,.inl ⟨rfl,_,aj.of hl⟩,_,rfl,la,_,3,_,rfl,rfl,aj.of eG,BL,ll,L kind,a7,(L kind).idxOf a7,rfl,rfl,hl,i1,i2,_,_,rfl,rfl,_,rfl,ll,_,rfl,aj.of hl,fun c hc=>?_⟩;have ec:gg ((L kind).map V.str) (some (((L kind).idxOf a7:Int)+1)) none=(eX (L kind) a7).map V.str:=by
       rw[show(((L kind).idxOf a7:Int)+1)=(((L kind).idxOf a7+1:Nat):Int) by omega,tP,<-zO]
       unfold eX;rw[ax bc]
      rw[ec];have S1:=ay (o:= .lst ((eX (L kind) a7).map V.str)) hc;have nc:upd H c (.lst ((eX (L kind) a7).map V.str)) c=some (.lst ((eX (L kind) a7).map V.str)):=ag;generalize upd H c (.lst ((eX (L kind) a7).map V.str))=H1 at S1 nc ⊢;exact k c H1 ⟨S1,nc⟩
     ·have he:a7 = "" :=by
       by_cases z:a7 = ""
       ·exact z
       ·exact absurd (by rw[dZ (fun y=>z (by injection y))];rfl) e
      exact k ll H ⟨aq.refl _,by unfold eX;rw[aF he];exact hl⟩
    intro sb H1 nW;obtain⟨S1,Ks⟩:=nW;obtain⟨rest,uz⟩:∃rest,eX (L kind) a7=rest:=⟨_,rfl⟩;rw[uz]at Ks;have D1:=D0.same S1;refine⟨_,rfl,sb,rfl,⟨_,aj.of Ks⟩,fun c hc=>?_⟩;refine i4 (xs:=rest.map V.str) (fun i ys τ H2=>∃t0:Option V,τ = [t0,some (.ref d),some (.ref la)]/\H2 c=some (.lst ys)/\aq H1 H2/\xo H2 ys (bB aw n (rest.take i))/\ys.length<=i) ⟨none,rfl,ag,ay hc,rfl,aO _⟩ (fun i ys τ H2 hQ9=>by obtain⟨_,_,z1,z2,_⟩:=hQ9;exact ⟨z1,aj.of (z2 _ _ Ks)⟩) ?_ ?_
    ·rintro i y ys τ H2 sj ⟨t0,rfl,h2,S2,F2,yl⟩
     obtain⟨bX,eQ,rfl,gF⟩:=t6 sj;have ig:=S1.trans S2;have aev:rest.length<=200:=by rw[<-uz];unfold eX;split <;> (first|exact Rb|(rw[sT];omega))
     refine⟨_,rfl,_,rfl,la,_,1,_,rfl,rfl,aj.of (ig _ _ eG),g8,cH,fun kt gU=>?_⟩;have nv:=ay (o:= .tup [V.str rest[i],V.str n]) gU;have lV:upd H2 kt (.tup [V.str rest[i],V.str n]) kt=some (.tup (([Sum.inr rest[i],Sum.inr n]:List Key).map kV)):=ag;generalize upd H2 kt (.tup [V.str rest[i],V.str n])=H3 at nv lV ⊢;have S3:=ig.trans nv;refine⟨_,rfl,d,_,rfl,eM.t (k:= [Sum.inr rest[i],Sum.inr n]) (S3 _ _ D0.hb) lV,_,rfl,?_⟩;have F3:=F2.keep (H':=H3) (fun x e z=>(qT D0.ok x e z).2) fun b xs e=>nv _ _ e;rcases (D0.dv.same S3).look (k:=rest[i]) (n:=n) D0.ok.nd with⟨l1,l2⟩|⟨v,dd,l1,l2,l3⟩
     ·rw[l2]
      refine cw_next bX ⟨_,rfl,nv _ _ h2,S2.trans nv,?_,by omega⟩
      rw[gF,FU];cases ef:bB aw n (rest.take i) with
      |some r=>rw[ef]at F3;exact F3
      |none=>rw[ef]at F3;rw[uf l1];exact F3
     ·rw[l2]
      refine⟨_,rfl,_,rfl,_,rfl,_,rfl,la,_,1,_,rfl,rfl,aj.of (S3 _ _ eG),g8,cH,fun k2 J0=>?_⟩;have oO:=ay (o:= .tup [V.str rest[i],V.str n]) J0;have qm:upd H3 k2 (.tup [V.str rest[i],V.str n]) k2=some (.tup (([Sum.inr rest[i],Sum.inr n]:List Key).map kV)):=ag;have r4:=l3.same oO;generalize upd H3 k2 (.tup [V.str rest[i],V.str n])=H4 at oO qm r4 ⊢;refine⟨d,v,rfl,by rw[<-l2];exact eM.t (k:= [Sum.inr rest[i],Sum.inr n]) (oO _ _ (S3 _ _ D0.hb)) qm,cH,fun t ht=>?_⟩
      have Kt:=ay (o:= .tup [V.str rest[i],v]) ht;have ze:upd H4 t (.tup [V.str rest[i],v]) t=some (.tup [V.str rest[i],v]):=ag;have r5:=r4.same Kt;generalize upd H4 t (.tup [V.str rest[i],v])=H5 at Kt ze r5 ⊢;have C3:=oO.trans Kt;have h5:=C3 _ _ (nv _ _ h2);have up:∀ {zs:List V} b xs,H5 b=some (.tup xs)->upd H5 c (.lst zs) b=some (.tup xs):=fun b xs e=>by rw[ah (aX e h5)];exact e
      have aew:Ent dd:=D0.ok.ent _ (tF l1);refine⟨h5,by rw[aQ];omega,cw_next bX ⟨_,rfl,ag,fun b u e=>by rw[ah (aA e hc)];exact C3 _ _ (nv _ _ (S2 _ _ e)),?_,by rw[fu,nN];omega⟩⟩
      rw[gF,FU];cases ef:bB aw n (rest.take i) with
      |some r =>
       rw[ef]at F3;obtain⟨t9,u9,z9,rfl,g1,g2⟩:=F3;have e9:=(qT D0.ok r.1 r.2 ef).2;exact⟨t9,u9,z9 ++ [V.ref t],rfl,up _ _ (C3 _ _ g1),e9.keep (g2.same C3) up⟩
      |none =>
       rw[ef]at F3;obtain rfl:ys = []:=F3;show xo _ _ (bB aw n [rest[i]]);rw[tV l1];exact⟨t,v,[],rfl,up _ _ ze,aew.keep r5 up⟩
    ·rintro ys τ H2 ⟨t0,rfl,h2,S2,F2,yl⟩
     rw[aE]at F2 yl;rw[cQ]at F2;have aev:rest.length<=200:=by rw[<-uz];unfold eX;split <;> (first|exact Rb|(rw[sT];omega))
     refine⟨_,rfl,hW,fun c2 cU=>?_⟩;have nv:=ay (o:= .lst [V.aI]) cU;refine⟨c,c2,_,_,rfl,rfl,nv _ _ h2,ag,by rw[aQ];show _+1<=_;omega,fun c3 iD=>?_⟩
     have oO:=nv.trans (ay (o:= .lst (ys ++ [V.aI])) iD);have h4:upd (upd H2 c2 (.lst [V.aI])) c3 (.lst (ys ++ [V.aI])) c3=some (.lst (ys ++ [V.aI])):=ag;generalize upd (upd H2 c2 (.lst [V.aI])) c3 (.lst (ys ++ [V.aI]))=H4 at oO h4 ⊢;have efn:bB bk n (eX (L kind) a7)=bB aw n rest:=by rw[uz];exact ES pm D0.ok.nd rest
     have td:Told way L bk dk dn de db (outD (bB aw n rest)):=by rw[hy];exact⟨kind,n,a7,vJ,CZ,gj,by rw[efn]⟩
     have ST:=(S1.trans S2).trans oO;cases ef:bB aw n rest with
     |none =>
      rw[ef]at F2 td;obtain rfl:ys = []:=F2;exact⟨c3,_,0,.aI,rfl,rfl,aj.of h4,eh,q .aI _ H4 ST (kx.rep (r:=none) rfl) td⟩
     |some r =>
      rw[ef]at F2 td;obtain⟨t,u,zs,rfl,g1,g2⟩:=F2;exact⟨c3,_,0,.ref t,rfl,rfl,aj.of h4,eh,q (.ref t) _ H4 ST (kx.rep (r:=some r) ⟨t,u,rfl,oO _ _ g1,g2.same oO⟩) td⟩
   have hy:way=3:=by
    have : ¬ way=2:=fun z=>h0 (by rw[z];decide)
    omega
   refine⟨_,rfl,d,kvs,rfl,D0.hb,fun o c hc=>?_⟩;have e7:∀b u,b≠d->H b=some u->upd H d (.aR o (.dT kvs)) b=some u:=fun b u n e=>by rw[ah n];exact e
   have cX:upd H d (.aR o (.dT kvs)) d=some (.aR o (.dT kvs)):=ag;have ng:cb (upd H d (.aR o (.dT kvs))) kvs aw:=D0.dv.keep (fun b xs e=>e7 _ _ (aX e D0.hb) e) D0.ok.ent
   have TY:=e7 _ _ (aX hl D0.hb) hl
   generalize upd H d (.aR o (.dT kvs))=H1 at e7 cX ng TY hc ⊢;refine Mq (fun i ys τ H2=>∃t0 t1:Option V,τ = [t0,t1,some (.ref ll)]/\H2 c=some (.lst ys)/\aq H1 H2/\ys=(kz aw (L kind) i).map V.str) ⟨none,none,rfl,ag,ay hc,rfl⟩ (fun i ys τ H2 hQ9=>by obtain⟨_,_,_,z1,z2,_⟩:=hQ9;exact ⟨z1,z2 _ _ cX⟩) ?_ ?_
   ·rintro i kv b ys τ H2 dc hb ⟨t0,t1,rfl,h2,S2,rfl⟩
    have bX:i < kvs.length:=(cz.mp dc).1;obtain⟨p,hp,ek,rp⟩:=L2.Paired.get ng dc;replace hb:H2 b=some (.tup [V.str p.1,V.str p.2.1]):=by rw[ek]at hb;exact hb
    refine⟨b,_,rfl,aJ.of hb,rfl,_,_,rfl,_,_,rfl,rfl,?_⟩;refine⟨_,rfl,_,rfl,ll,_,rfl,.inl (aj.of (S2 _ _ TY)),rfl,mq _,_,rfl,?_⟩;rw[ax cD,oV];have nl:=NZ aw (L kind) i;refine cG (fun cx=>?_) (fun cx=>?_)
    ·refine⟨_,rfl,h2,by rw[aE,aQ];omega,cw_next bX ⟨_,_,rfl,ag,fun b u e=>by rw[ah (aA e hc)];exact S2 _ _ e,?_⟩⟩
     rw[Zl hp (eT cx),bZ];rfl
    ·refine cw_next bX ⟨_,_,rfl,h2,S2,?_⟩
     rw[aaA hp fun z=>cx (cm z)]
   ·rintro ys τ H2 ⟨t0,t1,rfl,h2,S2,rfl⟩
    rw[lk]at h2;have nl:=NZ aw (L kind) aw.length;refine⟨c,kz aw (L kind) aw.length,rfl,.inl (aj.of h2),by omega,fun a ds ha nd mem=>⟨a,ds,rfl,ag,?_,fun D ss hD perm so=>⟨d,o,kvs,?_,CY,?_⟩⟩⟩
    ·have:=AX nd fun x hx=>(mem x).mp hx
     omega
    ·have e2:=S2 _ _ cX
     have e3:upd H2 a (jW P w a ds) d=some (.aR o (.dT kvs)):=by rw[ah (aA e2 ha)];exact e2
     rw[ah (aA e3 hD)];exact e3
    generalize jW (gf aK P w K mg base sM "_law_due" (aM mR) f aG A outer s H E).uS.prog (gf aK P w K mg base sM "_law_due" (aM mR) f aG A outer s H E).uS.w a ds=nB at hD ⊢;have Jy:D≠d:=fun z=>by
     have e2:=S2 _ _ cX;rw[z,ah (aA e2 ha),e2]at hD;cases hD
    have S6:aq H (upd (upd (upd H2 a nB) D (.lst (ss.map V.str))) d (.dT kvs)):=fun b u e=>by
     by_cases z:b=d
     ·rw[z]at e ⊢;rw[ag,<-e,D0.hb]
     ·have e2:=S2 _ _ (e7 _ _ z e)
      have e3:upd H2 a nB b=some u:=by rw[ah (aA e2 ha)];exact e2
      rw[ah z,ah (aA e3 hD)];exact e3
    have Ku:upd (upd (upd H2 a nB) D (.lst (ss.map V.str))) d (.dT kvs) D=some (.lst (ss.map V.str)):=by rw[ah Jy];exact ag
    generalize upd (upd (upd H2 a nB) D (.lst (ss.map V.str))) d (.dT kvs)=H6 at S6 Ku ⊢;have snd:ss.Nodup:=perm.nodup_iff.mpr nd;have yb:∀y,y∈ss ↔ bB aw y (L kind)≠none:=fun y=>by rw[perm.mem_iff,mem y,OX,Zm]
    have QT:ss.length<=48:=by
     rw[perm.length_eq];have:=AX nd fun x hx=>(mem x).mp hx;omega
    refine⟨_,rfl,D,rfl,⟨_,aj.of Ku⟩,fun c4 iW=>?_⟩;refine i4 (xs:=ss.map V.str) (fun i ys τ H7=>∃t0:Option V,τ = [t0,some (.ref ll),some (.ref d)]/\H7 c4=some (.lst ys)/\aq H6 H7/\oN H7 ys ((ss.take i).map fun n=>(n,pI (bB aw n (L kind))))) ⟨none,rfl,ag,ay iW,.nil⟩ (fun i ys τ H7 hQ9=>by obtain⟨_,_,z1,z2,_⟩:=hQ9;exact ⟨z1,aj.of (z2 _ _ Ku)⟩) ?_ ?_
    ·rintro i y ys τ H7 sj ⟨t0,rfl,h7,S7,P7⟩
     obtain⟨bX,eQ,rfl,gF⟩:=t6 sj;have cx:bB aw ss[i] (L kind)≠none:=(yb _).mp (f9 eQ);generalize ss[i]=nm at gF cx ⊢;have Kv:=S6.trans S7;refine⟨_,rfl,_,rfl,ll,rfl,⟨_,aj.of (Kv _ _ hl)⟩,fun c5 jf=>?_⟩;refine i4 (xs:=(L kind).map V.str) (fun j zs eZ H8=>∃t0:Option V,eZ = [t0,some (.str nm),some (.ref d)]/\H8 c5=some (.lst zs)/\aq H7 H8/\zs=(((L kind).take j).filter fun y=>(dq aw y nm).isSome).map V.str) ⟨none,rfl,ag,ay jf,rfl⟩ (fun j zs eZ H8 hQ9=>by obtain⟨_,_,z1,z2,_⟩:=hQ9;exact ⟨z1,aj.of (z2 _ _ (Kv _ _ hl))⟩) ?_ ?_
     ·rintro j y zs eZ H8 pS ⟨t1,rfl,h8,S8,rfl⟩
      have Kw:j < ((L kind).map V.str).length:=(cz.mp pS).1;have C4:j < (L kind).length:=by simpa using Kw
      obtain rfl:V.str (L kind)[j]=y:=by simpa [C4] using pS
      have iC:(L kind).take (j+1)=(L kind).take j ++ [(L kind)[j]]:=by rw[dg,bC C4];rfl
      generalize (L kind)[j]=kd at iC ⊢;refine⟨_,rfl,_,rfl,cH,fun kt gU=>?_⟩;have qw:=ay (o:= .tup [V.str kd,V.str nm]) gU;have TZ:upd H8 kt (.tup [V.str kd,V.str nm]) kt=some (.tup (([Sum.inr kd,Sum.inr nm]:List Key).map kV)):=ag;generalize upd H8 kt (.tup [V.str kd,V.str nm])=H9 at qw TZ ⊢;have T6:=(Kv.trans S8).trans qw;refine⟨_,rfl,d,_,rfl,eM.t (k:= [Sum.inr kd,Sum.inr nm]) (T6 _ _ D0.hb) TZ,_,rfl,?_⟩;have h9:=qw _ _ h8;have fl:(((L kind).take j).filter fun y=>(dq aw y nm).isSome).length<=((L kind).take j).length:=jJ _ _;rw[cT]at fl;rcases (D0.dv.same T6).look (k:=kd) (n:=nm) D0.ok.nd with⟨l1,l2⟩|⟨v,dd,l1,l2,l3⟩
      ·rw[l2]
       refine cw_next Kw ⟨_,rfl,h9,S8.trans qw,?_⟩;rw[iC,jK,tm (by simp[l1])];simp
      ·rw[l2]
       refine⟨_,rfl,h9,by rw[aE,aQ];omega,cw_next Kw ⟨_,rfl,ag,fun b u e=>by rw[ah (aA e jf)];exact qw _ _ (S8 _ _ e),?_⟩⟩
       rw[iC,jK,qE (by simp[l1]),bZ];rfl
     ·rintro zs eZ H8 ⟨t1,rfl,h8,S8,rfl⟩
      rw[aE,cQ]at h8;cases ef:bB aw nm (L kind) with
      |none=>exact absurd ef cx
      |some r =>
       obtain⟨rs,efl⟩:=MD (x:=r.1) (d:=r.2) ef;rw[efl]at h8;refine⟨c5,_,0,.str r.1,rfl,rfl,aj.of h8,eh,cH,fun tn Ka=>?_⟩;have qw:=ay (o:= .tup [V.str nm,V.str r.1]) Ka;have Ua:upd H8 tn (.tup [V.str nm,V.str r.1]) tn=some (.tup [V.str nm,V.str r.1]):=ag;generalize upd H8 tn (.tup [V.str nm,V.str r.1])=H9 at qw Ua ⊢;have Kx:=S8.trans qw;have h9:=Kx _ _ h7;have yl:=gV P7;rw[aE,cT]at yl;have up:∀ {zs:List V} b xs,H9 b=some (.tup xs)->upd H9 c4 (.lst zs) b=some (.tup xs):=fun b xs e=>by rw[ah (aX e h9)];exact e
       refine⟨h9,by rw[aQ];omega,cw_next bX ⟨_,rfl,ag,fun b u e=>by rw[ah (aA e iW)];exact Kx _ _ (S7 _ _ e),?_⟩⟩
       rw[gF,bZ];refine oS ((P7.keep fun b xs e=>Kx _ _ e).keep up) ⟨tn,rfl,?_⟩;rw[up _ _ Ua];show _=some (HO.tup [V.str nm,V.str (pI (bB aw nm (L kind)))]);rw[ef];rfl
    ·rintro ys τ H7 ⟨t0,rfl,h7,S7,P7⟩
     rw[aE,cQ]at P7;refine q (.ref c4) _ H7 (S6.trans S7) (.lst h7 P7.rep) ?_;have ef:∀y,bB bk y (L kind)=bB aw y (L kind):=fun y=>ES pm D0.ok.nd _;rw[hy];exact⟨kind,ss,vJ,so,snd,fun y=>by rw[ef];exact yb y,by congr 2;exact DC fun n _=>by rw[ef]⟩
theorem gq.dt {d:PyData} (s:gq d) (r:Rep H v d) (np:∀b xs,H b=some (.tup xs)->b≠p):Dt p H v d:=by
 cases s with
 |add n =>
  obtain⟨a,u,rfl,ha,r1⟩:=two1 r;obtain rfl:=r1.pG;exact .tup (np _ _ ha) ha (.cons (.str _) (.cons (.int _) .nil))
 |times n =>
  obtain⟨a,u,rfl,ha,r1⟩:=two1 r;obtain rfl:=r1.pG;exact .tup (np _ _ ha) ha (.cons (.str _) (.cons (.int _) .nil))
 |ask x =>
  obtain⟨a,u,rfl,ha,r1⟩:=two1 r;obtain rfl:=r1.n9;exact .tup (np _ _ ha) ha (.cons (.str _) (.cons (.str _) .nil))
 |ud =>
  obtain⟨a,vs,rfl,ha,rs⟩:=r.tupI;obtain⟨v0,w0,rfl,r0,rs⟩:=rs.mF;obtain rfl:=rs.x9;obtain rfl:=r0.n9;exact .tup (np _ _ ha) ha (.cons (.str _) .nil)
theorem OD (np:∀b xs,H b=some (.tup xs)->b≠p) {ds:List PyData} (r:cB H vs ds) (h:∀d∈ds,gq d):bG p H vs ds:=by
 induction vs generalizing ds with
 |nil=>cases r;exact .nil
 |cons x xs ih=>cases r with|cons r rs=>exact .cons ((h _ bu).dt r np) (ih rs fun d hd=>h d (bO _ hd))
theorem Ent.dt {d:PyData} (s:Ent d) (r:Rep H v d) (np:∀b xs,H b=some (.tup xs)->b≠p):Dt p H v d:=by
 cases s with
 |plain n =>
  obtain⟨a,u,rfl,ha,r1⟩:=two1 r;obtain rfl:=r1.pG;exact .tup (np _ _ ha) ha (.cons (.str _) (.cons (.int _) .nil))
 |ahead x n =>
  obtain⟨a,vs,rfl,ha,rs⟩:=r.tupI;obtain⟨v0,w0,rfl,r0,rs⟩:=rs.mF;obtain⟨v1,w1,rfl,r1,rs⟩:=rs.mF;obtain⟨v2,w2,rfl,r2,rs⟩:=rs.mF;obtain rfl:=rs.x9;obtain rfl:=r0.n9;obtain rfl:=r1.n9;obtain rfl:=r2.pG;exact .tup (np _ _ ha) ha (.cons (.str _) (.cons (.str _) (.cons (.int _) .nil)))
 |behind ds h4 hs =>
  obtain⟨a,u,rfl,ha,r1⟩:=two1 r;obtain⟨b,vs,rfl,hb,rs⟩:=r1.tupI;exact .tup (np _ _ ha) ha (.cons (.str _) (.cons (.tup (np _ _ hb) hb (OD np rs hs)) .nil))
 |uL ds h4 hs =>
  obtain⟨a,u,rfl,ha,r1⟩:=two1 r;obtain⟨b,vs,rfl,hb,rs⟩:=r1.tupI;exact .tup (np _ _ ha) ha (.cons (.str _) (.cons (.tup (np _ _ hb) hb (OD np rs hs)) .nil))
theorem gq.bulk {d:PyData} (s:gq d):d.bulk<=20:=by
 cases s with
 |add n h=>show PyData.bulkAll [.str "add",.int n]<=20;simp only[PyData.bulkAll,PyData.bulk];exact(by decide +kernel:(("add" : Str).cps.size+1+(0+1+0))<=20)
 |times n lo hi=>show PyData.bulkAll [.str "times",.int n]<=20;simp only[PyData.bulkAll,PyData.bulk];exact(by decide +kernel:(("times" : Str).cps.size+1+(0+1+0))<=20)
 |ud=>decide +kernel
 |ask x h =>
  have:x.cps.size<=8:=h.hi;show PyData.bulkAll [.str "ask",.str x]<=20;simp only[PyData.bulkAll,PyData.bulk];have e:("ask" : Str).cps.size=3:=by decide +kernel
  omega
theorem Eo:∀ {ds:List PyData},(∀d∈ds,gq d)->PyData.bulkAll ds<=21 * ds.length
 |[],_=>bR _
 |d::ds,h=>by
  have g:=(h d bu).bulk;have b:=Eo (ds:=ds) fun e he=>h e (bO _ he);simp only[PyData.bulkAll,cO];omega
theorem Ent.sm {d:PyData} (s:Ent d):Sm d:=by
 show d.bulk<=100000;cases s with
 |plain n h=>show PyData.bulkAll [.str "plain",.int n]<=100000;simp only[PyData.bulkAll,PyData.bulk];exact(by decide +kernel:(("plain" : Str).cps.size+1+(0+1+0))<=100000)
 |ahead x n h hn =>
  have:x.cps.size<=8:=h.hi;show PyData.bulkAll [.str "ahead",.str x,.int n]<=100000;simp only[PyData.bulkAll,PyData.bulk];have e:("ahead" : Str).cps.size=5:=by decide +kernel
  omega
 |behind ds h4 hs =>
  have b:=Eo hs;show PyData.bulkAll [.str "behind",.tuple ds]<=100000;simp only[PyData.bulkAll,PyData.bulk];have e:("behind" : Str).cps.size=6:=by decide +kernel
  omega
 |uL ds h4 hs =>
  have b:=Eo hs;show PyData.bulkAll [.str "shut",.tuple ds]<=100000;simp only[PyData.bulkAll,PyData.bulk];have e:("shut" : Str).cps.size=4:=by decide +kernel
  omega
theorem PB (h:Nm x):x ≠ "" :=fun e=>by
 have:=h.lo;rw[e]at this;exact absurd this (by decide +kernel)
theorem Gz (h:Nm x):Sm (.str x):=by have:=h.hi;show x.length<=100000;omega
theorem FV {b:Str} (h1:b ≠ "") (h2:b ∉ line):jw line (.str b)=false:=dZ fun z=>z.elim h1 h2
theorem aaB {d:PyData} (o:pJ d) (sub:∀y∈line,y∈ks) (nm:∀y∈ks,Nm y):jw line d=false:=by
 cases d with
 |str b=>exact FV (o.no b rfl).1 fun z=>(o.no b rfl).2 (nm b (sub b z))
 |_=>rfl
theorem N0 {d:PyData} (o:pJ d):cY d=false:=by
 cases d with
 |str b =>
  cases e:fh b with
  |false=>exact e
  |true=>exact absurd (w9 e) (o.no b rfl).2
 |_=>rfl
theorem Zn {d:PyData} (o:pJ d):d6 ks d=false:=Oz (N0 o)
theorem Zo (h:x ∉ ks):d6 ks (.str x)=false:=by
 show(fh x && decide (x∈ks))=false;rw[dZ h,V3]
theorem DV {o:HO} (ha:H a=none) (hb:H b=some o):a≠b:=fun e=>by rw[e,hb]at ha;cases ha
theorem BM {jv C:V->Hp->Prop} (h1:(∀v H,jv v H->C v H)->G) (h2:∀v H,jv v H->C v H):G:=h1 h2
theorem acY (h:i < line.length+1):∃b:Str,(line.map V.str ++ [V.str ""])[i]? = some (.str b)/\(b = "" \/ b∈line):=by
 by_cases c:i < line.length
 ·exact⟨line[i],by rw[Vm (by rw[aE];exact c),eK,bC c];rfl,.inr (f9 c)⟩
 ·refine⟨"",?_,.inl rfl⟩
  rw[Lf (by rw[aE];omega),aE,show i - line.length=0 by omega];rfl
noncomputable abbrev Ky:List Str:= ["_law_pot_here","_law_lines","_law_book_here","_law_names_here","_law_spares"]
noncomputable abbrev Ub:List Str:= ["_law_pot_here","_law_lines","_law_book_here","_law_names_here","_law_spares","_law_bad","_law_kind","_law_at","_law_name","_law_entry_here","_law_out","_law_behind"]
theorem kA:bK Ub Ky (aM xJ):=b6
noncomputable abbrev eAr:Expr:=fV (b5 (b4 xJ) 5)
theorem Rh:b8 Ub (aM xJ) ["_law_one","_law_lines","_law_kind"] [none,some 1,some 6] (cK eAr):=dH
abbrev nC (p lb:Addr) (H:Hp) (v:V) (d:PyData):Prop:=Dt p H v d/\Dt lb H v d
theorem nC.fq {lb:Addr}{d:PyData} (h:nC p lb H v d) (pa:aY p H H'):nC p lb H' v d:=⟨h.1.keep pa.kp,h.2.uo pa.kp h.1⟩
structure aex (p d1 ln sp:Addr) (H:Hp) (bf:List (Key×V)) (ks ns:List Str) (L:Str->List Str) (s0 s1:Str):Prop where
 pk:d9 p H
 h1:H d1=some (.dK bf)
 k1:bf.map (·.1)=ks.map Sum.inr
 l1:∀x∈ks,eI H bf L x
 ne:ks ≠ []
 k8:ks.length<=8
 ie:∀x∈ks,Nm x
 ll:∀x∈ks,(L x).length<=200
 sub:∀x∈ks,∀y∈L x,y∈ks
 nn:nj H ln ns
 hs:H sp=some (.lst [.str s0,.str s1])
 z0:Nm s0/\s0 ∉ ks
 z1:Nm s1/\s1 ∉ ks
abbrev ArQ (p:Addr) (H:Hp) (ks ns:List Str) (L:Str->List Str) (Q:VK):Prop:= ∀ (r la lb:Addr) (vk vn ve vb:V) (dk dn de db:PyData) (b0 b1 b2 b3:Bool) (H':Hp),aY p H H'->H lb=none->la≠lb->H' r=some (.tup [.ref la,.ref lb])->H' la=some (.lst [vk,vn,ve,vb])->H' lb=some (.lst [.bl b0,.bl b1,.bl b2,.bl b3])->Arg lb H' ks L vk vn ve vb dk dn de db b0 b1 b2 b3->(b1=false -> ∃n,dn = .str n/\n∈ns)->Q (.ref r) H'
inductive BN (vs:List V) (H:Hp) (Q:VK) (E:XK):Prop
 |mk {p d1 d ln sp:Addr}{bf:List (Key×V)}{ks ns:List Str}{L:Str->List Str}{s0 s1:Str} (_:vs = [.ref p,.ref d1,.ref d,.ref ln,.ref sp]) (_:aex p d1 ln sp H bf ks ns L s0 s1) (_:ArQ p H ks ns L Q):BN vs H Q E
theorem acZ {fO fX:Addr}{dO dX:FuncData} (F:a6 K "_law_args" "_law_args" xJ f fd) (B:dY mg)
  (GD:bh P w K mg base aK 1 fD dD ["_law_pot_here","_law_many"] jO "_law_digit")
  (GE:bh P w K mg base aK 4 fE dE ["_law_pot_here","_law_names_here","_law_at"] ux "_law_entry")
  (GO:bh P w K mg base aK 2 fO dO Kc uN "_law_odd_name")
  (GX:bh P w K mg base aK 2 fX dX Kg BJ "_law_odd_entry"):a9 P w K mg base aK 5 f fd Ky BN:=by
 refine F.ok kA (fun vs H Q E h=>?_) (fun aG A outer s H vs Q E hr h=>?_)
 ·obtain⟨rfl,_⟩:=h;rfl
 ·obtain @⟨p,d1,d,ln,sp,bf,ks,ns,L,s0,s1,rfl,ai,q⟩:=h
  have jg:aV 4 _:=hr;have cW:aV 2 _:=jg.mono (by decide)
  have aZ:aV 1 _:=jg.mono (by decide)
  have hu:=hr.units;have cy:=iS hu;refine⟨_,aB (aW (i:=5) kA.nd rfl (Or.inl rfl) (cw (aa (gx dw (aU GD aZ (aa (pv 0) (aa ao af))) ao (bz _)) (aa (gx dw (aU GD aZ (aa (pv 0) (aa ao af))) ao (bz _)) (aa (gx dw (aU GD aZ (aa (pv 0) (aa ao af))) ao (bz _)) (aa (gx dw (aU GD aZ (aa (pv 0) (aa ao af))) ao (bz _)) af))))))
   (aB (aW (i:=6) kA.nd rfl (Or.inr rfl) (aP bE (f' (DX rfl) rfl B.list boot_list (aa (pv 1) af)) (aU GD aZ (aa (pv 0) (aa (bJ X3 rfl B.len gs (aa (pv 1) af)) af)))))
   (aB (aW (i:=7) kA.nd rfl (Or.inl rfl) (aU GD aZ (aa (pv 0) (aa (bJ gu rfl B.len gs (aa (pv 3) af)) af))))
   (aB (aW (i:=8) kA.nd rfl (Or.inl rfl) (aP bE (pv 3) (pv 7)))
   (aB (aW (i:=9) kA.nd rfl (Or.inl rfl) (aU GE jg (aa (pv 0) (aa (pv 3) (aa (pv 7) af)))))
   (aB (qI rfl Rh kA.nd (i:=10) rfl rfl (Oc (pv 1)) (fun s H fp=>⟨bw (i:=0) Rh.nd rfl (Or.inl rfl),jL (bU (Ml K rfl) (pv 0) (jl cy (pv 1) (pv 2)) rfl),pv 0⟩))
   (aB (aW (i:=11) kA.nd rfl (Or.inl rfl) (YZ (aP bE (bA qX (jl cy (pv 1) (pv 6)) (cw (aa cu af))) (aU GD aZ (aa (pv 0) (aa (bA iN (bJ gu rfl B.len gs (aa (jl cy (pv 1) (pv 6)) af)) ao) af))))))
   (aB (bY (i7 (aP bE (pv 5) ao)) (aN (aW (i:=11) kA.nd rfl (Or.inl rfl) (aP bE (bA qX (pv 10) (cw (aa (aP bE (pv 4) ao) (aa (aU GO cW (aa (pv 0) (aa (aP bE (pv 4) ao) (aa (pv 6) af)))) af)))) (aU GD aZ (aa (pv 0) (aa (bA iN (bJ gu rfl B.len gs (aa (pv 10) af)) ao) af)))))) cf)
   (aB (bY (i7 (aP bE (pv 5) ao)) (aN (aW (i:=6) kA.nd rfl (Or.inr rfl) (aP bE (cw (aa (aP bE (pv 4) ao) (aa (aU GO cW (aa (pv 0) (aa (aP bE (pv 4) ao) (aa (pv 6) af)))) af))) (aU GD aZ (aa (pv 0) (aa ao af)))))) cf)
   (aB (bY (i7 (aP bE (pv 5) ao)) (aN (aW (i:=8) kA.nd rfl (Or.inl rfl) (aU GO cW (aa (pv 0) (aa (aP bE (pv 4) ao) (aa (pv 8) af)))))) cf)
   (aB (bY (i7 (aP bE (pv 5) ao)) (aN (aW (i:=9) kA.nd rfl (Or.inl rfl) (aU GX cW (aa (pv 0) (aa (aP bE (pv 3) (pv 7)) af))))) cf)
   (my (cg (aa (cw (aa (pv 6) (aa (pv 8) (aa (pv 9) (aa (pv 11) af))))) (aa (pv 5) af)))))))))))))),?_⟩
  have sz:∀n:Nat,n<=1000->n<=sizeLine:=fun n h=>by rw[aQ];omega
  obtain⟨y0,y1,e0,_⟩:=id ai.pk;have oK:d1≠p:=aX ai.h1 e0
  have C5:ln≠p:=jj ai.pk ai.nn.hl;have nsp:sp≠p:=jj (xs:= [s0,s1]) ai.pk ai.hs;have anq:0 < ks.length:=qF.mpr ai.ne;have anr:0 < ns.length:=qF.mpr ai.nn.ne;have k8:=ai.k8;have JY:=ai.nn.bV;have CY:∀o u,H d1≠some (.aR o u):=fun o u e=>by rw[ai.h1]at e;cases e
  have JO:bf.length=ks.length:=by have:=eJ List.length ai.k1;simpa using this
  refine⟨_,rfl,cF (p:=p) (m:=4) ai.pk (by decide) (by decide) fun x0 H1 _ _ p1=>⟨rfl,_,rfl,cF (p:=p) (m:=3) p1.ok (by decide) (by decide) fun x1 H2 _ _ p2=>⟨rfl,_,rfl,cF (p:=p) (m:=3) p2.ok (by decide) (by decide) fun x2 H3 _ _ p3=>⟨rfl,_,rfl,cF (p:=p) (m:=3) p3.ok (by decide) (by decide) fun x3 H4 _ _ p4=>⟨rfl,sz 4 (by decide),fun lb qy=>?_⟩⟩⟩⟩⟩
  have P4:=((p1.trans p2).trans p3).trans p4;generalize decide (V.int x0=V.int 0)=b0;generalize decide (V.int x1=V.int 0)=b1;generalize decide (V.int x2=V.int 0)=b2;generalize decide (V.int x3=V.int 0)=b3;have P5:=P4.new (o:= .lst [V.bl b0,V.bl b1,V.bl b2,V.bl b3]) qy;have Ri:upd H4 lb (.lst [V.bl b0,V.bl b1,V.bl b2,V.bl b3]) lb=some (.lst [V.bl b0,V.bl b1,V.bl b2,V.bl b3]):=ag;have aey:H lb=none:=P4.free qy;have nlb:lb≠p:=ba (P4.ok.ne qy);generalize upd H4 lb (.lst [V.bl b0,V.bl b1,V.bl b2,V.bl b3])=H5 at P5 Ri ⊢;refine⟨_,rfl,d1,bf,rfl,P5.kp _ _ ai.h1 oK,fun l hl=>?_⟩;have ek:bf.map (fun kv=>kV kv.1)=ks.map V.str:=by
   have:bf.map (fun kv=>kV kv.1)=(bf.map (·.1)).map kV:=by rw[md];rfl
   rw[this,ai.k1,md];rfl
  rw[ek];have Q6:=(aY.refl P5.ok).new (o:= .lst (ks.map V.str)) hl;have qe:upd H5 l (.lst (ks.map V.str)) l=some (.lst (ks.map V.str)):=ag;have lR:l≠p:=ba (P5.ok.ne hl);generalize upd H5 l (.lst (ks.map V.str))=H6 at Q6 qe ⊢;have P6:=P5.trans Q6;refine⟨_,rfl,_,rfl,d1,bf,rfl,P6.kp _ _ ai.h1 oK,?_⟩;rw[JO];refine cF (p:=p) (m:=(ks.length:Int)) P6.ok (by omega) (by omega) fun jk H7 c0 c1 p7=>?_
  obtain⟨j,rfl⟩:=gK c0;have hj:j < ks.length:=by omega
  refine⟨l,_,(j:Int),.str ks[j],rfl,rfl,aj.of (p7.kp _ _ qe lR),b9 (by rw[eK,bC hj];rfl),?_⟩
  have eF:ks[j]∈ks:=f9 hj;generalize ks[j]=kind at eF ⊢;have Q7:=Q6.trans p7;have P7:=P5.trans Q7;clear p7 qe lR Q6 P6;refine⟨_,rfl,_,rfl,ln,_,rfl,.inl (aj.of (P7.kp _ _ ai.nn.hl C5)),?_⟩;rw[aE];refine cF (p:=p) (m:=(ns.length:Int)) P7.ok (by omega) (by omega) fun jx H8 c0 c1 p8=>?_
  obtain⟨jn,rfl⟩:=gK c0;have y9:jn < ns.length:=by omega
  have Q8:=Q7.trans p8;have P8:=P5.trans Q8;have sC:(ns.map V.str)[jn]? = some (V.str ns[jn]):=by rw[eK,bC y9];rfl
  have gp:ns[jn]∈ns:=f9 y9;generalize ns[jn]=name at sC gp;refine⟨_,rfl,_,rfl,ln,_,(jn:Int),.str name,rfl,rfl,aj.of (P8.kp _ _ ai.nn.hl C5),b9 sC,?_⟩;refine⟨_,rfl,_,rfl,_,rfl,ux.mk rfl (p:=p) (k:=jn) P8.ok (P8.kp _ _ ai.nn.hl C5) ai.nn.ne JY ai.nn.nm fun ve0 de0 H9 p9 re en=>?_⟩;have Q9:=Q8.trans p9;have P9:=P5.trans Q9;clear p8 p9 Q7 P7 Q8 P8;have C6:=P9.kp _ _ ai.h1 oK;obtain⟨la,ea,eG⟩:=(ai.l1 kind eF).fq ai.pk P9;have ll:=ai.ll kind eF;refine⟨_,rfl,d1,bf,rfl,.inl ⟨C6,fun o c hc=>?_⟩⟩;have e7:∀b u,b≠d1->H9 b=some u->upd H9 d1 (.aR o (.dK bf)) b=some u:=fun b u n e=>by rw[ah n];exact e
  have cX:upd H9 d1 (.aR o (.dK bf)) d1=some (.aR o (.dK bf)):=ag;have eN:=e7 _ _ (aX eG C6) eG
  have Uc:H9 c=none:=by
   by_cases z:c=d1
   ·rw[z,cX]at hc;cases hc
   ·rwa [ah z]at hc
  generalize upd H9 d1 (.aR o (.dK bf))=HF at e7 cX eN hc ⊢;refine MU (fun i ys τ H2=>∃ (t0:Option V) (os:List Str),τ = [t0,some (.ref d1),some (.str kind)]/\H2 c=some (.lst ys)/\aq HF H2/\ys=os.map V.str/\os.length<=i /\ ∀y∈os,y∈ks/\y ∉ L kind) ⟨none,[],rfl,ag,ay hc,rfl,aO _,fun y hy=>(by cases hy)⟩ (fun i ys τ H2 hQ9=>by obtain⟨_,_,_,z1,z2,_⟩:=hQ9;exact ⟨z1,z2 _ _ cX⟩) ?_ ?_
  ·rintro i kv ys τ H2 dc ⟨t0,os,rfl,h2,S2,rfl,ol,zh⟩
   have bX:i < bf.length:=(cz.mp dc).1;obtain⟨x,hx,ex⟩:=OT ai.k1 dc;rw[ex];refine⟨_,rfl,_,rfl,_,rfl,d1,.ref la,rfl,.inl ⟨bf,Sum.inr kind,.inr ⟨o,S2 _ _ cX⟩,rfl,ea.symm⟩,la,_,rfl,.inl (aj.of (S2 _ _ eN)),rfl,mq _,_,rfl,?_⟩;rw[aF rfl,show kV (Sum.inr x)=V.str x from rfl,oV];refine cG (fun cx=>?_) (fun cx=>?_)
   ·refine⟨_,rfl,h2,by rw[aE];exact Nat.lt_of_le_of_lt ol (by rw[aQ];omega),cw_next bX ⟨_,os ++ [x],rfl,ag,fun b u e=>by rw[ah (aA e hc)];exact S2 _ _ e,by rw[bZ];rfl,by rw[fu,nN];omega,fun y hy=>?_⟩⟩
    rcases ff.mp hy with z|z
    ·exact zh y z
    ·rw[fw.mp z]
     exact⟨jH hx,fun w=>by rw[cm w]at cx;cases cx⟩
   ·exact cw_next bX ⟨_,os,rfl,h2,S2,rfl,by omega,zh⟩
  rintro ys τ u7 ⟨t0,os,rfl,C7,nD,rfl,ol,zh⟩;rw[JO]at ol;have lL:=nD _ _ cX;have uB:=nD _ _ eN;refine⟨_,rfl,_,rfl,d1,.ref la,rfl,.inl ⟨bf,Sum.inr kind,.inr ⟨o,lL⟩,rfl,ea.symm⟩,sz 1 (by decide),fun c2 cU=>?_⟩
  have T2:=ay (o:= .lst [V.str ""]) cU;refine⟨la,c2,_,_,rfl,rfl,T2 _ _ uB,ag,by rw[aE];exact sz _ (by show _+1<=_;omega),fun c3 iD=>?_⟩
  have T3:=T2.trans (ay (o:= .lst ((L kind).map V.str ++ [V.str ""])) iD);have HY:upd (upd u7 c2 (.lst [V.str ""])) c3 (.lst ((L kind).map V.str ++ [V.str ""])) c3=some (.lst ((L kind).map V.str ++ [V.str ""])):=ag;generalize upd (upd u7 c2 (.lst [V.str ""])) c3 (.lst ((L kind).map V.str ++ [V.str ""]))=RX at T3 HY ⊢;obtain⟨q0,q1,e9,e9'⟩:=id P9.ok;have Cb:=T3 _ _ (nD _ _ (e7 _ _ (ba oK) e9));have Rj:d9 p RX:=⟨q0,q1,Cb,e9'⟩;have Ud:c3≠p:=fun z=>by rw[z,T2 _ _ (nD _ _ (e7 _ _ (ba oK) e9))]at iD;cases iD
  refine⟨_,rfl,_,rfl,_,rfl,d1,.ref la,rfl,.inl ⟨bf,Sum.inr kind,.inr ⟨o,T3 _ _ lL⟩,rfl,ea.symm⟩,la,_,rfl,.inl (aj.of (T3 _ _ uB)),_,_,rfl,rfl,?_⟩;rw[aE];refine cF (p:=p) (m:=((L kind).length:Int)+1) Rj (by omega) (by omega) fun ib Kz g0 g1 vM=>?_
  obtain⟨jb,rfl⟩:=gK g0;obtain⟨a7,Rk,aez⟩:=acY (line:=L kind) (i:=jb) (by omega)
  refine⟨c3,_,(jb:Int),.str a7,rfl,rfl,aj.of (vM.kp _ _ HY Ud),b9 Rk,d1,o,bf,vM.kp _ _ (T3 _ _ lL) oK,CY,?_⟩;have y8:c≠p:=DV Uc e9;have ncd:c≠d1:=DV Uc C6;have KA:aY p H9 (upd Kz d1 (.dK bf)):=by
   refine⟨?_,fun b u e n=>?_⟩
   ·obtain⟨a1,a2,a3,a4⟩:=vM.ok
    exact⟨a1,a2,by rw[ah (ba oK)];exact a3,a4⟩
   ·by_cases z:b=d1
    ·rw[z]at e ⊢;rw[ag,<-e,C6]
    ·rw[ah z];exact vM.kp _ _ (T3 _ _ (nD _ _ (e7 _ _ z e))) n
  have HZ:upd Kz d1 (.dK bf) c=some (.lst (os.map V.str)):=by rw[ah ncd];exact vM.kp _ _ (T3 _ _ C7) y8
  generalize upd Kz d1 (.dK bf)=Ue at KA HZ ⊢;clear Cb Rj Ud T2 T3 HY lL uB nD C7 e7 cX eN hc vM Rk g1;have aeA:=en.keep re (Aw P9.ok KA);have vN:=Q9.trans KA;have KC:=P5.trans vN;have pL:∀ {G:Hp},aY p H5 G->G lb=some (.lst [V.bl b0,V.bl b1,V.bl b2,V.bl b3]):=fun pa=>pa.kp _ _ Ri nlb;have yc:∀ {G:Hp},aY p H5 G->G sp=some (.lst [V.str s0,V.str s1]):=fun pa=>(P5.trans pa).kp _ _ ai.hs nsp;have C8:∀ {G G':Hp}{u:V}{du:PyData},aY p H5 G->sI G G' u du->nC p lb G' u du:=fun pa h=>by
   obtain⟨a1,a2,a3,_⟩:=id pa.ok;exact⟨h p _ a3,h lb _ (pL pa)⟩
  refine⟨_,rfl,lb,_,3,_,rfl,rfl,aj.of (pL vN),BL,_,rfl,?_⟩
  apply BM (jv:=fun v G=>aY p Ue G /\ ∃db,nC p lb G v db/\jw (L kind) db = !b3)
  ·intro k
   refine cG (fun e3=>?_) (fun e3=>?_)
   ·refine⟨_,rfl,_,rfl,sp,_,0,_,rfl,rfl,aj.of (yc vN),eh,_,rfl,_,rfl,sp,_,0,_,rfl,rfl,aj.of (yc vN),eh,_,rfl,uN.mk rfl KC.ok ai.z0.1 (ai.ie kind eF) fun u du G1 iE sP od=>?_⟩
    refine⟨sz 2 (by decide),fun c4 iW=>?_⟩
    have sQ:=(aY.refl iE.ok).new (o:= .lst [V.str s0,u]) iW;have BW:=(iE.trans sQ).kp _ _ HZ y8;refine⟨c,c4,_,_,rfl,rfl,BW,ag,by rw[aE];exact sz _ (by show _+2<=_;omega),fun c5 jf=>?_⟩
    have C9:=sQ.new (o:= .lst (os.map V.str ++ [V.str s0,u])) jf;have nc5:c5≠p:=ba (sQ.ok.ne jf);have Rl:upd (upd G1 c4 (.lst [V.str s0,u])) c5 (.lst (os.map V.str ++ [V.str s0,u])) c5=some (.lst (os.map V.str ++ [V.str s0,u])):=ag;generalize upd (upd G1 c4 (.lst [V.str s0,u])) c5 (.lst (os.map V.str ++ [V.str s0,u]))=G3 at C9 Rl ⊢;refine⟨_,rfl,_,rfl,c,_,rfl,.inl (aj.of ((iE.trans C9).kp _ _ HZ y8)),_,_,rfl,rfl,?_⟩;rw[aE];refine cF (p:=p) (m:=(os.length:Int)+2) C9.ok (by omega) (by omega) fun ib G4 f0 f1 zi=>?_
    obtain⟨j4,rfl⟩:=gK f0;have yd:=C9.trans zi;have dU:=(C8 vN sP).fq yd;obtain⟨v,db,hv,gj,lF⟩:∃v db,(os.map V.str ++ [V.str s0,u])[j4]? = some v/\nC p lb G4 v db/\jw (L kind) db=false:=by
     by_cases cc:j4 < os.length
     ·exact⟨.str os[j4],.str os[j4],by rw[Vm (by rw[aE];exact cc),eK,bC cc];rfl,⟨.str _,.str _⟩,FV (PB (ai.ie _ (zh _ (f9 cc)).1)) (zh _ (f9 cc)).2⟩
     ·rcases (by omega:j4 - os.length=0\/j4 - os.length=1) with z|z
      ·exact⟨.str s0,.str s0,by rw[Lf (by rw[aE];omega),aE,z];rfl,⟨.str _,.str _⟩,FV (PB ai.z0.1) fun y=>ai.z0.2 (ai.sub kind eF _ y)⟩
      ·exact⟨u,du,by rw[Lf (by rw[aE];omega),aE,z];rfl,dU,aaB od (ai.sub kind eF) ai.ie⟩
    refine⟨c5,_,(j4:Int),v,rfl,rfl,aj.of (zi.kp _ _ Rl nc5),b9 hv,?_⟩;exact k v G4 ⟨iE.trans yd,db,gj,by rw[lF,e3];rfl⟩
   ·exact k (.str a7) Ue ⟨aY.refl KC.ok,.str a7,⟨.str _,.str _⟩,by rw[show jw (L kind) (.str a7)=true from cm aez];cases b3 <;> first|rfl|exact absurd rfl e3⟩
  intro vb G8 nW;obtain⟨R8,db,dB8,lF⟩:=nW;have Q8:=vN.trans R8;have P8:=P5.trans Q8;refine⟨_,rfl,lb,_,0,_,rfl,rfl,aj.of (pL Q8),eh,_,rfl,?_⟩
  apply BM (jv:=fun v G=>aY p G8 G /\ ∃dk,nC p lb G v dk/\Sm dk/\d6 ks dk = !b0/\(b0=false->dk = .str kind))
  ·intro k
   refine cG (fun e3=>?_) (fun e3=>?_)
   ·refine⟨_,rfl,sp,_,1,_,rfl,rfl,aj.of (yc Q8),g8,_,rfl,_,rfl,sp,_,0,_,rfl,rfl,aj.of (yc Q8),eh,_,rfl,uN.mk rfl P8.ok ai.z0.1 (ai.ie kind eF) fun u du G1 iE sP od=>?_⟩
    refine⟨sz 2 (by decide),fun c4 iW=>?_⟩
    have sQ:=(aY.refl iE.ok).new (o:= .lst [V.str s1,u]) iW;have nc4:c4≠p:=ba (iE.ok.ne iW);have Rm:upd G1 c4 (.lst [V.str s1,u]) c4=some (.lst [V.str s1,u]):=ag;generalize upd G1 c4 (.lst [V.str s1,u])=G2 at sQ Rm ⊢;refine⟨_,rfl,cF (p:=p) (m:=2) sQ.ok (by decide) (by decide) fun ib G4 f0 f1 zi=>?_⟩
    obtain⟨j4,rfl⟩:=gK f0;have yd:=sQ.trans zi;have dU:=(C8 Q8 sP).fq yd;obtain⟨v,dk,hv,vJ,ia,kF⟩:∃v dk,[V.str s1,u][j4]? = some v/\nC p lb G4 v dk/\Sm dk/\d6 ks dk=false:=by
     rcases (by omega:j4=0\/j4=1) with rfl|rfl
     ·exact⟨.str s1,.str s1,rfl,⟨.str _,.str _⟩,Gz ai.z1.1,Zo ai.z1.2⟩
     ·exact⟨u,du,rfl,dU,od.sm,Zn od⟩
    refine⟨c4,_,(j4:Int),v,rfl,rfl,aj.of (zi.kp _ _ Rm nc4),b9 hv,?_⟩;exact k v G4 ⟨iE.trans yd,dk,vJ,ia,by rw[kF,e3];rfl,fun z=>by rw[e3]at z;cases z⟩
   ·exact k (.str kind) G8 ⟨aY.refl P8.ok,.str kind,⟨.str _,.str _⟩,Gz (ai.ie kind eF),by rw[NY eF (ai.ie kind eF)];cases b0 <;> first|rfl|exact absurd rfl e3,fun _=>rfl⟩
  intro vk G9 nW;obtain⟨R9,dk,dK9,smk,kF,C4⟩:=nW;have dB9:=dB8.fq R9;have zj:=Q8.trans R9;have Ug:=P5.trans zj;refine⟨_,rfl,lb,_,1,_,rfl,rfl,aj.of (pL zj),g8,_,rfl,?_⟩
  apply BM (jv:=fun v G=>aY p G9 G /\ ∃dn,nC p lb G v dn/\Sm dn/\cY dn = !b1/\(b1=false -> ∃n,dn = .str n/\n∈ns))
  ·intro k
   refine cG (fun e3=>?_) (fun e3=>?_)
   ·refine⟨_,rfl,_,rfl,sp,_,0,_,rfl,rfl,aj.of (yc zj),eh,_,rfl,uN.mk rfl Ug.ok ai.z0.1 (ai.nn.nm name gp) fun u du G1 iE sP od=>?_⟩
    exact k u G1 ⟨iE,du,C8 zj sP,od.sm,by rw[N0 od,e3];rfl,fun z=>by rw[e3]at z;cases z⟩
   ·exact k (.str name) G9 ⟨aY.refl Ug.ok,.str name,⟨.str _,.str _⟩,Gz (ai.nn.nm name gp),by rw[show cY (.str name)=true from wQ (ai.nn.nm name gp)];cases b1 <;> first|rfl|exact absurd rfl e3,fun _=>⟨name,rfl,gp⟩⟩
  intro vn GA nW;obtain⟨RA,dn,dNA,smn,yN,lX⟩:=nW;have dBA:=dB9.fq RA;have dKA:=dK9.fq RA;have QA:=zj.trans RA;have Dc:=P5.trans QA;refine⟨_,rfl,lb,_,2,_,rfl,rfl,aj.of (pL QA),By,_,rfl,?_⟩
  apply BM (jv:=fun v G=>aY p GA G /\ ∃de,nC p lb G v de/\Sm de/\dj de = !b2/\(dj de=true->Rep G v de/\Ent de))
  ·intro k
   refine cG (fun e3=>?_) (fun e3=>?_)
   ·refine⟨_,rfl,_,rfl,_,rfl,ln,_,(jn:Int),.str name,rfl,rfl,aj.of (Dc.kp _ _ ai.nn.hl C5),b9 sC,BJ.mk rfl Dc.ok (ai.nn.nm name gp) fun u du G1 iE sP od=>?_⟩
    exact k u G1 ⟨iE,du,C8 QA sP,od.sm,by rw[od.no,e3];rfl,fun z=>by rw[od.no]at z;cases z⟩
   ·have KG:=en.keep aeA (Aw KC.ok ((R8.trans R9).trans RA))
    have npA:∀b xs,GA b=some (.tup xs)->b≠p:=fun b xs e=>by
     obtain⟨_,_,z,_⟩:=Dc.ok;exact aX e z (by intro w;cases w)
    have nlA:∀b xs,GA b=some (.tup xs)->b≠lb:=fun b xs e=>aX e (pL QA) (by intro w;cases w)
    exact k ve0 GA ⟨aY.refl Dc.ok,de0,⟨en.dt KG npA,en.dt KG nlA⟩,en.sm,by rw[OB en];cases b2 <;> first|rfl|exact absurd rfl e3,fun _=>⟨KG,en⟩⟩
  intro ve GB nW;obtain⟨RB,de,dEB,sme,CP,Uh⟩:=nW;have QB:=QA.trans RB;refine⟨_,rfl,_,rfl,_,rfl,_,rfl,sz 4 (by decide),fun qz Rn=>?_⟩
  have S1:=ay (o:= .lst [vk,vn,ve,vb]) Rn;have Ui:upd GB qz (.lst [vk,vn,ve,vb]) qz=some (.lst [vk,vn,ve,vb]):=ag;generalize upd GB qz (.lst [vk,vn,ve,vb])=GC at S1 Ui ⊢;refine⟨_,rfl,sz 2 (by decide),fun r CD=>?_⟩
  have S2:=ay (o:= .tup [V.ref qz,V.ref lb]) CD;have m4:upd GC r (.tup [V.ref qz,V.ref lb]) r=some (.tup [V.ref qz,V.ref lb]):=ag;generalize upd GC r (.tup [V.ref qz,V.ref lb])=GD' at S2 m4 ⊢;have SD:=S1.trans S2;exact q r qz lb vk vn ve vb dk dn de db b0 b1 b2 b3 GD' ((P5.trans QB).trans (Af QB.ok SD)) aey (DV Rn (pL QB)) m4 (S2 _ _ Ui) (SD _ _ (pL QB))
   ⟨Dt.same (dKA.fq RB).2 SD,smk,Dt.same (dNA.fq RB).2 SD,smn,Dt.same dEB.2 SD,sme,Dt.same (dBA.fq RB).2 SD,kF,yN,CP,fun z=>⟨(Uh z).1.same SD,(Uh z).2⟩,fun kd Dd e=>by rw[C4 Dd]at e;cases e;exact lF⟩ lX
def Ro:Nat->List Int|0=>[0,1,2]|1=>[0,1]|2=>[0,1,3]|_=>[0]
def ye (way:Nat) (bs:List Bool) (k:Nat):Bool:=bs.getD k false && pR (V.int (k:Int)) ((Ro way).map V.int)
def uP (way:Nat) (bs:List Bool):List Bool:=(List.range 4).map (ye way bs)
theorem OE (h:way < 4) (b0 b1 b2 b3:Bool):(pK way b0 b1 b2 b3=none->(uP way [b0,b1,b2,b3]).any id=false/\b0=false/\(way≠3->b1=false)/\(way=0->b2=false)/\(way=2->b3=false)) /\ ∀i,i < 4->pK way b0 b1 b2 b3=some i->(uP way [b0,b1,b2,b3]).any id=true/\(uP way [b0,b1,b2,b3])[i]? = some true /\ ∀m,m < i->(uP way [b0,b1,b2,b3])[m]? ≠ some true:=by
 rcases (by omega:way=0\/way=1\/way=2\/way=3) with rfl|rfl|rfl|rfl <;> cases b0 <;> cases b1 <;> cases b2 <;> cases b3 <;> decide +kernel
theorem abJ {tc td:TE}{g:TG}{rest:TS}{w nh:Bool} (ha:∀Q:VK,Q (.bl b1) H->ta σ H Q) (hb:∀Q:VK,Q (.bl w) H->tb σ H Q) (hc:∀Q:VK,Q (.bl b0) H->tc σ H Q) (hd:b1=false->w=true->b0=false -> ∀Q:VK,(∀G,aq H G->Q (.bl nh) G)->td σ H Q) (k:∀G,aq H G->g (.bl (b1 || (w && (!b0 && nh)))) σ G (rest D)):Bh (xO (GV ta (FY tb (FY (O3 tc) td))) g) rest D σ H:=by
 show GV ta _ σ H fun x H1=>g x σ H1 (rest D);refine ha _ ⟨b1,rfl,?_⟩;cases b1 with
 |true=>exact k H (aq.refl _)
 |false =>
  refine hb _ ⟨w,rfl,?_⟩;cases w with
  |false=>exact k H (aq.refl _)
  |true =>
   refine hc _ ⟨b0,rfl,!b0,rfl,?_⟩;cases b0 with
   |true=>exact k H (aq.refl _)
   |false=>exact hd rfl rfl rfl _ fun G S=>k G S
theorem Xq {vO:List Str} (h:∀x,x∈ks ↔ x∈vO) (d:PyData):d6 ks d=d6 vO d:=by
 cases d with
 |str x=>show(fh x && decide (x∈ks))=(fh x && decide (x∈vO));rw[we.mpr (h x)]
 |_=>rfl
section
variable{vk vn ve vb:V}{dk dn de db:PyData}
theorem Arg.keep (h:Arg p H ks L vk vn ve vb dk dn de db b0 b1 b2 b3) (k:∀b o,H b=some o->b≠p->H' b=some o) (kt:∀b xs,H b=some (.tup xs)->H' b=some (.tup xs)):Arg p H' ks L vk vn ve vb dk dn de db b0 b1 b2 b3:=
 ⟨h.rk.keep k,h.sk,h.rn.keep k,h.sn,h.re.keep k,h.se,h.rb.keep k,h.k,h.n,h.e,fun z=>⟨(h.ge z).2.keep (h.ge z).1 kt,(h.ge z).2⟩,h.b⟩
theorem Arg.kinds {vO:List Str} (h:Arg p H ks L vk vn ve vb dk dn de db b0 b1 b2 b3) (hk:∀x,x∈ks ↔ x∈vO):Arg p H vO L vk vn ve vb dk dn de db b0 b1 b2 b3:=
 ⟨h.rk,h.sk,h.rn,h.sn,h.re,h.se,h.rb,by rw[<-Xq hk];exact h.k,h.n,h.e,h.ge,h.b⟩
theorem Arg.kind (h:Arg p H ks L vk vn ve vb dk dn de db b0 b1 b2 b3) (hb:b0=false):∃k,dk = .str k/\vk = .str k/\k∈ks:=by
 have hk:=h.k;rw[hb]at hk;obtain⟨k,rfl,hm,_⟩:=xa (ks:=ks) (show d6 ks dk=true from hk);exact⟨k,rfl,iO h.rk,hm⟩
theorem Arg.aeB {kind:Str} (h:Arg p H ks L vk vn ve vb dk dn de db b0 b1 b2 b3) (e1:dk = .str kind) (e2:vk = .str kind) (hk:kind∈ks) (h0:b0=false) (h1:way≠3->b1=false) (h2:way=0->b2=false) (h3:way=2->b3=false) (hn:b1=false -> ∃n,dn = .str n/\n∈ns):Ra way H ks ns L kind vk vn ve vb dk dn de db:=by
 refine⟨⟨e2,e1,hk⟩,fun z=>?_,fun z=>?_,fun z=>?_⟩
 ·obtain⟨n,e,hm⟩:=hn (h1 z)
  subst e;exact⟨n,iO h.rn,rfl,hm⟩
 ·exact h.ge (by rw[h.e,h2 z];rfl)
 ·have hb:=h.b kind h0 e1
  rw[h3 z]at hb;have rb:=h.rb;cases db with
  |str b=>exact⟨b,iO rb,rfl,eT hb⟩
  |_=>cases hb
end
theorem Zp {bk aw:Bk}{k:Str} (pm:bk.Perm aw) (dv:cb H kvs aw):(bQ kvs [Sum.inr k,Sum.inr n]).isSome=mI bk (.str k) (.str n):=by
 show _=decide ([k,n]∈bk.map bg);rcases dv.val (k:=k) (n:=n) with⟨a,b⟩|⟨v,d,a,b,c⟩
 ·rw[a,dZ fun z=>b ((pm.map bg).mem_iff.mp z)];rfl
 ·rw[a,cm (show [k,n]∈bk.map bg from(pm.map bg).mem_iff.mpr (bT.mpr ⟨_,b,rfl⟩))];rfl
theorem Nd {t:Addr} (ht:H t=some (.tup [.str "refused",.ref l])) (hl:H l=some (.lst ((pz i).map V.bl))):Rep H (.ref t) (.tuple [.str "refused",.list ((pz i).map PyData.bool)]):= .tup ht (.cons (.str _) (.cons (.lst hl (.cons (.bl _) (.cons (.bl _) (.cons (.bl _) (.cons (.bl _) (.cons (.bl _) .nil)))))) .nil))
theorem Ep (i:Nat):(PyData.tuple [.str "refused",.list ((pz i).map PyData.bool)]).canLay0=true:=by
 unfold pz;show(PyData.strOk "refused" && _)=true;rw[show PyData.strOk "refused" = true by decide +kernel];rfl
theorem Er {D:PyData} (h:D.canLay0=true):(PyData.tuple [.str "told",D]).canLay0=true:=by
 show(PyData.strOk "told" && (D.canLay0 && true))=true;rw[h,show PyData.strOk "told" = true by decide +kernel];rfl
theorem WY {a b:List Str} (ha:a.Nodup) (hb:b.Nodup) (h:∀x,x∈a ↔ x∈b):a.Perm b:=by
 first|exact Mw ha hb h|exact(amZ ha hb).mpr h
theorem Yh {bk:Bk}{dk dn de db D D':PyData} (h:Told way L bk dk dn de db D) (h':Told way L bk dk dn de db D'):D=D':=by
 match way,h,h' with
 |0,h,h' =>
  obtain⟨k,n,a,e1,e2,p,so,rfl⟩:=h;obtain⟨k',n',a',iw,iT,p',nB,rfl⟩:=h';rw[e1]at iw;rw[e2]at iT;cases iw;cases iT;rw[ER so nB (p.trans p'.symm)]
 |1,h,h' =>
  obtain⟨k,n,a,e1,e2,p,so,rfl⟩:=h;obtain⟨k',n',a',iw,iT,p',nB,rfl⟩:=h';rw[e1]at iw;rw[e2]at iT;cases iw;cases iT;rw[ER so nB (p.trans p'.symm)]
 |2,h,h' =>
  obtain⟨k,n,b,e1,e2,e3,rfl⟩:=h;obtain⟨k',n',b',iw,iT,ot,rfl⟩:=h';rw[e1]at iw;rw[e2]at iT;rw[e3]at ot;cases iw;cases iT;cases ot;rfl
 |m+3,h,h' =>
  obtain⟨k,ss,e1,so,nd,mem,rfl⟩:=h;obtain⟨k',sy,iw,nB,nd',aeC,rfl⟩:=h';rw[e1]at iw;cases iw;have:ss=sy:=am3 (fun _ _ _ _ a b=>Nt a b) (Mn so) (Mn nB) (WY nd nd' fun x=>by rw[mem,aeC])
  rw[this]
theorem OF:∀ {ps:List (Str×Str)},(∀p∈ps,Nm p.1/\Nm p.2)->PyData.canLayAll0 (ps.map vH)=true/\PyData.depthAll (ps.map vH)<=2
 |[],_=>⟨rfl,by decide⟩
 |p::ps,h=>by
  obtain⟨b1,b2⟩:=OF fun x hx=>h x (bO _ hx);obtain⟨n1,n2⟩:=h p bu;refine⟨?_,?_⟩
  ·show((PyData.strOk p.1 && (PyData.strOk p.2 && true)) && PyData.canLayAll0 (ps.map vH))=true
   rw[pA n1,pA n2,b1];rfl
  ·rw[ck]
   simp only[PyData.depthAll,vH,PyData.depth];omega
theorem Zq {bk:Bk}{ss:List Str} (ok:iq bk) (h:∀y∈ss,bB bk y line≠none):∀p∈(ss.map fun n=>(n,pI (bB bk n line))),Nm p.1/\Nm p.2:=fun p hp=>by
 obtain⟨n,hn,rfl⟩:=bT.mp hp;cases e:bB bk n line with
 |none=>exact absurd e (h n hn)
 |some r =>
  have hm:=tF (Fj (x:=r.1) (d:=r.2) e).2;exact⟨(ok.nm _ hm).2,(ok.nm _ hm).1⟩
theorem Zr {bk:Bk}{dk dn de db D:PyData} (ok:iq bk) (hk:∀k,dk = .str k->Nm k) (hn:way=0 -> ∀n,dn = .str n->Nm n) (he:way=0->Ent de) (h:Told way L bk dk dn de db D):D.canLay0=true/\D.depth<=20:=by
 unfold Told at h;split at h
 ·obtain⟨k,n,a,e1,e2,p,so,rfl⟩:=h
  have m:∀q∈a,(Nm q.1/\Nm q.2.1)/\Ent q.2.2:=fun q hq=>by
   rcases ff.mp (p.mem_iff.mp hq) with z|z
   ·exact⟨ok.nm q (f6.mp z).1,ok.ent q (f6.mp z).1⟩
   ·rw[fw.mp z];exact⟨⟨hk k e1,hn rfl n e2⟩,he rfl⟩
  obtain⟨x,y⟩:=tU (fun q hq=>(m q hq).1) fun q hq=>(m q hq).2;exact⟨x,by show PyData.depthAll _+1<=20;omega⟩
 ·obtain⟨k,n,a,e1,e2,p,so,rfl⟩:=h
  obtain⟨x,y⟩:=tU (bk:=a) (fun q hq=>ok.nm q (f6.mp (p.mem_iff.mp hq)).1) fun q hq=>ok.ent q (f6.mp (p.mem_iff.mp hq)).1;exact⟨x,by show PyData.depthAll _+1<=20;omega⟩
 ·obtain⟨k,n,b,e1,e2,e3,rfl⟩:=h
  obtain⟨x,y⟩:=Zg (r:=bB bk n (eX (L k) b)) fun x d z=>qT ok x d z;exact⟨x,by omega⟩
 ·obtain⟨k,ss,e1,so,nd,mem,rfl⟩:=h
  obtain⟨x,y⟩:=OF (Zq (line:=L k) (ss:=ss) ok fun y hy=>(mem y).mp hy);exact⟨x,by show PyData.depthAll _+1<=20;omega⟩
noncomputable abbrev Rp:List Str:= ["_law_script","_law_pot_here","_law_alike","_law_words","_law_lines","_law_parents_here","_law_family_here","_law_names_here","_law_book_here","_law_handed","_law_k","_law_way","_law_args_here","_law_bad","_law_asked","_law_due_here","_law_turn","_law_told"]
theorem gM:bK Rp ["_law_script"] (aM xW):=b6
noncomputable abbrev nE:List Stmt:=Ar (b5 (b4 xW) 8)
noncomputable abbrev eLw:Expr:=fV (b5 nE 5)
@[irreducible] noncomputable def fZ (k:Nat):List Stmt:=nE.drop k
theorem sR:nE=fZ 0:=by unfold fZ;rfl
theorem lbA:fZ 0=b5 nE 0::fZ 1:=by unfold fZ;rfl
theorem lbB:fZ 1=b5 nE 1::fZ 2:=by unfold fZ;rfl
theorem lbC:fZ 2=b5 nE 2::fZ 3:=by unfold fZ;rfl
theorem lbD:fZ 3=b5 nE 3::fZ 4:=by unfold fZ;rfl
theorem lbE:fZ 4=b5 nE 4::fZ 5:=by unfold fZ;rfl
theorem lbF:fZ 5=b5 nE 5::fZ 6:=by unfold fZ;rfl
theorem lbG:fZ 6 = [b5 nE 6]:=by unfold fZ;rfl
theorem abK {l l':List Stmt}{t:TS} (h:l=l') (p:eY X l' t):eY X l t:=h ▸ p
theorem ui {l l':List Stmt}{s:Stmt}{t u:TS} (h:l=s::l') (a:PS X s t) (b:eY X l' u):eY X l (Bh t u):=by rw[h];exact aB a b
theorem abL {l:List Stmt}{s:Stmt}{t:TS} (h:l = [s]) (a:PS X s t):eY X l t:=by rw[h];exact aN a
theorem Rq:b8 Rp (aM xW) ["_law_j","_law_bad","_law_asked"] [none,some 13,some 14] (cK eLw):=dH
theorem O1 {ns:List Int}{k:Int}{E:XK} (h:aj K H a (ns.map V.int)) (k0:0<=k) (k1:k<=100) (hl:ns.length<=63) (q:∀p H',H p=none->d9 p H'->aq H H'->Q (.ref p) H'):A5 K [.ref a,.int k] H Q E:=⟨rfl,h,k0,k1,hl,fun p x y hp x0 y0 y1=>q p _ hp ⟨x,y,ag,x0,y0,y1⟩ (ay hp)⟩
theorem N1 (h:aj K H a xs) (s:aq H H'):aj K H' a xs:=by
 rcases h with(h|⟨o,h⟩)|h
 ·exact .inl (.inl (s _ _ h))
 ·exact .inl (.inr ⟨o,s _ _ h⟩)
 ·exact .inr h
theorem aeD {H3:Hp} (S:aq H1 H2) (hp:H1 p=none) (pa:aY p H2 H3):aq H1 H3:=fun b u e=>pa.kp _ _ (S _ _ e) (aA e hp)
structure LB (K:Frag) (H:Hp) (a lw d1 t tb d ln:Addr) (sc:List Int) (ys ks ns:List Str) (bf:List (Key×V)) (L:Str->List Str) (o:Obj) (ws wb:List V) (aH:List (Str×List Str)) (bk:Bk) (kvs:List (List Key×V)) (aw:Bk):Prop where
 sc:aj K H a (sc.map V.int)
 hw:H lw=some (.lst (ys.map V.str))
 nn:nj H ln ns
 h1:H d1=some (.dK bf)
 l1:∀x∈ks,eI H bf L x
 fb:FB H t tb o ws wb aH L bk
 du:mG H d kvs aw ks ns
theorem LB.same {lw d1 t tb ln:Addr}{sc:List Int}{ys:List Str}{bf:List (Key×V)}{bk:Bk}{aw:Bk} (h:LB K H a lw d1 t tb d ln sc ys ks ns bf L o ws wb aH bk kvs aw) (S:aq H H'):LB K H' a lw d1 t tb d ln sc ys ks ns bf L o ws wb aH bk kvs aw:=
 ⟨N1 h.sc S,S _ _ h.hw,h.nn.same S,S _ _ h.h1,fun x hx=>(h.l1 x hx).same S,h.fb.same S,h.du.same S⟩
inductive uC (K:Frag) (vs:List V) (H:Hp) (Q:VK) (E:XK):Prop
 |mk {a:Addr}{ns:List Int} (_:vs = [.ref a]) (_:aj K H a (ns.map V.int)) (_:ns.length<=63) (_:∀H',Q (.bl true) H'):uC K vs H Q E
theorem abM {fP fF fT fK fR fU:Addr}{dP dT dK dR dC dU:FuncData} (F:a6 K "law" "law" xW f fd) (B:dY mg) (B2:ja mg) (B3:HL mg)
  (GP:bh P w K mg base aK 1 fP dP ["_law_script","_law_k"] (A5 K) "_law_pot")
  (GD:bh P w K mg base aK 1 fD dD ["_law_pot_here","_law_many"] jO "_law_digit")
  (GN:bh P w K mg base aK 3 fN dN ["_law_pot_here","_law_many"] As "_law_names")
  (GF:bh P w K mg base aK 3 fF dF ["_law_pot_here","_law_kinds"] Bw "_law_family")
  (GT:bh P w K mg base aK 1 fT dT ["_law_parents_here"] Bx "_law_family_tuple")
  (GK:bh P w K mg base aK 5 fK dK Gr AR "_law_book")
  (GB:bh P w K mg base aK 1 fB dB ["_law_book_here"] pH "_law_book_tuple")
  (GR:bh P w K mg base aK 5 fR dR Ky BN "_law_args")
  (GC:bh P w K mg base aK 8 fC dC Ki FT "_law_call")
  (GI:bh P w K mg base aK 1 fI dI ["_law_bad"] Be "_law_first")
  (GU:bh P w K mg base aK 2 fU dU Kk HW "_law_due") :
  a9 P w K mg base aK 9 f fd ["_law_script"] (uC K):=by
 refine F.ok gM (fun vs H Q E h=>?_) (fun aG A outer s H vs Q E hr h=>?_)
 ·obtain⟨rfl,_⟩:=h;rfl
 ·obtain @⟨a,sc,rfl,hS,yA,q⟩:=h
  have hu:=hr.units;have cy:=iS hu;have zk:aV 8 _:=hr;have oM:aV 5 _:=zk.mono (by decide)
  have iX:aV 3 _:=zk.mono (by decide)
  have cW:aV 2 _:=zk.mono (by decide)
  have aZ:aV 1 _:=zk.mono (by decide)
  refine⟨_,aB (aW (i:=1) gM.nd rfl (Or.inl rfl) (aU GP aZ (aa (pv 0) (aa ao af))))
   (aB (aW (i:=2) gM.nd rfl (Or.inl rfl) (gx dw (aU GD aZ (aa (pv 1) (aa ao af))) ao (bz _)))
   (aB (aW (i:=3) gM.nd rfl (Or.inl rfl) (aU GN iX (aa (pv 1) (aa ao af))))
   (aB (tY (aU GF iX (aa (pv 1) (aa (kY oZ (pv 3) k9 (lg (bA iN ao (aU GD aZ (aa (pv 1) (aa ao af)))))) af))) (tX rfl (fH (bw (i:=4) gM.nd rfl (Or.inl rfl)) (fH (bw (i:=5) gM.nd rfl (Or.inl rfl)) mw))))
   (aB (aW (i:=6) gM.nd rfl (Or.inl rfl) (aU GT aZ (aa (pv 5) af)))
   (aB (aW (i:=7) gM.nd rfl (Or.inl rfl) (kY oZ (kY oZ (pv 3) (lg (aP bE (cw (aa ao (aa ao af))) (f' XZ rfl B3.int boot_int (aa (pv 2) af)))) k9) k9 (lg (bA iN ao (aU GD aZ (aa (pv 1) (aa ao af)))))))
   (aB (aW (i:=8) gM.nd rfl (Or.inl rfl) (aU GK oM (aa (pv 1) (aa (f' (DX rfl) rfl B.list boot_list (aa (pv 4) af)) (aa (pv 7) af)))))
   (aB (aW (i:=9) gM.nd rfl (Or.inl rfl) (aU GB aZ (aa (pv 8) af)))
   (aB (lj j' rfl (Xw rfl B.range (aa ao (aa (bA iN (bJ (MF rfl) rfl B.min boot_min (aa (bJ gu rfl B.len gs (aa (pv 0) af)) (aa ao af))) ao) af))) (bw (i:=10) gM.nd rfl (Or.inl rfl)) (abK sR (ui lbA (aW (i:=1) gM.nd rfl (Or.inl rfl) (aU GP aZ (aa (pv 0) (aa (pv 10) af))))
   (ui lbB (aW (i:=11) gM.nd rfl (Or.inl rfl) (aU GD aZ (aa (pv 1) (aa ao af))))
   (ui lbC (tY (aU GR oM (aa (pv 1) (aa (pv 4) (aa (pv 8) (aa (pv 7) (aa (kY oZ (pv 3) (lg ao) k9) af)))))) (tX rfl (fH (bw (i:=12) gM.nd rfl (Or.inl rfl)) (fH (bw (i:=13) gM.nd rfl (Or.inr rfl)) mw))))
   (ui lbD (tY (abN (aP bE (pv 13) ao) (jP (ij (gx dw (pv 11) ao (bz _)) (ij (OG (aP bE (pv 13) ao)) (jP (Fp (Ei cy (cg (aa (aP bE (pv 12) ao) (aa (aP bE (pv 12) ao) af))) (pv 8)))))))) (Fq (pv 13) ao set_list))
   (ui lbE (aW (i:=14) gM.nd rfl (Or.inr rfl) (aP bE (cw (aa (cw (aa ao (aa ao (aa ao af)))) (aa (cw (aa ao (aa ao af))) (aa (cw (aa ao (aa ao (aa ao af)))) (aa (cw (aa ao af)) af))))) (pv 11)))
   (ui lbF (qI rfl Rq gM.nd (i:=15) rfl rfl (mj rfl B.range (aa ao af)) (fun s H fp=>⟨bw (i:=0) Rq.nd rfl (Or.inl rfl),gv,ij (aP (gX K rfl) (pv 1) (pv 0)) (jP (gx (wW K rfl) (pv 0) (pv 2) rfl))⟩))
   (abL lbG (lj j' rfl (mj rfl B.range (aa ao af)) (bw (i:=16) gM.nd rfl (Or.inl rfl)) (aB (aW (i:=17) gM.nd rfl (Or.inl rfl) (aU GC zk (aa (pv 11) (aa (pv 6) (aa (pv 9) (aa (pv 12) af))))))
   (aB (bY (PW.pt (pw_and (i7 (bJ (z5 rfl) rfl B.any boot_any (aa (pv 15) af))) (pw_and1 (bU (t5 hu) (pv 17) (aU GI aZ (aa (pv 15) af)) (bz _))))) (aN (br mz)) cf)
   (aN (bY (PW.pt (pw_and (lh (i7 (bJ (z5 rfl) rfl B.any boot_any (aa (pv 15) af)))) (pw_and1 (bU (t5 hu) (pv 17) (cg (aa cu (aa (aU GU cW (aa (pv 11) (aa (pv 4) (aa (pv 8) (aa (pv 12) af))))) af))) (bz _))))) (aN (br mz)) cf))))))))))))))
   (my (gx (AI hu) (pv 9) (aU GB aZ (aa (pv 8) af)) (bz _))))))))))),?_⟩
  have sz:∀n:Nat,n<=1000->n<=sizeLine:=fun n h=>by rw[aQ];omega
  refine⟨_,rfl,O1 (k:=0) hS (by decide) (by decide) yA fun p H1 hp pk S1=>?_⟩
  refine⟨_,rfl,cF (p:=p) (m:=4) pk (by decide) (by decide) fun al H2 a0 a1 p2=>⟨rfl,?_⟩⟩
  generalize decide (V.int al=V.int 0)=bb;refine⟨_,rfl,As.mk rfl (m:=16) p2.ok (by decide) fun lw ys H3 hlw RZ KH KI p3 h3=>?_⟩
  have P3:=p2.trans p3;have zl:lw≠p:=jj p3.ok h3;refine⟨_,rfl,_,rfl,_,rfl,cF (p:=p) (m:=8) P3.ok (by decide) (by decide) fun dk H4 b0 b1 p4=>⟨1,dk,rfl,rfl,_,rfl,lw,_,rfl,aj.of (p4.kp _ _ h3 zl),fun lk JU=>?_⟩⟩
  obtain⟨mk,rfl⟩:=gK b0;have ek:gg (ys.map V.str) none (some (1+(mk:Int)))=(ys.take (1+mk)).map V.str:=by
   rw[show(1+(mk:Int))=((1+mk:Nat):Int) by omega,OV,V0]
  rw[ek];obtain⟨ks,oH⟩:∃ks,ys.take (1+mk)=ks:=⟨_,rfl⟩;have kl:ks.length=1+mk:=by rw[<-oH,cT];omega
  have knd:ks.Nodup:=by rw[<-oH];exact KI.sublist (vW _ _)
  have ie:∀x∈ks,Nm x:=fun x hx=>KH x (by rw[<-oH]at hx;exact wc hx)
  have k8:ks.length<=8:=by omega
  have yM:ks ≠ []:=fun z=>by rw[z,sX]at kl;omega
  obtain⟨s0,s1,gk⟩:∃s0 s1,ys.drop 14 = [s0,s1]:=by
   have gQ:(ys.drop 14).length=2:=by rw[sT];omega
   match ys.drop 14,gQ with
   |[x,y],_=>exact⟨x,y,rfl⟩
  have Rr:∀x ∈ [s0,s1],Nm x/\x ∉ ks:=fun x hx=>by
   rw[<-gk]at hx;refine⟨KH x (LV hx),fun z=>?_⟩;have e2:ys.drop 14=(ys.drop (1+mk)).drop (14 - (1+mk)):=by rw[List.drop_drop];congr 1;omega
   rw[e2]at hx;have De:=KI;rw[<-Ly (1+mk) ys,oH]at De;exact(l9.mp De).2.2 x z x (LV hx) rfl
  have z0:=Rr s0 bu;have z1:=Rr s1 (bO _ bu);rw[oH];have P4:=P3.trans p4;have P5:=P4.new (o:= .lst (ks.map V.str)) JU;have Rt:upd H4 lk (.lst (ks.map V.str)) lk=some (.lst (ks.map V.str)):=ag;have Ru:=(ay (o:= .lst (ks.map V.str)) JU) _ _ (p4.kp _ _ h3 zl);generalize upd H4 lk (.lst (ks.map V.str))=H5 at P5 Rt Ru ⊢;refine Bw.mk rfl P5.ok Rt knd ie k8 fun r d1 d2 bf ip L Ps HA fm=>⟨r,_,rfl,aJ.of fm.hr,rfl,_,_,rfl,_,_,rfl,rfl,?_⟩;have PA:=P5.trans fm.pa;have Rv:=fm.pa.kp _ _ Ru zl;refine⟨_,rfl,Bx.mk rfl fm.h2 fm.k2 knd k8 fm.l2 fun t o ws aH HB zm KJ Uj Uk Df=>?_⟩;obtain⟨px,py,KL,pr⟩:=id PA.ok;have aeE:p≠d2:=aX KL fm.h2
  have KN:d9 p HB:=⟨px,py,zm _ _ aeE KL,pr⟩;have KO:=zm _ _ (aX Rv fm.h2) Rv
  have Ia:=zm _ _ fm.vt fm.h1;have Rw:d1≠p:=aX fm.h1 KL
  refine⟨_,rfl,sz 2 (by decide),fun c8 hc8=>?_⟩
  have P6:=(aY.refl KN).new (o:= .lst [V.int 8,V.int 0]) hc8;have sE:upd HB c8 (.lst [V.int 8,V.int 0]) c8=some (.lst [V.int 8,V.int 0]):=ag;generalize upd HB c8 (.lst [V.int 8,V.int 0])=H6 at P6 sE ⊢;obtain⟨lo,ans,elo⟩:∃lo:Nat,lo<=8/\(if bb=true then (0:Int) else 8)=(lo:Int):=by cases bb;exact⟨8,by decide,rfl⟩;exact⟨0,by decide,rfl⟩
  refine⟨_,rfl,_,rfl,c8,_,(if bb=true then 1 else 0),.int (if bb=true then 0 else 8),rfl,rfl,aj.of sE,(by cases bb <;> rfl),_,rfl,lw,_,rfl,aj.of (P6.kp _ _ KO zl),fun ci Ul=>?_⟩
  rw[elo,tP,<-zO];have P7:=P6.new (o:= .lst ((ys.drop lo).map V.str)) Ul;have Rx:upd H6 ci (.lst ((ys.drop lo).map V.str)) ci=some (.lst ((ys.drop lo).map V.str)):=ag;have nci:ci≠p:=ba (P6.ok.ne Ul);generalize upd H6 ci (.lst ((ys.drop lo).map V.str))=H7 at P7 Rx ⊢;refine⟨_,rfl,cF (p:=p) (m:=6) P7.ok (by decide) (by decide) fun dn H8 c0 c1 p8=>⟨1,dn,rfl,rfl,_,rfl,ci,_,rfl,aj.of (p8.kp _ _ Rx nci),fun ln Ji=>?_⟩⟩
  obtain⟨mn,rfl⟩:=gK c0;have en:gg ((ys.drop lo).map V.str) none (some (1+(mn:Int)))=((ys.drop lo).take (1+mn)).map V.str:=by
   rw[show(1+(mn:Int))=((1+mn:Nat):Int) by omega,OV,V0]
  rw[en];obtain⟨ns,BO⟩:∃ns,(ys.drop lo).take (1+mn)=ns:=⟨_,rfl⟩;have nl:ns.length=1+mn:=by rw[<-BO,cT,sT];omega
  have sN:∀x∈ns,Nm x:=fun x hx=>KH x (by rw[<-BO]at hx;exact LV (wc hx))
  have TU:ns.Nodup:=by rw[<-BO];exact(KI.sublist (List.drop_sublist _ _)).sublist (vW _ _)
  have Um:ns ≠ []:=fun z=>by rw[z,sX]at nl;omega
  rw[BO];have P9:=(P7.trans p8).new (o:= .lst (ns.map V.str)) Ji;have Ib:upd H8 ln (.lst (ns.map V.str)) ln=some (.lst (ns.map V.str)):=ag;generalize upd H8 ln (.lst (ns.map V.str))=H9 at P9 Ib ⊢;have aeF:ln≠p:=jj P9.ok Ib;refine⟨_,rfl,_,rfl,d1,bf,rfl,P9.kp _ _ Ia Rw,fun KP Ry=>?_⟩;have ekk:bf.map (fun kv=>kV kv.1)=ks.map V.str:=by
   have:bf.map (fun kv=>kV kv.1)=(bf.map (·.1)).map kV:=by rw[md];rfl
   rw[this,fm.k1,md];rfl
  rw[ekk];have PC:=P9.new (o:= .lst (ks.map V.str)) Ry;have Ic:upd H9 KP (.lst (ks.map V.str)) KP=some (.lst (ks.map V.str)):=ag;have BP:=(ay (o:= .lst (ks.map V.str)) Ry) _ _ Ib;generalize upd H9 KP (.lst (ks.map V.str))=HC at PC Ic BP ⊢;refine⟨_,rfl,AR.mk rfl (p:=p) PC.ok ⟨Ic,yM,by omega,ie⟩ ⟨BP,Um,by omega,sN⟩ fun d kvs aw HE RP pE DE=>?_⟩
  refine⟨_,rfl,pH.mk rfl DE.hb DE.dv DE.ok fun tb wb bk HF SF htb bvF Dg pW=>?_⟩;have uD:∀b u,b≠p->HB b=some u->HF b=some u:=fun b u n e=>SF _ _ (pE.kp _ _ (PC.kp _ _ e n) n);have GH:∀b u,b≠p->b≠d2->HA b=some u->HF b=some u:=fun b u n n2 e=>uD _ _ n (zm _ _ n2 e);have PD:aq H HF:=fun b u e=>by
   have n:=aA e hp;have e9:=P5.kp b u (S1 _ _ e) n;exact GH b u n (aA e9 fm.n2) (fm.pa.kp _ _ e9 n)
  have Rz:∀b xs,HB b=some (.tup xs)->HF b=some (.tup xs):=fun b xs e=>by
   obtain⟨_,_,e2,_⟩:=KN;exact uD _ _ (aX e e2) e
  have De:∀ {b:Addr}{u:HO},HA b=some u->u ≠ .dK ip->b≠d2:=fun e n=>aX e fm.h2 n;have sR:LB K HF a lw d1 t tb d ln sc ys ks ns bf L o ws wb aH bk kvs aw:=by
   refine⟨N1 hS PD,uD _ _ zl KO,⟨SF _ _ (pE.kp _ _ BP aeF),Um,by omega,sN⟩,uD _ _ Rw Ia,fun x hx=>?_,⟨?_,Uj,Uk.keep Rz,(fm.fm.acA knd ie k8).perm Df,htb,bvF,Fi Dg DE.ok⟩,DE.same SF⟩
   ·obtain⟨la,e1,e2⟩:=fm.l1 x hx
    exact⟨la,e1,GH _ _ (jj PA.ok e2) (De e2 (by intro z;cases z)) e2⟩
   ·obtain⟨_,_,e2,_⟩:=KN
    exact uD _ _ (aX KJ e2) KJ
  have PF:∀x,x∈ks ↔ x∈aH.map (·.1):=fun x=>by
   constructor
   ·intro hx;exact bT.mpr ⟨(x,Ps x),Df.mem_iff.mpr (bT.mpr ⟨x,hx,rfl⟩),rfl⟩
   ·intro hx
    obtain⟨q,hq,e⟩:=bT.mp hx;obtain⟨y,hy,e2⟩:=bT.mp (Df.mem_iff.mp hq);rw[<-e,<-e2];exact hy
  have ll:∀x∈ks,(L x).length<=200:=fun x hx=>sR.fb.bV ((PF x).mp hx);have aeG:∀x∈ks,∀y∈L x,y∈ks:=fun x hx=>(fm.fm.ld x hx).2;have k1:=fm.k1;have Kr:=DE.ok;have KQ:=sR.fb.ok;have n6:ns.length<=6:=by omega
  clear Uk Df KJ Uj GH uD Rz PD zm KO Ia P6 P7 P9 PC pE SF DE BP Ic;refine⟨_,rfl,a,_,rfl,.inl sR.sc,_,_,rfl,_,_,rfl,rfl,_,_,rfl,?_,tH (fun i σ H1=>∃ (v1 v10 v11 KR KS KU KW zo zp:Option V),σ = [some (.ref a),v1,some (.bl bb),some (.ref lw),some (.ref d1),some (.ref d2),some (.ref t),some (.ref ln),some (.ref d),some (.ref tb),v10,v11,KR,KS,KU,KW,zo,zp]/\aq HF H1)
   ⟨_,none,none,none,none,none,none,none,none,rfl,aq.refl _⟩ ?_ ?_⟩
  ·refine⟨by decide,by decide,?_,?_⟩ <;> (rw[aE];split <;> omega)
  ·rintro i σ G1 hi ⟨v1,v10,v11,KR,KS,KU,KW,zo,zp,rfl,SG⟩
   have ant:i < 45:=by
    refine gI hi ?_;rw[aE];split <;> omega
   have l1:=sR.same SG;refine⟨_,rfl,_,rfl,O1 l1.sc (by omega) (by omega) yA fun pp G2 Uo pkk T2=>?_⟩
   refine⟨_,rfl,cF (p:=pp) (m:=4) pkk (by decide) (by decide) fun wx G3 e0 e1 q3=>?_⟩
   obtain⟨way,rfl⟩:=gK e0;have hw:way < 4:=by omega
   have T3:=aeD T2 Uo q3;have l3:=l1.same T3;refine⟨_,rfl,_,rfl,_,rfl,_,rfl,_,rfl,_,rfl,lw,_,rfl,aj.of l3.hw,fun sp RC=>?_⟩;have es:gg (ys.map V.str) (some (14:Int)) none = [V.str s0,V.str s1]:=by
    rw[show(14:Int)=((14:Nat):Int) from rfl,tP,<-zO,gk];rfl
   rw[es];have S4:=ay (o:= .lst [V.str s0,V.str s1]) RC;have h4:upd G3 sp (.lst [V.str s0,V.str s1]) sp=some (.lst [V.str s0,V.str s1]):=ag;have q4:=(aY.refl q3.ok).new (o:= .lst [V.str s0,V.str s1]) RC;generalize upd G3 sp (.lst [V.str s0,V.str s1])=G4 at S4 h4 q4 ⊢;have T4:=T3.trans S4;have l4:=l1.same T4;refine BN.mk rfl ⟨q4.ok,l4.h1,k1,l4.l1,yM,k8,ie,ll,aeG,l4.nn,h4,z0,z1⟩ fun r la lb vk vn ve vb dk dn de db b0 b1 b2 b3 G5 paR aeH aeI hr eG qy ar lX=>⟨r,_,rfl,aJ.of hr,rfl,_,_,rfl,_,_,rfl,rfl,?_⟩;have T5:aq G1 G5:=fun b u e=>paR.kp _ _ (T4 _ _ e) (aA e Uo);have aeJ:G1 lb=none:=T4.free aeH;have l5:=l1.same T5
   dsimp only
   refine abJ (b1:=b1) (w:=decide (way=1)) (b0:=b0) (nh:= !mI bk dk dn) (fun Q q=>⟨_,rfl,lb,_,1,_,rfl,rfl,aj.of qy,g8,q⟩) (fun Q q=>⟨_,rfl,rfl,?_⟩) (fun Q q=>⟨_,rfl,lb,_,0,_,rfl,rfl,aj.of qy,eh,q⟩) (fun h1 hw1 h0 Q q=>?_) fun G7 S7=>?_
   ·rw[show decide (V.int (way:Int)=V.int 1)=decide (way=1) from we.mpr ⟨fun z=>by injection z;omega,fun z=>by rw[z];rfl⟩]
    exact q
   ·obtain⟨kd,e1,e2,zq⟩:=ar.kind h0
    obtain⟨n,e3,gp⟩:=lX h1;subst e1 e2 e3;obtain rfl:=iO ar.rn;refine⟨_,rfl,la,_,0,_,rfl,rfl,aj.of eG,eh,_,rfl,la,_,1,_,rfl,rfl,aj.of eG,g8,sz 2 (by decide),fun kt gU=>?_⟩
    have S6:=ay (o:= .tup [V.str kd,V.str n]) gU;have hk6:upd G5 kt (.tup [V.str kd,V.str n]) kt=some (.tup (([Sum.inr kd,Sum.inr n]:List Key).map kV)):=ag;refine⟨_,rfl,d,_,rfl,eM.t (k:= [Sum.inr kd,Sum.inr n]) (S6 _ _ l5.du.hb) hk6,?_⟩;rw[Zp Dg l5.du.dv];exact q _ S6
   refine⟨_,rfl,lb,_,1,1,rfl,rfl,S7 _ _ qy,rfl,?_⟩;obtain⟨B1,Dh⟩:∃B1,vI way b0 b1 (mI bk dk dn)=B1:=⟨_,rfl⟩;have T7:=T5.trans S7;generalize hG:upd G7 lb (.lst ([V.bl b0,V.bl b1,V.bl b2,V.bl b3].set 1 (V.bl (b1 || (decide (way=1) && (!b0 && !mI bk dk dn))))))=G8;have aeK:G8 lb=some (.lst [V.bl b0,V.bl B1,V.bl b2,V.bl b3]):=by rw[<-hG,ag,<-Dh];rfl
   have T8:aq G1 G8:=fun b u e=>by rw[<-hG,ah (aA e aeJ)];exact T7 _ _ e
   have aeL:G8 la=some (.lst [vk,vn,ve,vb]):=by rw[<-hG,ah aeI];exact S7 _ _ eG
   have ar8:=(ar.same S7).keep (H':=G8) (fun b o e n=>by rw[<-hG,ah n];exact e) (fun b xs e=>by rw[<-hG,ah (aX e (S7 _ _ qy))];exact e)
   refine⟨sz 3 (by decide),fun l0 h0=>⟨sz 2 (by decide),fun vP h1=>⟨sz 3 (by decide),fun l2 h2=>⟨sz 1 (by decide),fun vQ Jd=>⟨sz 4 (by decide),fun ca hca=>?_⟩⟩⟩⟩⟩
   have U0:=ay (o:= .lst [V.int 0,V.int 1,V.int 2]) h0;have U1:=ay (o:= .lst [V.int 0,V.int 1]) h1;have U2:=ay (o:= .lst [V.int 0,V.int 1,V.int 3]) h2;have U3:=ay (o:= .lst [V.int 0]) Jd;have U4:=ay (o:= .lst [V.ref l0,V.ref vP,V.ref l2,V.ref vQ]) hca;have x0:=U4 _ _ (U3 _ _ (U2 _ _ (U1 _ _ (ag (H:=G8) (a:=l0) (o:= .lst [V.int 0,V.int 1,V.int 2])))));have x1:=U4 _ _ (U3 _ _ (U2 _ _ ag));have x2:=U4 _ _ (U3 _ _ ag);have x3:=U4 _ _ ag;have U:=(((U0.trans U1).trans U2).trans U3).trans U4;generalize hG9:upd (upd (upd (upd (upd G8 l0 (.lst [V.int 0,V.int 1,V.int 2])) vP (.lst [V.int 0,V.int 1])) l2 (.lst [V.int 0,V.int 1,V.int 3])) vQ (.lst [V.int 0])) ca (.lst [V.ref l0,V.ref vP,V.ref l2,V.ref vQ])=G9 at x0 x1 x2 x3 U ⊢;have xc:G9 ca=some (.lst [V.ref l0,V.ref vP,V.ref l2,V.ref vQ]):=by rw[<-hG9];exact ag
   obtain⟨lx,sC,Th⟩:∃lx,[V.ref l0,V.ref vP,V.ref l2,V.ref vQ][way]? = some (V.ref lx)/\G9 lx=some (.lst ((Ro way).map V.int)):=by
    rcases (by omega:way=0\/way=1\/way=2\/way=3) with rfl|rfl|rfl|rfl
    ·exact⟨l0,rfl,x0⟩
    ·exact⟨vP,rfl,x1⟩
    ·exact⟨l2,rfl,x2⟩
    ·exact⟨vQ,rfl,x3⟩
   refine⟨_,rfl,ca,_,(way:Int),.ref lx,rfl,rfl,aj.of xc,b9 sC,?_⟩;have T9:=T8.trans U;have aeM:=U _ _ aeK;refine⟨4,rfl,by decide,by decide,fun cd d7=>?_⟩
   obtain⟨vR,Cn⟩:∃g:Nat->V,g=fun k=>V.bl (ye way [b0,B1,b2,b3] k):=⟨_,rfl⟩;refine wo (fun j zs τ H2=>∃t0:Option V,τ = [t0,some (.ref lb),some (.ref lx)]/\zs=(List.range j).map vR/\aq G9 H2/\H2 cd=some (.lst zs)) ⟨none,rfl,rfl,ay d7,ag⟩ (fun j zs τ H2 hQ9=>by obtain⟨_,_,_,_,z⟩:=hQ9;exact z) ?_ ?_
   ·rintro j zs τ H2 hj ⟨t0,rfl,rfl,S2,m4⟩
    have hj4:j < 4:=hj;have ej:(0+(j:Int))=(j:Int):=by omega
    have aeN:eu [V.bl b0,V.bl B1,V.bl b2,V.bl b3] (0+(j:Int))=some (V.bl ([b0,B1,b2,b3].getD j false)):=by
     rw[ej];refine b9 ?_;rcases (by omega:j=0\/j=1\/j=2\/j=3) with rfl|rfl|rfl|rfl <;> rfl
    have vf:∀ {G:Hp}{b:Bool},aq H2 G->b=ye way [b0,B1,b2,b3] j->G cd=some (.lst ((List.range j).map vR))/\((List.range j).map vR).length < sizeLine /\ ∃m',m' < 4 - j/\CW (fun j zs τ H2=>∃t0:Option V,τ = [t0,some (.ref lb),some (.ref lx)]/\zs=(List.range j).map vR/\aq G9 H2/\H2 cd=some (.lst zs)) 4 (j+1) m' ((List.range j).map vR ++ [V.bl b]) [some (.int (0+(j:Int))),some (.ref lb),some (.ref lx)] (upd G cd (.lst ((List.range j).map vR ++ [V.bl b]))):=fun SS e=>⟨SS _ _ m4,by rw[aE,Dw,aQ];omega,cw_next hj ⟨_,rfl,by rw[LG,bZ,e,Cn];rfl,fun b o e=>by rw[ah (aA e d7)];exact SS _ _ (S2 _ _ e),ag⟩⟩
    refine⟨_,rfl,_,rfl,lb,_,_,_,rfl,rfl,aj.of (S2 _ _ aeM),aeN,_,rfl,?_⟩;cases hb : [b0,B1,b2,b3].getD j false with
    |false=>exact ite_ff rfl (vf (aq.refl _) (by unfold ye;rw[hb];rfl))
    |true =>
     refine ite_tt rfl ⟨_,rfl,_,rfl,lx,_,rfl,.inl (aj.of (S2 _ _ Th)),rfl,?_,vf (aq.refl _) ?_⟩
     ·rw[Dx,j8];intro x _;rfl
     ·rw[ax cD,ej];unfold ye;rw[hb];rfl
   rintro zs τ Up ⟨t0,rfl,rfl,nD,C7⟩;have RE:Up cd=some (.lst ((uP way [b0,B1,b2,b3]).map V.bl)):=by rw[C7,Cn];unfold uP;rw[md];rfl
   have Uq:=T9.trans nD;have aeO:=(ar8.same U).same nD;have uB:=nD _ _ (U _ _ aeL);refine⟨2,rfl,by decide,by decide,tH (fun i2 σ G=>∃ (zo zp:Option V),σ = [some (.ref a),some (.ref pp),some (.bl bb),some (.ref lw),some (.ref d1),some (.ref d2),some (.ref t),some (.ref ln),some (.ref d),some (.ref tb),some (.int (1+(i:Int))),some (.int (way:Int)),some (.ref la),some (.ref lb),some (.ref lx),some (.ref cd),zo,zp]/\aq Up G) ⟨_,_,rfl,aq.refl _⟩ ?_ ?_⟩
   ·rintro i2 σ G11 Jn ⟨u16,u17,rfl,nF⟩
    have T11:=Uq.trans nF;have Ur:=l1.same T11;have RF:=aeO.same nF;refine⟨_,rfl,_,rfl,_,rfl,_,rfl,?_⟩;refine⟨rfl,hw,Ur.fb,pW,nF _ _ uB,RF.kinds PF,fun i' iV t' l' G12 ig jE yG=>?_,fun iV t' v D G12 ig jE rp td=>?_⟩
    ·rw[Dh]at iV
     obtain⟨an,at',no⟩:=(OE hw b0 B1 b2 b3).2 i' (OC iV) iV;have uE:=ig _ _ (nF _ _ RE);refine⟨_,rfl,cd,_,rfl,aj.of uE,_,rfl,ite_tt an ?_⟩;refine⟨_,rfl,_,rfl,Be.mk rfl uE at' no fun t2 l2' G13 nt qk aeP=>?_⟩;refine⟨_,_,Nd (nt _ _ jE) (nt _ _ yG),Nd qk aeP,Ep i',Ep i',by unfold pz;show 2<=60;decide,_,rfl,?_⟩
     rw[V4 _ (Ep i')];refine⟨_,rfl,cd,_,rfl,aj.of (nt _ _ uE),_,rfl,?_⟩;rw[an];exact⟨_,_,rfl,nF.trans (ig.trans nt)⟩
    ·rw[Dh]at iV
     obtain⟨an,Dd,iA,u0,jD⟩:=(OE hw b0 B1 b2 b3).1 iV;have RG:way≠3->b1=false:=fun z=>by
      have y:=iA z;rw[<-Dh]at y;unfold vI at y;cases b1 with
      |false=>rfl
      |true=>cases y
     have uE:=ig _ _ (nF _ _ RE);have KY:=Ur.same ig;have BQ:=RF.same ig;obtain⟨kd,iw,iT,zq⟩:=BQ.kind Dd;refine⟨_,rfl,cd,_,rfl,aj.of uE,_,rfl,ite_ff an ?_⟩;refine⟨_,rfl,cd,_,rfl,aj.of uE,_,rfl,?_⟩;rw[an];refine⟨_,rfl,_,rfl,_,rfl,_,rfl,_,rfl,?_⟩;refine⟨rfl,hw,KY.h1,KY.l1 kd zq,ll kd zq,KY.du,k8,n6,knd,TU,ie,sN,Dg,ig _ _ (nF _ _ uB),BQ.aeB iw iT zq Dd RG u0 jD lX,fun v2 D2 G13 nt rp2 td2=>?_⟩;obtain rfl:=Yh td td2;obtain⟨y1,y2⟩:=Zr KQ (fun k e=>by rw[iw]at e;cases e;exact ie _ zq) (fun z n e=>by
      obtain⟨n',e',hm⟩:=lX (RG (by omega))
      rw[e']at e;cases e;exact sN _ hm) (fun z=>(BQ.ge (by rw[BQ.e,u0 z];rfl)).2) td
     refine⟨sz 2 (by decide),fun t2 sJ=>?_⟩
     have Us:=ay (o:= .tup [V.str "told",v2]) sJ;have SS:=nt.trans Us;refine⟨.tuple [.str "told",D],.tuple [.str "told",D],.tup (SS _ _ jE) (.cons (.str _) (.cons (rp.same SS) .nil)),.tup ag (.cons (.str _) (.cons (rp2.same Us) .nil)),Er y1,Er y1,by show PyData.depthAll [.str "told",D]+1<=60;simp only[PyData.depthAll,PyData.depth];omega,_,rfl,?_⟩
     rw[V4 _ (Er y1)];exact⟨_,_,rfl,nF.trans (ig.trans SS)⟩
   ·rintro σ G11 ⟨u16,u17,rfl,nF⟩
    exact⟨_,_,_,_,_,_,_,_,_,rfl,SG.trans (Uq.trans nF)⟩
  ·rintro σ G1 ⟨v1,v10,v11,KR,KS,KU,KW,zo,zp,rfl,SG⟩
   have l1:=sR.same SG;refine⟨_,rfl,_,rfl,pH.mk rfl l1.du.hb l1.du.dv Kr fun r ws2 sO G2 S2 h2 bv2 zf zg=>?_⟩;obtain rfl:sO=bk:=ER zg pW (zf.trans Dg.symm);obtain⟨y1,y2⟩:=tU KQ.nm KQ.ent;refine⟨.tuple (sO.map iG),.tuple (sO.map iG),.tup (S2 _ _ l1.fb.hb) (bF.rep (bF.same S2 l1.fb.bv)),.tup h2 (bF.rep bv2),y1,y1,by show PyData.depthAll _+1<=60;omega,?_⟩
   rw[V4 (.tuple _) y1];exact q _
end df
namespace df
open PySem L2 PySem.W
def iH (l:List Addr) (i:Nat):Addr:=l.getD i 0
def ac0 (K:Frag) (LE:Addr) (l:List Addr):Bool:=(List.range 4).all fun i=>(List.range 4).all (fun j=>kitOne K (.ref (iH l i)) (.ref (iH l j))==some (decide (i=j))) && (kitOne K (.ref (iH l i)) (.type "ValueError")==some true && (FF K (iH l i) && (mroIn K (iH l i) (.ref LE)==some true && (jm K (iH l i) none && keepIn K (.ref (iH l i))))))
theorem all_mk {l:OpenLaw}{fa:Addr} (X:K.In h) (G:h.Ns mainGlobals mg) (kH:mg "law" = some (.ref fa)) {LE Ut Di zt zu KZ g0 g1 g2 g3:Addr}{IV ac1:Tok}{ac2:Option Addr}{ac3:Array (Option Value)}{ac4:Value}{aeQ:Nat}{aeR aeS:Option Addr}{aeT:Array (Option Value)}{aeU aeV aeW aeX RH aeY:Value}{aeZ ae0:Option Addr}{ae1:Array (Option Value)}{ae2 ae3 ae4 ae5 RI ae6:Value}{ae7 ae8:Option Addr}{ae9:Array (Option Value)}{afa afb afc afd RJ afe:Value}{aff afg:Option Addr}{afh:Array (Option Value)}{afi afj afk afl RK afm:Value}
  (hd:Co K [pr "is_name" wZ,pr "check_name" Fb,pr "is_whole" EH,pr "merged" w6,pr "least_free" AK,pr "wish_against" xH,pr "is_kind" Fc,pr "check_kind" Fd,pr "lines_of" ua,pr "line_from" wC,pr "all_found" qJ,pr "finds_in" EI,pr "is_behind" Ek,pr "check_behind" Fe,pr "entries_by_place" wL,pr "is_entry" EJ,pr "are_steps" wD,pr "is_step" Ff,pr "begins_with_text" Fg,pr "name_given" FA,pr "name_taken" FC,pr "without_name" wF,pr "_law_pot" Hv,pr "_law_digit" xk,pr "_law_names" nU,pr "_law_merged" mr,pr "_law_line" xl,pr "_law_parents" El,pr "_law_family" EK,pr "_law_family_tuple" w8,pr "_law_number" Fh,pr "_law_step" Gh,pr "_law_entry" xm,pr "_law_book" Gi,pr "_law_book_tuple" wM,pr "_law_odd_name" Gj,pr "_law_odd_entry" xI,pr "_law_call" Gk,pr "_law_first" xn,pr "_law_due" mR,pr "_law_args" xJ,pr "law" xW])
  (hz:Hs K ["len","max","min","abs","range","any","all","list","tuple","enumerate","isinstance","str","dict","sorted","set","int","bool","ValueError"])
  (hJ:Ht K ["NoKind","NoName","NoEntry","NotAbove"] [g0,g1,g2,g3])
  (K0:nsIn K mainGlobals "LineError" = some (some (.ref LE)))
  (aC:nsIn K mainGlobals "Finds" = some (some (.ref C)))
  (Ie:findIn K (.ref C) "__init__" = some (some (.ref Di)))
  (Ig:isFn K (.ref Di)=true)
  (Ih:K.lookup Di=some ⟨aeU,aeR,.func (fnOf "__init__" "Finds.__init__" (gL uq) (b4 uq) (aM uq) .none aeV aeW aeX aeS RH aeY),aeT⟩)
  (Ii:codeIn K RH "Finds.__init__" = true)
  (Ij:keepIn K (.ref Di)=true)
  (Ik:findIn K (.ref C) "look" = some (some (.ref zt)))
  (Il:isFn K (.ref zt)=true)
  (Im:K.lookup zt=some ⟨ae2,aeZ,.func (fnOf "look" "Finds.look" (gL ur) (b4 ur) (aM ur) .none ae3 ae4 ae5 ae0 RI ae6),ae1⟩)
  (Io:codeIn K RI "Finds.look" = true)
  (BR:keepIn K (.ref zt)=true)
  (Ip:findIn K (.ref C) "walk" = some (some (.ref zu)))
  (Iq:isFn K (.ref zu)=true)
  (Ir:K.lookup zu=some ⟨afa,ae7,.func (fnOf "walk" "Finds.walk" (gL uu) (b4 uu) (aM uu) .none afb afc afd ae8 RJ afe),ae9⟩)
  (Iu:codeIn K RJ "Finds.walk" = true)
  (BS:keepIn K (.ref zu)=true)
  (Iv:nsIn K mainGlobals "found_at" = some (some (.ref KZ)))
  (Iw:K.lookup KZ=some ⟨afi,aff,.func (fnOf "found_at" "found_at" (gL tO) (b4 tO) (aM tO) (.ref Ut) afj afk afl afg RK afm),afh⟩)
  (Iy:codeIn K RK "found_at" = true)
  (BU:keepIn K (.ref KZ)=true)
  (Iz:K.lookup Ut=some ⟨ac4,ac2,.seq #[.str "" ac1] aeQ,ac3⟩)
  (K1:plainGet K C Str.empty=true)
  (K2:hasDictIn K C=true)
  (K3:plainOver K C=true)
  (K4:findIn K (.ref C) "__setattr__" = some (some (.builtin "object.__setattr__")))
  (K5:makesIn K C=true)
  (K7:keepIn K (.ref C)=true)
  (Fo:findIn K (.ref C) "lines" = some none)
  (Es:findIn K (.ref C) "entries" = some none)
  (FX:findIn K (.ref C) "hits" = some none)
  (GJ:findIn K (.ref C) "met" = some none)
  (K8:nsIn K mainGlobals "MOST_STEPS" = some (some (.int 4 tk)))
  (K9:nsIn K mainGlobals "MOST_TIMES" = some (some (.int 9 IV)))
  (hV:ac0 K LE [g0,g1,g2,g3]=true)
  (K':jm K LE none=true) :
  ∃fd:FuncData,(∀ (s:Shared) (v:Value),BindsTo s fd ⟨[v],[]⟩ [("_law_script",v)]) /\ ∀base:Heap,K.In base->base.Ns mainGlobals mg->a9 l.prog w K mg base aK 9 fa fd ["_law_script"] (uC K):=by
 have z:∀x∈_,mg x=none:=Om X G hz;obtain⟨hNm,hCn,hWh,hMg,hLf,hWi,hKd,hCq,hLs,hLr,hAf,hFi,hIb,hCb,hEb,hIe,hAs,hIs,hBg,hGv,hTk,hWn,hP,hD,hN,hMe,hLn,hPr,hFy,hFt,hNu,hSt,hEn,hBo,hBt,hOn,hOe,IS,hFs,hDu,hAr,hL,-⟩:=hd;obtain⟨fNm,dNm,FNm,Dj,Dk,Dl⟩:=iL X G hNm "thing";obtain⟨fCn,dCn,FCn,La,Lb,Lc⟩:=iL X G hCn "thing";obtain⟨fWh,dWh,FWh,Uu,Uv,Uw⟩:=iL X G hWh "thing";obtain⟨fMg,dMg,FMg,kMg,bMg,mMg⟩:=iL X G hMg "rows";obtain⟨fLf,dLf,FLf,kLf,bLf,mLf⟩:=iL X G hLf "rest";obtain⟨fWi,dWi,FWi,kWi,bWi,mWi⟩:=kf X G hWi "rest" "name";obtain⟨fKd,dKd,FKd,kKd,bKd,mKd⟩:=kf X G hKd "family" "thing";obtain⟨fCq,dCq,FCq,Dm,Dn,Dp⟩:=kf X G hCq "family" "thing";obtain⟨fLs,dLs,FLs,kLs,bLs,mLs⟩:=iL X G hLs "family";obtain⟨fLr,dLr,FLr,kLr,bLr,mLr⟩:=o6 X G hLr "lines" "kind" "parents";obtain⟨fAf,dAf,FAf,kAf,bAf,mAf⟩:=o6 X G hAf "family" "book" "kind";obtain⟨fFi,dFi,FFi,Ux,Uy,Uz⟩:=kf X G hFi "family" "book";obtain⟨fIb,dIb,FIb,kIb,bIb,mIb⟩:=kf X G hIb "line" "thing";obtain⟨fCb,dCb,FCb,kCb,bCb,mCb⟩:=kf X G hCb "line" "thing";obtain⟨fEb,dEb,FEb,kEb,bEb,mEb⟩:=iL X G hEb "book";obtain⟨fIe,dIe,FIe,kIe,bIe,mIe⟩:=iL X G hIe "thing";obtain⟨fAs,dAs,FAs,kAs,bAs,mAs⟩:=iL X G hAs "thing";obtain⟨fIs,dIs,FIs,kIs,bIs,mIs⟩:=iL X G hIs "thing";obtain⟨fBg,dBg,FBg,UA,UB,UC⟩:=iL X G hBg "thing";obtain⟨fGv,dGv,FGv,kGv,bGv,mGv⟩:=Ol X G hGv "family" "book" "kind" "name" "entry";obtain⟨fTk,dTk,FTk,kTk,bTk,mTk⟩:=E9 X G hTk "family" "book" "kind" "name";obtain⟨fWn,dWn,FWn,UD,UE,UG⟩:=o6 X G hWn "book" "kind" "name";obtain⟨fP,dP,FP,kP,bP,mP⟩:=kf X G hP "_law_script" "_law_k";obtain⟨fD,dD,FD,kD,bD,mD⟩:=kf X G hD "_law_pot_here" "_law_many";obtain⟨fN,dN,FN,kN,bN,mN⟩:=kf X G hN "_law_pot_here" "_law_many";obtain⟨fMe,dMe,FMe,kMe,bMe,mMe⟩:=iL X G hMe "_law_rows";obtain⟨fLn,dLn,FLn,kLn,bLn,mLn⟩:=o6 X G hLn "_law_lines" "_law_kind" "_law_own";obtain⟨fPr,dPr,FPr,kPr,bPr,mPr⟩:=kf X G hPr "_law_pot_here" "_law_made";obtain⟨fFy,dFy,FFy,kFy,bFy,mFy⟩:=kf X G hFy "_law_pot_here" "_law_kinds";obtain⟨fFt,dFt,FFt,kFt,bFt,mFt⟩:=iL X G hFt "_law_parents_here";obtain⟨fNu,dNu,FNu,UH,UI,UJ⟩:=iL X G hNu "_law_pot_here";obtain⟨fSt,dSt,FSt,kSt,bSt,mSt⟩:=o6 X G hSt "_law_pot_here" "_law_names_here" "_law_at";obtain⟨fEn,dEn,FEn,UK,UL,UM⟩:=o6 X G hEn "_law_pot_here" "_law_names_here" "_law_at";obtain⟨fBo,dBo,FBo,kBo,bBo,mBo⟩:=o6 X G hBo "_law_pot_here" "_law_kinds" "_law_names_here";obtain⟨fBt,dBt,FBt,UN,UO,UP⟩:=iL X G hBt "_law_book_here";obtain⟨fOn,dOn,FOn,kOn,bOn,mOn⟩:=o6 X G hOn "_law_pot_here" "_law_spare" "_law_name";obtain⟨fOe,dOe,FOe,kOe,bOe,mOe⟩:=kf X G hOe "_law_pot_here" "_law_name";obtain⟨fCa,dCa,FCa,kCa,bCa,mCa⟩:=E9 X G IS "_law_way" "_law_family_here" "_law_book_here" "_law_args_here";obtain⟨fFs,dFs,FFs,kFs,bFs,mFs⟩:=iL X G hFs "_law_bad";obtain⟨fDu,dDu,FDu,kDu,bDu,mDu⟩:=E9 X G hDu "_law_way" "_law_lines" "_law_book_here" "_law_args_here";obtain⟨fAr,dAr,FAr,kAr,bAr,mAr⟩:=Ol X G hAr "_law_pot_here" "_law_lines" "_law_book_here" "_law_names_here" "_law_spares";obtain⟨fL,dL,FL,aL⟩:=hL;cases kH.symm.trans (mg_of X G aL)
 have nz:∀ {x:Str},x∈_->mg x=none:=fun {x} m=>z x m;have Bl:dY mg:=⟨nz (by decide),nz (by decide),nz (by decide),nz (by decide),nz (by decide),nz (by decide),nz (by decide),nz (by decide),nz (by decide),nz (by decide)⟩
 have B2:ja mg:=⟨nz (by decide),nz (by decide),nz (by decide),nz (by decide)⟩
 have Km:mg "set" = none:=nz (by decide)
 have B3:HL mg:=⟨nz (by decide),nz (by decide)⟩
 have UQ:=mg_of X G K0;have T:rR K mg C:=⟨⟨K1,K2,K3,K4⟩,Fo,Es,FX,GJ,mg_of X G aC⟩;have UR:=AH (st:=uq) Ih Ii Ij;have bIn:=UR.binds (ps:= ["self","lines","entries"]) fun _ _ _ _ _ _ us h=>by obtain⟨_,_,_,rfl⟩:=Hu h;rfl
 have US:=AH (st:=ur) Im Io BR;have UT:=US.binds (ps:= ["self","kind","name","behind"]) fun _ _ _ _ _ _ us h=>by obtain⟨_,_,_,_,rfl⟩:=Bs h;rfl
 have UU:=AH (st:=uu) Ir Iu BS;have bWk:=UU.binds (ps:= ["self","kind","name","behind"]) fun _ _ _ _ _ _ us h=>by obtain⟨_,_,_,_,rfl⟩:=Bs h;rfl
 have UW:=Z1 (st:=tO) Iw Iy BU;have bFa:=UW.binds (ps:= ["family","book","kind","name","behind"]) (ds:= []) Iz fun _ _ _ _ _ _ us hl=>by
  have h4:us.length=5:=by simpa using hl
  exact match us,h4 with | [_,_,_,_,_],_=>⟨_,rfl,rfl⟩
 have mFa:=mg_of X G Iv;have cl:∀i,i < 4->(∀j,j < 4->kitOne K (.ref (iH [g0,g1,g2,g3] i)) (.ref (iH [g0,g1,g2,g3] j))=some (decide (i=j)))/\kitOne K (.ref (iH [g0,g1,g2,g3] i)) (.type "ValueError")=some true/\jU K (iH [g0,g1,g2,g3] i)/\mroIn K (iH [g0,g1,g2,g3] i) (.ref LE)=some true/\jm K (iH [g0,g1,g2,g3] i) none=true/\keepIn K (.ref (iH [g0,g1,g2,g3] i))=true:=fun i hi=>by
  have h:=j8.mp hV i (kO.mpr hi);simp only[nM,jG,j8]at h;exact⟨fun j hj=>h.1 j (kO.mpr hj),h.2.1,Z9 h.2.2.1,h.2.2.2.1,h.2.2.2.2.1,h.2.2.2.2.2⟩
 have TC:Q3 K mg (iH [g0,g1,g2,g3]):=⟨wY X G 0 hJ rfl rfl,wY X G 1 hJ rfl rfl,wY X G 2 hJ rfl rfl,wY X G 3 hJ rfl rfl,nz (by decide),fun i j hi hj=>(cl i hi).1 j hj,fun i hi=>(cl i hi).2.1,fun i hi=>(cl i hi).2.2.1,fun B hB i hi=>by cases hB.symm.trans UQ;exact(cl i hi).2.2.2.1⟩
 have TP:∀i (h:i < 4) {x:Str},mg x=some (.ref (iH [g0,g1,g2,g3] i))->uh K mg x (iH [g0,g1,g2,g3] i):=fun i h _ m=>⟨(cl i h).2.2.2.2.1,(cl i h).2.2.2.2.2,m,(cl i h).2.2.1⟩;have MW:Meth K C "walk" zu:=⟨Ip,Iq,BS⟩;have ML:Meth K C "look" zt:=⟨Ik,Il,BR⟩;obtain⟨_,_,_,_,_,_,_,_,_,rfl,_,_⟩:=FL.ex;exact⟨_,fun s v=>.of_eq rfl,fun base _ _ =>
  let Dq:=Y' FNm Bl B2
  let UX:=Y9 FWh B2 B3
  let GKd:=acM FKd B2 ⟨Dq,Dj,Dk,Dl⟩
  let Dr:=abz FCq (TP 0 (by decide) TC.n0) ⟨GKd,kKd,bKd,mKd⟩
  let Ld:=abA FCn (TP 1 (by decide) TC.n1) ⟨Dq,Dj,Dk,Dl⟩
  let GMg:=X6 FMg Bl FWi bWi mWi FLf bLf mLf
  let GLr:=acu FLr Bl ⟨GMg,kMg,bMg,mMg⟩
  let GLs:=Y7 FLs Bl ⟨GLr,kLr,bLr,mLr⟩
  let GEb:=acJ FEb
  let GIn:=aby UR T
  let GWk:=aar UU T
  let UY:=aas US T GWk MW bWk
  let UZ:=acL FFi T ⟨GLs,kLs,bLs,mLs⟩ ⟨GEb,kEb,bEb,mEb⟩ ⟨K5,Ie,Ig,K7⟩ GIn bIn
  let GIb:=abB FIb B2
  let GCb:=abD FCb (TP 3 (by decide) TC.n3) ⟨GIb,kIb,bIb,mIb⟩
  let GFa:=abE UW T ⟨Dr,Dm,Dn,Dp⟩ ⟨Ld,La,Lb,Lc⟩ ⟨UZ,Ux,Uy,Uz⟩ ⟨GCb,kCb,bCb,mCb⟩ UY ML UT
  let GAf:=abF FAf B2 T ⟨Dr,Dm,Dn,Dp⟩ ⟨UZ,Ux,Uy,Uz⟩ UY ML UT
  let U5:=abo FBg Bl B2
  let GIs:=Zb FIs Bl (mg_of X G K9) ⟨U5,UA,UB,UC⟩ ⟨Dq,Dj,Dk,Dl⟩ ⟨UX,Uu,Uv,Uw⟩
  let GAs:=aak FAs Bl B2 (mg_of X G K8) ⟨GIs,kIs,bIs,mIs⟩
  let GIe:=aal FIe Bl ⟨U5,UA,UB,UC⟩ ⟨Dq,Dj,Dk,Dl⟩ ⟨UX,Uu,Uv,Uw⟩ ⟨GAs,kAs,bAs,mAs⟩
  let U6:=abG FWn Bl
  let GGv:=aat FGv Bl B2 (TP 2 (by decide) TC.n2) ⟨Dr,Dm,Dn,Dp⟩ ⟨Ld,La,Lb,Lc⟩ ⟨GIe,kIe,bIe,mIe⟩ ⟨U6,UD,UE,UG⟩
  let GTk:=aau FTk (TP 1 (by decide) TC.n1) ⟨Dr,Dm,Dn,Dp⟩ ⟨Ld,La,Lb,Lc⟩ ⟨U6,UD,UE,UG⟩
  let GCa:=aaz FCa B2 TC UQ ⟨_,K'⟩ ⟨GGv,kGv,bGv,mGv⟩ ⟨GTk,kTk,bTk,mTk⟩ ⟨GFa,BU,bFa,mFa⟩ ⟨GAf,kAf,bAf,mAf⟩
  let GD:=EL FD
  let U7:=abt FNu ⟨GD,kD,bD,mD⟩
  let GSt:=abu FSt Bl ⟨GD,kD,bD,mD⟩ ⟨U7,UH,UI,UJ⟩
  let U8:=abv FEn Bl ⟨GD,kD,bD,mD⟩ ⟨U7,UH,UI,UJ⟩ ⟨GSt,kSt,bSt,mSt⟩
  let GFy:=acC FFy Bl B2 ⟨abi FPr Bl FD bD mD,kPr,bPr,mPr⟩ ⟨acx FLn Bl FMe bMe mMe,kLn,bLn,mLn⟩
  let GFt:=acD FFt Bl B2
  let GBo:=aan FBo Bl ⟨GD,kD,bD,mD⟩ ⟨U8,UK,UL,UM⟩
  let U9:=acH FBt Bl B2
  let GOn:=acR FOn ⟨GD,kD,bD,mD⟩
  let GOe:=acU FOe ⟨GD,kD,bD,mD⟩
  let GFs:=abH FFs Bl
  let GDu:=acX FDu Bl B2 Km ⟨U9,UN,UO,UP⟩
  let GAr:=acZ FAr Bl ⟨GD,kD,bD,mD⟩ ⟨U8,UK,UL,UM⟩ ⟨GOn,kOn,bOn,mOn⟩ ⟨GOe,kOe,bOe,mOe⟩
  let GP:=abd FP Bl
  let GN:=Y3 FN Bl FD bD mD
  abM FL Bl B2 B3 ⟨GP,kP,bP,mP⟩ ⟨GD,kD,bD,mD⟩ ⟨GN,kN,bN,mN⟩ ⟨GFy,kFy,bFy,mFy⟩ ⟨GFt,kFt,bFt,mFt⟩ ⟨GBo,kBo,bBo,mBo⟩ ⟨U9,UN,UO,UP⟩ ⟨GAr,kAr,bAr,mAr⟩ ⟨GCa,kCa,bCa,mCa⟩ ⟨GFs,kFs,bFs,mFs⟩ ⟨GDu,kDu,bDu,mDu⟩⟩
theorem walk {l:OpenLaw}{q:Program}{d:DefRec}{K:Params->Frag} (hn:l.most=some 63) (yy:d.params.defaults = [])
  (hY:∀ (w:World) (h:Heap),YP w h->(K w.params).In h)
  (F:∀ (w:World) (mg:Str->Option Value) (fa:Addr) (h:Heap),(K w.params).In h->h.Ns mainGlobals mg->mg d.name=some (.ref fa) ->
   ∃fd:FuncData,(∀ (s:Shared) (u:Value),BindsTo s fd ⟨[u],[]⟩ [("_law_script",u)]) /\ ∀base:Heap,(K w.params).In base->base.Ns mainGlobals mg->a9 l.prog w (K w.params) mg base aK 9 fa fd ["_law_script"] (uC (K w.params))) :
  WalkO q loose XP YP l.row.toRowW d [] (fun f vs=>PySem.call f vs):=
 L2.ZG (n:=63) (k:=9) (x:= "_law_script") (CX:=fun _=>aK) (sp:=fun w=>uC (K w.params)) hn (by decide) yy ⟨rfl,by decide,by decide,rfl⟩ hY F (fun _ _ a ns hl _ hS=>uC.mk rfl hS hl fun _=>rfl) fun _ _ _ _ _ z=>z
end df
structure PySem.W.Fast:Prop where
 (tw14410754013781316960 tw16801604105451732290 tw7373173844342348402 tw6511612971073193507 tw6642343659515686562 tw17710421502648543248 tw1812298253467911492 tw4896931234830130794 tw17797653147754513618 tw10578333796463548775 tw15703963782285809578 tw1691650472442309543 tw2624143396486838845 tw9856946126250075712 tw5376485358041319462 tw14704899547816782136 tw13217309934605929803 tw17797105626795458263 tw13865609120219350387 tw15413649497306409471 tw17344607239992387310 tw8271611075898900668 tw15096371505710717882 tw18138655432317595724 tw6403029969668461157 tw13538523255510918424 tw15900058149102181465 tw15301217478896965906 tw10812613822131600237 tw11361773516535482335 tw17650203973470938354 tw8424668721302553136 tw17358721275879434350 tw17027396825755633116 tw5833001503171844517 tw17866454353092989934 tw17232846699561826405 tw10544726227237459876 tw6339275840885805607 tw15079472893743050506 tw17158925186659253615 tw2054248883983811138 tw15261835895549261915 tw1537353825383652645 tw9426709818158066192 tw6980229735237821780 tw14636033994629688458 tw13872339993116983954 tw3362062352883058533 tw17777050771449908476 tw4055901870402147937 tw16585904954967523490 tw8402373317003891784 tw17288623705861779212 tw2715467441698850112 tw11422130589318880129 tw15325226214504089137 tw6173108556700855412 tw11763572970207994461 tw16102443555611469671 tw11508756117520449980 tw4878223541886880095 tw18250009210767683363 tw5223181248767059008 tw7728230269013247057 tw2041594278758775482 tw14740689254535126937 tw965097136402106903 tw8849776976257406729 tw13389489589350807594 tw8037605539424028471 tw1936539578551985659 tw13861985514680070659 tw15614179182541967952 tw4272555737589443768 tw11546142696057511842 tw8534877432772148360 tw14442124008828897844 tw13067587984808331547 tw9160745878872154546 tw4260160927875823534 tw3978585534905516068 tw867310309701444446 tw3387284435407633731 tw5364022482057845209 tw2303149638094788454 tw10734272044412006045 tw6388313425455715870 tw13904658103498823591 tw4274366281015603655 tw17624680319233711865 tw2575497074445291722 tw16082164907817618543 tw15256962037164944857 tw13100597330973614252 tw8580667734543398813 tw11342512767001113039 tw14765110462918199901 tw2943322854465546148 tw16646896876663318593 tw5458577283944462544 tw24102295500026848 tw4050245855297716041 tw8992580304361159077 tw10400144872599434392 tw17279641618973694287 tw13950513146520711208 tw6934430364108365619 tw17112980180582542611 tw725417378918277061 tw14950152352318522116 tw7936638131217838070 tw179027222833873753 tw493848114770702515 tw12894756236975007197 tw10498250778564741172 tw2075958079044157138 tw5262974959848671082 tw14623961684357142271 tw16216594418462075722 tw882159969190190331 tw10377179739185416051 tw14692351054767960602 tw5145167697243415515 tw2775550036908582085 tw9667766581347201314 tw13462364250253949645 tw3841988459977952733 tw15152877358465109430 tw14036126371513863557 tw4509216904526845506 tw7104250079327253161 tw4639631740284921158 tw4520192898290131461 tw9975485638048491553 tw12061587535769393676 tw13083450986248745607 tw13489046985538881212 tw16777715946927792517 tw4439648009380567934 tw17780151222049120197 tw16128138701743966281 tw14477786913128218292 tw10751199011719951668 tw13661959080507255846 tw5478705496164188272 tw3317375981339472985 tw1848347902940506437 tw13617613023644100251 tw3855981828826877473 tw14268163966059670419 tw2352334509953945558 tw17504430925465615524 tw5894279816651157130 tw18215021149060849336 tw10032815854890901394 tw13405216971410182666 tw11891773317528799634 tw3368756994907736901 tw8736976397256765472 tw7438627540942544451 tw3973306916017821733 tw1970765411966164821 tw10913399238796965124 tw2982791498804222021 tw13394623681419945029 tw17394310446885809461 tw3469671280545219872 tw13268218516483068772 tw13730841298001937551 tw9057791089440128584 tw18066259369022409829 tw12688606391643525433 tw11183576382558564448 tw15551358641231003099 tw12286532092437275405 tw18023706340820987022 tw1081390459728518197 tw13538208039228868962 tw6703396819575619939 tw7554099689100988010 tw18185429056809424095 tw12212208918631770659 tw16170172157873501369 tw5053479744864611668 tw11149674017058491173 tw17366290464619233063 tw1789313145307002696 tw933592625352152121 tw3571725193790931591 tw11220421607474000590 tw8244982723254582976 tw13380170155749124615 tw13820002359591308684 tw4194659285959608599 tw3344962940575915323 tw11758546750798642668 tw2327355704018022176 tw3660860123889015198 tw4451228929398242375 tw9668194351331270531 tw2391207784914781463 tw17481872027655782100 tw8363087953228841937 tw14769740136070356468 tw10521254203157165950 tw8581221096043250527 tw7244367441016351173 tw6331818037556759552 tw11559832291093014839 tw18086677148192377056 tw44196959680588909 tw593672418117658172 tw18301820477850953373 tw1660031088668057496 tw1058662576721356455 tw3623478786955665733 tw14607282509167301526 tw12139971292367060130 tw6265465135692943798 tw4927811713246525616 tw15339063329031721823 tw8864224314514736555 tw12505932197792900386 tw3314338273694084803 tw5838312117086932284 tw6899011357896579317 tw4923682835044174056 tw12754179126903001113 tw789889327943184494 tw3922104086789012821 tw6899795366346018989 tw11210853499532484764 tw17968792783078939958 tw10237879682278920675 tw17989120541558620952 tw16847048527840765432 tw10874183265219026606 tw17187106925006314991 tw888216453512821950:True)
open PySem PySem.W PyProof.Rows
set_option maxRecDepth 100000 in
set_option maxHeartbeats 0 in
theorem PySem.Challenge.cw_parentlines_k36_finds_refused_holds : PySem.Challenge.rw_parentlines_k36_finds_refused.Holds := by
 w_on;o_law;k_head;(case hw=>w_witness2)
 k_fill
 refine df.walk (l:=PySem.Challenge.rw_parentlines_k36_finds_refused) rfl rfl (fun w h Y=>PySem.W.kIn_of Y) ?F
 case F =>
  intro w mg fa h KX G si;refine' df.all_mk KX G si ?d ?z ?hJ ?K0 ?aC ?Ie ?Ig ?Ih ?Ii ?Ij ?Ik ?Il ?Im ?Io ?BR ?Ip ?Iq ?Ir ?Iu ?BS ?Iv ?Iw ?Iy ?BU ?Iz ?K1 ?K2 ?K3 ?K4 ?K5 ?K7 ?Fo ?Es ?FX ?GJ ?K8 ?K9 ?hV ?K'
  (case d=>(repeat (refine' L2.acr ?a ?l ?c ?k ?_;(case a=>k_is);(case l=>k_is);(case c=>k_is);(case k=>k_is)));exact trivial)
  (case z=>(repeat' first|exact trivial|refine And.intro ?_ ?_) <;> k_is)
  (case hJ=>(repeat' first|exact trivial|refine And.intro ?_ ?_) <;> k_is)
  (case K0=>k_is)
  (case aC=>k_is)
  (case Ie=>k_is)
  (case Ig=>k_is)
  (case Ih=>k_is)
  (case Ii=>k_is)
  (case Ij=>k_is)
  (case Ik=>k_is)
  (case Il=>k_is)
  (case Im=>k_is)
  (case Io=>k_is)
  (case BR=>k_is)
  (case Ip=>k_is)
  (case Iq=>k_is)
  (case Ir=>k_is)
  (case Iu=>k_is)
  (case BS=>k_is)
  (case Iv=>k_is)
  (case Iw=>k_is)
  (case Iy=>k_is)
  (case BU=>k_is)
  (case Iz=>k_is)
  (case K1=>k_is)
  (case K2=>k_is)
  (case K3=>k_is)
  (case K4=>k_is)
  (case K5=>k_is)
  (case K7=>k_is)
  (case Fo=>k_is)
  (case Es=>k_is)
  (case FX=>k_is)
  (case GJ=>k_is)
  (case K8=>k_is)
  (case K9=>k_is)
  (case hV=>kernel_rfl)
  (case K'=>kernel_rfl)
