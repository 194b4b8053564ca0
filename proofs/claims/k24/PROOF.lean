import PyProof.Rows.All
import Wide.All
import OpenK.AllK
import Wide.FinOn
import Lean
import PyProof.EqAt
import PyProof.EqKinds
import PyProof.TupleCall
import PyProof.ReprRoads
import PyProof.ReprBulk
import PyProof.EnumMake
import PyProof.EnumFor
import KE.KRevSl
import KE.KDictList
import PyProof.ZipIter
import PyProof.AttrMissHeap
import KE.KDictOf
import KE.KItemsList
import PyProof.Rows.ZipGen
import PyProof.CallFns
import PyProof.NsDelKeeps
import PyProof.StrWalks
import PyProof.FString5
import KE.KSortTup
import PyProof.SetRoads
import PyProof.SetNew
import PyProof.Rows.SetFrom
import PyProof.WalksMore
import PyProof.ForAny
import PyProof.DictWalks
import PyProof.MeetsDict
import PyProof.StrLawsIn
import PySem.Challenge.RW_parentlines_k24_whole_families_told_apar
set_option Elab.async false
set_option linter.all false
set_option maxRecDepth 100000
set_option maxHeartbeats 4000000
def ag:=@PySem.wpAny_bind
def ar:=@List.length_map
def au:=@PySem.wpAny_pure
def ay:=@PySem.sizeLine_eq
def aE:=@if_neg
def aI:=@if_pos
def aO:=@Nat.le_refl
def aT:=@Ne.symm
def aW:=@List.length_append
def aX:=@List.length_take
def aY:=@List.map_append
def aZ:=@List.mem_cons_self
def a9:=@List.mem_cons
def bj:=@List.mem_map
def bq:=@PySem.Heap.lt_size
def br:=@List.getElem?_eq_getElem
def bx:=@PySem.Heap.get?_push_of_some
def bX:=@List.mem_cons_of_mem
def bY:=@Nat.zero_le
def cq:=@List.getElem?_eq_some_iff
def cu:=@Nat.ne_of_lt
def cz:=@List.mem_append
def cF:=@decide_eq_true
def cJ:=@List.size_toArray
def c8:=@decide_eq_false
def c9:=@Nat.le_trans
def dc:=@List.length_cons
def de:=@List.take_succ
def df:=@PySem.W.mg_of
def dw:=@List.take_length
def dz:=@PySem.boot_len
def dU:=@Bool.false_ne_true
def d5:=@List.map_cons
def d6:=@List.length_drop
def eK:=@PySem.Heap.get?_push_size
def eL:=@List.mem_singleton
def eN:=@beq_iff_eq
def eV:=@Bool.and_eq_true_iff
def fo:=@List.all_eq_true
def fB:=@PySem.wpAny_holding
def fV:=@List.nodup_cons
def gg:=@congrArg
def gj:=@List.mem_of_getElem?
def gD:=@Array.length_toList
def gW:=@List.mem_append_right
def gX:=@List.getElem?_map
def gY:=@Bool.and_eq_true
def gZ:=@PySem.W.mg_none_of
def ie:=@Option.some.inj
def ig:=@Nat.lt_of_lt_of_le
def ik:=@List.append_nil
def iE:=@List.lookup_cons
def iF:=@Option.map_eq_some_iff
def iG:=@of_decide_eq_true
def iH:=@PySem.PassesOwn.never
def jl:=@List.getElem_mem
def jL:=@PySem.Paired.length
def jM:=@List.getD_eq_getElem?_getD
def jN:=@Nat.le_succ_of_le
def kB:=@List.mem_filter
def kC:=@PySem.wpAny_setState_of
def kE:=@List.not_mem_nil
def kG:=@or_false
def lF:=@PySem.wpAny_mono
def mj:=@PySem.W.kia_one
def mn:=@if_true
def mq:=@PySem.wpAny_newObj_type
def mr:=@PySem.Heap.get?_update_other
def mw:=@PySem.codeAny_builtin
def mx:=@Array.getD_eq_getD_getElem?
def my:=@List.map_map
def mz:=@List.map_drop
def mE:=@List.mem_of_mem_drop
def mG:=@List.all_map
def oz:=@beq_eq_false_iff_ne
def oA:=@List.mem_range
def oB:=@List.mem_append_left
def oC:=@PySem.wpAny_truthy_bool
def oE:=@PySem.mem_of_lookup
def oF:=@PySem.wpAny_typeOf
def oG:=@PySem.Heap.get?_update_self
def oH:=@List.length_singleton
def oJ:=@List.nodup_nil
def oK:=@PySem.wpAny_askSetting
def oM:=@decide_eq_true_eq
def oN:=@List.mem_of_mem_take
def qt:=@Nat.lt_irrefl
def qu:=@List.mem_filterMap
def qv:=@Bool.eq_iff_iff
def qw:=@PySem.wpAny_call
def qx:=@Int.toNat_natCast
def qy:=@PySem.wpAny_field
def qz:=@Nat.le_succ
def qA:=@PySem.Around.under_plainId
def qB:=@PySem.plainId_quiet
def qD:=@List.any_eq_true
def qE:=@List.nodup_append
def qF:=@List.Perm.refl
def qG:=@List.length_filter_le
def sk:=@Sum.inr.inj
def sr:=@PySem.wpAny_standAt
def su:=@PySem.codeAny_mono
def sx:=@PySem.wpAny_call_entry
def sy:=@List.any_cons
def sA:=@PySem.Heap.size_push
def sC:=@PySem.wpAny_rule
def sD:=@Nat.lt_succ_of_lt
def sE:=@PySem.F.called_set
def sF:=@List.eq_nil_of_length_eq_zero
def sG:=@PySem.F.plainAttrs_list
def sH:=@List.filter_append
def sI:=@Int.emod_nonneg
def sJ:=@Int.emod_lt_of_pos
def sL:=@List.map_take
def vk:=@PySem.wpAny_passesOwn
def vm:=@PySem.wpAny_Call_Name_kw
def vn:=@List.all_cons
def vo:=@Array.getElem?_toList
def vt:=@Nat.lt_trans
def vv:=@List.length_nil
def vw:=@Array.getElem?_eq_some_iff
def vx:=@Array.getElem?_eq_getElem
def vy:=@Nat.lt_of_le_of_lt
def vz:=@Nat.add_le_add_left
def vA:=@decide_eq_decide
def yC:=@Nat.le_of_lt
def yD:=@PySem.wpAny_execs_nil
def yE:=@if_false
def yF:=@PyProof.Rows.slot_tuple_getitem
def yG:=@List.length_set
def yH:=@PySem.call_meets
def yI:=@PySem.W.any_some
def yJ:=@PySem.wpAny_loadPart
def yK:=@List.find?_cons
def yL:=@PySem.Heap.UpToSlots.trans
def yM:=@Nat.not_lt_zero
def yN:=@Nat.lt_succ_self
def yO:=@PySem.wpAny_setField_rec
def yP:=@Nat.le_add_right
def yQ:=@List.length_pos_iff
def yR:=@List.take_of_length_le
def yS:=@PySem.F.slot_list_append
def yT:=@PySem.F.type_list_append
def yU:=@Int.eq_ofNat_of_zero_le
def B1:=@Option.map_some
def B3:=@PySem.Heap.get?_none_of_le
def B4:=@PySem.wpAny_pyIter_list
def B5:=@List.replicate_succ
def B6:=@List.append_assoc
def B7:=@PySem.wpAny_loadPart_at
def B8:=@PySem.F.store_object
def B9:=@PySem.W.looks_mroIn
def B':=@List.length_range
def Ca:=@Nat.not_lt
def Cb:=@List.drop_eq_getElem_cons
def Cc:=@PySem.wpAny_throw
def Cd:=@PySem.W.hideAll_none
def Ce:=@List.map_congr_left
def Cf:=@Nat.min_eq_left
def Cg:=@List.filter_cons_of_pos
def JU:=@Nat.ne_of_gt
def JV:=@PySem.wpAny_load
def JW:=@PyProof.Rows.callWith_type1
def JX:=@List.of_mem_zip
def JY:=@Option.isSome_iff_exists
def JZ:=@PySem.seqIndex_of
def J0:=@List.reverse_cons
def J':=@List.flatten_cons
def Ka:=@PySem.codeAny_call_builtin
def Kb:=@Option.bind_some
def Kc:=@PySem.W.Looks.here
def Kd:=@PySem.wpAny_getItem_str_slice
def Ke:=@PySem.post_val_or_str
def Kf:=@Array.toList_inj
def Kg:=@List.length_filterMap_le
def Kh:=@Array.size_append
def Ki:=@List.mem_erase_of_ne
def Kj:=@List.any_map
def Kk:=@PySem.F.plain_any_loop
def Kl:=@List.getElem_of_mem
def Km:=@List.length_reverse
def Kn:=@PySem.tupleKind_room_in1
def Ko:=@PySem.wpAny_setField
def Kq:=@PySem.Heap.SameBut.update
def Kr:=@PySem.fits_of_scanBound
def Ks:=@Nat.lt_of_succ_lt_succ
def Kt:=@Array.getElem?_eq_none
def Ku:=@List.sum_cons
def Kv:=@List.drop_length
def Kw:=@Bool.and_true
def Kx:=@Int.ediv_nonneg
def Ky:=@List.filter_cons_of_neg
def Uh:=@PySem.Value.isStrOf_shape
def Ui:=@List.filterMap_cons
def Uj:=@PySem.wpAny_execs_cons
def Uk:=@List.any_eq_false
def Ul:=@PySem.W.cellsFrom_some
def Um:=@List.take_sublist
def Up:=@PySem.noFill_tuple_add
def Uq:=@PySem.seq_tuple_add
def Ur:=@PySem.F.slot_tuple_add
def Us:=@PySem.F.entry_tuple_add
def Ut:=@PySem.F.args_tuple_add_2
def Uu:=@Int.ediv_one
def Uv:=@PySem.wpAny_callSpecial?_slot
def Uw:=@PySem.evalPart_none
def Ux:=@PySem.slot_list_getitem
def Uy:=@Bool.or_false
def Uz:=@Nat.add_comm
def UA:=@Bool.false_eq_true
def UB:=@List.lookup_append
def UC:=@PySem.wpAny_noRaise
def UD:=@PySem.Code.quiet_builtin
def UE:=@PySem.codeAny_of_tree
def UG:=@PySem.wpAny_attempt
def UI:=@PySem.F.excBase_ValueError
def UJ:=@List.length_erase_of_mem
def UK:=@List.length_pos_of_mem
def UL:=@Bool.false_or
def UM:=@List.drop_of_length_le
def UN:=@List.drop_zero
def UO:=@List.cons_append
def UP:=@Option.isSome_map
def UR:=@PySem.wpAny_runValue
def US:=@PySem.typeLookup_type
def UT:=@PySem.builtinLookup_eq_fast
def UU:=@PySem.F.slot_tuple_getattribute
def UW:=@List.ext_getElem
def UX:=@PySem.wpAny_newList
def UY:=@PyProof.Rows.F.plain_set_update_loop
def UZ:=@PySem.isSubtype_type
def U0:=@PySem.wpAny_pyIter_slot
def U1:=@PySem.wpAny_ite_split
def U6:=@List.getElem?_eq_none
def U7:=@List.length_eq_zero_iff
def U8:=@PySem.ReadAtMost.cons
def U9:=@Classical.choose_spec
def U':=@List.nodup_iff_pairwise_ne
def Va:=@PySem.F.slot_dict_get
def Vb:=@List.mem_reverse
def Vc:=@List.map_reverse
def Vd:=@List.filter_eq_self
def Ve:=@Nat.min_eq_right
def Vf:=@List.mem_of_head?
def Vg:=@PySem.PassesOwn.leaving
def Vh:=@List.filter_cons
def Vi:=@List.length_dropLast
def alU:=@List.getElem?_set_self
def alV:=@List.getElem?_set_ne
def alW:=@PySem.Calls.Name_function_global
def al5:=@PySem.wpAny_newFunctionEnv_cells
def al6:=@PyProof.Rows.callWith_builtin1
def amd:=@PySem.F.attrBase_ValueError
def amg:=@PySem.plainObj_wpAny_Assign_Attribute
def amh:=@List.getElem_toArray
def amj:=@Array.perm_iff_toList_perm
def amk:=@PySem.Calls.call_function_entry
def amn:=@List.length_eraseIdx
def amo:=@List.Perm.append_left
def amq:=@List.perm_cons_erase
def amr:=@PySem.F.plain_extend_loop
def ams:=@PySem.F.plain_list_iadd
def amw:=@List.pairwise_singleton
def amB:=@List.countP_eq_length_filter
def amC:=@Classical.byContradiction
def amD:=@List.cons_lt_cons_iff
def amE:=@List.dropLast_sublist
def amG:=@PySem.F.plainAttrs_dict
def amH:=@PySem.F.type_dict_get
def amJ:=@List.mem_or_eq_of_mem_set
def amK:=@Nat.mul_le_mul_right
namespace L2
open PySem PySem.Spec PyProof.Rows
abbrev Key:=Sum Int Str
def tW:Key->Value->Bool
 | .inl k,v=>Value.isInt k v
 | .inr x,v=>Value.isStrOf x v
def abj (w:World):Key->Int
 | .inl k=>hashInt k
 | .inr x=>hashStr w x
theorem mH:∀ {k:Key}{v:Value},tW k v=true->(∃i t,k=Sum.inl i/\v=Value.int i t)\/(∃x t,k=Sum.inr x/\v=Value.str x t)
 | .inl i,v,h=>by
  obtain⟨t,e⟩:=Value.isInt_shape (k:=i) (v:=v) h
  exact .inl ⟨i,t,rfl,e⟩
 | .inr x,v,h=>by
  obtain⟨t,e⟩:=Uh (x:=x) (v:=v) h
  exact .inr ⟨x,t,rfl,e⟩
theorem WC (i:Int) (t:Tok):tW (.inl i) (.int i t)=true:=by simp[tW,Value.isInt]
theorem WD (x:Str) (t:Tok):tW (.inr x) (.str x t)=true:=by simp[tW,Value.isStrOf]
theorem Zi (a b:Int):decide ((Sum.inl a:Key)=Sum.inl b)=(a==b):=by
 by_cases e:a=b
 ·subst e;simp
 ·have h : ¬ (Sum.inl a:Key)=Sum.inl b:=fun q=>e (Sum.inl.inj q)
  rw[c8 h]
  exact(oz.mpr e).symm
theorem Zj (a b:Str):decide ((Sum.inr a:Key)=Sum.inr b)=decide (a=b):=by
 by_cases e:a=b
 ·subst e;simp
 ·have h : ¬ (Sum.inr a:Key)=Sum.inr b:=fun q=>e (sk q)
  rw[c8 h,c8 e]
theorem Zk (a:Int) (b:Str):decide ((Sum.inl a:Key)=Sum.inr b)=false:=c8 (fun q=>nomatch q)
theorem Zl (a:Str) (b:Int):decide ((Sum.inr a:Key)=Sum.inl b)=false:=c8 (fun q=>nomatch q)
def d7 (prog:Program) (w:World):PySem.KeyKind prog w Key where
 is:=tW
 hash:=abj w
 inj:=fun v a b ha hb=>by
  rcases mH ha with⟨i,t,rfl,rfl⟩|⟨x,t,rfl,rfl⟩
  ·rcases mH hb with⟨j,u,rfl,e⟩|⟨y,u,rfl,e⟩
   ·injection e with e1 _;rw[e1]
   ·exact nomatch e
  ·rcases mH hb with⟨j,u,rfl,e⟩|⟨y,u,rfl,e⟩
   ·exact nomatch e
   ·injection e with e1 _;rw[e1]
 byValue:=fun k v h=>by
  rcases mH h with⟨i,t,rfl,rfl⟩|⟨x,t,rfl,rfl⟩ <;> rfl
 pyHash:=fun hv h=>by
  rcases mH hv with⟨i,t,rfl,rfl⟩|⟨x,t,rfl,rfl⟩
  ·exact wpAny_pyHash_int h
  ·exact wpAny_pyHash_str h
 eqBool:=fun hu hv h=>by
  rcases mH hu with⟨i,t,rfl,rfl⟩|⟨x,t,rfl,rfl⟩
  ·rcases mH hv with⟨j,u,rfl,rfl⟩|⟨y,u,rfl,rfl⟩
   ·rw[Zi]at h;exact wpAny_eqBool_int h
   ·rw[Zk]at h;exact SeqAt.EqAt.int_str i t y u _ _ _ _ h
  ·rcases mH hv with⟨j,u,rfl,rfl⟩|⟨y,u,rfl,rfl⟩
   ·rw[Zl]at h;exact SeqAt.EqAt.str_int x t j u _ _ _ _ h
   ·rw[Zj]at h;exact wpAny_eqBool_str h
 «strs» :=fun k x t v h=>by
  rcases mH h with⟨i,u,rfl,e⟩|⟨y,u,rfl,e⟩
  ·exact nomatch e
  ·injection e with e1 _
   subst e1
   cases v <;> rfl
theorem VL (prog:Program) (w:World) (i:Int) (t:Tok):(d7 prog w).is (.inl i) (.int i t)=true:=WC i t
theorem VM (prog:Program) (w:World) (x:Str) (t:Tok):(d7 prog w).is (.inr x) (.str x t)=true:=WD x t
end L2
namespace L2
open PySem PySem.Spec PyProof.Rows
inductive V where
 | aG | bl (b:Bool)|int (i:Int)|str (x:Str)|ja (b:Array UInt8)|jY (b:UInt64)|ref (a:Addr)|ty (n:String)
 deriving DecidableEq
def RelV:V->Value->Prop
 | .aG,u=>u=Value.none
 | .bl b,u=>u=Value.bool b
 | .int i,u=>∃t,u=Value.int i t
 | .str x,u=>∃t,u=Value.str x t
 | .ja b,u=>∃t,u=Value.bytes b t
 | .jY b,u=>∃t,u=Value.float b t
 | .ref a,u=>u=Value.ref a
 | .ty n,u=>u=Value.type n
abbrev Vals:List V->List Value->Prop:=Paired RelV
theorem Vals.length {xs:List V}{us:List Value} (r:Vals xs us):xs.length=us.length:=jL r
theorem Vals.get:∀ {xs:List V}{us:List Value}{i:Nat}{x:V},Vals xs us->xs[i]? = some x -> ∃u,us[i]? = some u/\RelV x u
 | _,_,_,_,.nil,e=>by simp at e
 | _,_,0,_,.cons r _,e=>by simp at e;subst e;exact⟨_,rfl,r⟩
 | _,_,i+1,x,.cons _ t,e=>by
  obtain⟨u,h1,h2⟩:=Vals.get (i:=i) (x:=x) t (by simpa using e)
  exact⟨u,by simpa using h1,h2⟩
theorem Vals.set {x:V}{u:Value} (r:RelV x u):∀ {xs:List V}{us:List Value} (i:Nat),Vals xs us->Vals (xs.set i x) (us.set i u)
 | _,_,_,.nil=>.nil
 | _,_,0,.cons _ t=>.cons r t
 | _,_,i+1,.cons q t=>.cons q (Vals.set r i t)
theorem Vals.append:∀ {xs ys:List V}{us ws:List Value},Vals xs us->Vals ys ws->Vals (xs++ys) (us++ws)
 | _,_,_,_,.nil,s=>s
 | _,_,_,_,.cons r t,s=>.cons r (Vals.append t s)
theorem Vals.take:∀ {xs:List V}{us:List Value} (n:Nat),Vals xs us->Vals (xs.take n) (us.take n)
 | _,_,0,_=>.nil
 | _,_,_+1,.nil=>.nil
 | _,_,n+1,.cons r t=>.cons r (Vals.take n t)
theorem Vals.drop:∀ {xs:List V}{us:List Value} (n:Nat),Vals xs us->Vals (xs.drop n) (us.drop n)
 | _,_,0,r=>r
 | _,_,_+1,.nil=>.nil
 | _,_,n+1,.cons _ t=>Vals.drop n t
def fY:Option V->Option Value->Prop
 | some v,some u=>RelV v u
 | none,none=>True
 | _,_=>False
def KV {κ:Type}:List (κ×V)->List (κ×Value)->Prop:=Paired fun(p:κ×V) (q:κ×Value)=>p.1=q.1/\RelV p.2 q.2
def kV:Key->V
 | .inl i=>.int i
 | .inr x=>.str x
inductive HO where
 | lst (xs:List V)
 | tup (xs:List V)
 | dK (kvs:List (Key×V))|dT (kvs:List (List Key×V))
 | set (S:Int->Bool) (n:Nat)
 | ins (C dx:Addr) (fs:List (Str×V))
 | own (x:Addr)
 | xd (fs:List (Str×V))
 | met (f x:Addr)
 | w8 (lo hi:Int)
 | iB (o:Obj) (u:HO)
 | nP (ps:Array Value)
 | ext (φ:Heap->Prop)
abbrev Hp:=Addr->Option HO
def upd (H:Hp) (a:Addr) (o:HO):Hp:=fun b=>if b=a then some o else H b
theorem af {H:Hp}{a:Addr}{o:HO}:upd H a o a=some o:=by unfold upd;rw[aI rfl]
theorem aj {H:Hp}{a b:Addr}{o:HO} (h:b≠a):upd H a o b=H b:=by unfold upd;rw[aE h]
theorem iq {H:Hp}{a:Addr}{o u:HO}:upd (upd H a o) a u=upd H a u:=by
 funext b;unfold upd;split <;> rfl
theorem bZ {H:Hp}{a b:Addr}{o u:HO} (h:H a=some o) (h':H b=some u) (d:o≠u):a≠b:=by
 intro e;subst e;rw[h]at h';exact d (ie h')
theorem ax {H:Hp}{a b:Addr}{o:HO} (h:H a=some o) (h':H b=none):a≠b:=by
 intro e;subst e;rw[h]at h';cases h'
def pL (h:Heap) (a:Addr) (items:Array Value):Prop:= ∃o,h.get? a=some o/\o.cls = .type "tuple" /\ ∃n,o.data = .seq items n/\o.dict=none
theorem pL.is {h:Heap}{a:Addr}{items:Array Value} (x:pL h a items):IsTup h a items:=let ⟨o,e,c,n,d,_⟩:=x;⟨o,e,c,n,d⟩
theorem pL.new (h:Heap) (items:Array Value):pL (h.push { cls:= .type "tuple", data:= .seq items }) h.objs.size items:=⟨_,eK _ rfl,rfl,_,rfl,rfl⟩
section
variable (P : Program) (w : World)
def bH (H:Hp) (h:Heap) (a:Addr):HO->Prop
 | .lst xs=>xs.length<=sizeLine /\ ∃ (its:List Value) (n:Nat),Vals xs its/\h.get? a=some { cls:= .type "list", data:= .seq its.toArray n }
 | .tup xs=>xs.length<=sizeLine /\ ∃its:List Value,Vals xs its/\pL h a its.toArray
 | .dK kvs=>kvs.length<=sizeLine/\(a==sysModules)=false /\ ∃vs,KV kvs vs/\h.DictOf (d7 P w) a vs
 | .dT kvs=>kvs.length<=sizeLine/\(a==sysModules)=false /\ ∃xs:List (List Key×Addr×Value),
   Paired (fun(p:List Key×V) (q:List Key×Addr×Value)=>p.1=q.1/\H q.2.1=some (.tup (p.1.map kV))/\RelV p.2 q.2.2) kvs xs /\
   ∃o es ep,h.get? a=some o/\o.ExactDict/\o.data = .dict es ep/\es.toList=xs.map (entryOfKey (tupleKind (d7 P w)))/\(xs.map (·.1)).Nodup
 | .set S n=>h.SetOf (intKind P w) a S n
 | .ins C dx fs=>H dx=some (.own a)/\fs.length<=1000/\dx≠a/\h.get? a=some (PySem.W.instObj C dx) /\
   ∃mA,h.Ns1 dx mA/\(∀f,fY (fs.lookup f) (mA f))/\PySem.Within mA (fs.map (·.1))
 | .own _=>∃o,h.get? a=some o
 | .xd fs=>∃mA,h.Ns1 a mA /\ ∀f,fY (fs.lookup f) (mA f)
 | .w8 lo hi=>∃t u v,h.get? a=some { cls:= .type "range", data:= .fields #[.int lo t,.int hi u,.int 1 v] }
 | .iB o u=>h.get? a=some o/\bH H h a u
 | .nP ps=>h.get? a=some { cls:= .none,data:= .fields ps }
 | .met f x=>h.get? a=some (PySem.W.methodObj (.ref f) (.ref x))
 | .ext φ=>φ h/\(∃o,h.get? a=some o) /\ ∀h1 h2:Heap,φ h1->(∀o,h1.get? a=some o->h2.get? a=some o)->φ h2
def cS (H:Hp) (h:Heap):Prop:= ∀a o,H a=some o->bH P w H h a o
end
section
variable {P : Program} {w : World} {H H' : Hp} {h h' : Heap} {a : Addr} {o : HO}
theorem bH.lt (x:bH P w H h a o):a < h.objs.size:=by
 cases o with
 | lst xs=>obtain⟨_,_,_,_,e⟩:=x;exact bq e
 | tup xs=>obtain⟨_,_,_,p⟩:=x;exact p.is.lt
 | dK kvs=>obtain⟨_,_,_,_,o,_,_,e,_⟩:=x;exact bq e
 | dT kvs=>obtain⟨_,_,_,_,o,_,_,e,_⟩:=x;exact bq e
 | set S n=>obtain⟨o,_,_,_,e,_⟩:=x;exact bq e
 | ins C dx fs=>obtain⟨_,_,_,e,_⟩:=x;exact bq e
 | own y=>obtain⟨_,e⟩:=x;exact bq e
 | xd fs=>obtain⟨_,⟨_,_,_,e,_⟩,_⟩:=x;exact bq e
 | w8 lo hi=>obtain⟨_,_,_,e⟩:=x;exact bq e
 | iB ob u=>obtain⟨e,_⟩:=x;exact bq e
 | nP ps=>exact bq (show h.get? a=some _ from x)
 | met f y=>exact bq (show h.get? a=some _ from x)
 | ext φ=>obtain⟨_,⟨_,e⟩,_⟩:=x;exact bq e
theorem Paired.Ac {α β:Type}{F G:α->β->Prop}:∀ {wG:List α}{wH:List β},Paired F wG wH->(∀a b,F a b->G a b)->Paired G wG wH
 | _,_,.nil,_=>.nil
 | _,_,.cons r t,f=>.cons (f _ _ r) (Paired.Ac t f)
theorem Paired.imp' {α β:Type}{F G:α->β->Prop} (f:∀a b,F a b->G a b) {wG:List α}{wH:List β} (r:Paired F wG wH):Paired G wG wH:=Paired.Ac r f
theorem bH.gF (x:bH P w H h a o) (k:∀b u,(b=a\/H b=some (.own a))->h.get? b=some u->h'.get? b=some u)
  (ho:∀b,H b=some (.own a)->H' b=some (.own a)) (ht:∀b xs,H b=some (.tup xs)->H' b=some (.tup xs)):bH P w H' h' a o:=by
 induction o with
 | lst xs=>obtain⟨z,its,n,r,e⟩:=x;exact⟨z,its,n,r,k _ _ (.inl rfl) e⟩
 | tup xs=>obtain⟨z,its,r,ob,e,c⟩:=x;exact⟨z,its,r,ob,k _ _ (.inl rfl) e,c⟩
 | dK kvs=>obtain⟨z,y,vs,r,ob,es,ep,e,c⟩:=x;exact⟨z,y,vs,r,ob,es,ep,k _ _ (.inl rfl) e,c⟩
 | dT kvs =>
  obtain⟨z,y,xs,r,ob,es,ep,e,c⟩:=x
  exact⟨z,y,xs,Paired.Ac r fun p q z=>⟨z.1,ht _ _ z.2.1,z.2.2⟩,ob,es,ep,k _ _ (.inl rfl) e,c⟩
 | set S n=>obtain⟨ob,es,ep,t,e,c⟩:=x;exact⟨ob,es,ep,t,k _ _ (.inl rfl) e,c⟩
 | ins C dx fs =>
  obtain⟨d,z,ne,e,mA,⟨od,es,ep,e2,c⟩,r⟩:=x
  exact⟨ho _ d,z,ne,k _ _ (.inl rfl) e,mA,⟨od,es,ep,k _ _ (.inr d) e2,c⟩,r⟩
 | own y=>obtain⟨ob,e⟩:=x;exact⟨ob,k _ _ (.inl rfl) e⟩
 | xd fs=>obtain⟨mA,⟨od,es,ep,e,c⟩,r⟩:=x;exact⟨mA,⟨od,es,ep,k _ _ (.inl rfl) e,c⟩,r⟩
 | w8 lo hi=>obtain⟨t,u,v,e⟩:=x;exact⟨t,u,v,k _ _ (.inl rfl) e⟩
 | iB ob u ih=>obtain⟨e,q⟩:=x;exact⟨k _ _ (.inl rfl) e,ih q⟩
 | nP ps =>
  have e:h.get? a=some { cls:= .none,data:= .fields ps }:=x
  show h'.get? a=some { cls:= .none,data:= .fields ps }
  exact k a _ (.inl rfl) e
 | met f y =>
  have e:h.get? a=some (PySem.W.methodObj (.ref f) (.ref y)):=x
  show h'.get? a=some (PySem.W.methodObj (.ref f) (.ref y))
  exact k a _ (.inl rfl) e
 | ext φ=>obtain⟨p,⟨o,e⟩,st⟩:=x;exact⟨st _ _ p fun o q=>k _ _ (.inl rfl) q,⟨o,k _ _ (.inl rfl) e⟩,st⟩
theorem cS.lt (x:cS P w H h) (e:H a=some o):a < h.objs.size:=(x a o e).lt
theorem cS.fresh (x:cS P w H h) (e:h.objs.size<=a):H a=none:=by
 cases q:H a with
 | none=>rfl
 | some u=>exact absurd (ig (x.lt q) e) (qt _)
theorem cS.kept (x:cS P w H h) (k:∀b u,h.get? b=some u->h'.get? b=some u):cS P w H h':=fun a o e =>
 (x a o e).gF (fun b u _ q=>k b u q) (fun _ q=>q) fun _ _ q=>q
theorem cS.laid (x:cS P w H h) (k:∀b u,h.get? b=some u->h'.get? b=some u) (hp:h.objs.size<=a) (new:bH P w (upd H a o) h' a o):cS P w (upd H a o) h':=fun b u e=>by
 have hn:=x.fresh hp
 by_cases hb:b=a
 ·subst hb;rw[af]at e;cases e;exact new
 ·rw[aj hb]at e
  exact(x b u e).gF (fun c v _ q=>k c v q) (fun c q=>by rw[aj (ax q hn)];exact q) fun c xs q=>by rw[aj (ax q hn)];exact q
end
def Rd (H:Hp) (a:Addr) (u:HO):Prop:=H a=some u \/ ∃o,H a=some (.iB o u)
theorem Rd.ok {P:Program}{w:World}{H:Hp}{h:Heap}{a:Addr}{u:HO} (r:Rd H a u) (x:cS P w H h):bH P w H h a u:=by
 rcases r with r | ⟨o,r⟩
 ·exact x a u r
 ·obtain⟨_,q⟩:=x a _ r
  exact q
def xf:Option HO->Prop
 | some (.lst _)=>True
 | some (.dK _)=>True
 | some (.dT _)=>True
 | some (.set _ _)=>True
 | some (.ins _ _ _)=>True
 | some (.ext _)=>True
 | _=>False
section
variable {P : Program} {w : World} {H : Hp} {h h' : Heap} {x e : Addr} {o' : HO}
theorem cS.write (ok:cS P w H h) (mu:xf (H x)) (he:e=x\/H e=some (.own x)) (k:∀b u,b≠e->h.get? b=some u->h'.get? b=some u) (uH:∃u,h'.get? e=some u)
  (new:bH P w (upd H x o') h' x o'):cS P w (upd H x o') h':=fun b u q=>by
 have Oy:∀c y,H c=some (.own y)->c≠x:=fun c y r z=>by subst z;rw[r]at mu;exact mu
 have abk:∀c xs,H c=some (.tup xs)->c≠x:=fun c xs r z=>by subst z;rw[r]at mu;exact mu
 by_cases hb:b=x
 ·subst hb;rw[af]at q;cases q;exact new
 ·rw[aj hb]at q
  by_cases rF:b=e
  ·have q':H b=some (.own x):=by
    rcases he with z | z
    ·exact absurd (rF.trans z) hb
    ·rw[rF];exact z
   rw[q]at q';cases q'
   obtain⟨v,hv⟩:=uH
   exact⟨v,by rw[rF];exact hv⟩
  ·refine(ok b u q).gF (fun c v hc r=>k c v ?_ r) (fun c r=>by rw[aj (Oy c b r)];exact r) fun c xs r=>by rw[aj (abk c xs r)];exact r
   rcases hc with rfl | hc
   ·exact rF
   ·rintro rfl
    rcases he with z | z
    ·exact Oy c b hc z
    ·rw[hc]at z;cases z;exact hb rfl
end
structure Un (fs ex:List Addr) (H H':Hp) (h h':Heap):Prop where
 keep:∀b o,h.get? b=some o->H b=none->b ∉ fs->b ∉ ex->h'.get? b=some o
 slot:∀b o,h.get? b=some o->H b=none->b∈fs->b ∉ ex -> ∃sl,h'.get? b=some { o with slots:=sl }
 free:∀b o,h.get? b=some o->H b=none->b ∉ ex->H' b=none
 there:∀b o,h.get? b=some o->b ∉ ex -> ∃o',h'.get? b=some o'
 jT:∀b xs,H b=some (.tup xs)->H' b=some (.tup xs)
 jt:∀b o u,H b=some (.iB o u)->H' b=some (.iB o u)
 jU:∀b ps,H b=some (.nP ps) -> ∃more,H' b=some (.nP (ps++more))
section
variable {fs fs' ex ex' : List Addr} {H H1 H2 : Hp} {h h1 h2 h' : Heap} {a x e : Addr} {o : HO}
theorem Un.any (u:Un fs ex H H1 h h1) {b:Addr}{ob:Obj} (q:h.get? b=some ob) (n:H b=none) (hx:b ∉ ex):∃sl,h1.get? b=some { ob with slots:=sl }:=by
 by_cases hb:b∈fs
 ·exact u.slot b ob q n hb hx
 ·exact⟨ob.slots,u.keep b ob q n hb hx⟩
theorem Un.kept (k:∀b u,h.get? b=some u->h'.get? b=some u):Un fs ex H H h h':=
 ⟨fun b ob q _ _ _=>k b ob q,fun b ob q _ _ _=>⟨ob.slots,k b ob q⟩,fun _ _ _ n _=>n,fun b ob q _=>⟨ob,k b ob q⟩,fun _ _ q=>q,fun _ _ _ q=>q,fun _ ps q=>⟨#[],by rw[q];simp⟩⟩
theorem Un.refl:Un fs ex H H h h:=Un.kept fun _ _ q=>q
theorem Un.laid (k:∀b u,h.get? b=some u->h'.get? b=some u) (hp:h.objs.size<=a) (hn:H a=none):Un fs ex H (upd H a o) h h' where
 keep:=fun b u q _ _ _=>k b u q
 slot:=fun b u q _ _ _=>⟨u.slots,k b u q⟩
 free:=fun b u q n _=>by rw[aj (cu (ig (bq q) hp))];exact n
 there:=fun b u q _=>⟨u,k b u q⟩
 jT:=fun b xs q=>by rw[aj (ax q hn)];exact q
 jt:=fun b u xs q=>by rw[aj (ax q hn)];exact q
 jU:=fun b ps q=>⟨#[],by rw[aj (ax q hn),q];simp⟩
theorem Un.write (mu:xf (H x)) (he:e=x\/H e=some (.own x)) (k:∀b u,b≠e->h.get? b=some u->h'.get? b=some u) (uH:∃u,h'.get? e=some u):Un fs ex H (upd H x o) h h':=by
 have hx:∀b,H b=none->b≠x:=fun b n z=>by subst z;rw[n]at mu;exact mu
 have hb:∀b,H b=none->b≠e:=fun b n z=>by
  subst z
  rcases he with r | r
  ·exact hx b n r
  ·rw[n]at r;cases r
 have hm:∀b u,H b=some u -> ¬ xf (some u)->b≠x:=fun b u q nm z=>by subst z;rw[q]at mu;exact nm mu
 refine⟨fun b u q n _ _=>k b u (hb b n) q,fun b u q n _ _=>⟨u.slots,k b u (hb b n) q⟩,fun b u q n _=>by rw[aj (hx b n)];exact n,fun b u q _=>?_,
  fun b xs q=>by rw[aj (hm b _ q fun z=>z)];exact q,fun b u xs q=>by rw[aj (hm b _ q fun z=>z)];exact q,fun b ps q=>⟨#[],by rw[aj (hm b _ q fun z=>z),q];simp⟩⟩
 by_cases rF:b=e
 ·subst rF;exact uH
 ·exact⟨u,k b u rF q⟩
end
def iV (h:Heap) (H:Hp):List Addr:=(List.range h.objs.size).filter fun a=>(H a).isSome
def nE (h:Heap) (H:Hp):Heap:=PySem.W.hideAll h (iV h H)
theorem WE (h:Heap) (H:Hp):(nE h H).objs.size=h.objs.size:=PySem.W.hideAll_size _ _
theorem Xo {h:Heap}{H:Hp}{b:Addr}{o:Obj} (e:h.get? b=some o) (n:H b=none):(nE h H).get? b=some o:=
 PySem.W.hideAll_get _ e fun hm=>by
  have q:(H b).isSome=true:=(kB.mp hm).2
  rw[n]at q;simp at q
theorem Ym {h:Heap}{H:Hp}{b:Addr}{o:Obj} (e:(nE h H).get? b=some o):h.get? b=some o/\H b=none:=by
 have e':h.get? b=some o:=PySem.W.of_hideAll (iV h H) e
 refine⟨e',?_⟩
 cases q:H b with
 | none=>rfl
 | some x =>
  have hm:b∈iV h H:=kB.mpr ⟨oA.mpr (bq e'),by simp[q]⟩
  have z:(nE h H).get? b=none:=PySem.W.hideAll_none (iV h H) hm
  rw[z]at e;cases e
def C6 (g h:Heap) (L:Addr):List (Addr×Obj):=(List.range h.objs.size).filterMap fun a=>if a=L\/(g.get? a).isSome=true then none else (h.get? a).map fun o=>(a,o)
theorem Cn {g h:Heap}{L a:Addr}{o:Obj} (h1:a≠L) (h2:g.get? a=none) (h3:h.get? a=some o):(a,o)∈C6 g h L:=
 qu.mpr ⟨a,oA.mpr (bq h3),by simp[h1,h2,h3]⟩
theorem KG {g h:Heap}{L:Addr}{p:Addr×Obj} (hp:p∈C6 g h L):p.1≠L/\g.get? p.1=none/\h.get? p.1=some p.2:=by
 obtain⟨b,_,e⟩:=qu.mp hp
 split at e
 ·cases e
 ·rename_i hn
  cases q:h.get? b with
  | none=>rw[q]at e;simp at e
  | some u =>
   rw[q]at e
   simp only[B1,Option.some.injEq]at e
   subst e
   refine⟨fun z=>hn (.inl z),?_,q⟩
   show g.get? b=none
   cases r:g.get? b with
   | none=>rfl
   | some v=>exact(hn (.inr (by simp[r]))).elim
theorem Xp {g h:Heap}{L:Addr}:News g L h (C6 g h L):=fun p hp=>let ⟨a,b,c⟩:=KG hp;⟨c,a,b⟩
end L2
namespace L2
open PySem PySem.Spec PyProof.Rows
structure Mod (K:PySem.W.Frag) (mg:Str->Option Value) (base:Heap):Prop where
 jx:K.In base
 glob:base.Ns mainGlobals mg
 blt:∃mb,base.Ns builtinsNs mb /\ ∀x:Str,x ≠ "__name__" -> mb x=bootBuiltins x
 nolimit:base.NoLimit
structure Cx where
 prog:Program
 w:World
 K:PySem.W.Frag
 mg:Str->Option Value
 base:Heap
 A:Around
 N:List Str
 cQ:Shared
 iQ:Hp
 env:Env
 outer:List Env
 stack:List Env
 ex:List Addr
 fn:Str->Bool
 calm:Bool
 pn:List (Addr×Obj)
 xe:Value->Shared->Prop
def cT (l:List Env):List Addr:=l.filterMap (·.frame)
abbrev Cx.fs (X:Cx):List Addr:=cT X.outer
def GQ (sc:Scope) (x:Str):Prop:=sc.names.lookup x=some .local\/sc.names.lookup x=some .cell\/sc.names.lookup x=some .free
def Loc (sc:Scope) (x:Str):Prop:=sc.names.lookup x=some .local\/sc.names.lookup x=some .cell
def Look (env:Env) (h:Heap) (m:Str->Option Value) (x:Str) (u:Value):Prop:=
 (env.kindOf x=some .local/\m x=some u)\/((env.kindOf x=some .cell\/env.kindOf x=some .free) /\ ∃c,env.cells.lookup x=some c/\h.IsCell c (some u))
structure Cx.Ok (X:Cx):Prop where
 mod:Mod X.K X.mg X.base
 kind:X.env.scope.kind = .function
 glob:X.env.globals=mainGlobals
 blt:X.env.builtins=builtinsNs
 above:X.cQ.heap.objs.size<=X.env.locals
 inj:∀x y c,X.env.cells.lookup x=some c->X.env.cells.lookup y=some c->x=y
 has:∀x,(X.env.kindOf x=some .cell\/X.env.kindOf x=some .free) -> ∃c,X.env.cells.lookup x=some c
 nQ:∀x c,X.fn x=true->X.env.cells.lookup x=some c->X.cQ.heap.objs.size<=c
 hd:X.calm=true->X.A.handled=none
 frames:X.A.frames=some X.stack
 ll:X.stack=X.outer\/(X.stack=X.env::X.outer/\X.env.frame=some X.env.locals)
 pO:∀b∈X.ex,b≠X.env.locals /\ ∀x c,X.env.cells.lookup x=some c->c≠b
 bs:∀b o,X.base.get? b=some o->X.cQ.heap.get? b=some o/\X.iQ b=none
 jy:X.base.objs.size<=X.cQ.heap.objs.size
 nF:∀b o,X.base.get? b=some o->b ∉ X.ex
 nG:∀b∈X.ex,b ∉ X.fs
 fZ:X.cQ.heap.FunFrames X.base X.outer
 jZ:∀b∈X.fs,X.iQ b=none
structure Inv (X:Cx) (pins:List (Addr×Obj)) (σ:List (Option V)) (H:Hp) (s:Shared):Prop where
 ok:X.Ok
 os:s.os=X.cQ.os
 bare:AllBare s.gens
 base:Un X.fs X.ex X.iQ H X.cQ.heap s.heap
 loc:∃m,s.heap.Ns X.env.locals m /\ ∀ (i:Nat) (x:Str) (v:V),X.N[i]? = some x->σ[i]? = some (some v)->GQ X.env.scope x -> ∃u,RelV v u/\Look X.env s.heap m x u
 cell:∀x c,X.env.cells.lookup x=some c -> ∃v,s.heap.IsCell c v
 free:H X.env.locals=none
 g6:∀x c,X.env.cells.lookup x=some c->H c=none
 pin:∀p∈X.pn++pins,s.heap.get? p.1=some p.2/\H p.1=none/\p.1≠X.env.locals/\p.1 ∉ X.fs /\ ∀v,p.2.data ≠ .cell v
 aA:cS X.prog X.w H s.heap
 len:σ.length=X.N.length
section
variable {X : Cx} {pins : List (Addr × Obj)} {σ : List (Option V)} {H H' : Hp} {s : Shared} {h' : Heap}
theorem Cx.Ok.rh (ok:X.Ok) {b:Addr}{o:Obj} (e:X.base.get? b=some o):b ∉ X.fs:=fun hb=>by
 have:=(ok.fZ.mem hb).1
 rw[e]at this;cases this
theorem Inv.bs (I:Inv X pins σ H s):∀b o,X.base.get? b=some o->s.heap.get? b=some o/\H b=none:=fun b o e =>
 ⟨I.base.keep b o (I.ok.bs b o e).1 (I.ok.bs b o e).2 (I.ok.rh e) (I.ok.nF b o e),I.base.free b o (I.ok.bs b o e).1 (I.ok.bs b o e).2 (I.ok.nF b o e)⟩
theorem Inv.bk (I:Inv X pins σ H s):∀b o,X.base.get? b=some o->s.heap.get? b=some o:=fun b o e=>(I.bs b o e).1
theorem Inv.mod (I:Inv X pins σ H s):Mod X.K X.mg X.base:=I.ok.mod
theorem Inv.bU (I:Inv X pins σ H s):X.K.In s.heap:=I.ok.mod.jx.keeps I.bk
theorem Inv.lt (I:Inv X pins σ H s):X.env.locals < s.heap.objs.size:=let ⟨_,hn,_⟩:=I.loc;hn.lt
theorem Inv.sz (I:Inv X pins σ H s):X.cQ.heap.objs.size<=s.heap.objs.size:=c9 I.ok.above (yC I.lt)
theorem Inv.abl (I:Inv X pins σ H s) {a:Addr} (h:s.heap.objs.size<=a):a ∉ X.fs:=fun hb=>by
 obtain⟨_,o,ho,_⟩:=I.ok.fZ.mem hb
 exact absurd (ig (bq ho) (c9 I.sz h)) (qt _)
theorem Inv.rG (I:Inv X pins σ H s):∀x c,X.env.cells.lookup x=some c->c≠X.env.locals:=fun x c e z=>by
 obtain⟨v,o,ho,hd⟩:=I.cell x c e
 obtain⟨m,⟨o',es,ep,gG,rH,_⟩,_⟩:=I.loc
 rw[z,gG]at ho;cases ho;rw[rH]at hd;cases hd
theorem Inv.fZ (I:Inv X pins σ H s):s.heap.FunFrames X.base X.outer:=by
 have all:∀ (l:List Env),(∀b∈cT l,b∈X.fs)->X.cQ.heap.FunFrames X.base l->s.heap.FunFrames X.base l:=by
  intro l
  induction l with
  | nil=>intro _ _;trivial
  | cons env r ih =>
   intro hs hl
   obtain⟨hk,⟨L,o,hf,hn,ho,hd⟩,hr⟩:=hl
   have hL:L∈X.fs:=hs L (by unfold cT;rw[Ui,hf];exact aZ)
   obtain⟨sl,e⟩:=I.base.slot L o ho (I.ok.jZ L hL) hL fun z=>I.ok.nG L z hL
   exact⟨hk,⟨L,_,hf,hn,e,hd⟩,ih (fun b hb=>hs b (by unfold cT;rw[Ui,hf];exact bX _ hb)) hr⟩
 exact all X.outer (fun _ hb=>hb) I.ok.fZ
theorem Inv.stack (I:Inv X pins σ H s):s.heap.FunFrames X.base X.stack:=by
 rcases I.ok.ll with e | ⟨e,hf⟩
 ·rw[e];exact I.fZ
 ·rw[e]
  obtain⟨m,hn,_⟩:=I.loc
  refine .cons (by rw[I.ok.kind];decide) hf hn ?_ I.fZ
  exact B3 (c9 I.ok.jy I.ok.above)
theorem Inv.vX (I:Inv X pins σ H s):∀b∈cT X.stack,b∈X.env.locals::X.fs:=fun b hb=>by
 rcases I.ok.ll with e | ⟨e,hf⟩
 ·rw[e]at hb;exact bX _ hb
 ·rw[e]at hb
  unfold cT at hb
  rw[Ui,hf]at hb
  exact hb
theorem Inv.zA (I:Inv X pins σ H s):∀b∈cT X.stack,H b=none:=fun b hb=>by
 rcases a9.mp (I.vX b hb) with e | hb
 ·rw[e];exact I.free
 ·obtain⟨_,o,ho,_⟩:=I.ok.fZ.mem hb
  exact I.base.free b o ho (I.ok.jZ b hb) fun z=>I.ok.nG b z hb
theorem Inv.step {g':Array GenState}{t':Nat}{d':Drawn}{ch:List Addr} (I:Inv X pins σ H s)
  (lU:∀b∈ch,(b∈X.ex\/X.cQ.heap.objs.size<=b)/\b≠X.env.locals/\(∀x c,X.env.cells.lookup x=some c->c≠b) /\ ∀p∈X.pn++pins,p.1≠b)
  (keep:∀b o,b≠X.env.locals->b ∉ X.fs->b ∉ ch->s.heap.get? b=some o->H b=none->h'.get? b=some o)
  (slot:∀b o,b≠X.env.locals->b∈X.fs->b ∉ ch->s.heap.get? b=some o->H b=none -> ∃sl,h'.get? b=some { o with slots:=sl }) (free:∀b o,b ∉ ch->s.heap.get? b=some o->H b=none->H' b=none)
  (there:∀b o,b ∉ ch->s.heap.get? b=some o -> ∃o',h'.get? b=some o')
  (jT:∀b xs,H b=some (.tup xs)->H' b=some (.tup xs)) (jt:∀b o u,H b=some (.iB o u)->H' b=some (.iB o u)) (jU:∀b ps,H b=some (.nP ps) -> ∃more,H' b=some (.nP (ps++more)))
  (ns:∀m,s.heap.Ns X.env.locals m->h'.Ns X.env.locals m) (aA:cS X.prog X.w H' h') (hg:AllBare g') :
  Inv X pins σ H' { s with heap:=h',gens:=g',drawn:=d',toks:=t' }:=by
 have xg:∀b o,X.cQ.heap.get? b=some o->b≠X.env.locals:=fun b o e=>cu (ig (bq e) I.ok.above)
 have AL:∀b o,X.cQ.heap.get? b=some o->b ∉ X.ex->b ∉ ch:=fun b o e hx hb=>by
  rcases (lU b hb).1 with z | z
  ·exact hx z
  ·exact absurd (ig (bq e) z) (qt _)
 have cellK:∀x c,X.env.cells.lookup x=some c -> ∀v,s.heap.IsCell c v->h'.IsCell c v:=fun x c e v ⟨o,ho,hd⟩=>by
  have gy:c ∉ ch:=fun z=>(lU c z).2.2.1 x c e rfl
  by_cases hc:c∈X.fs
  ·obtain⟨sl,q⟩:=slot c o (I.rG x c e) hc gy ho (I.g6 x c e)
   exact⟨_,q,hd⟩
  ·exact⟨o,keep c o (I.rG x c e) hc gy ho (I.g6 x c e),hd⟩
 refine⟨I.ok,I.os,hg,⟨fun b o e n hb hx=>?_,fun b o e n hb hx=>?_,fun b o e n hx=>?_,fun b o e hx=>?_,fun b xs e=>jT b xs (I.base.jT b xs e),fun b o xs e=>jt b o xs (I.base.jt b o xs e),fun b ps e=>?_⟩,?_,fun x c e=>?_,?_,fun x c e=>?_,fun p hp=>?_,aA,I.len⟩
 ·exact keep b o (xg b o e) hb (AL b o e hx) (I.base.keep b o e n hb hx) (I.base.free b o e n hx)
 ·obtain⟨sl,e1⟩:=I.base.slot b o e n hb hx
  obtain⟨xi,e2⟩:=slot b _ (xg b o e) hb (AL b o e hx) e1 (I.base.free b o e n hx)
  exact⟨xi,e2⟩
 ·obtain⟨o',e1⟩:=I.base.there b o e hx
  exact free b o' (AL b o e hx) e1 (I.base.free b o e n hx)
 ·obtain⟨o',e1⟩:=I.base.there b o e hx
  exact there b o' (AL b o e hx) e1
 ·obtain⟨m1,e1⟩:=I.base.jU b ps e
  obtain⟨m2,e2⟩:=jU b _ e1
  exact⟨m1++m2,by rw[e2,Array.append_assoc]⟩
 ·obtain⟨m,hn,hl⟩:=I.loc
  refine⟨m,ns m hn,fun i x v e1 e2 e3=>?_⟩
  obtain⟨u,r,l⟩:=hl i x v e1 e2 e3
  refine⟨u,r,?_⟩
  rcases l with l | ⟨k,c,e,z⟩
  ·exact .inl l
  ·exact .inr ⟨k,c,e,cellK x c e _ z⟩
 ·obtain⟨v,z⟩:=I.cell x c e
  exact⟨v,cellK x c e v z⟩
 ·obtain⟨m,⟨o,_,_,ho,_⟩,_⟩:=I.loc
  exact free _ o (fun z=>(lU _ z).2.1 rfl) ho I.free
 ·obtain⟨v,o,ho,hd⟩:=I.cell x c e
  exact free c o (fun z=>(lU c z).2.2.1 x c e rfl) ho (I.g6 x c e)
 ·obtain⟨e,n,ne,nf,d⟩:=I.pin p hp
  have gy:p.1 ∉ ch:=fun z=>(lU p.1 z).2.2.2 p hp rfl
  exact⟨keep p.1 p.2 ne nf gy e n,free p.1 p.2 gy e n,ne,nf,d⟩
theorem Inv.un {t':Nat} (I:Inv X pins σ H s) (u:Un X.fs [] H H' s.heap h') (aA:cS X.prog X.w H' h'):Inv X pins σ H' { s with heap:=h',toks:=t' }:=by
 obtain⟨m,⟨o,es,ep,ho,r⟩,_⟩:=id I.loc
 obtain⟨sl,hL⟩:=u.any ho I.free (by simp)
 exact I.step (g':=s.gens) (d':=s.drawn) (ch:= []) (fun _ z=>nomatch z) (fun b o _ hb _ e n=>u.keep b o e n hb (by simp)) (fun b o _ hb _ e n=>u.slot b o e n hb (by simp)) (fun b o _ e n=>u.free b o e n (by simp)) (fun b o _ e=>u.there b o e (by simp)) u.jT u.jt u.jU (fun m' hm=>by
  obtain⟨o',gR,GU,gG,r'⟩:=hm
  rw[ho]at gG;cases gG
  exact⟨_,gR,GU,hL,r'⟩) aA I.bare
theorem Inv.call {g':Array GenState}{t':Nat}{d':Drawn}{ch:List Addr} (I:Inv X pins σ H s) (u:Un (cT X.stack) ch H H' s.heap h') (aA:cS X.prog X.w H' h') (hg:AllBare g')
  (lU:∀b∈ch,(b∈X.ex\/X.cQ.heap.objs.size<=b)/\b≠X.env.locals/\(∀x c,X.env.cells.lookup x=some c->c≠b) /\ ∀p∈X.pn++pins,p.1≠b) :
  Inv X pins σ H' { s with heap:=h',gens:=g',drawn:=d',toks:=t' }:=by
 obtain⟨m,⟨o,es,ep,ho,r⟩,_⟩:=id I.loc
 obtain⟨sl,hL⟩:=u.any ho I.free fun z=>(lU _ z).2.1 rfl
 exact I.step (ch:=ch) lU (fun b o hL hb hc e n=>u.keep b o e n (fun z=>(a9.mp (I.vX b z)).elim hL hb) hc) (fun b o _ _ hc e n=>u.any e n hc) (fun b o hc e n=>u.free b o e n hc) (fun b o hc e=>u.there b o e hc) u.jT u.jt u.jU (fun m' hm=>by
  obtain⟨o',gR,GU,gG,r'⟩:=hm
  rw[ho]at gG;cases gG
  exact⟨_,gR,GU,hL,r'⟩) aA hg
theorem Inv.turned {t':Nat}{it:Addr} (I:Inv X pins σ H s) (k:∀b o,b≠it->s.heap.get? b=some o->h'.get? b=some o) (hn:H it=none) (hL:it≠X.env.locals)
  (h1:it∈X.ex\/X.cQ.heap.objs.size<=it) (h2:∀x c,X.env.cells.lookup x=some c->c≠it) (h3:∀p∈X.pn++pins,p.1≠it):Inv X pins σ H { s with heap:=h',toks:=t' }:=by
 have Qv:∀b u,H b=some u->b≠it:=fun b u e z=>by rw[z,hn]at e;cases e
 refine I.step (g':=s.gens) (d':=s.drawn) (ch:= [it]) (fun b hb=>?_) (fun b o _ _ hc e _=>k b o (fun z=>hc (by simp[z])) e) (fun b o _ _ hc e _=>⟨o.slots,k b o (fun z=>hc (by simp[z])) e⟩) (fun _ _ _ _ n=>n)
  (fun b o hc e=>⟨o,k b o (fun z=>hc (by simp[z])) e⟩) (fun _ _ e=>e) (fun _ _ _ e=>e) (fun b ps e=>⟨#[],by rw[e];simp⟩) (fun m hm=>?_) (fun b u e=>?_) I.bare
 ·have e:b=it:=by simpa using hb
  subst e
  exact⟨h1,hL,h2,h3⟩
 ·obtain⟨o,es,ep,ho,r⟩:=hm
  exact⟨o,es,ep,k _ o (aT hL) ho,r⟩
 ·refine(I.aA b u e).gF (fun c v hc q=>k c v ?_ q) (fun _ q=>q) fun _ _ q=>q
  rcases hc with z | z
  ·rw[z];exact Qv b u e
  ·exact Qv c _ z
theorem Inv.tok (I:Inv X pins σ H s) (t:Nat):Inv X pins σ H { s with toks:=t }:=I.un (h':=s.heap) (t':=t) Un.refl I.aA
theorem Inv.kept {t':Nat} (I:Inv X pins σ H s) (k:∀b u,s.heap.get? b=some u->h'.get? b=some u):Inv X pins σ H { s with heap:=h',toks:=t' }:=I.un (Un.kept k) (I.aA.kept k)
theorem Inv.laid {a:Addr}{o:HO}{t':Nat} (I:Inv X pins σ H s) (k:∀b u,s.heap.get? b=some u->h'.get? b=some u) (hp:s.heap.objs.size<=a) (new:bH X.prog X.w (upd H a o) h' a o) :
  Inv X pins σ (upd H a o) { s with heap:=h',toks:=t' }:=I.un (Un.laid k hp (I.aA.fresh hp)) (I.aA.laid k hp new)
theorem Inv.write {x e:Addr}{o:HO}{t':Nat} (I:Inv X pins σ H s) (mu:xf (H x)) (he:e=x\/H e=some (.own x)) (k:∀b u,b≠e->s.heap.get? b=some u->h'.get? b=some u) (uH:∃u,h'.get? e=some u)
  (new:bH X.prog X.w (upd H x o) h' x o):Inv X pins σ (upd H x o) { s with heap:=h',toks:=t' }:=I.un (Un.write mu he k uH) (I.aA.write mu he k uH new)
theorem Inv.ML {wk:List (Addr×Obj)} (I:Inv X pins σ H s) (h:∀p∈wk,s.heap.get? p.1=some p.2/\H p.1=none/\p.1≠X.env.locals/\p.1 ∉ X.fs /\ ∀v,p.2.data ≠ .cell v):Inv X wk σ H s:=
 ⟨I.ok,I.os,I.bare,I.base,I.loc,I.cell,I.free,I.g6,fun p hp=>(cz.mp hp).elim (fun z=>I.pin p (oB _ z)) (h p),I.aA,I.len⟩
theorem L8 {N:List Str} (hN:N.Nodup) {i j:Nat}{x:Str} (a:N[i]? = some x) (b:N[j]? = some x):i=j:=by
 obtain⟨h1,e1⟩:=cq.mp a
 obtain⟨h2,e2⟩:=cq.mp b
 exact(List.getElem_inj hN).mp (e1.trans e2.symm)
theorem Lr {M:Model}{A:Around}{E:Value->Shared->Prop}{i:Nat}{x:Str}{v:V}{u:Value}{Q:Unit->Shared->Prop} (I:Inv X pins σ H s) (hN:X.N.Nodup) (hi:X.N[i]? = some x) (hx:Loc X.env.scope x) (r:RelV v u)
  (h:∀s',Inv X pins (σ.set i (some v)) H s'->(∃a,Heap.SameBut a s.heap s'.heap/\(a=X.env.locals\/X.env.cells.lookup x=some a))->Q () s') (hf:X.fn x=true\/X.env.scope.names.lookup x=some .local:=by first | exact .inl rfl | exact .inr rfl | assumption):wpAny M A (storeName X.env x u) Q E s:=by
 obtain⟨m,hn,hl⟩:=id I.loc
 have pM:(X.env.scope.kind == .class || (X.env.scope.kind == .module && X.env.locals != X.env.globals))=false:=by rw[I.ok.kind];rfl
 have Oz:i < σ.length:=by rw[I.len];exact(cq.mp hi).1
 have rG:=I.rG
 have tracked:∀ {a:Addr}{h':Heap},(∃o,s.heap.get? a=some o/\H a=none)->Heap.SameBut a s.heap h'->cS X.prog X.w H h':=fun {a h'} ha hs b ob e=>by
  obtain⟨_,_,wm⟩:=ha
  refine(I.aA b ob e).gF (fun c w' hc q=>(hs.2 c ?_).trans q) (fun _ q=>q) fun _ _ q=>q
  rintro rfl
  rcases hc with rfl | hc
  ·rw[wm]at e;cases e
  ·rw[wm]at hc;cases hc
 rcases hx with hk | hk
 ·refine wpAny_storeName_local hk hn (fun h' j' hs=>?_) pM
  obtain⟨oL,_,_,hoL,_⟩:=id hn
  refine h _ ⟨I.ok,I.os,I.bare,⟨fun b o e n hb hx=>?_,fun b o e n hb hx=>?_,I.base.free,fun b o e hx=>?_,I.base.jT,I.base.jt,I.base.jU⟩,⟨_,j',fun j y v' e1 e2 e3=>?_⟩,fun y c e=>?_,I.free,I.g6,fun p hp=>?_,tracked ⟨oL,hoL,I.free⟩ hs,by simpa using I.len⟩ ⟨_,hs,.inl rfl⟩
  ·exact(hs.2 b (cu (ig (bq e) I.ok.above))).trans (I.base.keep b o e n hb hx)
  ·obtain⟨sl,e1⟩:=I.base.slot b o e n hb hx
   exact⟨sl,(hs.2 b (cu (ig (bq e) I.ok.above))).trans e1⟩
  ·obtain⟨o',e1⟩:=I.base.there b o e hx
   exact⟨o',(hs.2 b (cu (ig (bq e) I.ok.above))).trans e1⟩
  ·by_cases hj:j=i
   ·subst hj
    rw[hi]at e1;cases e1
    rw[alU Oz]at e2
    cases e2
    exact⟨u,r,.inl ⟨hk,by simp⟩⟩
   ·rw[alV (aT hj)]at e2
    obtain⟨u',r',q⟩:=hl j y v' e1 e2 e3
    refine⟨u',r',?_⟩
    rcases q with⟨k,e⟩|⟨k,c,e,z⟩
    ·refine .inl ⟨k,?_⟩
     have:y≠x:=fun e=>hj (L8 hN e1 (e ▸ hi))
     simp[this,e]
    ·exact .inr ⟨k,c,e,z.sameBut hs (rG y c e)⟩
  ·obtain⟨w',z⟩:=I.cell y c e
   exact⟨w',z.sameBut hs (rG y c e)⟩
  ·obtain⟨e,n,ne,nf,d⟩:=I.pin p hp
   exact⟨(hs.2 p.1 ne).trans e,n,ne,nf,d⟩
 ·have GV:X.fn x=true:=by
   rcases hf with z | z
   ·exact z
   ·rw[z]at hk;cases hk
  obtain⟨c,hc⟩:=I.ok.has x (.inl hk)
  obtain⟨w',z⟩:=I.cell x c hc
  refine wpAny_storeName_cell I.ok.kind hk hc z (fun h' nR hs=>?_)
  obtain⟨oc,Qw,abm⟩:=id z
  refine h { s with heap:=h' } ⟨I.ok,I.os,I.bare,⟨fun b o e n hb hx=>?_,fun b o e n hb hx=>?_,I.base.free,fun b o e hx=>?_,I.base.jT,I.base.jt,I.base.jU⟩,⟨m,hn.sameBut hs (aT (rG x c hc)),fun j y v' e1 e2 e3=>?_⟩,fun y c' e=>?_,I.free,I.g6,fun p hp=>?_,tracked ⟨oc,Qw,I.g6 x c hc⟩ hs,by simpa using I.len⟩ ⟨c,hs,.inr hc⟩
  ·exact(hs.2 b (cu (ig (bq e) (I.ok.nQ x c GV hc)))).trans (I.base.keep b o e n hb hx)
  ·obtain⟨sl,e1⟩:=I.base.slot b o e n hb hx
   exact⟨sl,(hs.2 b (cu (ig (bq e) (I.ok.nQ x c GV hc)))).trans e1⟩
  ·obtain⟨o',e1⟩:=I.base.there b o e hx
   exact⟨o',(hs.2 b (cu (ig (bq e) (I.ok.nQ x c GV hc)))).trans e1⟩
  ·by_cases hj:j=i
   ·subst hj
    rw[hi]at e1;cases e1
    rw[alU Oz]at e2
    cases e2
    exact⟨u,r,.inr ⟨.inl hk,c,hc,nR⟩⟩
   ·rw[alV (aT hj)]at e2
    obtain⟨u',r',q⟩:=hl j y v' e1 e2 e3
    refine⟨u',r',?_⟩
    rcases q with q | ⟨k,c',e,z'⟩
    ·exact .inl q
    ·refine .inr ⟨k,c',e,z'.sameBut hs ?_⟩
     rintro rfl
     exact hj (L8 hN e1 (I.ok.inj _ _ _ e hc ▸ hi))
  ·by_cases Qx:c'=c
   ·subst Qx;exact⟨_,nR⟩
   ·obtain⟨w2,z2⟩:=I.cell y c' e
    exact⟨w2,z2.sameBut hs Qx⟩
  ·obtain⟨e,n,ne,nf,d⟩:=I.pin p hp
   refine⟨(hs.2 p.1 ?_).trans e,n,ne,nf,d⟩
   intro q
   rw[q,Qw]at e
   have q':oc=p.2:=ie e
   exact d w' (by rw[<-q'];exact abm)
theorem CU {M:Model}{A:Around}{E:Value->Shared->Prop}{i:Nat}{x:Str}{v:V}{u:Value}{Q:Unit->Shared->Prop} (I:Inv X pins σ H s) (hN:X.N.Nodup) (hi:X.N[i]? = some x) (hx:Loc X.env.scope x) (r:RelV v u)
  (h:∀s',Inv X pins (σ.set i (some v)) H s'->Q () s') (hf:X.fn x=true\/X.env.scope.names.lookup x=some .local:=by first | exact .inl rfl | exact .inr rfl | assumption):wpAny M A (storeName X.env x u) Q E s:=
 Lr I hN hi hx r (fun s' I' _=>h s' I') hf
theorem Inv.zR {s':Shared}{ch:List Addr} (I:Inv X pins σ H s) (ho:s'.os=s.os) (u:Un (cT X.stack) ch H H' s.heap s'.heap) (aA:cS X.prog X.w H' s'.heap) (hg:AllBare s'.gens)
  (lU:∀b∈ch,(b∈X.ex\/X.cQ.heap.objs.size<=b)/\b≠X.env.locals/\(∀x c,X.env.cells.lookup x=some c->c≠b) /\ ∀p∈X.pn++pins,p.1≠b):Inv X pins σ H' s':=by
 obtain⟨h',g',d',t',o'⟩:=s'
 have e:o'=s.os:=ho
 subst e
 exact I.call (g':=g') (t':=t') (d':=d') u aA hg lU
end
abbrev XK:=Value->Option Addr->Hp->Prop
abbrev St:=List (Option V)
abbrev VK:=V->Hp->Prop
abbrev TE:=St->Hp->VK->Prop
abbrev TT:=St->Hp->(Bool->Hp->Prop)->Prop
abbrev TA:=St->Hp->(List V->Hp->Prop)->Prop
structure Ends where
 nx:St->Hp->Prop
 rt:VK
 bk:St->Hp->Prop:=fun _ _=>False
 ct:St->Hp->Prop:=fun _ _=>False
abbrev TS:=Ends->St->Hp->Prop
def EP (X:Cx) (pins:List (Addr×Obj)) (σ:St) (Q:VK) (u:Value) (s':Shared):Prop:= ∃v H',Inv X pins σ H' s'/\RelV v u/\Q v H'
def TP (X:Cx) (pins:List (Addr×Obj)) (σ:St) (Q:Bool->Hp->Prop) (b:Bool) (s':Shared):Prop:= ∃H',Inv X pins σ H' s'/\Q b H'
def AP (X:Cx) (pins:List (Addr×Obj)) (σ:St) (Q:List V->Hp->Prop) (us:List Value) (s':Shared):Prop:= ∃vs H',Inv X pins σ H' s'/\Vals vs us/\Q vs H'
def SP (X:Cx) (pins:List (Addr×Obj)) (D:Ends) (f:Flow) (s':Shared):Prop:=
 match f with
 | .next=>∃aK H',Inv X pins aK H' s'/\D.nx aK H'
 | .brk=>∃aK H',Inv X pins aK H' s'/\D.bk aK H'
 | .cont=>∃aK H',Inv X pins aK H' s'/\D.ct aK H'
 | .ret u=>∃v aK H',Inv X pins aK H' s'/\RelV v u/\D.rt v H'
def PE (X:Cx) (e:Expr) (t:TE):Prop:=
 ∀ (pins:List (Addr×Obj)) (s:Shared) (σ:St) (H:Hp) (Q:VK),Inv X pins σ H s->t σ H Q->wpAny (model X.prog X.w) X.A (eval e X.env) (EP X pins σ Q) X.xe s
def PT (X:Cx) (e:Expr) (t:TT):Prop:=
 ∀ (pins:List (Addr×Obj)) (s:Shared) (σ:St) (H:Hp) (Q:Bool->Hp->Prop),Inv X pins σ H s->t σ H Q->wpAny (model X.prog X.w) X.A (isTrue e X.env (eval e X.env)) (TP X pins σ Q) X.xe s
def PW (X:Cx) (e:Expr) (t:TT):Prop:=
 ∀ (whole:Sem Value) (pins:List (Addr×Obj)) (s:Shared) (σ:St) (H:Hp) (Q:Bool->Hp->Prop),Inv X pins σ H s->t σ H Q->wpAny (model X.prog X.w) X.A (isTrue e X.env whole) (TP X pins σ Q) X.xe s
theorem PW.pt {X:Cx}{e:Expr}{t:TT} (h:PW X e t):PT X e t:=h _
def PA (X:Cx) (es:List Expr) (t:TA):Prop:=
 ∀ (pos:Pos) (pins:List (Addr×Obj)) (s:Shared) (σ:St) (H:Hp) (Q:List V->Hp->Prop),Inv X pins σ H s->t σ H Q->wpAny (model X.prog X.w) X.A (spliced (backTo pos (starEach es X.env))) (AP X pins σ Q) X.xe s
def PS (X:Cx) (st:Stmt) (t:TS):Prop:=
 ∀ (pins:List (Addr×Obj)) (s:Shared) (σ:St) (H:Hp) (D:Ends),Inv X pins σ H s->t D σ H->wpAny (model X.prog X.w) X.A (exec st X.env) (SP X pins D) X.xe s
def gH (X:Cx) (st:List Stmt) (t:TS):Prop:=
 ∀ (pins:List (Addr×Obj)) (s:Shared) (σ:St) (H:Hp) (D:Ends),Inv X pins σ H s->t D σ H->wpAny (model X.prog X.w) X.A (execs st X.env) (SP X pins D) X.xe s
theorem aJ {α:Type}{t:Sem α}{Q Q':α->Shared->Prop}{M:Model}{A:Around}{E:Value->Shared->Prop}{s:Shared} (h:wpAny M A t Q E s) (hQ:∀a s,Q a s->Q' a s):wpAny M A t Q' E s:=lF h hQ fun _ _ x=>x
end L2
namespace L2
open PySem PySem.Spec PyProof.Rows
section
variable {X : Cx}
def eu (i:Nat):TE:=fun σ H Q=>∃v,σ[i]? = some (some v)/\Q v H
def tC (v:V):TE:=fun _ H Q=>Q v H
theorem Zm {i:Nat}{x:Str}{pos:Pos} (hN:X.N[i]? = some x) (hv:GQ X.env.scope x) (hd:(x==("__debug__" : Str))=false:=by decide) (f9:(x==("__classdict__" : Str))=false:=by decide):PE X (.Name x pos) (eu i):=by
 intro pins s σ H Q I h
 obtain⟨v,e,h⟩:=h
 obtain⟨m,hn,hl⟩:=I.loc
 obtain⟨u,r,l⟩:=hl i x v hN e hv
 have fin:EP X pins σ Q u s:=⟨v,H,I,r,h⟩
 rcases l with⟨hk,hm⟩|⟨hk,c,hc,N4⟩
 ·exact wpAny_Name (wpAny_loadName_local I.ok.kind hk hn hm fin) hd
 ·rcases hk with hk | hk
  ·exact wpAny_Name (wpAny_loadName_cell I.ok.kind hk hc N4 fin) hd
  ·exact wpAny_Name (wpAny_loadName_free I.ok.kind hk hc N4 fin f9) hd
theorem aD {i j pos}:PE X (.Constant (.int i) j pos) (tC (.int i)):=fun _ _ _ H _ I h=>wpAny_Constant_int ⟨.int i,H,I.tok _,⟨_,rfl⟩,h⟩
theorem g7 {b j pos}:PE X (.Constant (.bool b) j pos) (tC (.bl b)):=fun _ _ _ H _ I h=>Constant_bool ⟨.bl b,H,I,rfl,h⟩
theorem i3 {j pos}:PE X (.Constant .none j pos) (tC .aG):=fun _ _ _ H _ I h=>Constant_none ⟨.aG,H,I,rfl,h⟩
theorem iJ {x j pos}:PE X (.Constant (.str x) j pos) (tC (.str x)):=fun _ _ _ H _ I h=>Calls.Constant_str ⟨.str x,H,I.tok _,⟨_,rfl⟩,h⟩
def Gl (X:Cx) (x:Str):Prop:=X.env.kindOf x=some .globalImplicit
theorem oU {E:Value->Shared->Prop}{pins:List (Addr×Obj)}{s:Shared}{σ:St}{H:Hp}{x:Str}{u:Value}{pos:Pos}{Q:Value->Shared->Prop} (I:Inv X pins σ H s) (hg:Gl X x) (hm:X.mg x=some u) (h:Q u s)
  (hd:(x==("__debug__" : Str))=false:=by decide):wpAny (model X.prog X.w) X.A (eval (.Name x pos) X.env) Q E s:=
 alW I.ok.kind hg (Calls.loadGlobal_global (by rw[I.ok.glob];exact I.mod.glob.keeps I.bk) hm h) hd
theorem tO {E:Value->Shared->Prop}{pins:List (Addr×Obj)}{s:Shared}{σ:St}{H:Hp}{x:Str}{u:Value}{pos:Pos}{Q:Value->Shared->Prop} (I:Inv X pins σ H s) (hg:Gl X x) (hm:X.mg x=none) (hv:bootBuiltins x=some u) (h:Q u s)
  (hn:x ≠ "__name__" :=by decide) (hd:(x==("__debug__" : Str))=false:=by decide):wpAny (model X.prog X.w) X.A (eval (.Name x pos) X.env) Q E s:=by
 obtain⟨mb,h1,h2⟩:=I.mod.blt
 exact alW I.ok.kind hg (Calls.loadGlobal_builtin (by rw[I.ok.glob];exact I.mod.glob.keeps I.bk) hm (by rw[I.ok.blt];exact h1.keeps I.bk) ((h2 x hn).trans hv) h) hd
theorem Yn {x:Str}{v:V}{u:Value}{pos:Pos} (hg:Gl X x) (hm:X.mg x=some u) (r:RelV v u) (hd:(x==("__debug__" : Str))=false:=by decide):PE X (.Name x pos) (tC v):=
 fun _ _ _ H _ I h=>oU I hg hm ⟨v,H,I,r,h⟩ hd
theorem m9 {x:Str}{v:V}{u:Value}{pos:Pos} (hg:Gl X x) (hm:X.mg x=none) (hv:bootBuiltins x=some u) (r:RelV v u) (hn:x ≠ "__name__" :=by decide) (hd:(x==("__debug__" : Str))=false:=by decide):PE X (.Name x pos) (tC v):=
 fun _ _ _ H _ I h=>tO I hg hm hv ⟨v,H,I,r,h⟩ hn hd
variable {a b : Expr} {ta tb : TE} {pos : Pos}
def PC (X:Cx) (op:CmpOp) (a b:Expr) (t:TE):Prop:=
 ∀ (pins:List (Addr×Obj)) (s:Shared) (σ:St) (H:Hp) (Q:VK),Inv X pins σ H s->t σ H Q ->
  wpAny (model X.prog X.w) X.A (eval a X.env) (fun v bh=>wpAny (model X.prog X.w) X.A (eval b X.env) (fun u lg=>wpAny (model X.prog X.w) X.A (compareOp op v u) (EP X pins σ Q) X.xe lg) X.xe bh) X.xe s
def tB (t:TE):TT:=fun σ H Q=>t σ H fun x H1=>∃c,x = .bl c/\Q c H1
theorem NB {op:CmpOp}{t:TE} (h:PC X op a b t) (h1:behindInMarks op b=false:=by first | exact Xq _ (by decide) (by decide)|rfl):PE X (.Compare a [op] [b] pos) t:=fun pins s σ H Q I hw=>wpAny_Compare1 (h pins s σ H Q I hw) h1
theorem NC {op:CmpOp}{t:TE} (h:PC X op a b t) (h1:behindInMarks op b=false:=by first | exact Xq _ (by decide) (by decide)|rfl):PT X (.Compare a [op] [b] pos) (tB t):=by
 intro pins s σ H Q I hw
 refine wpAny_isTrue_Compare1 (aJ (h pins s σ H _ I hw) fun v s1 h1=>aJ h1 fun u s2 h2=>aJ h2 fun c s3 ⟨x,H1,I1,r1,q1⟩=>?_) h1
 obtain⟨d,rfl,q⟩:=q1
 cases r1
 exact oC ⟨H1,I1,q⟩
theorem gE {e:Expr}{t:TE} (h:PE X e t) (he:∀whole,isTrue e X.env whole=(do let v <- whole;standAt e.pos;holding [v] (truthy v)):=by intro _;rfl):PT X e (tB t):=by
 intro pins s σ H Q I hw
 refine isTrue_plain (aJ (h pins s σ H _ I hw) fun v s1 ⟨x,H1,I1,r1,q1⟩=>?_) (he _)
 obtain⟨d,rfl,q⟩:=q1
 cases r1
 exact oC ⟨H1,I1,q⟩
variable {tA AM : TT} {rest : List Expr}
def abn (t u:TT):TT:=fun σ H Q=>t σ H fun c H1=>if c=true then u σ H1 Q else Q false H1
def tOr (t u:TT):TT:=fun σ H Q=>t σ H fun c H1=>if c=true then Q true H1 else u σ H1 Q
def abo (t:TT):TT:=fun σ H Q=>t σ H fun c H1=>Q (!c) H1
theorem pw_and1 (ha:PT X a tA):PW X (.BoolOp .And [a] pos) tA:=by
 intro wh pins s σ H Q I h
 refine isTrue_and (aJ (ha pins s σ H Q I h) fun c s1 e=>?_)
 cases c with
 | true=>exact isTrue_and_nil e
 | false=>exact e
theorem pw_or1 (ha:PT X a tA):PW X (.BoolOp .Or [a] pos) tA:=by
 intro wh pins s σ H Q I h
 refine isTrue_or (aJ (ha pins s σ H Q I h) fun c s1 e=>?_)
 cases c with
 | false=>exact isTrue_or_nil e
 | true=>exact e
theorem pw_and (ha:PT X a tA) (hb:PW X (.BoolOp .And (b::rest) pos) AM):PW X (.BoolOp .And (a::b::rest) pos) (abn tA AM):=by
 intro wh pins s σ H Q I h
 refine isTrue_and (aJ (ha pins s σ H _ I h) fun c s1 ⟨H1,I1,q1⟩=>?_)
 cases c with
 | true=>exact hb wh pins s1 σ H1 Q I1 q1
 | false=>exact⟨H1,I1,q1⟩
theorem pw_or (ha:PT X a tA) (hb:PW X (.BoolOp .Or (b::rest) pos) AM):PW X (.BoolOp .Or (a::b::rest) pos) (tOr tA AM):=by
 intro wh pins s σ H Q I h
 refine isTrue_or (aJ (ha pins s σ H _ I h) fun c s1 ⟨H1,I1,q1⟩=>?_)
 cases c with
 | true=>exact⟨H1,I1,q1⟩
 | false=>exact hb wh pins s1 σ H1 Q I1 q1
theorem gL (ha:PT X a tA):PT X (.UnaryOp .Not a pos) (abo tA):=by
 intro pins s σ H Q I h
 exact isTrue_not (ha pins s σ H (fun c H1=>Q (!c) H1) I h)
def aah (ta tb:TE):TE:=fun σ H Q=>ta σ H fun x H1=>∃c,x = .bl c/\if c=true then tb σ H1 Q else Q (.bl false) H1
theorem Dl {op}{t:TE} (h:PE X a t):PE X (.BoolOp op [a] pos) t:=fun pins s σ H Q I hw=>BoolOp_one (h pins s σ H Q I hw)
theorem tP (ha:PE X a ta) (hb:PE X (.BoolOp .And (b::rest) pos) tb):PE X (.BoolOp .And (a::b::rest) pos) (aah ta tb):=by
 intro pins s σ H Q I h
 refine BoolOp_and (aJ (ha pins s σ H _ I h) fun v s1 ⟨x,H1,I1,r1,q1⟩=>?_)
 obtain⟨c,rfl,q1⟩:=q1
 cases r1
 refine oC ?_
 cases c with
 | true=>exact hb pins s1 σ H1 Q I1 q1
 | false=>exact⟨.bl false,H1,I1,rfl,q1⟩
end
end L2
namespace L2
open PySem PySem.Spec PyProof.Rows
def ai (K:PySem.W.Frag) (H:Hp) (a:Addr) (xs:List V):Prop:=
 Rd H a (.lst xs) \/
  ∃ (o:Obj) (its:Array Value) (n:Nat),K.lookup a=some o/\o.cls = .type "list" /\ o.dict=none/\o.data = .seq its n/\its.size<=sizeLine/\Vals xs its.toList
def aB (K:PySem.W.Frag) (H:Hp) (a:Addr) (xs:List V):Prop:=
 Rd H a (.tup xs) \/
  ∃ (o:Obj) (its:Array Value) (n:Nat),K.lookup a=some o/\o.cls = .type "tuple" /\ o.data = .seq its n/\its.size<=sizeLine/\Vals xs its.toList
def abp:Value->Option V
 | .none=>some .aG
 | .bool b=>some (.bl b)
 | .int i _=>some (.int i)
 | .str x _=>some (.str x)
 | .bytes b _=>some (.ja b)
 | .float b _=>some (.jY b)
 | .ref a=>some (.ref a)
 | .type n=>some (.ty n)
 | _=>none
theorem RelV.abs {x:V}{u:Value} (r:RelV x u):abp u=some x:=by
 cases x with
 | aG=>cases r;rfl
 | bl _=>cases r;rfl
 | int _=>obtain⟨t,rfl⟩:=r;rfl
 | str _=>obtain⟨t,rfl⟩:=r;rfl
 | ja _=>obtain⟨t,rfl⟩:=r;rfl
 | jY _=>obtain⟨t,rfl⟩:=r;rfl
 | ref _=>cases r;rfl
 | ty _=>cases r;rfl
theorem RelV.inj {x y:V}{u:Value} (r:RelV x u) (q:RelV y u):x=y:=ie (r.abs.symm.trans q.abs)
theorem Vals.inj:∀ {xs ys:List V}{us:List Value},Vals xs us->Vals ys us->xs=ys
 | _,_,_,.nil,.nil=>rfl
 | _,_,_,.cons r t,.cons r' t'=>by rw[r.inj r',Vals.inj t t']
section
variable {X : Cx} {pins : List (Addr × Obj)} {σ : St} {H : Hp} {s : Shared} {a : Addr} {xs ys : List V}
theorem ai.of {K:PySem.W.Frag} (h:H a=some (.lst xs)):ai K H a xs:= .inl (.inl h)
theorem aB.of {K:PySem.W.Frag} (h:H a=some (.tup xs)):aB K H a xs:= .inl (.inl h)
theorem Inv.list (I:Inv X pins σ H s) (h:ai X.K H a xs):∃its:List Value,Vals xs its/\PlainL s.heap a its.toArray/\xs.length<=sizeLine:=by
 rcases h with h | ⟨o,its,n,hk,hc,hd,hs,hz,r⟩
 ·obtain⟨z,its,n,r,e⟩:=h.ok I.aA
  exact⟨its,r,⟨_,n,e,rfl,rfl,rfl⟩,z⟩
 ·refine⟨its.toList,r,⟨o,n,I.bU a o hk,hc,hd,by simpa using hs⟩,?_⟩
  have e:=r.length
  simp only[gD]at e
  omega
theorem Inv.tuple (I:Inv X pins σ H s) (h:aB X.K H a xs):∃its:List Value,Vals xs its/\IsTup s.heap a its.toArray/\xs.length<=sizeLine:=by
 rcases h with h | ⟨o,its,n,hk,hc,hs,hz,r⟩
 ·obtain⟨z,its,r,p⟩:=h.ok I.aA
  exact⟨its,r,p.is,z⟩
 ·refine⟨its.toList,r,⟨o,I.bU a o hk,hc,n,by simpa using hs⟩,?_⟩
  have e:=r.length
  simp only[gD]at e
  omega
theorem Inv.zp (I:Inv X pins σ H s) (h:ai X.K H a xs) (h':ai X.K H a ys):xs=ys:=by
 obtain⟨its,r,⟨o,n,e,_,_,d⟩,_⟩:=I.list h
 obtain⟨its',r',⟨o',n',e',_,_,d'⟩,_⟩:=I.list h'
 rw[e]at e';cases e'
 rw[d]at d'
 injection d' with d1 _
 have:its=its':=by simpa using gg Array.toList d1
 subst this
 exact r.inj r'
theorem Inv.WG (I:Inv X pins σ H s) (h:aB X.K H a xs) (h':aB X.K H a ys):xs=ys:=by
 obtain⟨its,r,⟨o,e,_,n,d⟩,_⟩:=I.tuple h
 obtain⟨its',r',⟨o',e',_,n',d'⟩,_⟩:=I.tuple h'
 rw[e]at e';cases e'
 rw[d]at d'
 injection d' with d1 _
 have:its=its':=by simpa using gg Array.toList d1
 subst this
 exact r.inj r'
end
abbrev Cx.jV (X:Cx) (E:Value->Shared->Prop):Cx:={ X with xe:=E }
abbrev Cx.xj (X:Cx):Cx:=X.jV fun _ _=>False
theorem Cx.Ok.jV {X:Cx} (ok:X.Ok) (E:Value->Shared->Prop):(X.jV E).Ok:=
 ⟨ok.mod,ok.kind,ok.glob,ok.blt,ok.above,ok.inj,ok.has,ok.nQ,ok.hd,ok.frames,ok.ll,ok.pO,ok.bs,ok.jy,ok.nF,ok.nG,ok.fZ,ok.jZ⟩
theorem Cx.Ok.o7 {X:Cx}{E:Value->Shared->Prop} (ok:(X.jV E).Ok):X.Ok:=
 ⟨ok.mod,ok.kind,ok.glob,ok.blt,ok.above,ok.inj,ok.has,ok.nQ,ok.hd,ok.frames,ok.ll,ok.pO,ok.bs,ok.jy,ok.nF,ok.nG,ok.fZ,ok.jZ⟩
section
variable {X : Cx} {pins : List (Addr × Obj)} {σ : St} {H : Hp} {s : Shared} {E : Value -> Shared -> Prop}
theorem Inv.jV (I:Inv X pins σ H s) (E:Value->Shared->Prop):Inv (X.jV E) pins σ H s:=⟨I.ok.jV E,I.os,I.bare,I.base,I.loc,I.cell,I.free,I.g6,I.pin,I.aA,I.len⟩
theorem Inv.o7 (I:Inv (X.jV E) pins σ H s):Inv X pins σ H s:=⟨I.ok.o7,I.os,I.bare,I.base,I.loc,I.cell,I.free,I.g6,I.pin,I.aA,I.len⟩
theorem SP.o7 {D:Ends}{f:Flow}{s':Shared} (h:SP (X.jV E) pins D f s'):SP X pins D f s':=by
 cases f with
 | next=>obtain⟨aK,H',I,q⟩:=h;exact⟨aK,H',I.o7,q⟩
 | brk=>obtain⟨aK,H',I,q⟩:=h;exact⟨aK,H',I.o7,q⟩
 | cont=>obtain⟨aK,H',I,q⟩:=h;exact⟨aK,H',I.o7,q⟩
 | ret u=>obtain⟨v,aK,H',I,r,q⟩:=h;exact⟨v,aK,H',I.o7,r,q⟩
theorem gH.xj {st:List Stmt}{t:TS} (h:gH X.xj st t):gH X st t:=fun pins s σ H D I hw =>
 lF (h pins s σ H D (I.jV _) hw) (fun _ _ q=>q.o7) fun _ _ z=>False.elim z
end
section
variable {X : Cx} {st : Stmt} {rest : List Stmt} {t u : TS} {e : Expr} {te : TE} {pos : Pos}
def DG:TS:=fun D σ H=>D.nx σ H
def abq (t u:TS):TS:=fun D σ H=>t { D with nx:=u D } σ H
theorem d9:gH X [] DG:=fun _ _ σ H _ I h=>yD ⟨σ,H,I,h⟩
theorem aF (h1:PS X st t) (h2:gH X rest u):gH X (st::rest) (abq t u):=by
 intro pins s σ H D I h
 refine Uj (aJ (h1 pins s σ H { D with nx:=u D } I h) fun f s1 q=>?_)
 cases f with
 | next =>
  obtain⟨aK,H',I',q⟩:=q
  exact h2 pins s1 aK H' D I' q
 | ret v=>exact q
 | brk=>exact q
 | cont=>exact q
theorem aP (h1:PS X st t):gH X [st] t:=by
 intro pins s σ H D I h
 refine Uj (aJ (h1 pins s σ H D I h) fun f s1 q=>?_)
 cases f with
 | next=>exact yD q
 | ret v=>exact q
 | brk=>exact q
 | cont=>exact q
theorem Inv.quiet {pins:List (Addr×Obj)}{σ:St}{H:Hp}{s:Shared} (I:Inv X pins σ H s):interactive X.env=false:=by simp[interactive,I.ok.kind]
def aai (te:TE):TS:=fun D σ H=>te σ H fun _ H1=>D.nx σ H1
theorem oV (he:PE X e te) (hs:swapsWith e none pos.line X.env=pure false:=by rfl):PS X (.Expr e pos) (aai te):=by
 intro pins s σ H D I h
 exact wpAny_Expr_any (aJ (he pins s σ H _ I h) fun v s1 ⟨x,H1,I1,r1,q1⟩=>⟨σ,H1,I1,q1⟩) I.quiet hs
def Ad (te:TE):TS:=fun D σ H=>te σ H D.rt
theorem bu (he:PE X e te):PS X (.Return (some e) pos) (Ad te):=by
 intro pins s σ H D I h
 exact wpAny_Return_some (aJ (he pins s σ H _ I h) fun v s1 ⟨x,H1,I1,r1,q1⟩=>⟨x,σ,H1,I1,r1,q1⟩)
def OA (c:TT) (t u:TS):TS:=fun D σ H=>c σ H fun b H1=>if b=true then t D σ H1 else u D σ H1
theorem eg {c:Expr}{a b:List Stmt}{tc:TT} (hc:PT X c tc) (ha:gH X a t) (hb:gH X b u):PS X (.If c a b pos) (OA tc t u):=by
 intro pins s σ H D I h
 refine wpAny_If (aJ (hc pins s σ H _ I h) fun d s1 ⟨H1,I1,q1⟩=>?_)
 cases d with
 | true=>exact ha pins s1 σ H1 D I1 q1
 | false=>exact hb pins s1 σ H1 D I1 q1
end
abbrev TG:=V->St->Hp->(St->Hp->Prop)->Prop
abbrev pP:=List V->St->Hp->(St->Hp->Prop)->Prop
def PG (X:Cx) (target:Expr) (t:TG):Prop:=
 ∀ (pins:List (Addr×Obj)) (s:Shared) (σ:St) (H:Hp) (v:V) (u:Value) (Q:St->Hp->Prop),Inv X pins σ H s->RelV v u->t v σ H Q ->
  wpAny (model X.prog X.w) X.A (assign target X.env u) (fun _ s'=>∃aK H',Inv X pins aK H' s'/\Q aK H') X.xe s
def xk (X:Cx) (ts:List Expr) (t:pP):Prop:=
 ∀ (pins:List (Addr×Obj)) (s:Shared) (σ:St) (H:Hp) (vs:List V) (us:List Value) (Q:St->Hp->Prop),Inv X pins σ H s->Vals vs us->t vs σ H Q ->
  wpAny (model X.prog X.w) X.A (assignInOrder ((assignEach ts X.env).map (·.2)) us) (fun _ s'=>∃aK H',Inv X pins aK H' s'/\Q aK H') X.xe s
abbrev DZ:=V->V->V->Hp->(Hp->Prop)->Prop
def OB (X:Cx) (t:DZ):Prop:=
 ∀ (pins:List (Addr×Obj)) (s:Shared) (σ:St) (H:Hp) (o i v:V) (ov iv u:Value) (Q:Hp->Prop),Inv X pins σ H s->RelV o ov->RelV i iv->RelV v u->t o i v H Q ->
  wpAny (model X.prog X.w) X.A (setItem ov iv u) (fun _ s'=>∃H',Inv X pins σ H' s'/\Q H') X.xe s
section
variable {X : Cx} {pos : Pos}
def pF (i:Nat):TG:=fun v σ H Q=>Q (σ.set i (some v)) H
theorem aR {i:Nat}{x:Str} (hN:X.N.Nodup) (hi:X.N[i]? = some x) (hx:Loc X.env.scope x) (hf:X.fn x=true\/X.env.scope.names.lookup x=some .local:=by first | exact .inl rfl | exact .inr rfl | assumption):PG X (.Name x pos) (pF i):=by
 intro pins s σ H v u Q I r h
 exact wpAny_assign_Name (CU I hN hi hx r (fun s' I'=>⟨_,H,I',h⟩) hf)
def abr:pP:=fun vs σ H Q=>vs = []/\Q σ H
def aaj (t:TG) (u:pP):pP:=fun vs σ H Q=>∃v r,vs=v::r/\t v σ H fun aK H'=>u r aK H' Q
theorem gk:xk X [] abr:=by
 intro pins s σ H vs us Q I r h
 obtain⟨e,h⟩:=h
 subst e
 cases r
 exact assignInOrder_nil ⟨σ,H,I,h⟩
theorem cC {e:Expr}{es:List Expr}{t:TG}{u:pP} (h1:PG X e t) (h2:xk X es u)
  (hs:(assignEach (e::es) X.env).map (·.2)=assign e X.env::(assignEach es X.env).map (·.2):=by rfl):xk X (e::es) (aaj t u):=by
 intro pins s σ H vs us Q I r h
 obtain⟨v,vr,e1,h⟩:=h
 subst e1
 cases r with
 | cons r rr =>
  rw[hs]
  refine assignInOrder_cons (aJ (h1 pins s σ H _ _ _ I r h) fun _ s1 ⟨uI,H1,I1,q1⟩=>?_)
  exact h2 pins s1 uI H1 _ _ Q I1 rr q1
def OC (K:PySem.W.Frag) (n:Nat) (t:pP):TG:=fun v σ H Q=>∃a xs,v = .ref a/\aB K H a xs/\xs.length=n/\t xs σ H Q
theorem i4 {es:List Expr}{k:Nat}{t:pP}{n:Nat} (hc:X.calm=true) (h:xk X es t)
  (hn:(assignEach es X.env).length=n:=by rfl) (xl:(assignEach es X.env).findIdx? (·.1)=none:=by rfl):PG X (.Tuple es k pos) (OC X.K n t):=by
 intro pins s σ H v u Q I r hw
 obtain⟨a,xs,e1,hq,hl,hw⟩:=hw
 subst e1
 cases r
 obtain⟨its,rv,ht,hz⟩:=I.tuple hq
 refine assign_Tuple_tuple (I.ok.hd hc) ht (by simp[hn,<-hl,rv.length]) xl fun h' hx=>?_
 have I1:Inv X pins σ H { s with heap:=h' }:=I.kept (t':=s.toks) fun b o e=>hx b o (cu (bq e)) e
 exact h pins _ σ H xs _ Q I1 (by simpa using rv) hw
def abt (to ti:TE) (t:DZ):TG:=fun v σ H Q=>to σ H fun o H1=>ti σ H1 fun i H2=>t o i v H2 fun H3=>Q σ H3
theorem zI {o i:Expr}{to ti:TE}{t:DZ} (ho:PE X o to) (hi:PE X i ti) (hs:OB X t)
  (ha:∀v,assign (.Subscript o i pos) X.env v=(do
   let ov <- holding [v] (eval o X.env)
   let iv <- holding [v,ov] (eval i X.env)
   standAt pos
   holding [v,ov,iv] (setItem ov iv v)
   release [v,ov,iv] []):=by intro _;rfl):PG X (.Subscript o i pos) (abt to ti t):=by
 intro pins s σ H v u Q I r h
 rw[ha]
 refine ag (fB (aJ (ho pins s σ H _ I h) fun ov s1 ⟨x,H1,I1,r1,q1⟩=>?_))
 refine ag (fB (aJ (hi pins s1 σ H1 _ I1 q1) fun iv s2 ⟨y,H2,I2,r2,q2⟩=>?_))
 refine ag (sr (ag (fB (aJ (hs pins s2 σ H2 x y v ov iv u _ I2 r1 r2 r q2) fun _ s3 ⟨H3,I3,q3⟩=>?_))))
 exact wpAny_release ⟨σ,H3,I3,q3⟩
def Ae (te:TE) (g:TG):TS:=fun D σ H=>te σ H fun x H1=>g x σ H1 D.nx
theorem pj {tg e:Expr}{te:TE}{g:TG} (he:PE X e te) (hg:PG X tg g) (hs:swapsWithSole [tg] e pos.line X.env=pure false:=by rfl) (hw:swappedStores [tg] e X.env=pure none:=by rfl)
  (h1:(assignEach [tg] X.env).map (·.2) = [assign tg X.env]:=by rfl):PS X (.Assign [tg] e pos) (Ae te g):=by
 intro pins s σ H D I h
 refine wpAny_Assign_stores (aJ (he pins s σ H _ I h) fun v s1 ⟨x,H1,I1,r1,q1⟩=>?_) hs hw
 rw[h1]
 exact aJ (hg pins s1 σ H1 x v _ I1 r1 q1) fun _ s2 q=>q
theorem ba {i:Nat}{x:Str}{e:Expr}{te:TE}{pos':Pos} (hN:X.N.Nodup) (hi:X.N[i]? = some x) (hx:Loc X.env.scope x) (he:PE X e te) (hs:swapsWith e (some (.Name x pos')) pos.line X.env=pure false:=by rfl) (hf:X.fn x=true\/X.env.scope.names.lookup x=some .local:=by first | exact .inl rfl | exact .inr rfl | assumption) :
  PS X (.Assign [.Name x pos'] e pos) (Ae te (pF i)):=by
 intro pins s σ H D I h
 refine wpAny_Assign_Name (aJ (he pins s σ H _ I h) fun v s1 ⟨y,H1,I1,r1,q1⟩=>?_) hs
 exact CU I1 hN hi hx r1 (fun s2 I2=>⟨_,H1,I2,q1⟩) hf
end
section
variable {X : Cx} {pos : Pos}
def Zn (c:TT) (tb:TS):TS:=fun D σ H=>∃W:Nat->St->Hp->Prop,(∃m,W m σ H) /\ ∀m σ H,W m σ H ->
 c σ H fun b H1=>if b=true then ∃N:St->Hp->Prop,(∀aK H',N aK H' -> ∃m',m' < m/\W m' aK H')/\tb { D with nx:=N,ct:=N,bk:=D.nx } σ H1 else D.nx σ H1
theorem zq {c:Expr}{body:List Stmt}{tc:TT}{tb:TS} (hp:PassesOwn (model X.prog X.w) X.A X.env X.xe) (hc:PT X c tc) (hb:gH X body tb):PS X (.While c body [] pos) (Zn tc tb):=by
 intro pins s σ H D I h
 obtain⟨W,⟨m0,w0⟩,turn⟩:=h
 refine wpAny_While (codeAny_whileLoop (fun n s'=>∃aK H',Inv X pins aK H' s'/\W n aK H') ?_ m0 ⟨σ,H,I,w0⟩)
 rintro n s1 ⟨uI,H1,I1,w1⟩
 refine vk hp (aJ (hc pins s1 uI H1 _ I1 (turn n uI H1 w1)) fun b s2 ⟨H2,I2,q2⟩=>?_)
 cases b with
 | true =>
  obtain⟨N,hN,q2⟩:=q2
  rw[aI rfl]
  refine vk hp (aJ (hb pins s2 uI H2 _ I2 q2) fun f s3 q3=>?_)
  cases f with
  | next =>
   obtain⟨lq,H3,I3,n3⟩:=q3
   obtain⟨m',hm,w3⟩:=hN lq H3 n3
   exact⟨m',hm,lq,H3,I3,w3⟩
  | cont =>
   obtain⟨lq,H3,I3,n3⟩:=q3
   obtain⟨m',hm,w3⟩:=hN lq H3 n3
   exact⟨m',hm,lq,H3,I3,w3⟩
  | brk=>exact q3
  | ret v=>exact q3
 | false =>
  rw[aE dU]
  exact yD ⟨uI,H2,I2,q2⟩
end
structure It where
 go:Nat->Hp->Prop
 rJ:Nat->Hp->V->Hp->Prop
 stop:Nat->Hp->Prop
def iR (X:Cx) (pins:List (Addr×Obj)) (H:Hp) (b:Addr):Prop:=
 H b=none/\b≠X.env.locals/\b ∉ X.fs/\(b∈X.ex\/X.cQ.heap.objs.size<=b)/\(∀x c,X.env.cells.lookup x=some c->c≠b) /\ ∀p∈X.pn++pins,p.1≠b
theorem Inv.nH {X:Cx}{pins:List (Addr×Obj)}{σ:St}{H H':Hp}{s:Shared}{b:Addr} (I:Inv X pins σ H s) (hb:s.heap.objs.size<=b) (hn:H' b=none):iR X pins H' b:=by
 refine⟨hn,JU (ig I.lt hb),I.abl hb,.inr (c9 I.sz hb),fun x c e z=>?_,fun p hp z=>?_⟩
 ·obtain⟨v,q⟩:=I.cell x c e
  exact absurd (ig q.lt (by rw[z];exact hb)) (qt _)
 ·exact absurd (ig (bq (I.pin p hp).1) (by rw[z];exact hb)) (qt _)
structure Turn (P:Program) (w:World) (K:PySem.W.Frag) (tg:Expr) (J:It) (fp:List Addr) (it:Addr) (tn:Nat->Heap->Prop):Prop where
 mem:it∈fp
 obj:∀i h,tn i h -> ∀b∈fp,∃o,h.get? b=some o /\ ∀v,o.data ≠ .cell v
 keep:∀i h h',tn i h->(∀b∈fp,∀o,h.get? b=some o->h'.get? b=some o)->tn i h'
 item:∀ (X:Cx),X.prog=P->X.w=w->X.K=K->X.calm=true -> ∀ (i:Nat) (pins:List (Addr×Obj)) (s:Shared) (σ:St) (H:Hp) (E:Value->Shared->Prop),Inv X pins σ H s->(∀b∈fp,iR X pins H b)->tn i s.heap->J.go i H ->
  wpAny (model P w) X.A (pyNext (.ref it)) (fun r s1=>∃u,r=some u /\
   wpAny (model P w) X.A (letOwnedTupleGo tg (.ref it) u) (fun _ s2=>∃x H',Inv X pins σ H' s2/\RelV x u/\J.rJ i H x H'/\tn (i+1) s2.heap /\ ∀b∈fp,H' b=none) E s1) E s
 done:∀ (X:Cx),X.prog=P->X.w=w->X.K=K->X.calm=true -> ∀ (i:Nat) (pins:List (Addr×Obj)) (s:Shared) (σ:St) (H:Hp) (E:Value->Shared->Prop),Inv X pins σ H s->(∀b∈fp,iR X pins H b)->tn i s.heap->J.stop i H ->
  wpAny (model P w) X.A (pyNext (.ref it)) (fun r s1=>r=none/\Inv X pins σ H s1) E s
 self:∀ (A:Around) (i:Nat) (s:Shared) (Q:Value->Shared->Prop) (E:Value->Shared->Prop),tn i s.heap->Q (.ref it) s->wpAny (model P w) A (pyIter (.ref it)) Q E s
abbrev TI:=St->Hp->(It->Hp->Prop)->Prop
def Qy (X:Cx) (pins:List (Addr×Obj)) (σ:St) (tg:Expr) (R:It->Hp->Prop) (AN:Value) (s2:Shared):Prop:=
 ∃ (it:Addr) (fp:List Addr) (tn:Nat->Heap->Prop) (J:It) (H':Hp),AN = .ref it/\Inv X pins σ H' s2/\Turn X.prog X.w X.K tg J fp it tn/\tn 0 s2.heap/\(∀b∈fp,iR X pins H' b)/\R J H'
def PI (X:Cx) (tg iter:Expr) (wi:TI):Prop:=
 ∀ (pins:List (Addr×Obj)) (s:Shared) (σ:St) (H:Hp) (R:It->Hp->Prop),Inv X pins σ H s->wi σ H R ->
  wpAny (model X.prog X.w) X.A (eval iter X.env) (fun v s1=>wpAny (model X.prog X.w) X.A (pyIter v) (Qy X pins σ tg R) X.xe s1) X.xe s
theorem zS {M:Model}{A:Around}{E:Value->Shared->Prop}{s:Shared}{tg:Expr}{it:Addr}{u:Value}{o:Obj}{n:String}{vs:Array Value}{Q:Unit->Shared->Prop} (ho:s.heap.get? it=some o) (hc:o.cls = .type n) (hd:o.data = .fields vs)
    (hn : ["enumerate", "zip", "dict_itemiterator", "dict_reverseitemiterator", "odict_iterator", "itertools.zip_longest", "itertools.pairwise"].contains n=false) (hQ:Q () s):wpAny M A (letOwnedTupleGo tg (.ref it) u) Q E s:=by
  unfold letOwnedTupleGo
  cases tg <;> first
    | exact au hQ
    | (cases u <;> first
        | exact au hQ
        | (refine ag (JV ho ?_)
           rw[hc,hd]
           show wpAny M A (if (["enumerate", "zip", "dict_itemiterator", "dict_reverseitemiterator", "odict_iterator", "itertools.zip_longest", "itertools.pairwise"].contains n && vs[0]? == some (rawInt _))=true then _ else _) Q E s
           rw[aE (by intro h;rw[hn,Bool.false_and]at h;cases h)]
           exact au hQ))
def rK (K:PySem.W.Frag) (a:Addr):It:=
 ⟨fun i H=>∃xs x,ai K H a xs/\xs[i]? = some x,fun i H x H'=>H'=H /\ ∀xs,ai K H a xs->xs[i]? = some x,fun i H=>∃xs,ai K H a xs/\xs.length<=i⟩
def nT (K:PySem.W.Frag) (a:Addr):It:=
 ⟨fun i H=>∃xs x,aB K H a xs/\xs[i]? = some x,fun i H x H'=>H'=H /\ ∀xs,aB K H a xs->xs[i]? = some x,fun i H=>∃xs,aB K H a xs/\xs.length<=i⟩
def rL (lo:Int) (n:Nat):It:=⟨fun i _=>i < n,fun i H x H'=>H'=H/\x = .int (lo+i),fun i _=>n<=i⟩
theorem WH {P:Program}{w:World}{K:PySem.W.Frag}{tg:Expr} (a it:Addr):Turn P w K tg (rK K a) [it] it (fun i h=>h.IsListIter it a i) where
 mem:=by simp
 obj:=fun i h st b hb=>by
  have e:b=it:=by simpa using hb
  subst e
  obtain⟨o,e,c,d⟩:=st
  exact⟨o,e,fun v z=>by rw[d]at z;cases z⟩
 keep:=fun i h h' st k=>st.at fun o e=>k it (by simp) o e
 item:=by
  intro X hP hw hK hc i pins s σ H E I hf st hg
  subst hP hw hK
  obtain⟨xs,x,hq,hx⟩:=hg
  obtain⟨its,rv,p,hz⟩:=I.list hq
  obtain⟨u,hu,ru⟩:=rv.get hx
  obtain⟨f0,f1,f2,f3,f4,f5⟩:=hf it (by simp)
  refine wpAny_pyNext_list_item st p.isList (x:=u) (by simpa using hu) fun h' iW sb=>?_
  have I1:Inv X pins σ H { s with heap:=h' }:=I.turned (t':=s.toks) (fun b o hb e=>(sb.2 b hb).trans e) f0 f1 f3 f4 f5
  obtain⟨o,e,c,d⟩:=id iW
  exact⟨u,rfl,zS (s:={ s with heap:=h' }) e c d (by decide) ⟨x,H,I1,ru,⟨rfl,fun ys hy=>by rw[I.zp hy hq];exact hx⟩,iW,fun b hb=>(hf b hb).1⟩⟩
 done:=by
  intro X hP hw hK hc i pins s σ H E I hf st hg
  subst hP hw hK
  obtain⟨xs,hq,hx⟩:=hg
  obtain⟨its,rv,p,hz⟩:=I.list hq
  obtain⟨f0,f1,f2,f3,f4,f5⟩:=hf it (by simp)
  have hl:=rv.length
  exact wpAny_pyNext_list_end (I.ok.hd hc) st p.isList (by simp;omega) fun h' eb=>⟨rfl,I.turned (t':=s.toks) (fun b o hb e=>eb b o hb e) f0 f1 f3 f4 f5⟩
 self:=fun _ _ _ _ _ st h=>wpAny_pyIter_listiter st h
theorem V7 {P:Program}{w:World}{K:PySem.W.Frag}{tg:Expr} (a it:Addr):Turn P w K tg (nT K a) [it] it (fun i h=>h.IsTupleIter it a i) where
 mem:=by simp
 obj:=fun i h st b hb=>by
  have e:b=it:=by simpa using hb
  subst e
  obtain⟨o,e,c,d⟩:=st
  exact⟨o,e,fun v z=>by rw[d]at z;cases z⟩
 keep:=fun i h h' st k=>st.at fun o e=>k it (by simp) o e
 item:=by
  intro X hP hw hK hc i pins s σ H E I hf st hg
  subst hP hw hK
  obtain⟨xs,x,hq,hx⟩:=hg
  obtain⟨its,rv,p,hz⟩:=I.tuple hq
  obtain⟨u,hu,ru⟩:=rv.get hx
  obtain⟨f0,f1,f2,f3,f4,f5⟩:=hf it (by simp)
  refine wpAny_pyNext_tuple_item st (show s.heap.IsTuple a its.toArray from p) (x:=u) (by simpa using hu) fun h' iW sb=>?_
  have I1:Inv X pins σ H { s with heap:=h' }:=I.turned (t':=s.toks) (fun b o hb e=>(sb.2 b hb).trans e) f0 f1 f3 f4 f5
  obtain⟨o,e,c,d⟩:=id iW
  exact⟨u,rfl,zS (s:={ s with heap:=h' }) e c d (by decide) ⟨x,H,I1,ru,⟨rfl,fun ys hy=>by rw[I.WG hy hq];exact hx⟩,iW,fun b hb=>(hf b hb).1⟩⟩
 done:=by
  intro X hP hw hK hc i pins s σ H E I hf st hg
  subst hP hw hK
  obtain⟨xs,hq,hx⟩:=hg
  obtain⟨its,rv,p,hz⟩:=I.tuple hq
  obtain⟨f0,f1,f2,f3,f4,f5⟩:=hf it (by simp)
  have hl:=rv.length
  exact wpAny_pyNext_tuple_end (I.ok.hd hc) st (show s.heap.IsTuple a its.toArray from p) (by simp;omega) fun h' eb=>⟨rfl,I.turned (t':=s.toks) (fun b o hb e=>eb b o hb e) f0 f1 f3 f4 f5⟩
 self:=fun _ _ _ _ _ st h=>wpAny_pyIter_tupleiter st h
theorem V8 {P:Program}{w:World}{K:PySem.W.Frag}{tg:Expr} (it:Addr) (lo:Int) (n:Nat):Turn P w K tg (rL lo n) [it] it (fun i h=>IsRangeIter h it (lo+(i:Nat) * 1) ((n:Int) - (i:Nat)) 1) where
 mem:=by simp
 obj:=fun i h st b hb=>by
  have e:b=it:=by simpa using hb
  subst e
  exact⟨_,st,fun v z=>by
   have z':Data.fields _=Data.cell v:=z
   cases z'⟩
 keep:=fun i h h' st k=>k it (by simp) _ st
 item:=by
  intro X hP hw hK hc i pins s σ H E I hf st hg
  subst hP hw hK
  obtain⟨f0,f1,f2,f3,f4,f5⟩:=hf it (by simp)
  have W:=Walks.range (prog:=X.prog) (w:=X.w) (I.ok.hd hc) it lo 1 n
  refine W.item i s _ _ hg st fun v h' tk hv iW kk=>?_
  obtain⟨t,rfl⟩:=hv
  have I1:Inv X pins σ H { s with heap:=h',toks:=tk }:=I.turned (fun b o hb e=>kk b o (by simpa using hb) e) f0 f1 f3 f4 f5
  refine⟨_,rfl,zS (s:={ s with heap:=h',toks:=tk }) (n:= "range_iterator") iW rfl rfl (by decide) ⟨.int (lo+i),H,I1,⟨t,?_⟩,⟨rfl,rfl⟩,iW,fun b hb=>(hf b hb).1⟩⟩
  rw[Int.mul_one]
 done:=by
  intro X hP hw hK hc i pins s σ H E I hf st hg
  subst hP hw hK
  obtain⟨f0,f1,f2,f3,f4,f5⟩:=hf it (by simp)
  exact wpAny_pyNext_range_end (I.ok.hd hc) st (by have:n<=i:=hg;omega) fun h' eb=>⟨rfl,I.turned (t':=s.toks) (fun b o hb e=>eb b o hb e) f0 f1 f3 f4 f5⟩
 self:=fun _ _ _ _ _ st h=>wpAny_pyIter_rangeiter st h
end L2
namespace L2
open PySem PySem.Spec PyProof.Rows
section
variable {X : Cx} {tg : Expr}
def N5 (K:PySem.W.Frag) (tl:TE):TI:=fun σ H R=>tl σ H fun x H1=>∃a,x = .ref a/\(∃xs,ai K H1 a xs)/\R (rK K a) H1
def OD (K:PySem.W.Frag) (tl:TE):TI:=fun σ H R=>tl σ H fun x H1=>∃a,x = .ref a/\(∃xs,aB K H1 a xs)/\R (nT K a) H1
theorem fq {l:Expr}{tl:TE} (hl:PE X l tl):PI X tg l (N5 X.K tl):=by
 intro pins s σ H R I h
 refine aJ (hl pins s σ H _ I h) fun v s1 ⟨x,H1,I1,r1,q1⟩=>?_
 obtain⟨a,e,⟨xs,hq⟩,q⟩:=q1
 subst e
 cases r1
 obtain⟨its,rv,p,hz⟩:=I1.list hq
 refine B4 p.isList ?_
 refine⟨s1.heap.objs.size,[s1.heap.objs.size],_,_,H1,rfl,I1.kept (t':=s1.toks) fun b o e=>bx _ e,WH a _,⟨_,eK _ rfl,rfl,rfl⟩,fun b hb=>?_,q⟩
 have e:b=s1.heap.objs.size:=by simpa using hb
 subst e
 exact I1.nH (aO _) (I1.aA.fresh (aO _))
theorem iu {l:Expr}{tl:TE} (hl:PE X l tl):PI X tg l (OD X.K tl):=by
 intro pins s σ H R I h
 refine aJ (hl pins s σ H _ I h) fun v s1 ⟨x,H1,I1,r1,q1⟩=>?_
 obtain⟨a,e,⟨xs,hq⟩,q⟩:=q1
 subst e
 cases r1
 obtain⟨its,rv,p,hz⟩:=I1.tuple hq
 refine wpAny_pyIter_tuple (show s1.heap.IsTuple a its.toArray from p) ?_
 refine⟨s1.heap.objs.size,[s1.heap.objs.size],_,_,H1,rfl,I1.kept (t':=s1.toks) fun b o e=>bx _ e,V7 a _,⟨_,eK _ rfl,rfl,rfl⟩,fun b hb=>?_,q⟩
 have e:b=s1.heap.objs.size:=by simpa using hb
 subst e
 exact I1.nH (aO _) (I1.aA.fresh (aO _))
theorem Xr {pins:List (Addr×Obj)}{σ:St}{H:Hp}{s:Shared}{R:It->Hp->Prop}{E:Value->Shared->Prop}{lo hi:Int}{t u v:Tok}{tk:Nat} (I:Inv X pins σ H s) (h1 : -(2 ^ 62)<=lo) (h2:lo < 2 ^ 62) (h3 : -(2 ^ 62)<=hi) (h4:hi < 2 ^ 62)
  (q:R (rL lo (hi - lo).toNat) H):wpAny (model X.prog X.w) X.A (pyIter (.ref s.heap.objs.size)) (Qy X pins σ tg R) E { s with heap:=s.heap.push { cls:= .type "range", data:= .fields #[.int lo t,.int hi u,.int 1 v] },toks:=tk }:=by
 refine wpAny_pyIter_range (IsRange.new ..) (small_one h1 h2 h3 h4) ?_
 have I1:Inv X pins σ H { s with heap:=s.heap.push { cls:= .type "range", data:= .fields #[.int lo t,.int hi u,.int 1 v] },toks:=tk }:=I.kept fun b o e=>bx _ e
 refine⟨(s.heap.push { cls:= .type "range", data:= .fields #[.int lo t,.int hi u,.int 1 v] }).objs.size,[(s.heap.push { cls:= .type "range", data:= .fields #[.int lo t,.int hi u,.int 1 v] }).objs.size],_,_,H,rfl,
  I1.kept (t':=tk) fun b o e=>bx _ e,V8 _ lo (hi - lo).toNat,?_,fun b hb=>?_,q⟩
 ·have e1:lo+((0:Nat):Int) * 1=lo:=by simp
  have e2:(((hi - lo).toNat:Nat):Int) - ((0:Nat):Int)=Builtin.Range.rangeSize lo hi 1:=by rw[rangeSize_one];split <;> omega
  show IsRangeIter _ _ (lo+((0:Nat):Int) * 1) ((((hi - lo).toNat:Nat):Int) - ((0:Nat):Int)) 1
  rw[e1,e2]
  exact eK _ rfl
 ·have e:b=(s.heap.push { cls:= .type "range", data:= .fields #[.int lo t,.int hi u,.int 1 v] }).objs.size:=by simpa using hb
  subst e
  exact I1.nH (aO _) (I1.aA.fresh (aO _))
def aak (ta:TA):TI:=fun σ H R=>ta σ H fun vs H1=>∃j:Int,vs = [.int j] /\ -(2 ^ 62)<=j/\j < 2 ^ 62/\R (rL 0 j.toNat) H1
theorem lG {a:Expr}{ta:TA}{p pos:Pos} (hg:Gl X "range") (hm:X.mg "range" = none) (ha:PA X [a] ta) (hs:starEach [a] X.env = [(false,eval a X.env)]:=by rfl):PI X tg (.Call (.Name "range" p) [a] [] pos) (aak ta):=by
 intro pins s σ H R I h
 refine Call_ (tO I hg hm boot_range (JW (aJ (ha pos pins s σ H _ I h) fun us s1 ⟨vs,H1,I1,r1,q1⟩=>?_) hs rfl))
 obtain⟨j,e,q1,q2,q⟩:=q1
 subst e
 cases r1 with
 | cons r rr =>
  cases rr
  obtain⟨t,rfl⟩:=r
  exact call_range_1 (Xr I1 (by omega) (by omega) q1 q2 (by simpa using q))
def abu (wi:TI) (g:TG) (tb:TS):TS:=fun D σ H=>wi σ H fun J H1=>∃W:Nat->Nat->St->Hp->Prop,(∃m,W 0 m σ H1) /\ ∀i m σ H,W i m σ H ->
 (J.stop i H/\D.nx σ H)\/(J.go i H /\ ∃N:St->Hp->Prop,(∀aK H',N aK H' -> ∃m',m' < m/\W (i+1) m' aK H') /\ ∀x H',J.rJ i H x H'->g x σ H' fun hV H2=>tb { D with nx:=N,ct:=N,bk:=D.nx } hV H2)
def vY (fp:List Addr) (h:Heap):List (Addr×Obj):=fp.filterMap fun b=>(h.get? b).map fun o=>(b,o)
theorem y9 {fp:List Addr}{h:Heap}{b:Addr}{o:Obj} (hb:b∈fp) (e:h.get? b=some o):(b,o)∈vY fp h:=qu.mpr ⟨b,hb,by rw[e];rfl⟩
theorem WI {fp:List Addr}{h:Heap}{p:Addr×Obj} (hp:p∈vY fp h):p.1∈fp/\h.get? p.1=some p.2:=by
 obtain⟨b,hb,e⟩:=qu.mp hp
 cases q:h.get? b with
 | none=>rw[q]at e;cases e
 | some o =>
  rw[q]at e
  have e':(b,o)=p:=ie e
  subst e'
  exact⟨hb,q⟩
theorem Inv.pinned {pins:List (Addr×Obj)}{σ:St}{H:Hp}{s:Shared}{fp:List Addr} (I:Inv X pins σ H s) (hf:∀b∈fp,iR X pins H b) (ho:∀b∈fp,∃o,s.heap.get? b=some o /\ ∀v,o.data ≠ .cell v):Inv X (pins++vY fp s.heap) σ H s:=
 I.ML fun p hp=>(cz.mp hp).elim (fun z=>I.pin p (gW _ z)) fun z=>by
  obtain⟨hb,e⟩:=WI z
  obtain⟨f0,f1,f2,_⟩:=hf p.1 hb
  obtain⟨o,e',d⟩:=ho p.1 hb
  rw[e]at e';cases e'
  exact⟨e,f0,f1,f2,d⟩
theorem Inv.zt {pins pl:List (Addr×Obj)}{σ:St}{H:Hp}{s:Shared} (I:Inv X (pins++pl) σ H s):Inv X pins σ H s:=I.ML fun p hp=>I.pin p (gW _ (oB _ hp))
theorem iw {iter:Expr}{body:List Stmt}{wi:TI}{g:TG}{tb:TS}{pos:Pos} (hp:PassesOwn (model X.prog X.w) X.A X.env X.xe) (hc:X.calm=true) (hi:PI X tg iter wi) (hg:PG X tg g) (hb:gH X body tb)
  (hs:∀x,foldedSetIterable iter X.env x=pure x:=by intro _;rfl):PS X (.For tg iter body [] pos) (abu wi g tb):=by
 intro pins s σ H D I h
 refine wpAny_For (aJ (hi pins s σ H _ I h) fun v s1 h1=>aJ h1 fun AN s2 h2=>?_) hs
 obtain⟨it,fp,tn,J,H2,e,I2,T,xm,f2,W,⟨m0,w0⟩,turn⟩:=h2
 subst e
 have rj:∀ {H':Hp},(∀b∈fp,H' b=none) -> ∀b∈fp,iR X pins H' b:=fun hn b hb=>⟨hn b hb,(f2 b hb).2⟩
 refine codeAny_forLoop_any (fun n s'=>∃i aK H',Inv X pins aK H' s'/\tn i s'.heap/\(∀b∈fp,H' b=none)/\W i n aK H') ?_ m0 ⟨0,σ,H2,I2,xm,fun b hb=>(f2 b hb).1,w0⟩
 rintro n s3 ⟨i,lq,H3,I3,xn,Qz,w3⟩
 rcases turn i n lq H3 w3 with⟨stop,qn⟩|⟨go,N,hN,step⟩
 ·refine vk hp (aJ (T.done X rfl rfl rfl hc i pins s3 lq H3 X.xe I3 (rj Qz) xn stop) fun r s4 ⟨hr,I4⟩=>?_)
  subst hr
  exact yD ⟨lq,H3,I4,qn⟩
 ·refine vk hp (aJ (T.item X rfl rfl rfl hc i pins s3 lq H3 X.xe I3 (rj Qz) xn go) fun r s4 ⟨u,hr,h4⟩=>?_)
  subst hr
  refine vk hp (aJ h4 fun _ s5 ⟨x,H5,I5,r5,y5,uJ,AO⟩=>?_)
  have I5':=I5.pinned (rj AO) (T.obj _ _ uJ)
  refine vk hp (aJ (hg _ s5 lq H5 x u _ I5' r5 (step x H5 y5)) fun _ s6 ⟨σ6,H6,I6,q6⟩=>?_)
  refine vk hp (aJ (hb _ s6 σ6 H6 _ I6 q6) fun f s7 q7=>?_)
  have again:∀ {lr:St}{H7:Hp},Inv X (pins++vY fp s5.heap) lr H7 s7->N lr H7 -> ∃m,m < n /\ ∃i aK H',Inv X pins aK H' s7/\tn i s7.heap/\(∀b∈fp,H' b=none)/\W i m aK H':=fun {lr H7} I7 n7=>by
   obtain⟨m',hm,w7⟩:=hN lr H7 n7
   refine⟨m',hm,i+1,lr,H7,I7.zt,T.keep _ _ _ uJ fun b hb o e=>(I7.pin (b,o) (gW _ (gW _ (y9 hb e)))).1,fun b hb=>?_,w7⟩
   obtain⟨o,e,d⟩:=T.obj _ _ uJ b hb
   exact(I7.pin (b,o) (gW _ (gW _ (y9 hb e)))).2.1
  cases f with
  | next=>obtain⟨lr,H7,I7,n7⟩:=q7;exact again I7 n7
  | cont=>obtain⟨lr,H7,I7,n7⟩:=q7;exact again I7 n7
  | brk=>obtain⟨lr,H7,I7,q7⟩:=q7;exact⟨lr,H7,I7.zt,q7⟩
  | ret v=>obtain⟨x7,lr,H7,I7,r7,q7⟩:=q7;exact⟨x7,lr,H7,I7.zt,r7,q7⟩
end
theorem tf {K:PySem.W.Frag}{a:Addr}{xs:List V}{g:TG}{tb:TS}{D:Ends}{σ:St}{H:Hp} (Pv:Nat->St->Hp->Prop) (h0:Pv 0 σ H) (hl:∀i σ H,i<=xs.length->Pv i σ H->ai K H a xs)
  (hs:∀i x σ H,xs[i]? = some x->Pv i σ H->g x σ H fun hV H2=>tb { D with nx:=Pv (i+1),ct:=Pv (i+1),bk:=D.nx } hV H2) (hd:∀σ H,Pv xs.length σ H->D.nx σ H) :
  ∃W:Nat->Nat->St->Hp->Prop,(∃m,W 0 m σ H) /\ ∀i m σ H,W i m σ H ->
   ((rK K a).stop i H/\D.nx σ H)\/((rK K a).go i H /\ ∃N:St->Hp->Prop,(∀aK H',N aK H' -> ∃m',m' < m/\W (i+1) m' aK H') /\ ∀x H',(rK K a).rJ i H x H'->g x σ H' fun hV H2=>tb { D with nx:=N,ct:=N,bk:=D.nx } hV H2):=by
 refine⟨fun i m σ H=>m=xs.length - i/\i<=xs.length/\Pv i σ H,⟨xs.length,by simp,bY _,h0⟩,?_⟩
 rintro i m σ H ⟨rfl,hi,p⟩
 have q:=hl i σ H hi p
 by_cases aM:i < xs.length
 ·refine .inr ⟨⟨xs,xs[i],q,by simp[aM]⟩,Pv (i+1),fun aK H' p'=>⟨xs.length - (i+1),by omega,rfl,aM,p'⟩,fun x H' y=>?_⟩
  obtain⟨e,y⟩:=y
  subst e
  exact hs i x σ _ (y xs q) p
 ·have e:i=xs.length:=by omega
  subst e
  exact .inl ⟨⟨xs,q,aO _⟩,hd σ H p⟩
theorem C7 {K:PySem.W.Frag}{a:Addr}{xs:List V}{g:TG}{tb:TS}{D:Ends}{σ:St}{H:Hp} (Pv:Nat->St->Hp->Prop) (h0:Pv 0 σ H) (hl:∀i σ H,i<=xs.length->Pv i σ H->aB K H a xs)
  (hs:∀i x σ H,xs[i]? = some x->Pv i σ H->g x σ H fun hV H2=>tb { D with nx:=Pv (i+1),ct:=Pv (i+1),bk:=D.nx } hV H2) (hd:∀σ H,Pv xs.length σ H->D.nx σ H) :
  ∃W:Nat->Nat->St->Hp->Prop,(∃m,W 0 m σ H) /\ ∀i m σ H,W i m σ H ->
   ((nT K a).stop i H/\D.nx σ H)\/((nT K a).go i H /\ ∃N:St->Hp->Prop,(∀aK H',N aK H' -> ∃m',m' < m/\W (i+1) m' aK H') /\ ∀x H',(nT K a).rJ i H x H'->g x σ H' fun hV H2=>tb { D with nx:=N,ct:=N,bk:=D.nx } hV H2):=by
 refine⟨fun i m σ H=>m=xs.length - i/\i<=xs.length/\Pv i σ H,⟨xs.length,by simp,bY _,h0⟩,?_⟩
 rintro i m σ H ⟨rfl,hi,p⟩
 have q:=hl i σ H hi p
 by_cases aM:i < xs.length
 ·refine .inr ⟨⟨xs,xs[i],q,by simp[aM]⟩,Pv (i+1),fun aK H' p'=>⟨xs.length - (i+1),by omega,rfl,aM,p'⟩,fun x H' y=>?_⟩
  obtain⟨e,y⟩:=y
  subst e
  exact hs i x σ _ (y xs q) p
 ·have e:i=xs.length:=by omega
  subst e
  exact .inl ⟨⟨xs,q,aO _⟩,hd σ H p⟩
theorem sT {lo:Int}{n:Nat}{g:TG}{tb:TS}{D:Ends}{σ:St}{H:Hp} (Pv:Nat->St->Hp->Prop) (h0:Pv 0 σ H)
  (hs:∀i σ H,i < n->Pv i σ H->g (.int (lo+i)) σ H fun hV H2=>tb { D with nx:=Pv (i+1),ct:=Pv (i+1),bk:=D.nx } hV H2) (hd:∀σ H,Pv n σ H->D.nx σ H) :
  ∃W:Nat->Nat->St->Hp->Prop,(∃m,W 0 m σ H) /\ ∀i m σ H,W i m σ H ->
   ((rL lo n).stop i H/\D.nx σ H)\/((rL lo n).go i H /\ ∃N:St->Hp->Prop,(∀aK H',N aK H' -> ∃m',m' < m/\W (i+1) m' aK H') /\ ∀x H',(rL lo n).rJ i H x H'->g x σ H' fun hV H2=>tb { D with nx:=N,ct:=N,bk:=D.nx } hV H2):=by
 refine⟨fun i m σ H=>m=n - i/\i<=n/\Pv i σ H,⟨n,by simp,bY _,h0⟩,?_⟩
 rintro i m σ H ⟨rfl,hi,p⟩
 by_cases aM:i < n
 ·refine .inr ⟨aM,Pv (i+1),fun aK H' p'=>⟨n - (i+1),by omega,rfl,aM,p'⟩,fun x H' y=>?_⟩
  obtain⟨e,y⟩:=y
  subst e y
  exact hs i σ _ aM p
 ·have e:i=n:=by omega
  subst e
  exact .inl ⟨aO _,hd σ H p⟩
end L2
namespace L2
open PySem PySem.Spec PyProof.Rows
abbrev R2:=V->V->Hp->VK->Prop
def cE (X:Cx) (f:Value->Value->Sem Value) (r:R2):Prop:=
 ∀ (pins:List (Addr×Obj)) (s:Shared) (σ:St) (H:Hp) (x y:V) (v u:Value) (Q:VK),Inv X pins σ H s->RelV x v->RelV y u->r x y H Q ->
  wpAny (model X.prog X.w) X.A (f v u) (EP X pins σ Q) X.xe s
def GX (X:Cx) (f:Value->Sem Value) (r:V->Hp->VK->Prop):Prop:=
 ∀ (pins:List (Addr×Obj)) (s:Shared) (σ:St) (H:Hp) (x:V) (v:Value) (Q:VK),Inv X pins σ H s->RelV x v->r x H Q ->
  wpAny (model X.prog X.w) X.A (f v) (EP X pins σ Q) X.xe s
def eO (X:Cx) (f:Value) (r:List V->Hp->VK->Prop):Prop:=
 ∀ (pins:List (Addr×Obj)) (s:Shared) (σ:St) (H:Hp) (xs:List V) (us:List Value) (Q:VK),Inv X pins σ H s->Vals xs us->r xs H Q ->
  wpAny (model X.prog X.w) X.A (call f us) (EP X pins σ Q) X.xe s
def abv (X:Cx) (r:V->Hp->(Bool->Hp->Prop)->Prop):Prop:=
 ∀ (pins:List (Addr×Obj)) (s:Shared) (σ:St) (H:Hp) (x:V) (v:Value) (Q:Bool->Hp->Prop),Inv X pins σ H s->RelV x v->r x H Q ->
  wpAny (model X.prog X.w) X.A (truthy v) (TP X pins σ Q) X.xe s
def nU (r:R2) (ta tb:TE):TE:=fun σ H Q=>ta σ H fun x H1=>tb σ H1 fun y H2=>r x y H2 Q
def tUn (r:V->Hp->VK->Prop) (ta:TE):TE:=fun σ H Q=>ta σ H fun x H1=>r x H1 Q
def rI (C:Int->Int->Prop) (g:Int->Int->V):R2:=fun x y H Q=>∃i j,x = .int i/\y = .int j/\C i j/\Q (g i j) H
def pQ (g:Int->Int->V):R2:=fun x y H Q=>∃i j,x = .int i/\y = .int j/\Q (g i j) H
def rU (g:Int->V):V->Hp->VK->Prop:=fun x H Q=>∃i,x = .int i/\Q (g i) H
section
variable {X : Cx} {a b c : Expr} {ta tb tc : TE} {pos : Pos}
theorem D0 (ha:PE X a ta) (hb:PE X b tb) {pins:List (Addr×Obj)}{s:Shared}{σ:St}{H:Hp}{R:V->V->Hp->Prop} (I:Inv X pins σ H s)
  (h:ta σ H fun x H1=>tb σ H1 fun y H2=>R x y H2) {Q:Value->Shared->Prop}{f:Value->Value->Sem Value}
  (hf:∀v u s2 x y H2,Inv X pins σ H2 s2->RelV x v->RelV y u->R x y H2->wpAny (model X.prog X.w) X.A (f v u) Q X.xe s2) :
  wpAny (model X.prog X.w) X.A (eval a X.env) (fun v bh=>wpAny (model X.prog X.w) X.A (eval b X.env) (fun u lg=>wpAny (model X.prog X.w) X.A (f v u) Q X.xe lg) X.xe bh) X.xe s:=by
 refine aJ (ha pins s σ H _ I h) fun v s1 ⟨x,H1,I1,r1,q1⟩=>?_
 refine aJ (hb pins s1 σ H1 _ I1 q1) fun u s2 ⟨y,H2,I2,r2,q2⟩=>?_
 exact hf v u s2 x y H2 I2 r1 r2 q2
theorem aL {op:Operator}{r:R2} (ho:cE X (binaryOp op) r) (ha:PE X a ta) (hb:PE X b tb):PE X (.BinOp a op b pos) (nU r ta tb):=by
 intro pins s σ H Q I h
 exact wpAny_BinOp (D0 ha hb I h fun v u s2 x y H2 I2 rx ry q=>ho pins s2 σ H2 x y v u Q I2 rx ry q)
theorem zT {op:UnaryOp}{r:V->Hp->VK->Prop} (ho:GX X (unaryOp op) r) (ha:PE X a ta):PE X (.UnaryOp op a pos) (tUn r ta):=by
 intro pins s σ H Q I h
 exact UnaryOp_ (aJ (ha pins s σ H _ I h) fun v s1 ⟨x,H1,I1,r1,q1⟩=>ho pins s1 σ H1 x v Q I1 r1 q1)
theorem AQ {f:Value->Value->Sem Value}{C:Int->Int->Prop}{g:Int->Int->Int}
  (rule:∀ (i j:Int) (t u:Tok) (s:Shared) (Q:Value->Shared->Prop) (E:Value->Shared->Prop),C i j->Q (.int (g i j) s.toks) { s with toks:=s.toks+1 }->wpAny (model X.prog X.w) X.A (f (.int i t) (.int j u)) Q E s) :
  cE X f (rI C fun i j=>.int (g i j)):=by
 intro pins s σ H x y v u Q I rx ry h
 obtain⟨i,j,rfl,rfl,hc,q⟩:=h
 obtain⟨t,rfl⟩:=rx
 obtain⟨t',rfl⟩:=ry
 exact rule i j t t' s _ _ hc ⟨.int (g i j),H,I.tok _,⟨_,rfl⟩,q⟩
theorem OE {f:Value->Value->Sem Value}{g:Int->Int->Int}
  (rule:∀ (i j:Int) (t u:Tok) (s:Shared) (Q:Value->Shared->Prop) (E:Value->Shared->Prop),Q (.int (g i j) s.toks) { s with toks:=s.toks+1 }->wpAny (model X.prog X.w) X.A (f (.int i t) (.int j u)) Q E s) :
  cE X f (pQ fun i j=>.int (g i j)):=by
 intro pins s σ H x y v u Q I rx ry h
 obtain⟨i,j,rfl,rfl,q⟩:=h
 obtain⟨t,rfl⟩:=rx
 obtain⟨t',rfl⟩:=ry
 exact rule i j t t' s _ _ ⟨.int (g i j),H,I.tok _,⟨_,rfl⟩,q⟩
theorem D1 {f:Value->Value->Sem Value}{g:Int->Int->Bool}
  (rule:∀ (i j:Int) (t u:Tok) (s:Shared) (Q:Value->Shared->Prop) (E:Value->Shared->Prop),Q (.bool (g i j)) s->wpAny (model X.prog X.w) X.A (f (.int i t) (.int j u)) Q E s) :
  cE X f (pQ fun i j=>.bl (g i j)):=by
 intro pins s σ H x y v u Q I rx ry h
 obtain⟨i,j,rfl,rfl,q⟩:=h
 obtain⟨t,rfl⟩:=rx
 obtain⟨t',rfl⟩:=ry
 exact rule i j t t' s _ _ ⟨.bl (g i j),H,I,rfl,q⟩
def abw (i j:Int):Prop:=0 < j/\j < 1073741824
def abx (i j:Int):Prop:=0<=j/\j<=1000000/\i.natAbs < 2 ^ 64
def D2 (i j:Int):Prop:=(-(2 ^ 64) < i/\i < 2 ^ 64)\/(-(2 ^ 64) < j/\j < 2 ^ 64)
theorem D2.ok {i j:Int} (h:D2 i j):IntMulOk i j:=by
 rcases h with⟨h1,h2⟩|⟨h1,h2⟩
 ·exact .of_left (intBits_le_64 h1 h2)
 ·exact .of_right (intBits_le_64 h1 h2)
theorem gM:cE X (binaryOp .Add) (pQ fun i j=>.int (i+j)):=OE fun _ _ _ _ _ _ _ q=>add_int q
theorem ND:cE X (binaryOp .Sub) (pQ fun i j=>.int (i - j)):=OE fun _ _ _ _ _ _ _ q=>sub_int q
theorem Dm:cE X (binaryOp .Mult) (rI D2 fun i j=>.int (i * j)):=AQ fun _ _ _ _ _ _ _ hc q=>mul_int q hc.ok
theorem kU:cE X (binaryOp .FloorDiv) (rI abw fun i j=>.int (i / j)):=AQ fun i j _ _ _ _ _ hc q=>by
 have h1:(0:Int) < j:=hc.1
 have h2:j < 1073741824:=hc.2
 exact floordiv_int (by omega) (by rw[Int.fdiv_eq_ediv_of_nonneg i (by omega)];exact q) (.inl (PyProof.noPylong_small (by omega)))
theorem fE:cE X (binaryOp .Mod) (rI (fun _ j=>0 < j) fun i j=>.int (i % j)):=AQ fun i j _ _ _ _ _ hc q=>by
 have h1:(0:Int) < j:=hc
 exact mod_int' (by omega) (by rw[Int.fmod_eq_emod_of_nonneg i (by omega)];exact q)
theorem Dn:cE X (binaryOp .Pow) (rI abx fun i j=>.int (i ^ j.toNat)):=AQ fun _ _ _ _ _ _ _ hc q=>pow_int_small hc.1 hc.2.1 hc.2.2 q
theorem unI {f:Value->Sem Value}{g:Int->Int}
  (rule:∀ (i:Int) (t:Tok) (s:Shared) (Q:Value->Shared->Prop) (E:Value->Shared->Prop),Q (.int (g i) s.toks) { s with toks:=s.toks+1 }->wpAny (model X.prog X.w) X.A (f (.int i t)) Q E s) :
  GX X f (rU fun i=>.int (g i)):=by
 intro pins s σ H x v Q I rx h
 obtain⟨i,rfl,q⟩:=h
 obtain⟨t,rfl⟩:=rx
 exact rule i t s _ _ ⟨.int (g i),H,I.tok _,⟨_,rfl⟩,q⟩
theorem zJ:GX X (unaryOp .USub) (rU fun i=>.int (-i)):=unI fun _ _ _ _ _ q=>neg_int q
end
def OF:V->V->Bool
 | .aG,.aG=>true | .aG,.int _=>true | .int _,.aG=>true | .aG,.bl _=>true | .bl _,.aG=>true | .aG,.str _=>true | .str _,.aG=>true
 | .int _,.int _=>true | .bl _,.bl _=>true | .str _,.str _=>true | .ja _,.ja _=>true
 | .int _,.str _=>true | .str _,.int _=>true | .bl _,.str _=>true | .str _,.bl _=>true
 | _,_=>false
def rEq:R2:=fun x y H Q=>OF x y=true/\Q (.bl (decide (x=y))) H
def rNe:R2:=fun x y H Q=>OF x y=true/\Q (.bl (!decide (x=y))) H
theorem MN {i j:Int}:decide (V.int i=V.int j)=(i==j):=by
 rw[qv]
 simp
theorem NF {i j:Bool}:decide (V.bl i=V.bl j)=(i==j):=by
 rw[qv]
 simp
theorem MO {i j:Str}:decide (V.str i=V.str j)=(i==j):=by
 rw[qv]
 simp
theorem MP {i j:Array UInt8}:decide (V.ja i=V.ja j)=(i.toList==j.toList):=by
 rw[qv]
 cases i
 cases j
 simp
section
variable {X : Cx} {a b c : Expr} {ta tb tc : TE} {pos : Pos}
theorem cP {pins:List (Addr×Obj)}{σ:St}{H:Hp}{s:Shared}{Q:VK}{k k':Bool} (I:Inv X pins σ H s) (q:Q (.bl k) H) (e:k=k'):EP X pins σ Q (.bool k') s:=by
 subst e
 exact⟨.bl k,H,I,rfl,q⟩
theorem iL:cE X (compareOp .Eq) rEq:=by
 intro pins s σ H x y v u Q I rx ry h
 obtain⟨hs,q⟩:=h
 cases x with
 | aG =>
  cases rx
  cases y with
  | aG=>cases ry;exact PySem.EqNone.eq_none_none (cP I q (by simp))
  | bl j=>cases ry;exact PySem.EqNone.eq_none_bool (cP I q (by simp))
  | int j=>obtain⟨t',rfl⟩:=ry;exact PySem.EqNone.eq_none_int (cP I q (by simp))
  | str j=>obtain⟨t',rfl⟩:=ry;exact PySem.EqNone.eq_none_str (cP I q (by simp))
  | _=>exact absurd (show false=true from hs) dU
 | bl i =>
  cases rx
  cases y with
  | aG=>cases ry;exact PySem.EqNone.eq_bool_none (cP I q (by simp))
  | bl j=>cases ry;exact eq_bool (cP I q NF)
  | str j=>obtain⟨t',rfl⟩:=ry;exact PySem.EqMixed.eq_bool_str (cP I q (by simp))
  | _=>exact absurd (show false=true from hs) dU
 | int i =>
  obtain⟨t,rfl⟩:=rx
  cases y with
  | aG=>cases ry;exact PySem.EqNone.eq_int_none (cP I q (by simp))
  | int j=>obtain⟨t',rfl⟩:=ry;exact eq_int (cP I q MN)
  | str j=>obtain⟨t',rfl⟩:=ry;exact PySem.EqMixed.eq_int_str (cP I q (by simp))
  | _=>exact absurd (show false=true from hs) dU
 | str i =>
  obtain⟨t,rfl⟩:=rx
  cases y with
  | aG=>cases ry;exact PySem.EqNone.eq_str_none (cP I q (by simp))
  | bl j=>cases ry;exact PySem.EqMixed.eq_str_bool (cP I q (by simp))
  | int j=>obtain⟨t',rfl⟩:=ry;exact PySem.EqMixed.eq_str_int (cP I q (by simp))
  | str j=>obtain⟨t',rfl⟩:=ry;exact eq_str (cP I q MO)
  | _=>exact absurd (show false=true from hs) dU
 | ja i =>
  obtain⟨t,rfl⟩:=rx
  cases y with
  | ja j=>obtain⟨t',rfl⟩:=ry;exact PySem.W.eq_bytes (cP I q MP)
  | _=>exact absurd (show false=true from hs) dU
 | _=>cases y <;> exact absurd (show false=true from hs) dU
theorem wo:cE X (compareOp .NotEq) rNe:=by
 intro pins s σ H x y v u Q I rx ry h
 obtain⟨hs,q⟩:=h
 cases x with
 | aG =>
  cases rx
  cases y with
  | aG=>cases ry;exact PySem.EqNone.ne_none_none (cP I q (by simp))
  | bl j=>cases ry;exact PySem.EqNone.ne_none_bool (cP I q (by simp))
  | int j=>obtain⟨t',rfl⟩:=ry;exact PySem.EqNone.ne_none_int (cP I q (by simp))
  | str j=>obtain⟨t',rfl⟩:=ry;exact PySem.EqNone.ne_none_str (cP I q (by simp))
  | _=>exact absurd (show false=true from hs) dU
 | bl i =>
  cases rx
  cases y with
  | aG=>cases ry;exact PySem.EqNone.ne_bool_none (cP I q (by simp))
  | bl j=>cases ry;exact ne_bool (cP I q (gg not NF))
  | str j=>obtain⟨t',rfl⟩:=ry;exact PySem.EqMixed.ne_bool_str (cP I q (by simp))
  | _=>exact absurd (show false=true from hs) dU
 | int i =>
  obtain⟨t,rfl⟩:=rx
  cases y with
  | aG=>cases ry;exact PySem.EqNone.ne_int_none (cP I q (by simp))
  | int j=>obtain⟨t',rfl⟩:=ry;exact ne_int (cP I q (gg not MN))
  | str j=>obtain⟨t',rfl⟩:=ry;exact PySem.EqMixed.ne_int_str (cP I q (by simp))
  | _=>exact absurd (show false=true from hs) dU
 | str i =>
  obtain⟨t,rfl⟩:=rx
  cases y with
  | aG=>cases ry;exact PySem.EqNone.ne_str_none (cP I q (by simp))
  | bl j=>cases ry;exact PySem.EqMixed.ne_str_bool (cP I q (by simp))
  | int j=>obtain⟨t',rfl⟩:=ry;exact PySem.EqMixed.ne_str_int (cP I q (by simp))
  | str j=>obtain⟨t',rfl⟩:=ry;exact ne_str (cP I q (gg not MO))
  | _=>exact absurd (show false=true from hs) dU
 | ja i =>
  obtain⟨t,rfl⟩:=rx
  cases y with
  | ja j=>obtain⟨t',rfl⟩:=ry;exact PySem.W.ne_bytes (cP I q (gg not MP))
  | _=>exact absurd (show false=true from hs) dU
 | _=>cases y <;> exact absurd (show false=true from hs) dU
theorem wq:cE X (compareOp .Lt) (pQ fun i j=>.bl (decide (i < j))):=D1 fun _ _ _ _ _ _ _ q=>lt_int q
theorem N6:cE X (compareOp .LtE) (pQ fun i j=>.bl (decide (i<=j))):=D1 fun _ _ _ _ _ _ _ q=>le_int q
theorem zU:cE X (compareOp .Gt) (pQ fun i j=>.bl (decide (j < i))):=D1 fun _ _ _ _ _ _ _ q=>gt_int q
theorem WJ:cE X (compareOp .In) (fun x y H Q=>∃i j,x = .str i/\y = .str j/\Q (.bl (!(Builtin.Str.occurrences j i 0 j.length 1).isEmpty)) H):=by
 intro pins s σ H x y v u Q I rx ry h
 obtain⟨i,j,rfl,rfl,q⟩:=h
 obtain⟨t,rfl⟩:=rx
 obtain⟨t',rfl⟩:=ry
 exact in_str (cP I q rfl)
theorem vZ:cE X (compareOp .Is) (fun x y H Q=>y = .aG/\Q (.bl (decide (x = .aG))) H):=by
 intro pins s σ H x y v u Q I rx ry h
 obtain⟨rfl,q⟩:=h
 cases ry
 refine is_none_gen (cP I q ?_)
 cases x <;> first
  | (cases rx;rfl)
  | (obtain⟨t,rfl⟩:=rx;rfl)
theorem MQ:cE X (compareOp .IsNot) (fun x y H Q=>y = .aG/\Q (.bl (!decide (x = .aG))) H):=by
 intro pins s σ H x y v u Q I rx ry h
 obtain⟨rfl,q⟩:=h
 cases ry
 refine isnot_none_gen (cP I q ?_)
 cases x <;> first
  | (cases rx;rfl)
  | (obtain⟨t,rfl⟩:=rx;rfl)
theorem cB (b:Expr) {op:CmpOp} (h:op ≠ .In:=by decide) (h2:op ≠ .NotIn:=by decide):behindInMarks op b=false:=by
 have e1:(op==CmpOp.In)=false:=by cases op <;> first | rfl | exact absurd rfl h
 have e2:(op==CmpOp.NotIn)=false:=by cases op <;> first | rfl | exact absurd rfl h2
 cases b <;> simp[behindInMarks,e1,e2]
theorem jq {op:CmpOp}{r:R2} (ho:cE X (compareOp op) r) (ha:PE X a ta) (hb:PE X b tb) (hm:behindInMarks op b=false):PE X (.Compare a [op] [b] pos) (nU r ta tb):=by
 intro pins s σ H Q I h
 exact wpAny_Compare1 (D0 ha hb I h fun v u s2 x y H2 I2 rx ry q=>ho pins s2 σ H2 x y v u Q I2 rx ry q) hm
def N7 (t:TE):TT:=fun σ H Q=>t σ H fun x H'=>∃k,x = .bl k/\Q k H'
theorem cG {op:CmpOp}{r:R2} (ho:cE X (compareOp op) r) (ha:PE X a ta) (hb:PE X b tb) (hm:behindInMarks op b=false):PT X (.Compare a [op] [b] pos) (N7 (nU r ta tb)):=by
 intro pins s σ H Q I h
 refine wpAny_isTrue_Compare1 (aJ (ha pins s σ H _ I h) fun v s1 ⟨x,H1,I1,r1,q1⟩=>aJ (hb pins s1 σ H1 _ I1 q1) fun u s2 ⟨y,H2,I2,r2,q2⟩ =>
  aJ (ho pins s2 σ H2 x y v u _ I2 r1 r2 q2) fun c s3 ⟨z,H3,I3,r3,k,e,q3⟩=>?_) hm
 subst e
 cases r3
 exact oC ⟨H3,I3,q3⟩
def NG (r r':R2) (ta tb tc:TE):TE:=fun σ H Q=>ta σ H fun x H1=>tb σ H1 fun y H2=>r x y H2 fun z H3=>∃k,z = .bl k /\
 (if k=true then tc σ H3 fun w' H4=>r' y w' H4 Q else Q (.bl false) H3)
theorem L9 {op rM:CmpOp}{r r':R2} (ho:cE X (compareOp op) r) (gG:cE X (compareOp rM) r') (ha:PE X a ta) (hb:PE X b tb) (hc:PE X c tc)
  (hm:lastMarks [op,rM] [b,c]=false:=by with_unfolding_all rfl):PE X (.Compare a [op,rM] [b,c] pos) (NG r r' ta tb tc):=by
 intro pins s σ H Q I h
 refine Compare_chain (aJ (ha pins s σ H _ I h) fun v s1 ⟨x,H1,I1,r1,q1⟩=>chain_link (aJ (hb pins s1 σ H1 _ I1 q1) fun u s2 ⟨y,H2,I2,r2,q2⟩ =>
  aJ (ho pins s2 σ H2 x y v u _ I2 r1 r2 q2) fun d s3 ⟨z,H3,I3,r3,k,e,q3⟩=>?_)) hm
 subst e
 cases r3
 refine oC ?_
 cases k with
 | false=>exact ite_ff ⟨.bl false,H3,I3,rfl,q3⟩
 | true=>exact ite_tt (chain_last (aJ (hc pins s3 σ H3 _ I3 q3) fun w' s4 ⟨z',H4,I4,r4,q4⟩=>gG pins s4 σ H4 y z' u w' Q I4 r2 r4 q4))
theorem Xs {op rM:CmpOp}{r r':R2} (ho:cE X (compareOp op) r) (gG:cE X (compareOp rM) r') (ha:PE X a ta) (hb:PE X b tb) (hc:PE X c tc)
  (hm:lastMarks [op,rM] [b,c]=false:=by with_unfolding_all rfl):PT X (.Compare a [op,rM] [b,c] pos) (N7 (NG r r' ta tb tc)):=by
 intro pins s σ H Q I h
 refine isTrue_chain (aJ (ha pins s σ H _ I h) fun v s1 ⟨x,H1,I1,r1,q1⟩=>test_link (aJ (hb pins s1 σ H1 _ I1 q1) fun u s2 ⟨y,H2,I2,r2,q2⟩ =>
  aJ (ho pins s2 σ H2 x y v u _ I2 r1 r2 q2) fun d s3 ⟨z,H3,I3,r3,k,e,q3⟩=>?_)) hm
 subst e
 cases r3
 refine oC ?_
 cases k with
 | false =>
  obtain⟨k',e',q'⟩:=q3
  cases e'
  exact ite_ff ⟨H3,I3,q'⟩
 | true =>
  refine ite_tt (test_last (aJ (hc pins s3 σ H3 _ I3 q3) fun w' s4 ⟨z',H4,I4,r4,q4⟩=>aJ (gG pins s4 σ H4 y z' u w' _ I4 r2 r4 q4) fun d' s5 ⟨z2,H5,I5,r5,k2,e2,q5⟩=>?_))
  subst e2
  cases r5
  exact oC ⟨H5,I5,q5⟩
def D3 (K:PySem.W.Frag) (x:V) (H:Hp) (k:Bool):Prop:=
 match x with
 | .aG=>k=false
 | .bl b=>k=b
 | .int i=>k=(i != 0)
 | .str y=>y.length<=sizeLine/\k=((y.length:Int) != 0)
 | .ja y=>y.size<=sizeLine/\k=((y.size:Int) != 0)
 | .ref p=>(∃xs,ai K H p xs/\k = !xs.isEmpty)\/(∃xs,aB K H p xs/\k = !xs.isEmpty) \/ ∃kvs,H p=some (.dK kvs)/\k = !kvs.isEmpty
 | _=>False
theorem V9 {κ:Type}{kvs:List (κ×V)}{vs:List (κ×Value)} (r:KV kvs vs):(!vs.isEmpty) = !kvs.isEmpty:=by
 cases r <;> rfl
theorem Cu {xs:List V}{its:List Value} (r:Vals xs its):(!its.toArray.isEmpty) = !xs.isEmpty:=by
 cases r <;> simp
theorem qP:(sizeLine:Nat) < 2 ^ 63:=by rw[ay];decide
theorem Zo:abv X (fun x H Q=>∃k,D3 X.K x H k/\Q k H):=by
 intro pins s σ H x v Q I rx h
 obtain⟨k,e,q⟩:=h
 have hl:=qP
 have hs:sizeLine=16777216:=ay
 cases x with
 | aG =>
  cases rx
  have e':k=false:=e
  subst e'
  exact truthy_none ⟨H,I,q⟩
 | bl b =>
  cases rx
  have e':k=b:=e
  subst e'
  exact oC ⟨H,I,q⟩
 | int i =>
  obtain⟨t,rfl⟩:=rx
  have e':k=(i != 0):=e
  subst e'
  exact PySem.P.truthy_int ⟨H,I,q⟩
 | str y =>
  obtain⟨t,rfl⟩:=rx
  obtain⟨hy,e'⟩:y.length<=sizeLine/\k=((y.length:Int) != 0):=e
  subst e'
  exact PySem.P.truthy_str (by omega) ⟨H,I.tok _,q⟩
 | ja y =>
  obtain⟨t,rfl⟩:=rx
  obtain⟨hy,e'⟩:y.size<=sizeLine/\k=((y.size:Int) != 0):=e
  subst e'
  exact PySem.W.truthy_bytes (by omega) ⟨H,I.tok _,q⟩
 | ref p =>
  cases rx
  have e':(∃xs,ai X.K H p xs/\k = !xs.isEmpty)\/(∃xs,aB X.K H p xs/\k = !xs.isEmpty) \/ ∃kvs,H p=some (.dK kvs)/\k = !kvs.isEmpty:=e
  rcases e' with⟨xs,hx,e'⟩|⟨xs,hx,e'⟩|⟨kvs,hx,e'⟩
  ·subst e'
   obtain⟨its,r,pl,hz⟩:=I.list hx
   have hlen:=r.length
   exact wpAny_truthy_list pl.isList (by simp only[cJ];omega) ⟨H,I.tok _,by rw[Cu r];exact q⟩
  ·subst e'
   obtain⟨its,r,pl,hz⟩:=I.tuple hx
   have hlen:=r.length
   exact truthy_tuple pl (by simp only[cJ];omega) ⟨H,I.tok _,by rw[Cu r];exact q⟩
  ·subst e'
   obtain⟨hz,hS,vs,r,m⟩:kvs.length<=sizeLine/\(p==sysModules)=false /\ ∃vs,KV kvs vs/\s.heap.DictOf (d7 X.prog X.w) p vs:=I.aA p _ hx
   have hlen:kvs.length=vs.length:=jL r
   exact wpAny_truthy_dict hS m (by omega) ⟨H,I.tok _,by rw[V9 r];exact q⟩
 | _=>exact(show False from e).elim
theorem tq (ha:PE X a ta) (he:∀whole,isTrue a X.env whole=(do let v <- whole;standAt a.pos;holding [v] (truthy v))) :
  PT X a (fun σ H Q=>ta σ H fun x H'=>∃k,D3 X.K x H' k/\Q k H'):=by
 intro pins s σ H Q I h
 exact isTrue_plain (aJ (ha pins s σ H _ I h) fun v s1 ⟨x,H1,I1,r1,q1⟩=>Zo pins s1 σ H1 x v Q I1 r1 q1) (he _)
theorem vE:cE X (binaryOp .Add) (fun x y H Q=>∃i j,x = .str i/\y = .str j/\i.length+j.length<=sizeLine/\Q (.str (i++j)) H):=by
 intro pins s σ H x y v u Q I rx ry h
 obtain⟨i,j,rfl,rfl,hz,q⟩:=h
 obtain⟨t,rfl⟩:=rx
 obtain⟨t',rfl⟩:=ry
 exact add_str (fun t' tk=>⟨.str (i++j),H,I.tok _,⟨_,rfl⟩,q⟩) hz
theorem vals1 {x:V}{us:List Value} (r:Vals [x] us):∃u,us = [u]/\RelV x u:=by
 cases r with
 | cons r1 r2=>cases r2;exact⟨_,rfl,r1⟩
theorem vals2 {x y:V}{us:List Value} (r:Vals [x,y] us):∃u w',us = [u,w']/\RelV x u/\RelV y w':=by
 cases r with
 | cons r1 r2 =>
  cases r2 with
  | cons r3 r4=>cases r4;exact⟨_,_,rfl,r1,r3⟩
theorem Ma:eO X (.builtin "abs") (fun xs H Q=>∃i,xs = [.int i]/\Q (.int (if i < 0 then -i else i)) H):=by
 intro pins s σ H xs us Q I r h
 obtain⟨i,rfl,q⟩:=h
 obtain⟨u,rfl,t,rfl⟩:=vals1 r
 exact call_abs_int fun u tk=>⟨.int (if i < 0 then -i else i),H,I.tok _,⟨_,rfl⟩,q⟩
theorem vG (hc:X.calm=true):eO X (.builtin "max") (fun xs H Q=>∃i j,xs = [.int i,.int j]/\Q (.int (if j > i then j else i)) H):=by
 intro pins s σ H xs us Q I r h
 obtain⟨i,j,rfl,q⟩:=h
 obtain⟨u,w',rfl,⟨t,rfl⟩,⟨t',rfl⟩⟩:=vals2 r
 refine max_two_ints (I.ok.hd hc) fun h' tk k=>⟨_,H,I.kept k,?_,q⟩
 by_cases hj:j > i
 ·rw[aI hj,aI hj];exact⟨_,rfl⟩
 ·rw[aE hj,aE hj];exact⟨_,rfl⟩
theorem Ls (hc:X.calm=true):eO X (.builtin "min") (fun xs H Q=>∃i j,xs = [.int i,.int j]/\Q (.int (if j < i then j else i)) H):=by
 intro pins s σ H xs us Q I r h
 obtain⟨i,j,rfl,q⟩:=h
 obtain⟨u,w',rfl,⟨t,rfl⟩,⟨t',rfl⟩⟩:=vals2 r
 refine min_two_ints (I.ok.hd hc) fun h' tk k=>⟨_,H,I.kept k,?_,q⟩
 by_cases hj:j < i
 ·rw[aI hj,aI hj];exact⟨_,rfl⟩
 ·rw[aE hj,aE hj];exact⟨_,rfl⟩
theorem Lu:eO X (.type "int") (fun xs H Q=>(∃i,xs = [.int i]/\Q (.int i) H) \/ ∃k,xs = [.bl k]/\Q (.int (if k then 1 else 0)) H):=by
 intro pins s σ H xs us Q I r h
 rcases h with⟨i,rfl,q⟩|⟨k,rfl,q⟩
 ·obtain⟨u,rfl,t,rfl⟩:=vals1 r
  exact call_int_int ⟨.int i,H,I,⟨_,rfl⟩,q⟩
 ·obtain⟨u,rfl,r1⟩:=vals1 r
  cases r1
  exact call_int_bool ⟨.int (if k then 1 else 0),H,I.tok _,⟨_,rfl⟩,q⟩
end
end L2
namespace L2
open PySem PySem.Spec PyProof.Rows
structure D4 (h:Heap) (x dx C:Addr) (mA:Str->Option Value):Prop where
 obj:h.get? x=some (PySem.W.instObj C dx)
 ns:h.Ns1 dx mA
 ne:dx≠x
theorem vH {h:Heap}{dx:Addr}{mA:Str->Option Value} (n:h.Ns1 dx mA):∃od,h.get? dx=some od /\ ∀name,PySem.W.lookIn name od=some (mA name):=by
 obtain⟨o,es,ep,ho,hd,hk,_,hm⟩:=n
 refine⟨o,ho,fun name=>?_⟩
 have e:=hm name
 unfold nsFind findBy at e
 rw[<-Array.find?_toList]at e
 unfold PySem.W.lookIn
 rw[hd]
 dsimp only
 split
 ·rename_i y q
  rw[q]at e
  exact gg some e
 ·rename_i q
  rw[q]at e
  have a:es.toList.any (·.refKey)=false:=by
   rw[Uk]
   intro y hy
   obtain⟨z,t,lQ⟩:=hk y (Array.mem_toList_iff.mp hy)
   simp[DictEntry.refKey,lQ]
  have a' : ¬ es.toList.any (·.refKey)=true:=by rw[a];exact dU
  rw[aE a']
  exact gg some e
theorem D4.look {h:Heap}{x dx C:Addr}{mA:Str->Option Value} (I:D4 h x dx C mA):∃od,PySem.W.InstAt h x (PySem.W.instObj C dx) C (some od) /\ ∀name,PySem.W.lookIn name od=some (mA name):=
 let ⟨od,ho,hl⟩:=vH I.ns
 ⟨od,⟨I.obj,rfl,rfl,ho⟩,hl⟩
def ix (f:Str) (v:V):List (Str×V)->List (Str×V)
 | []=>[(f,v)]
 | (g,x)::r=>if g=f then (g,v)::r else (g,x)::ix f v r
theorem KS (f g:Str) (v:V):∀fs:List (Str×V),(ix f v fs).lookup g=if g=f then some v else fs.lookup g
 | []=>by
  show List.lookup g [(f,v)]=_
  by_cases h:g=f
  ·have hb:(g==f)=true:=eN.mpr h
   simp only[List.lookup,hb,aI h]
  ·have hb:(g==f)=false:=oz.mpr h
   simp only[List.lookup,hb,aE h]
 | (k,x)::r=>by
  have ih:=KS f g v r
  rw[show ix f v ((k,x)::r)=(if k=f then (k,v)::r else (k,x)::ix f v r) from rfl]
  by_cases hk:k=f
  ·rw[aI hk]
   by_cases h:g=k
   ·have hb:(g==k)=true:=eN.mpr h
    simp only[List.lookup,hb,aI (h.trans hk)]
   ·have hb:(g==k)=false:=oz.mpr h
    simp only[List.lookup,hb,aE (fun e:g=f=>h (e.trans hk.symm))]
  ·rw[aE hk]
   by_cases h:g=k
   ·have hb:(g==k)=true:=eN.mpr h
    simp only[List.lookup,hb,aE (fun e:g=f=>hk (h.symm.trans e))]
   ·have hb:(g==k)=false:=oz.mpr h
    simp only[List.lookup,hb]
    exact ih
theorem CG (f:Str) (v:V):∀fs:List (Str×V),f∈(ix f v fs).map (·.1) /\ ∀g,g∈fs.map (·.1)->g∈(ix f v fs).map (·.1)
 | []=>⟨by simp[ix],fun g h=>by simp at h⟩
 | (k,x)::r=>by
  obtain⟨i1,i2⟩:=CG f v r
  rw[show ix f v ((k,x)::r)=(if k=f then (k,v)::r else (k,x)::ix f v r) from rfl]
  by_cases hk:k=f
  ·rw[aI hk]
   subst hk
   exact⟨by simp,fun g h=>by simpa using h⟩
  ·rw[aE hk]
   refine⟨?_,fun g h=>?_⟩
   ·rw[d5]
    exact bX _ i1
   ·rw[d5]at h ⊢
    rcases a9.mp h with e | e
    ·exact a9.mpr (.inl e)
    ·exact bX _ (i2 g e)
theorem KU (f:Str) (v:V):∀fs:List (Str×V),(ix f v fs).length<=fs.length+1
 | []=>by simp[ix]
 | (k,x)::r=>by
  have ih:=KU f v r
  rw[show ix f v ((k,x)::r)=(if k=f then (k,v)::r else (k,x)::ix f v r) from rfl]
  by_cases hk:k=f
  ·rw[aI hk,dc,dc];omega
  ·rw[aE hk,dc,dc];omega
theorem fY.some_of {v:V}{o:Option Value} (r:fY (some v) o):∃u,o=some u/\RelV v u:=by
 cases o with
 | none=>exact(show False from r).elim
 | some u=>exact⟨u,rfl,r⟩
theorem fY.none_of {o:Option Value} (r:fY none o):o=none:=by
 cases o with
 | none=>rfl
 | some u=>exact(show False from r).elim
theorem WK {v:V}{u:Value} (r:RelV v u):PySem.W.handedIn u=true:=by
 cases v with
 | aG=>cases (show u=Value.none from r);rfl
 | bl b=>cases (show u=Value.bool b from r);rfl
 | int i=>obtain⟨t,e⟩:=(show ∃t,u=Value.int i t from r);cases e;rfl
 | str x=>obtain⟨t,e⟩:=(show ∃t,u=Value.str x t from r);cases e;rfl
 | ja b=>obtain⟨t,e⟩:=(show ∃t,u=Value.bytes b t from r);cases e;rfl
 | jY b=>obtain⟨t,e⟩:=(show ∃t,u=Value.float b t from r);cases e;rfl
 | ref a=>cases (show u=Value.ref a from r);rfl
 | ty n=>cases (show u=Value.type n from r);rfl
section
variable {P : Program} {w : World} {H H' : Hp} {h h' : Heap} {a C dx : Addr} {fs fs' : List (Str × V)}
theorem Yo (aA:cS P w H h) (e:H a=some (.ins C dx fs)):∃mA,D4 h a dx C mA/\(∀f,fY (fs.lookup f) (mA f))/\PySem.Within mA (fs.map (·.1))/\fs.length<=1000/\H dx=some (.own a):=by
 obtain⟨d,z,ne,ob,mA,n,r,q⟩:=(show bH P w H h a (.ins C dx fs) from aA a _ e)
 exact⟨mA,⟨ob,n,ne⟩,r,q,z,d⟩
end
structure GY (K:PySem.W.Frag) (C:Addr):Prop where
 pg:PySem.W.plainGet K C Str.empty=true
 hd:PySem.W.hasDictIn K C=true
 po:PySem.W.plainOver K C=true
 sa:PySem.W.findIn K (.ref C) "__setattr__" = some (some (.builtin "object.__setattr__"))
theorem GY.get {K:PySem.W.Frag}{C:Addr} (c:GY K C) (f:Str):PySem.W.plainGet K C f=true:=c.pg
section
variable {X : Cx} {pins : List (Addr × Obj)} {σ : St} {H : Hp} {s : Shared} {a C dx : Addr} {fs : List (Str × V)} {f : Str} {v : V} {A : Around} {E : Value -> Shared -> Prop}
theorem Yp {prog:Program}{w:World}{env:Env}{e:Expr}{f:Str}{pos:Pos}{s:Shared}{Q:Value->Shared->Prop} (hb:attributeBase e f env (eval e env)=eval e env)
  (h:wpAny (model prog w) A (eval e env) (fun o bh=>wpAny (model prog w) A (getAttr o f true) Q E bh) E s):wpAny (model prog w) A (eval (.Attribute e f pos) env) Q E s:=
 Attribute_any_ h (by rw[arm_eval_Attribute,hb])
end
section
variable {X : Cx} {pins : List (Addr × Obj)} {σ : St} {H : Hp} {s : Shared} {A : Around} {E : Value -> Shared -> Prop} {Q : Value -> Shared -> Prop} {c : Value} {b : Bool}
inductive i7 (K:PySem.W.Frag) (H:Hp):V->Value->Prop where
 | aG:i7 K H .aG (.type "NoneType")
 | bl (x:Bool):i7 K H (.bl x) (.type "bool")
 | int (i:Int):i7 K H (.int i) (.type "int")
 | str (x:Str):i7 K H (.str x) (.type "str")
 | jY (x:UInt64):i7 K H (.jY x) (.type "float")
 | lst {a:Addr}{xs:List V} (e:H a=some (.lst xs)):i7 K H (.ref a) (.type "list")
 | iB {a:Addr}{o:Obj}{xs:List V} (e:H a=some (.iB o (.lst xs))):i7 K H (.ref a) (.type "list")
 | tup {a:Addr}{xs:List V} (e:H a=some (.tup xs)):i7 K H (.ref a) (.type "tuple")
 | dK {a:Addr}{kvs:List (Key×V)} (e:H a=some (.dK kvs)):i7 K H (.ref a) (.type "dict")
 | dT {a:Addr}{kvs:List (List Key×V)} (e:H a=some (.dT kvs)):i7 K H (.ref a) (.type "dict")
 | ins {a C dx:Addr}{fs:List (Str×V)} (e:H a=some (.ins C dx fs)) (cl:GY K C) (ha:PySem.W.findIn K (.ref C) "__class__" = some (some (.builtin "object.__class__")))
   (hn:PySem.W.specialIn K (.builtin "object.__class__") "__get__" = some (some (.builtin "getset_descriptor.__get__"))) (rN:PySem.W.takesIn K (.builtin "object.__class__")=some true)
   (hm:PySem.W.mroIn K C (.type "object")=some true):i7 K H (.ref a) (.ref C)
theorem WL {x:V}{u t:Value} (I:Inv X pins σ H s) (rx:RelV x u) (ty:i7 X.K H x t) (e:PySem.W.kitOne X.K t c=some b) (h:∀tk,Q (.bool b) { s with toks:=tk }) :
  wpAny (model X.prog X.w) A (call (.builtin "isinstance") [u,c]) Q E s:=by
 cases ty with
 | aG=>cases (show u=Value.none from rx);exact mj PySem.W.kitx_none I.bU True.intro e (fun z=>nomatch z) h
 | bl y=>cases (show u=Value.bool y from rx);exact mj PySem.W.kitx_bool I.bU True.intro e (fun z=>nomatch z) h
 | int i=>obtain⟨t,q⟩:=(show ∃t,u=Value.int i t from rx);cases q;exact mj PySem.W.kitx_int I.bU True.intro e (fun z=>nomatch z) h
 | str y=>obtain⟨t,q⟩:=(show ∃t,u=Value.str y t from rx);cases q;exact mj PySem.W.kitx_str I.bU True.intro e (fun z=>nomatch z) h
 | jY y=>obtain⟨t,q⟩:=(show ∃t,u=Value.float y t from rx);cases q;exact mj PySem.W.kitx_float I.bU True.intro e (fun z=>nomatch z) h
 | @lst a xs ea =>
  cases (show u=Value.ref a from rx)
  obtain⟨_,_,n,_,h1⟩:=(show bH X.prog X.w H s.heap a (.lst xs) from I.aA a _ ea)
  exact mj PySem.W.kitx_list I.bU ⟨_,h1,rfl⟩ e (fun z=>nomatch z) h
 | @iB a ob xs ea =>
  cases (show u=Value.ref a from rx)
  obtain⟨_,_,_,n,_,h1⟩:=(show bH X.prog X.w H s.heap a (.iB ob (.lst xs)) from I.aA a _ ea)
  exact mj PySem.W.kitx_list I.bU ⟨_,h1,rfl⟩ e (fun z=>nomatch z) h
 | @tup a xs ea =>
  cases (show u=Value.ref a from rx)
  obtain⟨_,_,_,p⟩:=(show bH X.prog X.w H s.heap a (.tup xs) from I.aA a _ ea)
  obtain⟨o,h1,h2,_⟩:=p
  exact mj PySem.W.kitx_tuple I.bU ⟨o,h1,h2⟩ e (fun z=>nomatch z) h
 | @dK a kvs ea =>
  cases (show u=Value.ref a from rx)
  obtain⟨_,_,vs,_,p⟩:=(show bH X.prog X.w H s.heap a (.dK kvs) from I.aA a _ ea)
  obtain⟨o,es,ep,h1,h2,_⟩:=p
  exact mj PySem.W.kitx_dict I.bU ⟨o,h1,h2.1⟩ e (fun z=>nomatch z) h
 | @dT a kvs ea =>
  cases (show u=Value.ref a from rx)
  obtain⟨_,_,xs,_,o,es,ep,h1,h2,_⟩:=(show bH X.prog X.w H s.heap a (.dT kvs) from I.aA a _ ea)
  exact mj PySem.W.kitx_dict I.bU ⟨o,h1,h2.1⟩ e (fun z=>nomatch z) h
 | @ins a C dx fs ea cl ha hn rN hm =>
  cases (show u=Value.ref a from rx)
  obtain⟨mA,O,_⟩:=Yo I.aA ea
  obtain⟨od,J,_⟩:=O.look
  exact mj (PySem.W.kitx_own (cl.get _) cl.hd ha hn rN hm) I.bU J e (fun z=>nomatch z) h
end
end L2
namespace L2
open PySem PySem.Spec PyProof.Rows
structure bQ (k:Nat) (A:Around):Prop where
 hd:A.handled=none
 dp:A.depth+3 * k+5 < recursionLimit
 un:A.units+16 * k+200 < cLine
 gd:A.guards=some []
theorem bQ.mono {j k:Nat}{A:Around} (r:bQ k A) (h:j<=k):bQ j A:=⟨r.hd,by have:=r.dp;omega,by have:=r.un;omega,r.gd⟩
theorem bQ.deeper {k:Nat}{A:Around} (r:bQ (k+1) A) (env:Env):bQ k (A.deeper env):=
 ⟨r.hd,by have:=r.dp;show A.depth+1+3 * k+5 < _;omega,by have:=r.un;show A.units+3+16 * k+200 < _;omega,by first | exact r.gd | simp[Around.deeper,r.gd]⟩
theorem K7 {A:Around}{C:Addr}{us:List Value}{kw:List (Str×Value)}:(A.under (.builtin "type.__call__" ⟨.ref C::us,kw⟩)).depth=A.depth+1:=by
 first | rfl | simp[Around.under,Code.weight,Code.isCreation,Code.isGuard,Code.isCaller,Code.frames,Code.isFrame,guardIds]
theorem K8 {A:Around}{C:Addr}{us:List Value}{kw:List (Str×Value)}:(A.under (.builtin "type.__call__" ⟨.ref C::us,kw⟩)).units=A.units+1:=by
 first | rfl | simp[Around.under,Code.cUnits,Code.frames,Code.isFrame]
theorem KW {A:Around}{C:Addr}{us:List Value}{kw:List (Str×Value)} (h:A.guards=some []):(A.under (.builtin "type.__call__" ⟨.ref C::us,kw⟩)).guards=some []:=by
 first | exact h | (simp[Around.under,Code.guards,Code.isGuard,guardIds,pushGuards,h])
theorem bQ.make {k:Nat}{A:Around} (r:bQ (k+1) A) (C:Addr) (us:List Value) (kw:List (Str×Value)):bQ k (A.under (.builtin "type.__call__" ⟨.ref C::us,kw⟩)):=
 ⟨r.hd,by have:=r.dp;rw[K7];omega,by have:=r.un;rw[K8];omega,KW r.gd⟩
theorem bQ.depth {k:Nat}{A:Around} (r:bQ k A):A.depth < recursionLimit:=by have:=r.dp;omega
theorem bQ.units {k:Nat}{A:Around} (r:bQ k A):A.units+64 < cLine:=by have:=r.un;omega
def f7:TA:=fun _ H Q=>Q [] H
def ck (ta:TE) (tr:TA):TA:=fun σ H Q=>ta σ H fun x H1=>tr σ H1 fun xs H2=>Q (x::xs) H2
section
variable {X : Cx} {e : Expr} {es : List Expr} {te : TE} {t : TA} {pos : Pos}
theorem ah:PA X [] f7:=fun _ _ _ _ H Q I h=>Calls.spliced_nil ⟨[],H,I,.nil,h⟩
theorem ae (ha:PE X e te) (hr:PA X es t) (hs:starEach (e::es) X.env=(false,eval e X.env)::starEach es X.env:=by rfl):PA X (e::es) (ck te t):=by
 intro pos pins s σ H Q I h
 rw[hs]
 show wpAny _ _ (spliced ((false,eval e X.env)::backTo pos (starEach es X.env))) _ _ s
 refine Calls.spliced_cons (aJ (ha pins s σ H _ I h) fun u s1 ⟨x,H1,I1,r1,q1⟩=>?_)
 exact aJ (hr pos pins s1 σ H1 _ I1 q1) fun us s2 ⟨xs,H2,I2,r2,q2⟩=>⟨x::xs,H2,I2,.cons r1 r2,q2⟩
def iy (t:TA):TE:=fun σ H Q=>t σ H fun xs H1=>xs.length<=sizeLine /\ ∀p,H1 p=none->Q (.ref p) (upd H1 p (.tup xs))
def rk (t:TA):TE:=fun σ H Q=>t σ H fun xs H1=>xs.length<=sizeLine /\ ∀p,H1 p=none->Q (.ref p) (upd H1 p (.lst xs))
theorem gN {x1} (h:PA X es t):PE X (.Tuple es x1 pos) (iy t):=by
 intro pins s σ H Q I hq
 refine wpAny_Tuple_spliced (aJ (h pos pins s σ H _ I hq) fun us s1 ⟨xs,H1,I1,r,z,q⟩=>⟨by rw[<-r.length];exact z,?_⟩)
 have hf:H1 s1.heap.objs.size=none:=I1.aA.fresh (aO _)
 refine⟨.ref s1.heap.objs.size,upd H1 s1.heap.objs.size (.tup xs),I1.laid (t':=s1.toks) (fun b u e=>bx _ e) (aO _) ?_,rfl,q _ hf⟩
 exact⟨z,us,r,⟨_,eK _ rfl,rfl,_,rfl,rfl⟩⟩
theorem cL (h:PA X es t):PE X (.List es pos) (rk t):=by
 intro pins s σ H Q I hq
 refine wpAny_List_spliced (aJ (h pos pins s σ H _ I hq) fun us s1 ⟨xs,H1,I1,r,z,q⟩=>⟨by rw[<-r.length];exact z,?_⟩)
 have hf:H1 s1.heap.objs.size=none:=I1.aA.fresh (aO _)
 refine⟨.ref s1.heap.objs.size,upd H1 s1.heap.objs.size (.lst xs),I1.laid (t':=s1.toks) (fun b u e=>bx _ e) (aO _) ?_,rfl,q _ hf⟩
 exact⟨z,us,0,r,eK _ rfl⟩
end
abbrev Sp:=List V->Hp->VK->XK->Prop
abbrev ke:=List Env->Hp->Shared->XK->Value->Shared->Prop
structure nI (P:Program) (w:World) (K:PySem.W.Frag) (mg:Str->Option Value) (base:Heap) (A:Around) (outer:List Env) (s:Shared) (H:Hp):Prop where
 frames:A.frames=some outer
 mod:Mod K mg base
 bs:∀b o,base.get? b=some o->s.heap.get? b=some o/\H b=none
 jy:base.objs.size<=s.heap.objs.size
 fZ:s.heap.FunFrames base outer
 jZ:∀b∈cT outer,H b=none
 aA:cS P w H s.heap
 bare:AllBare s.gens
def CE (outer:List Env) (P:Program) (w:World) (H:Hp) (s:Shared) (Q:VK) (u:Value) (s':Shared):Prop:=
 ∃v H',s'.os=s.os/\AllBare s'.gens/\Un (cT outer) [] H H' s.heap s'.heap/\cS P w H' s'.heap/\RelV v u/\Q v H'
def CR (CX:ke) (outer:List Env) (P:Program) (w:World) (H:Hp) (s:Shared) (Q:VK) (E:XK) (r:Result) (s':Shared):Prop:=
 match r with
 | .ok (.ret u)=>CE outer P w H s Q u s'
 | .ok _=>False
 | .error e=>CX outer H s E e s'
structure aN (P:Program) (w:World) (K:PySem.W.Frag) (mg:Str->Option Value) (base:Heap) (CX:ke) (k:Nat) (f:Addr) (fd:FuncData) (ps:List Str) (sp:Sp):Prop where
 len:∀vs H Q E,sp vs H Q E->vs.length=ps.length
 run:∀ (A:Around) (outer:List Env) (s:Shared) (H:Hp) (args:Args) (us:List Value) (vs:List V) (Q:VK) (E:XK),bQ k A->nI P w K mg base A outer s H->BindsTo s fd args (ps.zip us)->Vals vs us->sp vs H Q E ->
  codeAny (model P w) A (.call (.ref f) args) (CR CX outer P w H s Q E) s
theorem nI.make {P:Program}{w:World}{K:PySem.W.Frag}{mg:Str->Option Value}{base:Heap}{A:Around}{outer:List Env}{s:Shared}{H:Hp} (e:nI P w K mg base A outer s H) (C:Addr) (us:List Value) (kw:List (Str×Value)) :
  nI P w K mg base (A.under (.builtin "type.__call__" ⟨.ref C::us,kw⟩)) outer s H:=⟨by first | exact e.frames | (simpa [Around.under,Code.envs,Code.isFrame,pushEnvs] using e.frames),e.mod,e.bs,e.jy,e.fZ,e.jZ,e.aA,e.bare⟩
section
variable {X : Cx} {pins : List (Addr × Obj)} {σ : St} {H : Hp} {s s' : Shared}
theorem Inv.Af (I:Inv X pins σ H s):nI X.prog X.w X.K X.mg X.base X.A X.stack s H:=
 ⟨I.ok.frames,I.ok.mod,I.bs,c9 I.ok.jy I.sz,I.stack,I.zA,I.aA,I.bare⟩
theorem Inv.after {Q:VK}{u:Value} (I:Inv X pins σ H s) (h:CE X.stack X.prog X.w H s Q u s'):EP X pins σ Q u s':=by
 obtain⟨v,H',os,bare,un,aA,r,q⟩:=h
 obtain⟨hh,g,d,t,xo⟩:=s'
 obtain rfl:xo=s.os:=os
 exact⟨v,H',I.call (h':=hh) (g':=g) (d':=d) (t':=t) (ch:= []) un aA bare (fun b z=>absurd z (by simp)),r,q⟩
end
def aal (sp:Sp) (pR:List V) (E:XK) (t:TA):TE:=fun σ H Q=>t σ H fun vs H1=>sp (vs++pR) H1 Q E
def Binds (K:PySem.W.Frag) (fd:FuncData) (ps:List Str) (ds:List Value):Prop:=
 ∀ (s:Shared) (us:List Value),K.In s.heap->(us++ds).length=ps.length->BindsTo s fd ⟨us,[]⟩ (ps.zip (us++ds))
theorem Binds.all {K:PySem.W.Frag}{fd:FuncData}{ps:List Str} (h:∀us:List Value,us.length=ps.length->bindArgs fd ⟨us,[]⟩=pure (ps.zip us)):Binds K fd ps []:=fun s us _ hl=>by
 rw[ik]at hl ⊢
 exact .of_eq (h us hl)
def Passes (CX:ke) (X:Cx) (E:XK):Prop:= ∀ (pins:List (Addr×Obj)) (σ:St) (H:Hp) (s:Shared) (e:Value) (s':Shared),Inv X pins σ H s->CX X.stack H s E e s'->X.xe e s'
section
variable {X : Cx} {CX : ke} {k : Nat} {f C : Addr} {fd : FuncData} {ps : List Str} {sp : Sp} {pR : List V} {ds : List Value} {E : XK} {x m : Str} {p pos apos : Pos} {e o : Expr} {es : List Expr} {ta : TE} {t : TA}
theorem Zp {pins:List (Addr×Obj)}{σ:St}{H:Hp}{s:Shared}{Q:VK}{us:List Value}{vs:List V} (F:aN X.prog X.w X.K X.mg X.base CX k f fd ps sp) (hr:bQ k X.A) (hb:Binds X.K fd ps ds) (hd:Vals pR ds) (hx:Passes CX X E)
  (I:Inv X pins σ H s) (r:Vals vs us) (h:sp (vs++pR) H Q E):wpAny (model X.prog X.w) X.A (call (.ref f) us) (EP X pins σ Q) X.xe s:=by
 have r2:Vals (vs++pR) (us++ds):=r.append hd
 have hl:(us++ds).length=ps.length:=by rw[<-r2.length];exact F.len _ _ _ _ h
 refine qw (su (F.run X.A X.stack s H ⟨us,[]⟩ (us++ds) (vs++pR) Q E hr I.Af (hb s us I.bU hl) r2 h) fun r s' hq=>?_)
 cases r with
 | error e=>exact hx pins σ H s e s' I hq
 | ok fl =>
  cases fl with
  | ret u=>exact I.after hq
  | next=>exact False.elim hq
  | brk=>exact False.elim hq
  | cont=>exact False.elim hq
theorem bG (F:aN X.prog X.w X.K X.mg X.base CX k f fd ps sp) (hr:bQ k X.A) (hg:Gl X x) (hm:X.mg x=some (.ref f)) (hk:PySem.W.keepIn X.K (.ref f)=true) (hb:Binds X.K fd ps ds) (hd:Vals pR ds) (hx:Passes CX X E)
  (ha:PA X (e::es) t) (jz:(x==("__debug__" : Str))=false:=by decide) (he:starEach (e::es) X.env=(false,eval e X.env)::starEach es X.env:=by rfl) (dG:(backTo pos (starEach es X.env)).any (·.1)=false:=by rfl) :
  PE X (.Call (.Name x p) (e::es) [] pos) (aal sp pR E t):=by
 intro pins s σ H Q I h
 refine vm (oU I hg hm ?_ jz)
 refine PySem.W.callWith_K (h₀:=X.base) I.ok.mod.jx hk (aJ (ha pos pins s σ H _ I h) fun us s1 ⟨vs,H1,I1,r,q⟩=>⟨I1.bU,?_⟩) he dG
 exact Zp F hr hb hd hx I1 r q
end
structure cO (N P:List Str) (sc:Scope):Prop where
 kind:sc.kind = .function
 co:sc.isCoroutine=false
 gen:sc.isGenerator=false
 nd:N.Nodup
 pre:N.take P.length=P
 par:∀x∈P,sc.names.lookup x=some .local\/sc.names.lookup x=some .cell
 Zq:∀y∈sc.names,y.2 ≠ .free
theorem Lv {kindOf:Str->Option NameKind}{x:Str}:∀ {binds:List (Str×Value)}{m:Str->Option Value},(∀v,(x,v) ∉ binds)->bindL kindOf binds m x=m x
 | [],_,_=>rfl
 | (n,v)::r,m,h=>by
  unfold bindL
  rw[Lv fun w hw=>h w (bX _ hw)]
  split
  ·have:x≠n:=by rintro rfl;exact h v aZ
   simp[this]
  ·rfl
theorem Lw {kindOf:Str->Option NameKind}{x:Str}:∀ {binds:List (Str×Value)}{m:Str->Option Value},(∀v,(x,v) ∉ binds)->bindC kindOf binds m x=m x
 | [],_,_=>rfl
 | (n,v)::r,m,h=>by
  unfold bindC
  rw[Lw fun w hw=>h w (bX _ hw)]
  split
  ·rfl
  ·have:x≠n:=by rintro rfl;exact h v aZ
   simp[this]
theorem Lx {kindOf:Str->Option NameKind}{x:Str}{v:Value}:∀ {P:List Str}{vs:List Value}{i:Nat}{m:Str->Option Value},P.Nodup->P[i]? = some x->vs[i]? = some v->kindOf x=some .local ->
  bindL kindOf (P.zip vs) m x=some v
 | [],_,_,_,_,h,_,_=>by simp at h
 | _::_,[],_,_,_,_,h,_=>by simp at h
 | p::P,w::vs,0,m,nd,h1,h2,hk=>by
  simp at h1 h2;subst h1;subst h2
  show bindL kindOf ((p,w)::P.zip vs) m p=_
  unfold bindL
  rw[Lv fun v hv=>(fV.mp nd).1 (JX hv).1,aI hk]
  simp
 | p::P,w::vs,i+1,m,nd,h1,h2,hk=>by
  show bindL kindOf ((p,w)::P.zip vs) m x=_
  unfold bindL
  exact Lx (i:=i) (fV.mp nd).2 (by simpa using h1) (by simpa using h2) hk
theorem Ly {kindOf:Str->Option NameKind}{x:Str}{v:Value}:∀ {P:List Str}{vs:List Value}{i:Nat}{m:Str->Option Value},P.Nodup->P[i]? = some x->vs[i]? = some v->kindOf x≠some .local ->
  bindC kindOf (P.zip vs) m x=some v
 | [],_,_,_,_,h,_,_=>by simp at h
 | _::_,[],_,_,_,_,h,_=>by simp at h
 | p::P,w::vs,0,m,nd,h1,h2,hk=>by
  simp at h1 h2;subst h1;subst h2
  show bindC kindOf ((p,w)::P.zip vs) m p=_
  unfold bindC
  rw[Lw fun v hv=>(fV.mp nd).1 (JX hv).1,aE hk]
  simp
 | p::P,w::vs,i+1,m,nd,h1,h2,hk=>by
  show bindC kindOf ((p,w)::P.zip vs) m x=_
  unfold bindC
  exact Ly (i:=i) (fV.mp nd).2 (by simpa using h1) (by simpa using h2) hk
def start (N:List Str) (vs:List V):St:=vs.map some++List.replicate (N.length - vs.length) none
def iS (CX:ke) (P:Program) (w:World) (K:PySem.W.Frag) (mg:Str->Option Value) (base:Heap) (N:List Str) (qual:Str) (scope:Scope) (f:Addr) (cd:Value) (A:Around) (outer:List Env) (s:Shared) (H:Hp) (E:XK):Cx where
 prog:=P
 w:=w
 K:=K
 mg:=mg
 base:=base
 A:=A.deeper (envOfC qual scope s.heap.objs.size f cd)
 N:=N
 cQ:=s
 iQ:=H
 env:=envOfC qual scope s.heap.objs.size f cd
 outer:=outer
 stack:=envOfC qual scope s.heap.objs.size f cd::outer
 ex:= []
 calm:=true
 fn:=fun _=>true
 pn:= []
 xe:=fun e s'=>wpAny (model P w) (A.deeper (envOfC qual scope s.heap.objs.size f cd)) (leaving (envOfC qual scope s.heap.objs.size f cd) e) (fun _ lu=>CX outer H s E e lu) (fun e' lu=>CX outer H s E e' lu) s'
theorem CV {sc:Scope}{n:Nat}{x:Str} (h:sc.names.lookup x=some .cell):∃c,(cellsFrom n sc.names []).lookup x=some c:=by
 have q:=Ul sc.names n [] (.inl h)
 exact JY.mp q
theorem Lz {CX:ke}{P:Program}{w:World}{K:PySem.W.Frag}{mg:Str->Option Value}{base:Heap}{N ps:List Str}{qual:Str}{scope:Scope}{f:Addr}{cd:Value}{A:Around}{outer:List Env}{s s1:Shared}{H:Hp}{E:XK}{us:List Value}{vs:List V}
  (S:cO N ps scope) (hd:A.handled=none) (e0:nI P w K mg base A outer s H) (hl:vs.length=ps.length) (r:Vals vs us)
  (x:InCallC s s.heap.objs.size (bindL (envOfC qual scope s.heap.objs.size f cd).kindOf (ps.zip us) fun _=>none) (cellsFrom (s.heap.objs.size+1) scope.names []) (bindC (envOfC qual scope s.heap.objs.size f cd).kindOf (ps.zip us) fun _=>none) s1) :
  Inv (iS CX P w K mg base N qual scope f cd A outer s H E) [] (start N vs) H s1:=by
 have dG:ps.length<=N.length:=by have:=gg List.length S.pre;rw[aX]at this;omega
 obtain⟨h1,tk,rfl,hk⟩:=x.done
 have xp:∀b:Addr,b ∉ (iS CX P w K mg base N qual scope f cd A outer s H E).ex:=fun b z=>absurd (show b∈([]:List Addr) from z) (by simp)
 refine⟨⟨e0.mod,S.kind,rfl,rfl,aO _,fun y z c h1 h2=>?_,fun y hy=>?_,fun y c _ h=>?_,fun _=>hd,Around.frames_deeper e0.frames,.inr ⟨rfl,rfl⟩,fun b z=>absurd z (xp b),e0.bs,e0.jy,fun b _ _=>xp b,fun b z=>absurd z (xp b),e0.fZ,e0.jZ⟩,
  rfl,e0.bare,Un.kept hk,⟨_,x.toInCall.ns,fun i y v h1 h2 h3=>?_⟩,fun y c h=>⟨_,x.cell y c h⟩,e0.aA.fresh (aO _),fun y c h=>?_,fun p hp=>absurd (show p∈([]:List (Addr×Obj)) from hp) (by simp),e0.aA.kept hk,?_⟩
 ·exact name_of_addr x.apart (oE h1) (oE h2)
 ·have hy:scope.names.lookup y=some .cell\/scope.names.lookup y=some .free:=hy
  rcases hy with hy | hy
  ·exact CV hy
  ·exact absurd rfl (S.Zq _ (oE hy))
 ·exact yC (x.above y c (oE h))
 ·have hi:i < vs.length:=by
   unfold start at h2
   by_cases hi:i < vs.length
   ·exact hi
   ·rw[List.getElem?_append_right (by simpa using hi)]at h2
    rw[List.getElem?_replicate]at h2
    split at h2 <;> cases h2
  have ha:vs[i]? = some v:=by
   unfold start at h2
   rw[List.getElem?_append_left (by simpa using hi),gX]at h2
   cases e:vs[i]? with
   | none=>rw[e]at h2;cases h2
   | some a=>rw[e]at h2;cases h2;rfl
  obtain⟨u,hu,rv⟩:=r.get ha
  have hp:ps[i]? = some y:=by
   rw[<-S.pre,List.getElem?_take_of_lt (by omega)];exact h1
  have QA:ps.Nodup:=by rw[<-S.pre];exact S.nd.sublist (Um _ _)
  refine⟨u,rv,?_⟩
  rcases S.par y (gj hp) with k | k
  ·exact .inl ⟨k,Lx QA hp hu k⟩
  ·obtain⟨c,e⟩:=CV (n:=s.heap.objs.size+1) k
   refine .inr ⟨.inl k,c,e,?_⟩
   have q:=x.cell y c e
   rw[Ly QA hp hu (by show scope.names.lookup y≠_;rw[k];decide)]at q
   exact q
 ·exact e0.aA.fresh (yC (x.above y c (oE h)))
 ·unfold start
  show _=N.length
  rw[aW,ar,List.length_replicate]
  omega
theorem N8 {CX:ke}{P:Program}{w:World}{K:PySem.W.Frag}{mg:Str->Option Value}{base:Heap}{k:Nat}{f:Addr}{name qual:Str}{params:Arguments}{body:List Stmt}{scope:Scope}{dV kV doc pm aQ ct oc:Value}{an od:Option Addr}
  {lV:Array (Option Value)}{N ps:List Str}{sp:Sp} (lk:K.lookup f=some ⟨oc,od,.func (PySem.W.fnOf name qual params body scope dV kV doc pm an aQ ct),lV⟩) (f9:PySem.W.codeIn K aQ qual=true) (S:cO N ps scope)
  (len:∀vs H Q E,sp vs H Q E->vs.length=ps.length)
  (qU:∀ (A:Around) (outer:List Env) (s:Shared) (H:Hp) (vs:List V) (Q:VK) (E:XK),bQ k (A.deeper (envOfC qual scope s.heap.objs.size f aQ))->sp vs H Q E ->
   ∃t,gH (iS CX P w K mg base N qual scope f aQ A outer s H E) body t/\t { nx:=fun _ H'=>Q .aG H',rt:=Q } (start N vs) H) :
  aN P w K mg base CX (k+1) f (PySem.W.fnOf name qual params body scope dV kV doc pm an aQ ct) ps sp:=by
 refine⟨len,fun A outer s H args us vs Q E hr e0 hb r jA=>?_⟩
 have hl:=len _ _ _ _ jA
 have KX:K.In s.heap:=e0.mod.jx.keeps fun b o e=>(e0.bs b o e).1
 have lim:s.heap.NoLimit:=e0.mod.nolimit.keeps fun b o e=>(e0.bs b o e).1
 have DH:∀y∈ps.zip us,scope.names.lookup y.1=some .local\/(scope.names.lookup y.1=some .cell/\((cellsFrom (s.heap.objs.size+1) scope.names []).lookup y.1).isSome=true):=fun⟨n,v⟩ hy=>by
  rcases S.par n (JX hy).1 with q | q
  ·exact .inl q
  ·exact .inr ⟨q,Ul _ _ _ (.inl q)⟩
 refine codeAny_call_function hr.depth (KX _ _ lk) rfl S.co S.gen rfl (PySem.W.codeRec_of KX f9) (hb _ _ _ _ ?_)
 refine al5 S.kind DH fun env he s1 x=>?_
 subst he
 refine⟨lim.keeps x.toInCall.keep,codeAny_func ?_⟩
 obtain⟨t,ht,hq⟩:=qU A outer s H vs Q E (hr.deeper _) jA
 have I:Inv (iS CX P w K mg base N qual scope f aQ A outer s H E) [] (start N vs) H s1:=Lz S hr.hd e0 hl r x
 refine lF (ht [] s1 (start N vs) H _ I hq) (fun fl s' hs=>?_) fun e s' hs=>hs
 have fin:∀ {aK:St}{H':Hp}{v:V}{u:Value},Inv (iS CX P w K mg base N qual scope f aQ A outer s H E) [] aK H' s'->RelV v u->Q v H'->CE outer P w H s Q u s':=
  fun {aK H' v u} J rv q=>⟨v,H',J.os,J.bare,J.base,J.aA,rv,q⟩
 cases fl with
 | ret u =>
  obtain⟨v,aK,H',J,rv,q⟩:=hs
  exact fin J rv q
 | next =>
  obtain⟨aK,H',J,q⟩:=hs
  exact fin (v:=V.aG) (u:=Value.none) J rfl q
 | brk =>
  obtain⟨_,_,_,q⟩:=hs
  exact False.elim q
 | cont =>
  obtain⟨_,_,_,q⟩:=hs
  exact False.elim q
end L2
namespace L2
open PySem PySem.Spec PyProof.Rows
section
variable {X : Cx} {x : Str} {p pos : Pos} {e : Expr} {es : List Expr} {t : TA} {id T : String} {r : List V -> Hp -> VK -> Prop}
def GZ (r:List V->Hp->VK->Prop) (t:TA):TE:=fun σ H Q=>t σ H fun vs H1=>r vs H1 Q
theorem aV (hc:eO X (.builtin id) r) (hg:Gl X x) (hm:X.mg x=none) (hv:bootBuiltins x=some (.builtin id)) (ha:PA X (e::es) t) (hn:x ≠ "__name__" :=by decide) (jz:(x==("__debug__" : Str))=false:=by decide)
  (he:starEach (e::es) X.env=(false,eval e X.env)::starEach es X.env:=by rfl) (dG:(backTo pos (starEach es X.env)).any (·.1)=false:=by rfl):PE X (.Call (.Name x p) (e::es) [] pos) (GZ r t):=by
 intro pins s σ H Q I h
 refine vm (tO I hg hm hv ?_ hn jz)
 exact al6 (aJ (ha pos pins s σ H _ I h) fun us s1 ⟨vs,H1,I1,r1,q1⟩=>hc pins s1 σ H1 vs us Q I1 r1 q1) he dG
theorem eX (hc:eO X (.type T) r) (hg:Gl X x) (hm:X.mg x=none) (hv:bootBuiltins x=some (.type T)) (ha:PA X (e::es) t) (hn:x ≠ "__name__" :=by decide) (jz:(x==("__debug__" : Str))=false:=by decide)
  (he:starEach (e::es) X.env=(false,eval e X.env)::starEach es X.env:=by rfl) (dG:(backTo pos (starEach es X.env)).any (·.1)=false:=by rfl):PE X (.Call (.Name x p) (e::es) [] pos) (GZ r t):=by
 intro pins s σ H Q I h
 refine vm (tO I hg hm hv ?_ hn jz)
 exact JW (aJ (ha pos pins s σ H _ I h) fun us s1 ⟨vs,H1,I1,r1,q1⟩=>hc pins s1 σ H1 vs us Q I1 r1 q1) he dG
end
end L2
namespace HT
open PySem PyProof.Rows
section
open PySem.SeqAt
open PySem.AutoSeq1 (wpAny_loadPart')
open PySem.MeetsSeq PySem.MeetsSeq2 PySem.MeetsSeq3
end
section
variable {prog : Program} {w : World} {A : Around} {E : Value -> Shared -> Prop} {s : Shared}
theorem Yq {t b:Addr}{vs ws:List Value}{Q:Value->Shared->Prop} (ht:IsTup s.heap t vs.toArray) (hb:IsTup s.heap b ws.toArray) (hv:vs ≠ [])
  (h1:ws = []->Q (.ref t) s) (h2:ws ≠ []->Q (.ref s.heap.objs.size) { s with heap:=s.heap.push { cls:= .type "tuple", data:= .seq (vs++ws).toArray } })
  (hsz:vs.length+ws.length<=sizeLine):wpAny (model prog w) A (binaryOp .Add (.ref t) (.ref b)) Q E s:=by
 obtain⟨⟨cls,dd,data,sl⟩,ho,hc,n,hd⟩:=id ht
 obtain⟨⟨OG,AR,data2,rO⟩,lW,cU,n2,hd2⟩:=id hb
 simp only at hc hd cU hd2
 subst hc hd cU hd2
 have e:vs.toArray++ws.toArray=(vs++ws).toArray:=by simp
 by_cases hw:ws = []
 ·exact concat_meets ⟨_,ho,rfl⟩ ⟨_,lW,rfl⟩ Up Uq Ur Us (Ut _ _)
   (tuple_addW1 t b vs.toArray ws.toArray n n2 dd AR sl rO (by simpa using hv) (by simp[hw])) ⟨ho,lW,h1 hw⟩
 ·refine concat_meets ⟨_,ho,rfl⟩ ⟨_,lW,rfl⟩ Up Uq Ur Us (Ut _ _)
   (tuple_addW2 t b vs.toArray ws.toArray n n2 dd AR sl rO (by simpa using hv) (by simpa using hw) (by rw[cJ,cJ];exact hsz)) ⟨ho,lW,?_⟩
  rw[e]
  exact h2 hw
def bf (n d:Nat):Option Int->Nat
 | none=>d
 | some v=>if v < 0 then (v+(n:Int)).toNat else min v.toNat n
theorem CY (n d:Nat):bf n d none=d:=rfl
theorem C8 (n d k:Nat):bf n d (some (k:Int))=min k n:=by
 show(if (k:Int) < 0 then ((k:Int)+(n:Int)).toNat else min (k:Int).toNat n)=min k n
 rw[aE (by omega),qx]
theorem Zr (n d:Nat) (hd:d<=n) (o:Option Int):bf n d o<=n:=by
 cases o with
 | none=>exact hd
 | some v =>
  show(if v < 0 then (v+(n:Int)).toNat else min v.toNat n)<=n
  by_cases hv:v < 0
  ·rw[aI hv];omega
  ·rw[aE hv];exact Nat.min_le_right _ _
theorem MR (v:Int) (n d:Nat):(if v < 0 then max (v+(n:Int)) 0 else min v (n:Int))=((bf n d (some v):Nat):Int):=by
 show(if v < 0 then max (v+(n:Int)) 0 else min v (n:Int))=(((if v < 0 then (v+(n:Int)).toNat else min v.toNat n):Nat):Int)
 by_cases hv:v < 0
 ·simp only[aI hv];omega
 ·simp only[aE hv];omega
theorem V' (lo hi:Option Int) (n:Nat):Builtin.Slice.sliceAdjust lo hi 1 (n:Int)=(((bf n 0 lo:Nat):Int),((bf n n hi:Nat):Int)):=by
 have h1 : ¬ ((1:Int) < 0):=by omega
 unfold Builtin.Slice.sliceAdjust
 simp only[h1,yE]
 refine Prod.ext ?_ ?_
 ·cases lo with
  | none=>rfl
  | some v=>exact MR v n 0
 ·cases hi with
  | none=>rfl
  | some v=>exact MR v n n
theorem Wa (i j:Nat):Builtin.Slice.slicePlaces (i:Int) (j:Int) 1=j - i:=by
 unfold Builtin.Slice.slicePlaces
 have h1:(1:Int) > 0:=by omega
 simp only[h1,mn,Uu]
 split <;> omega
theorem K9 {v:Value}{o:Option Int}{Q:Option Int->Shared->Prop} (p:IsPart v o) (h:Q o s):wpAny (model prog w) A (Builtin.Slice.slicePartIndex v) Q E s:=by
 cases p with
 | none=>exact slicePart_none h
 | int i t=>exact slicePart_int h
theorem Kz {sl:Addr}{vl vu:Value}{lo hi:Option Int}{n:Nat}{Q:Int×Int×Nat->Shared->Prop} (hs:s.heap.IsSliceOf sl vl vu .none) (pl:IsPart vl lo) (pu:IsPart vu hi)
  (h:Q (((bf n 0 lo:Nat):Int),1,bf n n hi - bf n 0 lo) s):wpAny (model prog w) A (Builtin.Slice.sliceApplied (.ref sl) (pure (n:Int))) Q E s:=by
 obtain⟨os,rP,AS,xq⟩:=id hs
 unfold Builtin.Slice.sliceApplied Builtin.Slice.sliceFields
 refine ag (ag (qy rP xq (x:=vl) rfl (ag (qy rP xq (x:=vu) rfl (ag (qy rP xq (x:= .none) rfl (au ?_)))))))
 refine ag (slicePart_none ?_)
 show wpAny _ _ (if ((1:Int)==0)=true then _ else _) _ _ s
 rw[aE (by decide)]
 refine ag (K9 pl (ag (K9 pu (ag (au ?_)))))
 show wpAny _ _ (match Builtin.Slice.sliceAdjust lo hi 1 (n:Int) with | (lo,hi)=>pure (lo,(1:Int),Builtin.Slice.slicePlaces lo hi 1)) _ _ s
 rw[V' lo hi n]
 show wpAny _ _ (pure (((bf n 0 lo:Nat):Int),(1:Int),Builtin.Slice.slicePlaces ((bf n 0 lo:Nat):Int) ((bf n n hi:Nat):Int) 1)) _ _ s
 rw[Wa]
 exact au h
theorem Xt (xs:Array Value) (i k:Nat):((List.range k).filterMap fun(m:Nat)=>xs[((i:Int)+(m:Int) * 1).toNat]?).toArray=((xs.toList.drop i).take k).toArray:=by
 have e:(fun(m:Nat)=>xs[((i:Int)+(m:Int) * 1).toNat]?)=fun m=>xs[i+m]?:=by
  funext m
  have:((i:Int)+(m:Int) * 1).toNat=i+m:=by omega
  rw[this]
 rw[e]
 have:=pick_run xs i k
 rw[List.filterMap_map]at this
 have e2:((fun x=>xs[x]?) ∘ fun x=>i+x)=fun m=>xs[i+m]?:=rfl
 rw[e2]at this
 rw[this]
theorem Vk {t sl:Addr}{items:Array Value}{vl vu:Value}{lo hi:Option Int}{Q:Value->Shared->Prop} (ht:IsTup s.heap t items) (hs:s.heap.IsSliceOf sl vl vu .none) (pl:IsPart vl lo) (pu:IsPart vu hi)
  (hw : ¬ (bf items.size 0 lo=0/\bf items.size items.size hi=items.size))
  (h:Q (.ref s.heap.objs.size) { s with heap:=s.heap.push { cls:= .type "tuple", data:= .seq ((items.toList.drop (bf items.size 0 lo)).take (bf items.size items.size hi - bf items.size 0 lo)).toArray } })
  (hsz:items.size<=sizeLine):wpAny (model prog w) A (getItem (.ref t) (.ref sl)) Q E s:=by
 have zV:sizeOk (.seq ((items.toList.drop (bf items.size 0 lo)).take (bf items.size items.size hi - bf items.size 0 lo)).toArray):=by
  show((items.toList.drop (bf items.size 0 lo)).take (bf items.size items.size hi - bf items.size 0 lo)).toArray.size<=sizeLine
  rw[cJ,aX,d6,gD]
  omega
 have hj:bf items.size items.size hi<=items.size:=Zr _ _ (aO _) hi
 obtain⟨os,rP,AS,xq⟩:=id hs
 have G0:s.TypeIs (.ref sl) "slice" :=⟨os,rP,AS⟩
 unfold getItem
 try with_reducible refine fB ?_
 first | refine ag (au ?_)|skip
 refine ag (wpAny_sequenceKey ht.typeIs (by decide) ?_)
 refine ag (Uv (name:=Str.ofString "__getitem__") ht.typeIs yF
  (sx yF ht.typeIs entry_tuple_getitem ?_ (args_tuple_getitem _ _)))
 show wpAny _ _ (Builtin.Tuple.tupleItemsOf (.ref t) >>= _) _ _ s
 refine ag (tupleItemsOf_ ht ?_)
 refine ag (oF G0 ?_)
 rw[aI (by decide)]
 refine ag (Kz hs pl pu ?_)
 have nV : ¬ ((((bf items.size 0 lo:Nat):Int)==0 && (1:Int)==1 && (bf items.size items.size hi - bf items.size 0 lo)==items.size)=true):=by
  intro q
  rw[gY,gY]at q
  have q1:((bf items.size 0 lo:Nat):Int)=0:=eq_of_beq q.1.1
  have q2:bf items.size items.size hi - bf items.size 0 lo=items.size:=eq_of_beq q.2
  exact hw ⟨by omega,by omega⟩
 show wpAny _ _ (if (((bf items.size 0 lo:Nat):Int)==0 && (1:Int)==1 && (bf items.size items.size hi - bf items.size 0 lo)==items.size)=true then _ else _) _ _ s
 rw[aE nV,Xt]
 first
  | exact ag (m:=Builtin.Tuple.tupleExact _) (mq (au ⟨_,rfl,au h⟩) zV)
  | exact ag (m:=Builtin.Tuple.tupleExact _) (mq (ag (au (au ⟨_,rfl,au h⟩))) zV)
  | exact ag (ag (m:=Builtin.Tuple.tupleExact _) (mq (au (au ⟨_,rfl,au h⟩)) zV))
  | exact ag (ag (m:=Builtin.Tuple.tupleExact _) (mq (au ⟨_,rfl,au h⟩) zV))
end
end HT
namespace L2
open PySem PySem.Spec PyProof.Rows
abbrev TO:=St->Hp->(Option Int->Hp->Prop)->Prop
def PO (X:Cx) (e:Option Expr) (t:TO):Prop:=
 ∀ (pins:List (Addr×Obj)) (s:Shared) (σ:St) (H:Hp) (Q:Option Int->Hp->Prop),Inv X pins σ H s->t σ H Q ->
  wpAny (model X.prog X.w) X.A (evalPart e X.env) (fun u s'=>∃o H',Inv X pins σ H' s'/\IsPart u o/\Q o H') X.xe s
def C9:TO:=fun _ H Q=>Q none H
def DI (t:TE):TO:=fun σ H Q=>t σ H fun x H1=>∃i,x = .int i/\Q (some i) H1
section
variable {X : Cx} {e : Expr} {te : TE} {lo hi : Option Expr} {tl th : TO} {pos p2 : Pos}
theorem dC:PO X none C9:=by
 intro pins s σ H Q I h
 rw[Uw]
 exact au ⟨none,H,I,.none,h⟩
theorem dj (h:PE X e te):PO X (some e) (DI te):=by
 intro pins s σ H Q I hw
 rw[evalPart_some]
 refine aJ (h pins s σ H _ I hw) fun u s1 ⟨x,H1,I1,r1,q1⟩=>?_
 obtain⟨i,rfl,q⟩:=q1
 obtain⟨t,rfl⟩:=r1
 exact⟨some i,H1,I1,.int i t,q⟩
def uK (X:Cx) (r:V->Option Int->Option Int->Hp->VK->Prop):Prop:=
 ∀ (pins:List (Addr×Obj)) (s:Shared) (σ:St) (H:Hp) (x:V) (v vl vu:Value) (lo hi:Option Int) (sl:Addr) (Q:VK),Inv X pins σ H s->RelV x v->s.heap.IsSliceOf sl vl vu .none->IsPart vl lo->IsPart vu hi->r x lo hi H Q ->
  ∃T id,typeLookup (.type T) "__getitem__" = pure (some (.builtin id))/\s.TypeIs v T/\wpAny (model X.prog X.w) X.A (getItem v (.ref sl)) (EP X pins σ Q) X.xe s
def G1 (r:V->Option Int->Option Int->Hp->VK->Prop) (te:TE) (tl th:TO):TE:=fun σ H Q=>te σ H fun x H1=>tl σ H1 fun l H2=>th σ H2 fun u H3=>r x l u H3 Q
theorem dB {r:V->Option Int->Option Int->Hp->VK->Prop} (hr:uK X r) (he:PE X e te) (hl:PO X lo tl) (hu:PO X hi th):PE X (.Subscript e (.Slice lo hi none p2) pos) (G1 r te tl th):=by
 intro pins s σ H Q I h
 refine Subscript_ (aJ (he pins s σ H _ I h) fun v s1 ⟨x,H1,I1,r1,q1⟩=>?_)
 refine wpAny_Slice (aJ (hl pins s1 σ H1 _ I1 q1) fun vl s2 ⟨l,H2,I2,pl,q2⟩=>aJ (hu pins s2 σ H2 _ I2 q2) fun vu s3 ⟨u,H3,I3,pu,q3⟩=>?_)
 rw[Uw]
 refine au ?_
 have I4:Inv X pins σ H3 { s3 with heap:=s3.heap.push { cls:= .type "slice", data:= .fields #[vl,vu,.none] } }:=I3.kept (t':=s3.toks) fun b ob q=>bx _ q
 obtain⟨T,id,hT,ht,hg⟩:=hr pins { s3 with heap:=s3.heap.push { cls:= .type "slice", data:= .fields #[vl,vu,.none] } } σ H3 x v vl vu l u s3.heap.objs.size Q I4 r1 (Heap.IsSliceOf.new ..) pl pu q3
 show wpAny (model X.prog X.w) X.A (subscriptTail e (.Slice lo hi none p2) v (.ref s3.heap.objs.size)) (EP X pins σ Q) X.xe { s3 with heap:=s3.heap.push { cls:= .type "slice", data:= .fields #[vl,vu,.none] } }
 exact tail_any (ops:= [.ref s3.heap.objs.size,v]) ht hT hg (by with_unfolding_all rfl)
def eP (xs:List V) (lo hi:Option Int):List V:=(xs.drop (HT.bf xs.length 0 lo)).take (HT.bf xs.length xs.length hi - HT.bf xs.length 0 lo)
theorem Co (xs:List V) (lo hi:Option Int):(eP xs lo hi).length<=xs.length:=by
 unfold eP
 rw[aX,d6]
 omega
def aby (K:PySem.W.Frag):V->Option Int->Option Int->Hp->VK->Prop:=fun x lo hi H Q=>∃a xs,x = .ref a/\aB K H a xs /\
 ¬ (HT.bf xs.length 0 lo=0/\HT.bf xs.length xs.length hi=xs.length) /\ ∀p,H p=none->Q (.ref p) (upd H p (.tup (eP xs lo hi)))
theorem Zs:uK X (aby X.K):=by
 intro pins s σ H x v vl vu lo hi sl Q I rx hs pl pu h
 obtain⟨a,xs,rfl,hx,hw,q⟩:=h
 cases rx
 obtain⟨its,r,ht,hz⟩:=I.tuple hx
 have hlen:its.toArray.size=xs.length:=by rw[cJ];exact r.length.symm
 refine⟨"tuple", _,yF.lookup,ht.typeIs,?_⟩
 refine HT.Vk ht hs pl pu (by rw[hlen];exact hw) ?_ (by rw[hlen];exact hz)
 rw[hlen]
 refine⟨.ref s.heap.objs.size,_,I.laid (t':=s.toks) (o:= .tup (eP xs lo hi)) (fun b ob q=>bx _ q) (aO _) ?_,rfl,q _ (I.aA.fresh (aO _))⟩
 exact⟨c9 (Co xs lo hi) hz,_,(r.drop (HT.bf xs.length 0 lo)).take (HT.bf xs.length xs.length hi - HT.bf xs.length 0 lo),pL.new _ _⟩
def aam (K:PySem.W.Frag):R2:=fun x y H Q=>∃a b xs ys,x = .ref a/\y = .ref b/\aB K H a xs/\aB K H b ys/\xs ≠ []/\xs.length+ys.length<=sizeLine /\
 (ys = []->Q (.ref a) H)/\(ys ≠ [] -> ∀p,H p=none->Q (.ref p) (upd H p (.tup (xs++ys))))
theorem Vals.Dc {xs:List V}{us:List Value} (r:Vals xs us):us = [] ↔ xs = []:=by
 cases r with
 | nil=>simp
 | cons _ _=>simp
theorem Yr:cE X (binaryOp .Add) (aam X.K):=by
 intro pins s σ H x y v u Q I rx ry h
 obtain⟨a,b,xs,ys,rfl,rfl,ha,hb,hx,hz,q1,q2⟩:=h
 cases rx
 cases ry
 obtain⟨its,r1,p1,_⟩:=I.tuple ha
 obtain⟨lR,r2,p2,_⟩:=I.tuple hb
 refine HT.Yq p1 p2 (fun z=>hx (r1.Dc.mp z)) (fun z=>⟨.ref a,H,I,rfl,q1 (r2.Dc.mp z)⟩) (fun z=>?_) (by rw[<-r1.length,<-r2.length];exact hz)
 refine⟨.ref s.heap.objs.size,_,I.laid (t':=s.toks) (o:= .tup (xs++ys)) (fun b ob q=>bx _ q) (aO _) ?_,rfl,q2 (fun w=>z (r2.Dc.mpr w)) _ (I.aA.fresh (aO _))⟩
 exact⟨by rw[aW];exact hz,_,r1.append r2,pL.new _ _⟩
end
end L2
namespace L2
open PySem PySem.Spec PyProof.Rows
def nW (n:Nat) (i:Int):Option Nat:=if 0<=i then (if i < n then some i.toNat else none) else if -(n:Int)<=i then some (i+n).toNat else none
def dH {α:Type} (xs:List α) (i:Int):Option α:=(nW xs.length i).bind fun j=>xs[j]?
theorem MS {n:Nat}{i:Int}{j:Nat} (h:nW n i=some j):seqIndex? i n=some j/\j < n /\ -(n:Int)<=i/\i < n:=by
 unfold nW at h
 by_cases h0:0<=i
 ·rw[aI h0]at h
  by_cases h1:i < n
  ·rw[aI h1]at h
   have e:i.toNat=j:=ie h
   exact⟨by rw[JZ h0 h1,e],by omega,by omega,h1⟩
  ·rw[aE h1]at h;cases h
 ·rw[aE h0]at h
  by_cases h1 : -(n:Int)<=i
  ·rw[aI h1]at h
   have e:(i+n).toNat=j:=ie h
   exact⟨by rw[seqIndex_neg (by omega) h1,e],by omega,h1,by omega⟩
  ·rw[aE h1]at h;cases h
theorem Dd {α:Type}{xs:List α}{i:Int}{v:α} (h:dH xs i=some v):∃j,seqIndex? i xs.length=some j/\xs[j]? = some v/\j < xs.length /\ -(xs.length:Int)<=i/\i < xs.length:=by
 unfold dH at h
 cases e:nW xs.length i with
 | none=>rw[e]at h;cases h
 | some j =>
  rw[e]at h
  obtain⟨h1,h2,h3,h4⟩:=MS e
  exact⟨j,h1,h,h2,h3,h4⟩
theorem dE {α:Type}{xs:List α}{j:Nat}{v:α} (h:xs[j]? = some v):dH xs (j:Int)=some v:=by
 have hj:j < xs.length:=(cq.mp h).1
 have e:nW xs.length (j:Int)=some j:=by
  unfold nW
  rw[aI (by omega),aI (by omega)];simp
 unfold dH;rw[e];exact h
def Ys (b:Expr):Prop:= ∀o i,subscripted b false o i=operate [o,i] (getItem o i)
def uL (X:Cx) (r:R2):Prop:=
 ∀ (value slice:Expr) (pins:List (Addr×Obj)) (s:Shared) (σ:St) (H:Hp) (x y:V) (v u:Value) (Q:VK),Inv X pins σ H s->RelV x v->RelV y u->r x y H Q ->
  subscripted slice false v u=operate [v,u] (getItem v u)->wpAny (model X.prog X.w) X.A (subscriptTail value slice v u) (EP X pins σ Q) X.xe s
def AU (X:Cx) (id:String) (r:V->List V->Hp->VK->Prop):Prop:=
 ∀ (pins:List (Addr×Obj)) (s:Shared) (σ:St) (H:Hp) (x:V) (xs:List V) (v:Value) (us:List Value) (Q:VK),Inv X pins σ H s->RelV x v->Vals xs us->r x xs H Q ->
  wpAny (model X.prog X.w) X.A (call (.builtin id) (v::us)) (EP X pins σ Q) X.xe s
section
variable {X : Cx} {a b : Expr} {ta tb : TE} {pos : Pos}
theorem bC {r:R2} (hr:uL X r) (ha:PE X a ta) (hb:PE X b tb) (hs:Ys b):PE X (.Subscript a b pos) (nU r ta tb):=by
 intro pins s σ H Q I h
 exact Subscript_ (D0 ha hb I h fun v u s2 x y H2 I2 rx ry q=>hr a b pins s2 σ H2 x y v u Q I2 rx ry q (hs _ _))
def D5 (K:PySem.W.Frag):R2:=fun x y H Q=>∃p xs i v,x = .ref p/\y = .int i/\ai K H p xs/\dH xs i=some v/\Q v H
def OH (K:PySem.W.Frag):R2:=fun x y H Q=>∃p xs i v,x = .ref p/\y = .int i/\aB K H p xs/\dH xs i=some v/\Q v H
def OI:R2:=fun x y H Q=>∃z i c,x = .str z/\y = .int i/\z.length<=sizeLine/\dH z.cps.toList i=some c/\Q (.str ⟨#[c]⟩) H
theorem dW:uL X (D5 X.K):=by
 intro value slice pins s σ H x y v u Q I rx ry h hs
 obtain⟨p,xs,i,z,rfl,rfl,hq,he,q⟩:=h
 cases rx
 obtain⟨t,rfl⟩:=ry
 obtain⟨its,r,pl,hz⟩:=I.list hq
 obtain⟨j,h1,h2,h3,h4,h5⟩:=Dd he
 obtain⟨w,ew,eG⟩:=r.get h2
 have hl:=r.length
 have hn:=qP
 have fin:EP X pins σ Q w s:=⟨z,H,I,eG,q⟩
 by_cases h0:0<=i
 ·have hj:i.toNat=j:=by
   rw[JZ h0 h5]at h1
   exact ie h1
  exact item_listR pl.isList h0 (by omega) (by rw[hj];simpa using ew) fin hs
 ·have hj:(i+(its.toArray.size:Int)).toNat=j:=by
   rw[seqIndex_neg (by omega) h4]at h1
   rw[cJ,<-hl]
   exact ie h1
  exact subscriptTail_builtinR (x:=w) pl.isList.typeIs Ux.lookup
   (wpAny_getItem_list_neg (Q:=fun r s'=>r=w/\EP X pins σ Q r s') pl.isList (by omega) (by rw[cJ] <;> omega) (by omega) (by rw[hj];simpa using ew) ⟨rfl,fin⟩) hs
theorem js:uL X (OH X.K):=by
 intro value slice pins s σ H x y v u Q I rx ry h hs
 obtain⟨p,xs,i,z,rfl,rfl,hq,he,q⟩:=h
 cases rx
 obtain⟨t,rfl⟩:=ry
 obtain⟨its,r,pl,hz⟩:=I.tuple hq
 obtain⟨j,h1,h2,h3,h4,h5⟩:=Dd he
 obtain⟨w,ew,eG⟩:=r.get h2
 have hl:=r.length
 have hn:=qP
 have fin:EP X pins σ Q w s:=⟨z,H,I,eG,q⟩
 exact subscriptTail_builtinR (x:=w) pl.typeIs slot_tuple_getitem.lookup
  (getItem_tuple (j:=j) (Q:=fun r s'=>r=w/\EP X pins σ Q r s') pl (by omega) (by omega) (by rw[cJ,<-hl];exact h1) (by simpa using ew) ⟨rfl,fin⟩) hs
theorem Dp:uL X OI:=by
 intro value slice pins s σ H x y v u Q I rx ry h hs
 obtain⟨z,i,c,rfl,rfl,hz,he,q⟩:=h
 obtain⟨t,rfl⟩:=rx
 obtain⟨t',rfl⟩:=ry
 obtain⟨j,h1,h2,h3,h4,h5⟩:=Dd he
 have hl:z.cps.toList.length=z.length:=by simp[Str.length]
 rw[hl]at h1 h4 h5
 have hn:=qP
 exact tail_any (typeIs_str s z t) slot_str_getitem.lookup (getItem_str (c:=c) (by
  have e1:decide (i < -(2 ^ 63:Int))=false:=c8 (by omega)
  have e2:decide (i ≥ 2 ^ 63)=false:=c8 (by omega)
  rw[e1,e2,Uy]) (by rw[h1];simpa using h2) ⟨.str ⟨#[c]⟩,H,I.tok _,⟨_,rfl⟩,q⟩) hs
theorem Wb (its:List Value) (n j:Nat) (u:Value):Obj.mapSeq (·.setIfInBounds j u) { cls:= .type "list", data:= .seq its.toArray n }={ cls:= .type "list", data:= .seq (its.set j u).toArray n }:=by
 simp[Obj.mapSeq]
theorem Inv.lst {pins:List (Addr×Obj)}{σ:St}{H:Hp}{s:Shared}{p:Addr}{xs:List V} (I:Inv X pins σ H s) (h:H p=some (.lst xs)) :
  ∃ (its:List Value) (n:Nat),Vals xs its/\s.heap.get? p=some { cls:= .type "list", data:= .seq its.toArray n }/\xs.length<=sizeLine:=by
 obtain⟨z,its,n,r,e⟩:=I.aA p _ h
 exact⟨its,n,r,e,z⟩
theorem Inv.Zt {pins:List (Addr×Obj)}{σ:St}{H:Hp}{s:Shared}{p:Addr}{xs ys:List V}{its its':List Value}{n n':Nat}{f:Obj->Obj} (I:Inv X pins σ H s) (h:H p=some (.lst xs))
  (ho:s.heap.get? p=some { cls:= .type "list", data:= .seq its.toArray n }) (hf:f { cls:= .type "list", data:= .seq its.toArray n }={ cls:= .type "list", data:= .seq its'.toArray n' }) (r:Vals ys its') (hz:ys.length<=sizeLine) (t:Nat) :
  Inv X pins σ (upd H p (.lst ys)) { s with heap:=s.heap.update p f,toks:=t }:=by
 have e:(s.heap.update p f).get? p=some { cls:= .type "list", data:= .seq its'.toArray n' }:=by
  rw[oG f ho (by rw[hf] <;> rfl),hf]
 refine I.write (x:=p) (e:=p) (by rw[h];trivial) (.inl rfl) (fun b u hb q=>(mr _ _ (aT hb)).trans q) ⟨_,e⟩ ?_
 exact⟨hz,its',n',r,e⟩
def aan:V->V->V->Hp->(Hp->Prop)->Prop:=fun o i v H Q=>∃p xs k j,o = .ref p/\i = .int k/\H p=some (.lst xs)/\nW xs.length k=some j/\Q (upd H p (.lst (xs.set j v)))
theorem set_list:OB X aan:=by
 intro pins s σ H o i v ov iv u Q I ro ri rv h
 obtain⟨p,xs,k,j,rfl,rfl,hp,hj,q⟩:=h
 cases ro
 obtain⟨t,rfl⟩:=ri
 obtain⟨its,n,r,ho,hz⟩:=I.lst hp
 obtain⟨h1,h2,h3,h4⟩:=MS hj
 have hl:=r.length
 have hn:=qP
 have I':Inv X pins σ (upd H p (.lst (xs.set j v))) { s with heap:=s.heap.update p (Obj.mapSeq (·.setIfInBounds j u)) }:=
  I.Zt hp ho (Wb its n j u) (r.set rv j) (by rw[yG];exact hz) s.toks
 by_cases h0:0<=k
 ·have hk:k.toNat=j:=by
   rw[JZ h0 h4]at h1
   exact ie h1
  exact PySem.W.ki_setAt ho h0 (by omega) (by rw[cJ,<-hl];exact h4) (by rw[hk];exact⟨_,I',q⟩)
 ·have hk:(k+(its.toArray.size:Int)).toNat=j:=by
   rw[seqIndex_neg (by omega) h3]at h1
   rw[cJ,<-hl]
   exact ie h1
  exact PySem.W.ki_setBack ho (by omega) (by rw[cJ,<-hl];exact h3) (by omega) (by rw[hk];exact⟨_,I',q⟩)
theorem Vy (lo hi:Option Int) (n:Nat):(sliceBounds lo hi none n).1=((HT.bf n 0 lo:Nat):Int)/\(sliceBounds lo hi none n).2.1=((HT.bf n n hi:Nat):Int)/\(sliceBounds lo hi none n).2.2=1:=by
 refine⟨?_,?_,rfl⟩
 ·cases lo with
  | none=>simp[sliceBounds,HT.bf]
  | some i =>
   simp only[sliceBounds,HT.bf,Option.getD_none,show(1:Int) > 0 by decide,mn]
   by_cases h:i < 0
   ·simp only[h,mn] <;> omega
   ·simp only[h,yE] <;> omega
 ·cases hi with
  | none=>simp[sliceBounds,HT.bf]
  | some i =>
   simp only[sliceBounds,HT.bf,Option.getD_none,show(1:Int) > 0 by decide,mn]
   by_cases h:i < 0
   ·simp only[h,mn] <;> omega
   ·simp only[h,yE] <;> omega
theorem Vr (its:List Value) (lo hi:Option Int):slicePick its.toArray lo hi none=((its.drop (HT.bf its.length 0 lo)).take (HT.bf its.length its.length hi - HT.bf its.length 0 lo)).toArray:=by
 obtain⟨h1,h2,h3⟩:=Vy lo hi its.toArray.size
 unfold slicePick
 rw[h1,h2,h3]
 simp only[sliceRange_one,pick_run,cJ] <;> rfl
def OJ (K:PySem.W.Frag):V->Option Int->Option Int->Hp->VK->Prop:=fun x lo hi H Q=>∃a xs,x = .ref a/\ai K H a xs /\ ∀p,H p=none->Q (.ref p) (upd H p (.lst (eP xs lo hi)))
theorem fu:uK X (OJ X.K):=by
 intro pins s σ H x v vl vu lo hi sl Q I rx hs pl pu h
 obtain⟨a,xs,rfl,hx,q⟩:=h
 cases rx
 obtain⟨its,r,ht,hz⟩:=I.list hx
 have hlen:=r.length
 refine⟨"list", _,Ux.lookup,ht.isList.typeIs,?_⟩
 refine wpAny_getItem_list_slice ht.isList hs pl pu .none (by simp) ?_ (by rw[cJ] <;> omega)
 rw[Vr,<-hlen]
 refine⟨.ref s.heap.objs.size,_,I.laid (t':=s.toks) (o:= .lst (eP xs lo hi)) (fun b ob q=>bx _ q) (aO _) ?_,rfl,q _ (I.aA.fresh (aO _))⟩
 exact⟨c9 (Co xs lo hi) hz,_,0,(r.drop (HT.bf xs.length 0 lo)).take (HT.bf xs.length xs.length hi - HT.bf xs.length 0 lo),eK _ rfl⟩
def lK:V->Bool
 | .aG=>true
 | .bl _=>true
 | .int _=>true
 | .str _=>true
 | _=>false
def pS:V->V->Bool
 | .aG,.aG=>true
 | .bl a,.bl b=>a==b
 | .bl a,.int b=>(if a then 1 else 0)==b
 | .int a,.bl b=>a==(if b then 1 else 0)
 | .int a,.int b=>a==b
 | .str a,.str b=>a==b
 | _,_=>false
theorem Zu {A:Around}{s:Shared}{y x:V}{u v:Value} (ry:RelV y u) (rx:RelV x v) (fy:lK y=true) (fx:lK x=true):SeqAt.EqAt A s u v (pS y x):=by
 cases y with
 | aG =>
  cases ry
  cases x with
  | aG=>cases rx;exact SeqAt.EqAt.same _
  | bl b=>cases rx;exact SeqAt.EqAt.none_bool b
  | int b=>obtain⟨t,rfl⟩:=rx;exact SeqAt.EqAt.none_int b t
  | str b=>obtain⟨t,rfl⟩:=rx;exact SeqAt.EqAt.none_str b t
  | _=>exact absurd (show false=true from fx) dU
 | bl a =>
  cases ry
  cases x with
  | aG=>cases rx;exact SeqAt.EqAt.bool_none a
  | bl b=>cases rx;exact SeqAt.EqAt.bool_bool a b
  | int b=>obtain⟨t,rfl⟩:=rx;exact SeqAt.EqAt.bool_int a b t
  | str b=>obtain⟨t,rfl⟩:=rx;exact SeqAt.EqAt.bool_str a b t
  | _=>exact absurd (show false=true from fx) dU
 | int a =>
  obtain⟨t',rfl⟩:=ry
  cases x with
  | aG=>cases rx;exact SeqAt.EqAt.int_none a t'
  | bl b=>cases rx;exact SeqAt.EqAt.int_bool a t' b
  | int b=>obtain⟨t,rfl⟩:=rx;exact SeqAt.EqAt.int_int a t' b t
  | str b=>obtain⟨t,rfl⟩:=rx;exact SeqAt.EqAt.int_str a t' b t
  | _=>exact absurd (show false=true from fx) dU
 | str a =>
  obtain⟨t',rfl⟩:=ry
  cases x with
  | aG=>cases rx;exact SeqAt.EqAt.str_none a t'
  | bl b=>cases rx;exact SeqAt.EqAt.str_bool a t' b
  | int b=>obtain⟨t,rfl⟩:=rx;exact SeqAt.EqAt.str_int a t' b t
  | str b=>obtain⟨t,rfl⟩:=rx;exact SeqAt.EqAt.str_str a t' b t
  | _=>exact absurd (show false=true from fx) dU
 | _=>exact absurd (show false=true from fy) dU
def gT (x:V) (u:Value):Bool:=match u with
 | .none=>pS .aG x
 | .bool b=>pS (.bl b) x
 | .int i _=>pS (.int i) x
 | .str z _=>pS (.str z) x
 | _=>false
theorem zK {x y:V}{u:Value} (r:RelV y u) (f:lK y=true):gT x u=pS y x:=by
 cases y with
 | aG=>cases r;rfl
 | bl b=>cases r;rfl
 | int i=>obtain⟨t,rfl⟩:=r;rfl
 | str z=>obtain⟨t,rfl⟩:=r;rfl
 | _=>exact absurd (show false=true from f) dU
theorem vU {x:V}:∀ {xs:List V}{us:List Value},Vals xs us->xs.all lK=true->us.any (gT x)=xs.any fun y=>pS y x
 | _,_,.nil,_=>rfl
 | y::xs,u::us,.cons r t,f=>by
  rw[vn,gY]at f
  rw[sy,sy,zK r f.1,vU t f.2]
theorem tu {A:Around}{s:Shared}{x:V}{v:Value} (rx:RelV x v) (fx:lK x=true):∀ {xs:List V}{us:List Value},Vals xs us->xs.all lK=true -> ∀u∈us,SeqAt.EqAt A s u v (gT x u)
 | _,_,.nil,_=>fun u hu=>by cases hu
 | y::xs,u::us,.cons r t,f=>fun u' hu=>by
  rw[vn,gY]at f
  rcases a9.mp hu with rfl | hu
  ·rw[zK r f.1];exact Zu r rx f.1 fx
  ·exact tu rx fx t f.2 u' hu
def AV (x:V) (xs:List V):Bool:=xs.any fun y=>pS y x
def AW (K:PySem.W.Frag) (neg:Bool):R2:=fun x y H Q=>∃p xs,y = .ref p/\(ai K H p xs\/aB K H p xs)/\lK x=true/\xs.all lK=true/\Q (.bl (if neg then !AV x xs else AV x xs)) H
theorem CH:cE X (compareOp .In) (AW X.K false):=by
 intro pins s σ H x y v u Q I rx ry h
 obtain⟨p,xs,rfl,hq,fx,fs,q⟩:=h
 cases ry
 rcases hq with hq | hq
 ·obtain⟨its,r,pl,hz⟩:=I.list hq
  refine SeqAt.in_listAt (gT x) pl.isList (fun w hw=>tu rx fx r fs w (by simpa using hw)) ⟨.bl _,H,I,rfl,?_⟩
  rw[show its.toArray.any (gT x)=its.any (gT x) by simp,vU r fs]
  exact q
 ·obtain⟨its,r,pl,hz⟩:=I.tuple hq
  refine SeqAt.in_tupleAt (gT x) pl (fun w hw=>tu rx fx r fs w (by simpa using hw)) ⟨.bl _,H,I,rfl,?_⟩
  rw[show its.toArray.any (gT x)=its.any (gT x) by simp,vU r fs]
  exact q
theorem KO:cE X (compareOp .NotIn) (AW X.K true):=by
 intro pins s σ H x y v u Q I rx ry h
 obtain⟨p,xs,rfl,hq,fx,fs,q⟩:=h
 cases ry
 rcases hq with hq | hq
 ·obtain⟨its,r,pl,hz⟩:=I.list hq
  refine SeqAt.notIn_listAt (gT x) pl.isList (fun w hw=>tu rx fx r fs w (by simpa using hw)) ⟨.bl _,H,I,rfl,?_⟩
  rw[show its.toArray.any (gT x)=its.any (gT x) by simp,vU r fs]
  exact q
 ·obtain⟨its,r,pl,hz⟩:=I.tuple hq
  refine SeqAt.notIn_tupleAt (gT x) pl (fun w hw=>tu rx fx r fs w (by simpa using hw)) ⟨.bl _,H,I,rfl,?_⟩
  rw[show its.toArray.any (gT x)=its.any (gT x) by simp,vU r fs]
  exact q
theorem eW:eO X (.builtin "len") (fun xs H Q=>∃p ys,xs = [.ref p]/\(ai X.K H p ys\/aB X.K H p ys)/\Q (.int ys.length) H):=by
 intro pins s σ H xs us Q I r h
 obtain⟨p,ys,rfl,hq,q⟩:=h
 obtain⟨u,rfl,rx⟩:=vals1 r
 cases rx
 have hn:=qP
 rcases hq with hq | hq
 ·obtain⟨its,r',pl,hz⟩:=I.list hq
  have hlen:=r'.length
  exact Calls.call_len_list pl.isList (by simp only[cJ] <;> omega) ⟨.int ys.length,H,I.tok _,⟨s.toks+1,by rw[cJ,hlen]⟩,q⟩
 ·obtain⟨its,r',pl,hz⟩:=I.tuple hq
  have hlen:=r'.length
  exact len_tuple pl (by simp only[cJ] <;> omega) ⟨.int ys.length,H,I.tok _,⟨s.toks+1,by rw[cJ,hlen]⟩,q⟩
theorem yY:eO X (.builtin "len") (fun xs H Q=>∃z,xs = [.str z]/\z.length<=sizeLine/\Q (.int z.length) H):=by
 intro pins s σ H xs us Q I r h
 obtain⟨z,rfl,hz,q⟩:=h
 obtain⟨u,rfl,t,rfl⟩:=vals1 r
 have hn:=qP
 exact len_str (by omega) ⟨.int z.length,H,I.tok _,⟨_,rfl⟩,q⟩
theorem oO:eO X (.type "list") (fun xs H Q=>∃p ys,xs = [.ref p]/\(ai X.K H p ys\/aB X.K H p ys) /\ ∀l,H l=none->Q (.ref l) (upd H l (.lst ys))):=by
 intro pins s σ H xs us Q I r h
 obtain⟨p,ys,rfl,hq,q⟩:=h
 obtain⟨u,rfl,rx⟩:=vals1 r
 cases rx
 have fin:∀ (its:List Value),Vals ys its->ys.length<=sizeLine -> ∀ (h':Heap) (c':Nat),(∀b o',s.heap.get? b=some o'->h'.get? b=some o') ->
   h'.get? s.heap.objs.size=some { cls:= .type "list", dict:=none,data:= .seq its.toArray c',slots:= #[] }->EP X pins σ Q (.ref s.heap.objs.size) { s with heap:=h' }:=fun its r' hz h' c' kp e =>
  ⟨.ref s.heap.objs.size,_,I.laid (t':=s.toks) kp (aO _) (show bH X.prog X.w _ h' _ (.lst ys) from⟨hz,its,c',r',e⟩),rfl,q _ (I.aA.fresh (aO _))⟩
 rcases hq with hq | hq
 ·obtain⟨its,r',pl,hz⟩:=I.list hq
  have hlen:=r'.length
  obtain⟨o,ho,hc,n,hd⟩:=pl.isList
  exact call_list_seq p (.inl rfl) ho hc hd (fun h' c' kp e=>fin its r' hz h' c' kp e) (by simp only[cJ] <;> omega)
 ·obtain⟨its,r',pl,hz⟩:=I.tuple hq
  have hlen:=r'.length
  obtain⟨o,ho,hc,n,hd⟩:=pl
  exact call_list_seq p (.inr rfl) ho hc hd (fun h' c' kp e=>fin its r' hz h' c' kp e) (by simp only[cJ] <;> omega)
theorem sN:eO X (.type "tuple") (fun xs H Q=>∃p ys,xs = [.ref p]/\((ai X.K H p ys /\ ∀l,H l=none->Q (.ref l) (upd H l (.tup ys)))\/(aB X.K H p ys/\Q (.ref p) H))):=by
 intro pins s σ H xs us Q I r h
 obtain⟨p,ys,rfl,h⟩:=h
 obtain⟨u,rfl,rx⟩:=vals1 r
 cases rx
 rcases h with⟨hq,q⟩|⟨hq,q⟩
 ·obtain⟨its,r',pl,hz⟩:=I.list hq
  have hlen:=r'.length
  refine call_tuple_list pl.isList (fun h' kp=>?_) (by simp only[cJ] <;> omega)
  have I1:Inv X pins σ H { s with heap:=h' }:=I.kept (t':=s.toks) kp
  have I2:Inv X pins σ (upd H h'.objs.size (.tup ys)) { s with heap:=h'.push { cls:= .type "tuple", data:= .seq its.toArray } }:=
   I1.laid (t':=s.toks) (fun b o e=>bx _ e) (aO _) (show bH X.prog X.w _ _ _ (.tup ys) from⟨hz,its,r',pL.new _ _⟩)
  exact⟨.ref h'.objs.size,_,I2,rfl,q _ (I1.aA.fresh (aO _))⟩
 ·obtain⟨its,r',pl,hz⟩:=I.tuple hq
  exact call_tuple_same pl ⟨.ref p,H,I,rfl,q⟩
def QB (K:PySem.W.Frag) (T:String) (x:V) (H:Hp):Prop:=match x with
 | .str _=>T = "str"
 | .int _=>T = "int"
 | .ref p=>(T = "list" /\ ∃xs,ai K H p xs)\/(T = "tuple" /\ ∃o,K.lookup p=some o/\o.cls = .type "tuple" /\ o.dict=none) \/
   (T = "dict" /\ ((∃kvs,H p=some (.dK kvs)) \/ ∃kvs,H p=some (.dT kvs)))\/(T = "set" /\ ∃S n,H p=some (.set S n))\/(T = "tuple" /\ ∃xs,Rd H p (.tup xs))
 | _=>False
theorem Zv {pins:List (Addr×Obj)}{σ:St}{H:Hp}{s:Shared}{T:String}{x:V}{v:Value} (I:Inv X pins σ H s) (r:RelV x v) (ty:QB X.K T x H) :
  s.TypeIs v T /\ ∀a,v = .ref a -> ∃ob,s.heap.get? a=some ob/\ob.dict=none:=by
 cases x with
 | str z =>
  obtain⟨t,rfl⟩:=r
  cases (show T = "str" from ty)
  exact⟨typeIs_str s z t,fun _ e=>nomatch e⟩
 | int i =>
  obtain⟨t,rfl⟩:=r
  cases (show T = "int" from ty)
  exact⟨typeIs_int s i t,fun _ e=>nomatch e⟩
 | ref p =>
  cases r
  rcases ty with⟨rfl,xs,hq⟩|⟨rfl,o,hk,hc,hd⟩|⟨rfl,hk⟩|⟨rfl,S,n,hk⟩|⟨rfl,xs,hq⟩
  ·obtain⟨its,_,pl,_⟩:=I.list hq
   refine⟨pl.isList.typeIs,fun a e=>?_⟩
   cases e
   obtain⟨o,n,e,c,hd,_⟩:=pl
   exact⟨o,e,hd⟩
  ·refine⟨⟨o,I.bU p o hk,hc⟩,fun a e=>?_⟩
   cases e
   exact⟨o,I.bU _ o hk,hd⟩
  ·have z:∃o,s.heap.get? p=some o/\o.ExactDict:=by
    rcases hk with⟨kvs,hk⟩|⟨kvs,hk⟩
    ·obtain⟨_,_,_,_,o,_,_,e,ex,_⟩:=I.aA p _ hk
     exact⟨o,e,ex⟩
    ·obtain⟨_,_,_,_,o,_,_,e,ex,_⟩:=I.aA p _ hk
     exact⟨o,e,ex⟩
   obtain⟨o,e,ex⟩:=z
   refine⟨⟨o,e,ex.1⟩,fun a e2=>?_⟩
   cases e2
   exact⟨o,e,ex.2.1⟩
  ·obtain⟨o,_,_,_,e,ex,_⟩:=I.aA p _ hk
   refine⟨⟨o,e,ex.1⟩,fun a e2=>?_⟩
   cases e2
   exact⟨o,e,ex.2.1⟩
  ·obtain⟨_,_,_,o,e,c,_,_,hd⟩:=hq.ok I.aA
   refine⟨⟨o,e,c⟩,fun a e2=>?_⟩
   cases e2
   exact⟨o,e,hd⟩
 | _=>exact False.elim ty
def QC (K:PySem.W.Frag) (T:String) (r:V->List V->Hp->VK->Prop) (to:TE) (t:TA):TE:=fun σ H Q=>to σ H fun x H1=>QB K T x H1/\t σ H1 fun xs H2=>r x xs H2 Q
variable {o e : Expr} {es : List Expr} {to : TE} {t : TA} {name : Str} {apos ju : Pos} {T id : String} {r : V -> List V -> Hp -> VK -> Prop}
theorem lL (pa:PlainAttrs T) (slot:Slot T name id) (G2:typeOf (.builtin id)=pure (.type "method_descriptor")) (hm:AU X id r) (ho:PE X o to) (ha:PA X (e::es) t)
  (DJ:attributeBase o name X.env (eval o X.env)=eval o X.env:=by rfl)
  (Ag:((backTo ju (starEach (e::es) X.env)).all (fun x=>!x.1) && (backToKw ju (keywordEach [] X.env)).all (fun x=>x.1.isSome)
   && decide ((e::es).length+([]:List Keyword).length+(if ([]:List Keyword).isEmpty then 0 else 1) < 30))=true:=by rfl)
  (DK:(apos.endLine==ju.line)=true:=by rfl) (hs:starEach (e::es) X.env=(false,eval e X.env)::starEach es X.env:=by rfl) (Dq:(backTo ju (starEach es X.env)).any (·.1)=false:=by rfl) :
  PE X (.Call (.Attribute o name apos) (e::es) [] ju) (QC X.K T r to t):=by
 intro pins s σ H Q I h
 refine wpAny_Call_method_late DJ Ag DK rfl (aJ (ho pins s σ H _ I h) fun v s1 ⟨x,H1,I1,r1,ty,q1⟩=>?_)
 obtain⟨h1,h2⟩:=Zv I1 r1 ty
 refine⟨T,id,pa,slot,G2,h1,h2,?_⟩
 have hA:=ha ju pins s1 σ H1 _ I1 q1
 rw[hs]at hA ⊢
 refine Calls.callWith_builtin (by show(false || (backTo ju (starEach es X.env)).any (·.1))=false;rw[Dq] <;> rfl) (Calls.evalArgs_plain ?_)
 exact aJ hA fun us s2 ⟨vs,H2,I2,r2,q2⟩=>hm pins s2 σ H2 x vs v us Q I2 r1 r2 q2
end
end L2
namespace L2
open PySem PySem.Spec PyProof.Rows
def G3 (X:Cx) (id:String) (r:V->List V->Hp->VK->Prop):Prop:=
 ∀ (pins:List (Addr×Obj)) (s:Shared) (σ:St) (H:Hp) (x:V) (xs:List V) (v:Value) (us:List Value) (Q:VK),Inv X pins σ H s->RelV x v->Vals xs us->r x xs H Q ->
  wpAny (model X.prog X.w) X.A (call (.builtin id) (v::us)) (EP X pins σ Q) X.xe s
theorem Vals.one:∀ {x:V}{us:List Value},Vals [x] us -> ∃u,us = [u]/\RelV x u
 | _,_,.cons r .nil=>⟨_,rfl,r⟩
theorem Vals.two:∀ {x y:V}{us:List Value},Vals [x,y] us -> ∃u v,us = [u,v]/\RelV x u/\RelV y v
 | _,_,_,.cons r (.cons q .nil)=>⟨_,_,rfl,r,q⟩
theorem Vals.eraseIdx:∀ {xs:List V}{us:List Value} (i:Nat),Vals xs us->Vals (xs.eraseIdx i) (us.eraseIdx i)
 | _,_,_,.nil=>.nil
 | _,_,0,.cons _ t=>t
 | _,_,i+1,.cons r t=>.cons r (Vals.eraseIdx i t)
theorem Vals.reverse {xs:List V}{us:List Value} (h:Vals xs us):Vals xs.reverse us.reverse:=by
 induction h with
 | nil=>exact .nil
 | cons r t ih=>rw[J0,J0];exact Vals.append ih (.cons r .nil)
theorem Vals.rep {xs:List V}{us:List Value} (h:Vals xs us):∀k:Nat,Vals (List.replicate k xs).flatten (List.replicate k us).flatten
 | 0=>.nil
 | k+1=>by
  rw[B5,B5,J',J']
  exact Vals.append h (Vals.rep h k)
theorem LA {α:Type}:∀ (l:List α) (i:Nat),(l.eraseIdx i).length<=l.length
 | [],_=>aO _
 | _::_,0=>qz _
 | _::r,i+1=>Nat.succ_le_succ (LA r i)
theorem foldl_rep (its:List Value):∀ (k:Nat) (acc:List Value),
  List.foldl (fun x1 x2=>x1++x2) acc.toArray (List.replicate k its.toArray)=(acc++(List.replicate k its).flatten).toArray
 | 0,acc=>by simp
 | k+1,acc=>by
  have e:acc.toArray++its.toArray=(acc++its).toArray:=by simp
  have e2:(acc++its)++(List.replicate k its).flatten=acc++(List.replicate (k+1) its).flatten:=by
   rw[B5,J',B6]
  rw[<-e2,<-foldl_rep its k (acc++its),<-e,B5,List.foldl_cons]
section
variable {X : Cx} {pins : List (Addr × Obj)} {σ : St} {H : Hp} {s : Shared} {l b : Addr} {xs ys zs : List V}
theorem Inv.OK {its its':List Value}{n:Nat}{f:Array Value->Array Value}{t':Nat} (I:Inv X pins σ H s) (hH:H l=some (.lst xs))
  (e:s.heap.get? l=some { cls:= .type "list", data:= .seq its.toArray n }) (hf:f its.toArray=its'.toArray) (hv:Vals ys its') (hz:ys.length<=sizeLine) :
  Inv X pins σ (upd H l (.lst ys)) { s with heap:=s.heap.update l (Obj.mapSeq f),toks:=t' }:=by
 have q:=PySem.IsL.update e f
 rw[hf]at q
 refine I.write (x:=l) (e:=l) (by rw[hH];exact trivial) (.inl rfl) (fun b' u hb hu=>(mr s.heap (Obj.mapSeq f) (aT hb)).trans hu) ⟨_,q⟩ ?_
 exact⟨hz,its',_,hv,q⟩
theorem Inv.D6 {its:List Value}{t':Nat} (I:Inv X pins σ H s) (hv:Vals ys its) (hz:ys.length<=sizeLine) :
  Inv X pins σ (upd H s.heap.objs.size (.lst ys)) { s with heap:=s.heap.push { cls:= .type "list", data:= .seq its.toArray },toks:=t' }:=
 I.laid (fun _ _ q=>bx _ q) (aO _) ⟨hz,its,0,hv,eK _ rfl⟩
theorem Inv.fresh (I:Inv X pins σ H s):H s.heap.objs.size=none:=I.aA.fresh (aO _)
theorem Inv.ui (I:Inv X pins σ H s) (hH:H l=some (.lst xs)):xs.length<=sizeLine /\ ∃ (its:List Value) (n:Nat),Vals xs its/\xs.length=its.length/\s.heap.get? l=some { cls:= .type "list", data:= .seq its.toArray n }:=by
 obtain⟨z,its,n,r,e⟩:=I.aA l _ hH
 exact⟨z,its,n,r,r.length,e⟩
theorem Xu {n:Nat} (h:n<=sizeLine):Builtin.List.listTooLong n=false:=by
 unfold Builtin.List.listTooLong
 exact c8 (by omega)
end
section
variable {X : Cx}
def Yt:V->List V->Hp->VK->Prop:=fun x vs H Q=>∃l xs y,x = .ref l/\vs = [y]/\H l=some (.lst xs)/\xs.length < sizeLine/\Q .aG (upd H l (.lst (xs ++ [y])))
theorem qL:G3 X "list.append" Yt:=by
 intro pins s σ H x vs v us Q I rx rv h
 obtain⟨l,xs,y,rfl,rfl,hH,hz,q⟩:=h
 cases rx
 obtain⟨u,rfl,ru⟩:=rv.one
 obtain⟨z,its,n,r,hl,e⟩:=I.ui hH
 refine yH F.slot_list_append ⟨_,e,rfl⟩ F.entry_list_append (F.args_list_append_2 _ _) (PySem.list_append l its.toArray n u (by rw[cJ];omega)) ⟨e,?_⟩
 refine⟨.aG,_,I.OK (its':=its ++ [u]) hH e (by simp) (r.append (.cons ru .nil)) ?_,rfl,q⟩
 rw[aW,oH]
 omega
def Zw:V->List V->Hp->VK->Prop:=fun x vs H Q=>∃l xs i k y,x = .ref l/\vs = [.int i]/\H l=some (.lst xs) /\ -(2 ^ 63)<=i/\i < 2 ^ 63/\seqIndex? i xs.length=some k/\xs[k]? = some y/\Q y (upd H l (.lst (xs.eraseIdx k)))
theorem Xv:G3 X "list.pop" Zw:=by
 intro pins s σ H x vs v us Q I rx rv h
 obtain⟨l,xs,i,k,y,rfl,rfl,hH,h1,h2,hk,hy,q⟩:=h
 cases rx
 obtain⟨u,rfl,ru⟩:=rv.one
 obtain⟨t,rfl⟩:=ru
 obtain⟨z,its,n,r,hl,e⟩:=I.ui hH
 obtain⟨w,hw,eG⟩:=r.get hy
 refine yH F.slot_list_pop ⟨_,e,rfl⟩ F.entry_list_pop (F.args_list_pop_2 _ _)
  (MeetsSeq.list_pop_at l its.toArray n i t k w (fitsIndex_both h1 h2) (by rw[cJ,<-hl];exact hk) (by rw[<-vo];exact hw) (by rw[cJ];omega)) ⟨e,?_⟩
 refine⟨y,_,I.OK (its':=its.eraseIdx k) hH e ?_ (r.eraseIdx k) ?_,eG,q⟩
 ·show its.toArray.eraseIdxIfInBounds k=(its.eraseIdx k).toArray
  rw[List.eraseIdxIfInBounds_toArray]
 ·have:=LA xs k
  omega
def abz:R2:=fun x y H Q=>∃l b xs zs,x = .ref l/\y = .ref b/\H l=some (.lst xs)/\H b=some (.lst zs)/\xs.length+zs.length<=sizeLine /\ ∀p,H p=none->Q (.ref p) (upd H p (.lst (xs++zs)))
theorem ff:cE X (binaryOp .Add) abz:=by
 intro pins s σ H x y v u Q I rx ry h
 obtain⟨l,b,xs,zs,rfl,rfl,hH,hB,hz,q⟩:=h
 cases rx
 cases ry
 obtain⟨z,its,n,r,hl,e⟩:=I.ui hH
 obtain⟨z2,lR,n2,r2,fh,e2⟩:=I.ui hB
 refine PySem.P.add_list e e2 ?_ (by rw[cJ,cJ];omega)
 have ea:its.toArray++lR.toArray=(its++lR).toArray:=by simp
 rw[ea]
 exact⟨.ref _,_,I.D6 (t':=s.toks) (r.append r2) (by rw[aW];omega),rfl,q _ I.fresh⟩
def abA:R2:=fun x y H Q=>∃l k xs,x = .ref l/\y = .int k/\H l=some (.lst xs) /\ -(2 ^ 63)<=k/\k < 2 ^ 63/\xs.length * k.toNat<=sizeLine /\
 ∀p,H p=none->Q (.ref p) (upd H p (.lst (List.replicate k.toNat xs).flatten))
theorem len_rep {α:Type} (xs:List α) (k:Nat):(List.replicate k xs).flatten.length=k * xs.length:=by
 induction k with
 | zero=>simp
 | succ k ih=>rw[B5,J',aW,ih,Nat.succ_mul,Uz]
theorem Zx:cE X (binaryOp .Mult) abA:=by
 intro pins s σ H x y v u Q I rx ry h
 obtain⟨l,k,xs,rfl,rfl,hH,h1,h2,hz,q⟩:=h
 cases rx
 obtain⟨t,rfl⟩:=ry
 obtain⟨z,its,n,r,hl,e⟩:=I.ui hH
 have hlen:its.toArray.size * k.toNat<=sizeLine:=by rw[cJ,<-hl];exact hz
 have abB : ¬ its.toArray.size * k.toNat > (2 ^ 63 - 1) / 8:=by
  have:(sizeLine:Nat)<=(2 ^ 63 - 1) / 8:=by decide
  omega
 have abC : ¬ (!Builtin.List.listFitsIndex k)=true:=by
  rw[fitsIndex_both h1 h2]
  exact dU
 have aao : ¬ Builtin.List.listTooLong (its.toArray.size * k.toNat)=true:=by
  rw[Xu hlen]
  exact dU
 have abD:List.foldl (fun x1 x2=>x1++x2) #[] (List.replicate (if its.toArray.isEmpty=true then 0 else k.toNat) its.toArray)=(List.replicate k.toNat its).flatten.toArray:=by
  have f0:∀m:Nat,List.foldl (fun x1 x2=>x1++x2) #[] (List.replicate m its.toArray)=(List.replicate m its).flatten.toArray:=fun m=>by
   have:=foldl_rep its m []
   rw[List.nil_append]at this
   exact this
  rw[f0]
  cases its with
  | nil=>simp
  | cons a r'=>rw[aE (by simp)]
 refine wpAny_binaryOp_repeat_ref (T:= "list") (U:= "int") (by decide) ⟨_,e,rfl⟩ (fun s'=>typeIs_int s' k t) noFill_list_mul F.fills_int_mul F.slot_int_rmul repeat_list F.slot_int_index.lookup
  (yH F.slot_int_rmul (typeIs_int s k t) F.entry_int_rmul (F.args_int_rmul_2 _ _) (int___rmul___int_list k t l its.toArray n)
   ⟨e,rfl,⟨_,e,rfl⟩,yH F.slot_list_mul ⟨_,e,rfl⟩ F.entry_list_mul (F.args_list_mul_2 _ _) (AutoListH.list___mul___list_int_3 l its.toArray n k t abC abB aao) ⟨e,?_⟩⟩)
 rw[abD]
 exact⟨.ref _,_,I.D6 (t':=s.toks) (r.rep k.toNat) (by rw[len_rep,Nat.mul_comm];exact hz),rfl,q _ I.fresh⟩
end
section
variable {prog : Program} {w : World} {A : Around} {E : Value -> Shared -> Prop} {s : Shared}
set_option maxRecDepth 100000 in
end
end L2
namespace QD
open PySem PySem.W PySem.Calls PyProof.Rows
theorem Vn {P:Params}{h:Heap}:∀ (ns:List Int) (vs:List Value),WellAll P h vs (ns.map WData.int)->IntsAre vs ns:=by
 intro ns
 induction ns with
 | nil =>
  intro vs w
  rw[List.map_nil]at w
  cases w
  exact .nil
 | cons n ns ih =>
  intro vs w
  rw[d5]at w
  cases w with
  | cons a b =>
   cases a
   exact .cons _ _ (ih _ b)
theorem WM {l:OpenLaw}{n:Nat} (hn:l.most=some n) {P:Params}{h:Heap}{args:List WData}{vals:List Value}
  (Ah:l.row.toRowW.claim.pre args=true) (AX:WellAll P h vals args) :
  ∃a vs ns,vals = [Value.ref a]/\args = [WData.list (ns.map WData.int)]/\h.get? a=some { cls:= .type "list", data:= .seq vs.toArray }/\IntsAre vs ns/\ns.length<=n:=by
 have hsh:WShape.hasAll [] args [.list .int]=true:=(pre_splitW Ah).1
 have hc:l.pre.holds [] { args:=args }=true:=(pre_splitW Ah).2
 obtain⟨d,r,rfl,h1,h2⟩:=hasAllW_cons hsh
 obtain rfl:=hasAllW_nil h2
 obtain⟨xs,rfl,h3⟩:=hasW_list h1
 obtain⟨ns,rfl⟩:=items_int h3
 have hlen:ns.length<=n:=by
  unfold OpenLaw.pre at hc
  have h4:(WTm.not (.lt (.lit (.int (n:Int))) (.len (.arg 0)))).holds [] { args:= [.list (ns.map .int)] }=true:=by
   have h4:=(holds_andW hc).1
   rw[hn]at h4
   exact h4
  have h5:=condW_of h4 (w_not (w_lt w_lit (w_len_list (w_arg rfl))))
  rw[ar]at h5
  refine Nat.le_of_not_lt fun q=>?_
  have q':(n:Int) < ((ns.length:Nat):Int):=by omega
  first
   | (rw[cF q']at h5;exact absurd h5 (by decide))
   | (simp at h5;omega)
 cases AX with
 | cons w1 w2 =>
  cases w2
  cases w1 with
  | list ho wI=>exact⟨_,_,ns,rfl,rfl,ho,Vn ns _ wI,hlen⟩
theorem WN (l:OpenLaw) (args:List WData):l.row.toRowW.claim.post args (.bool true) args=true:=
 postW_of (r:=l.row.toRowW) (X:=(true==true))
  (show WShape.has [] (.bool true) .bool=true by first | rfl | decide | simp[WShape.has,WShape.arms,WShape.armsAll])
  (show(WTm.eq .res (.lit (.bool true))).value [] { args:=args,res:=some (.bool true),after:=args }=some (.bool (true==true)) from w_eq_bool (w_res rfl) w_lit) rfl
theorem VN {l:OpenLaw}{n:Nat}{q:Program}{loose:List Str}{XP:(Str->Option Value)->Heap->Prop}{YP:World->Heap->Prop}{d:DefRec}
  (hn:l.most=some n) (xr:d.params.defaults = [])
  (call:∀ (w:World) (cQ bh:Shared) (mg mb:Str->Option Value) (fa:Addr) (o:Obj) (pm cd doc:Value) (a:Addr) (vs:List Value) (ns:List Int),
   Ground q loose [] XP w cQ mg mb bh.heap->YP w bh.heap ->
   bh.heap.get? fa=some o->o.data = .func (docDef d.name d.params d.body d.scope pm cd doc)->bh.heap.CodeRec cd d.name->mg d.name=some (.ref fa) ->
   bh.heap.get? a=some { cls:= .type "list", data:= .seq vs.toArray }->IntsAre vs ns->ns.length<=n->bh.gens = #[] ->
   codeAny (model l.prog w) callerA (.call (.ref fa) ⟨[.ref a],[]⟩) (fun r s'=>r = .ok (.ret (.bool true))/\OldK bh.heap s'.heap/\s'.os=bh.os/\AllBare s'.gens) bh) :
  WalkO q loose XP YP l.row.toRowW d [] (fun f vs=>PySem.call f vs):=by
 intro w cQ bh mg mb G Y fa o pm cd doc dV kV ho hd f9 hD rQ hg args vals as Ah wJ uM AX G4
 obtain rfl:dV = .none:=Dflts.none hD xr
 obtain rfl:kV = .none:=Dflts.noKw hD
 obtain⟨a,vs,ns,rfl,rfl,D7,hints,hlen⟩:=WM hn Ah AX
 refine enter_call (su (call w cQ bh mg mb fa o pm cd doc a vs ns G Y ho (fd_plain hd) f9 rQ D7 hints hlen hg) fun r s' hq=>?_)
 obtain⟨rfl,h2,h3,h4⟩:=hq
 exact⟨.inl ⟨.bool true,.bool true,[],rfl,fun _=>rfl,.bool true,WN l _,fun _=>⟨List.Pairwise.nil,fun _ hm=>(nomatch hm)⟩⟩,h2,h3,h4⟩
end QD
namespace L2
open PySem PySem.Spec PyProof.Rows
theorem LB:∀ {vs:List Value}{ns:List Int},IntsAre vs ns->Vals (ns.map V.int) vs
 | _,_,.nil=>.nil
 | _,_,.cons n t h=>.cons ⟨t,rfl⟩ (LB h)
def D8 (H:Hp):Prop:= ∀b,H b=none \/ ∃o xs,H b=some (.iB o (.lst xs))
theorem Xw {P:Program}{w:World}{K:PySem.W.Frag}{mg mb:Str->Option Value}{CX:ke}{k:Nat}{fa a:Addr}{fd:FuncData}{x:Str}{sp:Sp}{bh:Shared}{vs:List Value}{ns:List Int}
  (KX:K.In bh.heap) (pT:bh.heap.Ns mainGlobals mg) (hb:bh.heap.Ns builtinsNs mb) (hbb:∀x:Str,x ≠ "__name__" -> mb x=bootBuiltins x) (OL:bh.heap.NoLimit) (hg:bh.gens = #[])
  (ha:bh.heap.get? a=some { cls:= .type "list", data:= .seq vs.toArray }) (hi:IntsAre vs ns) (hl:ns.length<=sizeLine) (hr:bQ k callerA)
  (F:∀base:Heap,K.In base->base.Ns mainGlobals mg->aN P w K mg base CX k fa fd [x] sp) (aap:∀ (s:Shared) (u:Value),BindsTo s fd ⟨[u],[]⟩ [(x,u)])
  (jA:∀H:Hp,D8 H->ai K H a (ns.map V.int)->sp [.ref a] H (fun v _=>v = .bl true) fun _ _ _=>False)
  (G5:∀H e s',CX [] H bh (fun _ _ _=>False) e s'->False) :
  codeAny (model P w) callerA (.call (.ref fa) ⟨[.ref a],[]⟩) (fun r s'=>r = .ok (.ret (.bool true))/\OldK bh.heap s'.heap/\s'.os=bh.os/\AllBare s'.gens) bh:=by
 have rv:=LB hi
 have abE:=hi.length
 have core:∀H:Hp,D8 H->ai K H a (ns.map V.int)->cS P w H bh.heap->(∀b,H b≠none->b=a)->(H a≠none->K.lookup a=none) ->
   codeAny (model P w) callerA (.call (.ref fa) ⟨[.ref a],[]⟩) (fun r s'=>r = .ok (.ret (.bool true))/\OldK bh.heap s'.heap/\s'.os=bh.os/\AllBare s'.gens) bh:=by
  intro H hO hS aA hA hK
  have MT:∀ {b:Addr}{o:Obj},bh.heap.get? b=some o->H b=none->(nE bh.heap H).get? b=some o:=fun e n=>Xo e n
  have xp:∀ {b:Addr}{o:Obj}{es:Array DictEntry}{ep:Nat},bh.heap.get? b=some o->o.data = .dict es ep->H b=none:=fun {b o es ep} e d=>by
   cases q:H b with
   | none=>rfl
   | some u =>
    have e':b=a:=hA b (by rw[q];simp)
    subst e'
    rw[ha]at e;cases e
    have d':Data.seq vs.toArray _=Data.dict es ep:=d
    cases d'
  have AY:∀ {b:Addr}{m:Str->Option Value},bh.heap.Ns b m->(nE bh.heap H).Ns b m:=fun {b m} ⟨o,es,ep,e,d,r⟩=>⟨o,es,ep,MT e (xp e d),d,r⟩
  have QE:K.In (nE bh.heap H):=fun b o e=>MT (KX b o e) (by
   cases q:H b with
   | none=>rfl
   | some u =>
    have e':b=a:=hA b (by rw[q];simp)
    subst e'
    rw[hK (by rw[q];simp)]at e;cases e)
  have hM:Mod K mg (nE bh.heap H):=⟨QE,AY pT,⟨mb,AY hb,hbb⟩,let ⟨mc,h1,h2⟩:=OL;⟨mc,AY h1,h2⟩⟩
  have e0:nI P w K mg (nE bh.heap H) callerA [] bh H:=⟨rfl,hM,fun b o e=>Ym e,Nat.le_of_eq (WE _ _),trivial,fun b hb=>absurd (show b∈([]:List Addr) from hb) (by simp),aA,.of_eq hg⟩
  refine su ((F _ QE (AY pT)).run callerA [] bh H ⟨[.ref a],[]⟩ [.ref a] [.ref a] _ _ hr e0 (aap bh (.ref a)) (.cons rfl .nil) (jA H hO hS)) fun r s' h=>?_
  cases r with
  | error e=>exact(G5 H e s' h).elim
  | ok fl =>
   cases fl with
   | next=>exact False.elim h
   | brk=>exact False.elim h
   | cont=>exact False.elim h
   | ret u =>
    obtain⟨v,H',os,bare,un,abF,r',q⟩:=h
    have q':v = .bl true:=q
    subst q'
    obtain rfl:u=Value.bool true:=r'
    refine⟨rfl,OldK.of_keep fun b o e=>?_,os,bare⟩
    cases q:H b with
    | none=>exact un.keep b o e q (by intro z;exact absurd (show b∈([]:List Addr) from z) (by simp)) (by simp)
    | some u =>
     rcases hO b with z | ⟨ob,xs,z⟩
     ·rw[q]at z;cases z
     ·have z2:=un.jt b ob _ z
      obtain⟨e1,_⟩:=aA b _ z
      obtain⟨e2,_⟩:=abF b _ z2
      rw[e]at e1;cases e1
      exact e2
 cases hk:K.lookup a with
 | some o =>
  have e:=KX a o hk
  rw[ha]at e
  cases e
  refine core (fun _=>none) (fun _=>.inl rfl) (.inr ⟨_,vs.toArray,_,hk,rfl,rfl,rfl,by rw[cJ,abE];exact hl,by simpa using rv⟩) (fun b u z=>by have z':(none:Option HO)=some u:=z;cases z') (fun b z=>absurd rfl z) fun z=>absurd rfl z
 | none =>
  refine core (fun b=>if b=a then some (.iB { cls:= .type "list", data:= .seq vs.toArray } (.lst (ns.map V.int))) else none) (fun b=>?_) (.inl (.inr ⟨{ cls:= .type "list", data:= .seq vs.toArray },aI rfl⟩)) (fun b u z=>?_) (fun b z=>?_) fun _=>hk
  ·by_cases hb:b=a
   ·exact .inr ⟨_,_,aI hb⟩
   ·exact .inl (aE hb)
  ·by_cases hb:b=a
   ·have z':=(aI hb).symm.trans z
    cases z'
    subst hb
    exact⟨ha,by rw[ar];exact hl,vs,_,rv,ha⟩
   ·have z':=(aE hb).symm.trans z
    cases z'
  ·by_cases hb:b=a
   ·exact hb
   ·exact absurd (aE hb) z
end L2
namespace L2
open PySem PySem.Spec PyProof.Rows
theorem Yu {l:PySem.W.OpenLaw}{n k:Nat}{q:Program}{loose:List Str}{XP:(Str->Option Value)->Heap->Prop}{YP:World->Heap->Prop}{d:DefRec}{K:Params->PySem.W.Frag}{CX:World->ke}{sp:World->Sp}{x:Str}
  (hn:l.most=some n) (pU:n<=sizeLine) (xr:d.params.defaults = []) (hr:bQ k callerA)
  (hY:∀ (w:World) (h:Heap),YP w h->(K w.params).In h)
  (F:∀ (w:World) (mg:Str->Option Value) (fa:Addr) (h:Heap),(K w.params).In h->h.Ns mainGlobals mg->mg d.name=some (.ref fa) ->
   ∃fd:FuncData,(∀ (s:Shared) (u:Value),BindsTo s fd ⟨[u],[]⟩ [(x,u)]) /\
    ∀base:Heap,(K w.params).In base->base.Ns mainGlobals mg->aN l.prog w (K w.params) mg base (CX w) k fa fd [x] (sp w))
  (jA:∀ (w:World) (H:Hp) (a:Addr) (ns:List Int),ns.length<=n->D8 H->ai (K w.params) H a (ns.map V.int)->sp w [.ref a] H (fun v _=>v = .bl true) fun _ _ _=>False)
  (G5:∀ (w:World) (H:Hp) (s:Shared) (e:Value) (s':Shared),CX w [] H s (fun _ _ _=>False) e s'->False) :
  PySem.W.WalkO q loose XP YP l.row.toRowW d [] (fun f vs=>PySem.call f vs):=by
 refine QD.VN hn xr fun w cQ bh mg mb fa o pm cd doc a vs ns G Y ho hd f9 rQ D7 hints hlen hg=>?_
 have KX:=hY w _ Y
 obtain⟨fd,hb,hF⟩:=F w mg fa _ KX G.T.g rQ
 exact Xw KX G.T.g G.T.b G.T.builtins G.T.nolimit hg D7 hints (c9 hlen pU) hr hF hb (fun H hO hS=>jA w H a ns hlen hO hS) fun H e s'=>G5 w H bh e s'
end L2
namespace L2
open PySem PySem.Spec PyProof.Rows
def inClass (s:Stmt) (j:Nat):Stmt:=match s with
 | .ClassDef _ _ _ body _ _ _ _ _ _ _=>body.getD j (.Pass ⟨0,0,0,0⟩)
 | _=>.Pass ⟨0,0,0,0⟩
def cK (s:Stmt):Arguments:=match s with
 | .FunctionDef _ a _ _ _ _ _ _ _ _=>a
 | _=>{ posonlyargs:= [],args:= [],vararg:=none,kwonlyargs:= [],kw_defaults:= [],kwarg:=none,defaults:= [] }
def aU (s:Stmt):List Stmt:=match s with
 | .FunctionDef _ _ b _ _ _ _ _ _ _=>b
 | _=>[]
def aH (s:Stmt):Scope:=match s with
 | .FunctionDef _ _ _ _ _ _ sc _ _ _=>sc
 | _=>{ kind:= .function,names:= [],isGenerator:=false,isCoroutine:=false }
abbrev aS:ke:=fun _ _ _ _ _ _=>False
abbrev E0:XK:=fun _ _ _=>False
theorem bE {X:Cx}:Passes aS X E0:=fun _ _ _ _ _ _ _ h=>h.elim
structure bw (K:PySem.W.Frag) (x qual:Str) (st:Stmt) (f:Addr) (fd:FuncData):Prop where
 ex:∃ (oc:Value) (od:Option Addr) (kV doc pm:Value) (an:Option Addr) (aQ ct:Value) (lV:Array (Option Value)),
  fd=PySem.W.fnOf x qual (cK st) (aU st) (aH st) .none kV doc pm an aQ ct/\K.lookup f=some ⟨oc,od,.func fd,lV⟩/\PySem.W.codeIn K aQ qual=true
 kp:PySem.W.keepIn K (.ref f)=true
section
variable {P : Program} {w : World} {K : PySem.W.Frag} {mg : Str -> Option Value} {base : Heap}
theorem bw.ok {x qual:Str}{st:Stmt}{f:Addr}{fd:FuncData}{N ps:List Str}{k:Nat}{sp:Sp} (F:bw K x qual st f fd) (S:cO N ps (aH st)) (len:∀vs H Q E,sp vs H Q E->vs.length=ps.length)
  (qU:∀ (aQ:Value) (A:Around) (outer:List Env) (s:Shared) (H:Hp) (vs:List V) (Q:VK) (E:XK),bQ k (A.deeper (envOfC qual (aH st) s.heap.objs.size f aQ))->sp vs H Q E ->
   ∃t,gH (iS aS P w K mg base N qual (aH st) f aQ A outer s H E).xj (aU st) t/\t { nx:=fun _ H'=>Q .aG H',rt:=Q } (start N vs) H):aN P w K mg base aS (k+1) f fd ps sp:=by
 obtain⟨oc,od,kV,doc,pm,an,aQ,ct,lV,rfl,lk,f9⟩:=F.ex
 refine N8 lk f9 S len fun A outer s H vs Q E hr jA=>?_
 obtain⟨t,h,q⟩:=qU aQ A outer s H vs Q E hr jA
 exact⟨t,h.xj,q⟩
theorem bw.binds {x qual:Str}{st:Stmt}{f:Addr}{fd:FuncData}{ps:List Str} (F:bw K x qual st f fd)
  (h:∀ (kV doc pm:Value) (an:Option Addr) (aQ ct:Value) (us:List Value),us.length=ps.length->bindArgs (PySem.W.fnOf x qual (cK st) (aU st) (aH st) .none kV doc pm an aQ ct) ⟨us,[]⟩=pure (ps.zip us)):Binds K fd ps []:=by
 obtain⟨oc,od,kV,doc,pm,an,aQ,ct,lV,rfl,lk,f9⟩:=F.ex
 exact .all (h kV doc pm an aQ ct)
theorem dq {x qual:Str}{st:Stmt}{f:Addr}{oc:Value}{od an:Option Addr}{lV:Array (Option Value)}{kV doc pm aQ ct:Value} (l:K.lookup f=some ⟨oc,od,.func (PySem.W.fnOf x qual (cK st) (aU st) (aH st) .none kV doc pm an aQ ct),lV⟩)
  (c:PySem.W.codeIn K aQ qual=true) (k:PySem.W.keepIn K (.ref f)=true):bw K x qual st f (PySem.W.fnOf x qual (cK st) (aU st) (aH st) .none kV doc pm an aQ ct):=⟨⟨oc,od,kV,doc,pm,an,aQ,ct,lV,rfl,l,c⟩,k⟩
end
section
variable {X : Cx}
theorem pv (i:Nat) {x:Str}{pos:Pos} (hN:X.N[i]? = some x:=by rfl) (hv:GQ X.env.scope x:=by first | exact Or.inl rfl | exact Or.inr (Or.inl rfl)|exact Or.inr (Or.inr rfl)) (hd:(x==("__debug__" : Str))=false:=by decide)
  (f9:(x==("__classdict__" : Str))=false:=by decide):PE X (.Name x pos) (eu i):=Zm hN hv hd f9
end
theorem eM {c A B:Prop} [Decidable c] (h1:c->A) (h2 : ¬ c->B):if c then A else B:=by
 by_cases h:c
 ·rw[aI h]
  exact h1 h
 ·rw[aE h]
  exact h2 h
def aq (H H':Hp):Prop:= ∀b o,H b=some o->H' b=some o
theorem aq.refl (H:Hp):aq H H:=fun _ _ h=>h
theorem aq.trans {H H1 H2:Hp} (a:aq H H1) (b:aq H1 H2):aq H H2:=fun c o h=>b c o (a c o h)
theorem aq.free {H H':Hp} (e:aq H H') {l:Addr} (h:H' l=Option.none):H l=Option.none:=by
 cases q:H l with
 | none=>rfl
 | some o =>
  rw[e l o q]at h
  cases h
end L2
namespace L2
open PySem PySem.Spec PyProof.Rows
def g8 (cells:List (Str×Addr)):List (Str×NameKind)->List (Str×Addr)->List (Str×Addr)
 | [],acc=>acc
 | (n,k)::r,acc=>if k == .free then g8 cells r ((n,(cells.lookup n).getD 0)::acc) else g8 cells r acc
theorem KI {env:Env}{scope:Scope} (h:∀n,(n,NameKind.free)∈scope.names -> ∃c,env.cells.lookup n=some c) :
  closureFor scope env=pure (g8 env.cells scope.names []):=by
 have key:∀ (names:List (Str×NameKind)) (acc:List (Str×Addr)),(∀n,(n,NameKind.free)∈names -> ∃c,env.cells.lookup n=some c) ->
   (forIn (m:=Sem) names acc fun x r=>match x with | (name,kind)=>if (kind==NameKind.free)=true then (do let a <- cellOf env name;pure (ForInStep.yield ((name,a)::r))) else pure (ForInStep.yield r))=pure (g8 env.cells names acc):=by
  intro names
  induction names with
  | nil=>intro acc _;rfl
  | cons x r ih =>
   intro acc hx
   obtain⟨n,k⟩:=x
   rw[List.forIn_cons]
   unfold g8
   by_cases hk:k = .free
   ·subst hk
    obtain⟨c,hc⟩:=hx n aZ
    simp only[beq_self_eq_true,mn]
    have e:cellOf env n=pure c:=by unfold cellOf;rw[hc]
    rw[e,hc]
    exact ih _ fun m hm=>hx m (bX _ hm)
   ·have hb:(k==NameKind.free)=false:=by simpa using hk
    simp only[hb,UA,yE]
    exact ih _ fun m hm=>hx m (bX _ hm)
 unfold closureFor
 have:=key scope.names [] h
 show((forIn (m:=Sem) scope.names [] fun x r=>match x with | (name,kind)=>if (kind==NameKind.free)=true then (do let a <- cellOf env name;pure (ForInStep.yield ((name,a)::r))) else pure (ForInStep.yield r)) >>= fun cs=>pure cs)=_
 rw[this]
 rfl
theorem sO:∀ (names:List (Str×NameKind)) (n:Nat) (acc:List (Str×Addr)),cellsFrom n names acc=cellsFrom n names []++acc
 | [],_,_=>rfl
 | (name,kind)::r,n,acc=>by
  unfold cellsFrom
  split
  ·rw[sO r (n+1) ((name,n)::acc),sO r (n+1) [(name,n)],B6];rfl
  ·exact sO r n acc
theorem yZ {cells:List (Str×Addr)}:∀ (names:List (Str×NameKind)) (acc:List (Str×Addr)) (x:Str) (c:Addr),(g8 cells names acc).lookup x=some c ->
  (acc.lookup x=some c)\/((x,NameKind.free)∈names/\c=(cells.lookup x).getD 0)
 | [],acc,x,c,h=>.inl h
 | (n,k)::r,acc,x,c,h=>by
  unfold g8 at h
  split at h
  ·rename_i hk
   have xt:k = .free:=by simpa using hk
   subst xt
   rcases yZ r _ x c h with z | ⟨z,e⟩
   ·rw[iE]at z
    cases hb:x==n with
    | true=>rw[hb]at z;cases z;rw[eN.mp hb];exact .inr ⟨aZ,rfl⟩
    | false=>rw[hb]at z;exact .inl z
   ·exact .inr ⟨bX _ z,e⟩
  ·rcases yZ r _ x c h with z | ⟨z,e⟩
   ·exact .inl z
   ·exact .inr ⟨bX _ z,e⟩
theorem CI {cells:List (Str×Addr)}:∀ (names:List (Str×NameKind)) (acc:List (Str×Addr)) (x:Str),(∃c,acc.lookup x=some c) -> ∃c,(g8 cells names acc).lookup x=some c
 | [],acc,x,h=>h
 | (n,k)::r,acc,x,h=>by
  unfold g8
  split
  ·refine CI r _ x ?_
   obtain⟨c,h⟩:=h
   rw[iE]
   cases hb:x==n with
   | true=>exact⟨_,rfl⟩
   | false=>exact⟨c,h⟩
  ·exact CI r _ x h
theorem zf {cells:List (Str×Addr)}:∀ (names:List (Str×NameKind)) (acc:List (Str×Addr)) (x:Str),(x,NameKind.free)∈names -> ∃c,(g8 cells names acc).lookup x=some c
 | [],acc,x,h=>by simp at h
 | (n,k)::r,acc,x,h=>by
  unfold g8
  rcases a9.mp h with e | h
  ·cases e
   simp only[beq_self_eq_true,mn]
   exact CI r _ _ ⟨(cells.lookup n).getD 0,by rw[iE];simp⟩
  ·split
   ·exact zf r _ x h
   ·exact zf r _ x h
theorem yV:∀ (names:List (Str×NameKind)) (n:Nat) (acc:List (Str×Addr)) (x:Str) (c:Addr),(x,c)∈cellsFrom n names acc->(x,c)∈acc\/(x,NameKind.cell)∈names
 | [],_,_,_,_,h=>.inl h
 | (name,kind)::r,n,acc,x,c,h=>by
  unfold cellsFrom at h
  split at h
  ·rename_i hk
   have xt:kind = .cell:=by simpa using hk
   subst xt
   rcases yV r _ _ x c h with z | z
   ·rcases a9.mp z with e | z
    ·cases e;exact .inr aZ
    ·exact .inl z
   ·exact .inr (bX _ z)
  ·rcases yV r _ _ x c h with z | z
   ·exact .inl z
   ·exact .inr (bX _ z)
structure cp (N:List Str) (QF:Scope) (N':List Str) (cW:List (Option Nat)) (sc:Scope):Prop where
 kind:sc.kind = .function
 keys:(sc.names.map (·.1)).Nodup
 nd:N'.Nodup
 len:cW.length=N'.length
 fv:∀ (j i:Nat),cW[j]? = some (some i) -> ∃x,N[i]? = some x/\N'[j]? = some x/\sc.names.lookup x=some .free
 free:∀p∈sc.names,p.2 = .free->QF.names.lookup p.1=some .cell\/QF.names.lookup p.1=some .free
theorem vB {α:Type}:∀ {l:List (Str×α)},(l.map (·.1)).Nodup -> ∀ {x:Str}{k:α},(x,k)∈l->l.lookup x=some k
 | (n,v)::r,hn,x,k,h=>by
  obtain⟨h1,h2⟩:=fV.mp hn
  rw[iE]
  rcases a9.mp h with e | hm
  ·cases e;simp
  ·have:(x==n)=false:=by
    rw[oz]
    intro e
    exact h1 (bj.mpr ⟨_,hm,e⟩)
   rw[this]
   exact vB h2 hm
def Mb (scope:Scope) (L:Addr) (env:Env):Env:=
 { scope:=relabel scope env,locals:=L,globals:=env.globals,cells:=cellsFrom (L+1) scope.names (g8 env.cells scope.names []),qual:=env.qual,func:=none,code:=env.code,frame:=env.frame,builtins:=env.builtins }
theorem VO {M:Model}{A:Around}{E:Value->Shared->Prop}{s:Shared}{scope:Scope}{globals:Addr}{cl:List (Str×Addr)}{qual:Str}{env:Env}{Q:Env->Shared->Prop}
  (hQ:∀h',h'.Ns s.heap.objs.size (fun _=>none)->(∀b o,s.heap.get? b=some o->h'.get? b=some o)->(∀x c,(x,c)∈cellsFrom (s.heap.objs.size+1) scope.names []->h'.IsCell c none/\s.heap.objs.size < c) ->
   ((cellsFrom (s.heap.objs.size+1) scope.names []).Pairwise fun x y=>x.2≠y.2) ->
   Q { scope:=scope,locals:=s.heap.objs.size,globals:=globals,cells:=cellsFrom (s.heap.objs.size+1) scope.names cl,qual:=qual,func:=none,code:=env.code,frame:=env.frame,builtins:=env.builtins } { s with heap:=h' }) :
  wpAny M A (newFunctionEnv scope globals cl [] qual none .none (some env)) Q E s:=by
 simp only[newFunctionEnv,Option.isSome_some,mn]
 refine ag (wpAny_alloc ?_)
 refine ag (wpAny_layCells _ (fun name kind cells=>by cases xu:kind==NameKind.cell <;> simp[xu]) _ _ _ _ ?_)
 have ok:=cellsFrom_ok scope.names (s.heap.push { cls:= .type "dict", data:= .dict #[] }) (s.heap.objs.size+1) [] ⟨fun _ _ hm=>(nomatch hm),List.Pairwise.nil⟩ (by rw[sA];exact aO _)
 rw[sA]at ok
 rw[show({ s with heap:=s.heap.push { cls:= .type "dict", data:= .dict #[] } }:Shared).heap.objs.size=s.heap.objs.size+1 from sA ..]
 rw[List.forIn_nil]
 refine ag (au (au ?_))
 exact hQ _ ((Heap.Ns.new s.heap (.type "dict")).keeps (pushCells_keeps _ _)) (fun b o e=>pushCells_keeps _ _ b o (bx _ e)) (fun x c hm=>⟨(ok.empty x c hm).1,(ok.empty x c hm).2⟩) ok.apart
def gn (X:Cx) (N':List Str) (scope:Scope) (s2:Shared) (H2:Hp) (fp:List Addr):Cx:=
 { X with N:=N',cQ:=s2,iQ:=H2,env:=Mb scope s2.heap.objs.size X.env,outer:=X.stack,stack:=X.stack,ex:=fp,fn:=fun x=>scope.names.lookup x==some .cell,pn:= [],xe:=fun _ _=>False }
theorem Cj {env:Env}:∀ {names:List (Str×NameKind)}{x:Str}{k:NameKind},
  (names.map fun(n,k)=>if (k==NameKind.free && env.scope.kind == .function && env.kindOf n==some .cell) then (n,NameKind.cell) else (n,k)).lookup x=some k ->
  ∃k0,names.lookup x=some k0/\(k=k0\/(k0 = .free/\k = .cell))
 | [],_,_,h=>by simp at h
 | (n,k0)::r,x,k,h=>by
  have ih:=@Cj env r x k
  have h':List.lookup x ((if (k0==NameKind.free && env.scope.kind == .function && env.kindOf n==some .cell)=true then (n,NameKind.cell) else (n,k0))::_)=some k:=h
  rw[iE]
  by_cases hc:(k0==NameKind.free && env.scope.kind == .function && env.kindOf n==some .cell)=true
  ·rw[aI hc,iE]at h'
   cases hx:x==n with
   | true =>
    rw[hx]at h';cases h'
    have:k0 = .free:=by
     have z:=hc
     rw[gY,gY]at z
     simpa using z.1.1
    exact⟨k0,rfl,.inr ⟨this,rfl⟩⟩
   | false=>rw[hx]at h';exact ih h'
  ·rw[aE hc,iE]at h'
   cases hx:x==n with
   | true=>rw[hx]at h';cases h';exact⟨k0,rfl,.inl rfl⟩
   | false=>rw[hx]at h';exact ih h'
theorem Ci {env:Env}:∀ {names:List (Str×NameKind)}{x:Str},names.lookup x=some .free ->
  (names.map fun(n,k)=>if (k==NameKind.free && env.scope.kind == .function && env.kindOf n==some .cell) then (n,NameKind.cell) else (n,k)).lookup x=some .cell \/
  (names.map fun(n,k)=>if (k==NameKind.free && env.scope.kind == .function && env.kindOf n==some .cell) then (n,NameKind.cell) else (n,k)).lookup x=some .free
 | [],_,h=>by simp at h
 | (n,k0)::r,x,h=>by
  have ih:=@Ci env r x
  show List.lookup x ((if (k0==NameKind.free && env.scope.kind == .function && env.kindOf n==some .cell)=true then (n,NameKind.cell) else (n,k0))::_)=_\/List.lookup x ((if (k0==NameKind.free && env.scope.kind == .function && env.kindOf n==some .cell)=true then (n,NameKind.cell) else (n,k0))::_)=_
  rw[iE]at h
  cases hx:x==n with
  | true =>
   rw[hx]at h;cases h
   by_cases hc:(NameKind.free==NameKind.free && env.scope.kind == .function && env.kindOf n==some .cell)=true
   ·rw[aI hc,iE,hx];exact .inl rfl
   ·rw[aE hc,iE,hx];exact .inr rfl
  | false =>
   rw[hx]at h
   by_cases hc:(k0==NameKind.free && env.scope.kind == .function && env.kindOf n==some .cell)=true
   ·rw[aI hc,iE,hx];exact ih h
   ·rw[aE hc,iE,hx];exact ih h
def pick (cW:List (Option Nat)) (σ:St):St:=cW.map fun o=>o.bind fun i=>(σ[i]?).join
section
variable {X : Cx} {pins : List (Addr × Obj)} {σ : St} {H : Hp} {s2 : Shared} {N' : List Str} {cW : List (Option Nat)} {scope : Scope} {fp : List Addr} {h' : Heap}
theorem CJ (I:Inv X pins σ H s2) (S:cp X.N X.env.scope N' cW scope) {x:Str} (hx:(x,NameKind.free)∈scope.names):∃c,X.env.cells.lookup x=some c:=
 I.ok.has x (S.free _ hx rfl)
theorem Wc (I:Inv X pins σ H s2) (S:cp X.N X.env.scope N' cW scope) {n:Nat}{x:Str}{c:Addr} (h:(cellsFrom n scope.names (g8 X.env.cells scope.names [])).lookup x=some c) :
  ((x,c)∈cellsFrom n scope.names []/\(x,NameKind.cell)∈scope.names)\/((x,NameKind.free)∈scope.names/\X.env.cells.lookup x=some c):=by
 rw[sO,UB]at h
 cases e:(cellsFrom n scope.names []).lookup x with
 | some d =>
  rw[e]at h
  have z:d=c:=by simpa using h
  subst z
  have m:=oE e
  rcases yV _ _ _ _ _ m with z | z
  ·simp at z
  ·exact .inl ⟨m,z⟩
 | none =>
  rw[e]at h
  have h':(g8 X.env.cells scope.names []).lookup x=some c:=by simpa using h
  rcases yZ _ _ _ _ h' with z | ⟨z,e2⟩
  ·simp at z
  ·obtain⟨c0,h0⟩:=CJ I S z
   rw[h0]at e2
   exact .inr ⟨z,by rw[h0,e2];rfl⟩
theorem Xx (I:Inv X pins σ H s2) (S:cp X.N X.env.scope N' cW scope) (xv:∀b∈fp,iR X pins H b) (hfo:∀b∈fp,∃o,s2.heap.get? b=some o)
  (hn:h'.Ns s2.heap.objs.size (fun _=>none)) (hk:∀b o,s2.heap.get? b=some o->h'.get? b=some o)
  (hc:∀x c,(x,c)∈cellsFrom (s2.heap.objs.size+1) scope.names []->h'.IsCell c none/\s2.heap.objs.size < c) (hp:(cellsFrom (s2.heap.objs.size+1) scope.names []).Pairwise fun x y=>x.2≠y.2) :
  Inv (gn X N' scope s2 H fp) [] (pick cW σ) H { s2 with heap:=h' }:=by
 have old:∀ {x:Str}{c:Addr},X.env.cells.lookup x=some c->c < s2.heap.objs.size:=fun {x c} e=>let ⟨_,q⟩:=I.cell x c e;q.lt
 have cc:∀ {x:Str}{c:Addr},(gn X N' scope s2 H fp).env.cells.lookup x=some c->((x,c)∈cellsFrom (s2.heap.objs.size+1) scope.names []/\(x,NameKind.cell)∈scope.names)\/((x,NameKind.free)∈scope.names/\X.env.cells.lookup x=some c):=
  fun {x c} e=>Wc I S e
 have isc:∀ {x:Str}{c:Addr},(gn X N' scope s2 H fp).env.cells.lookup x=some c -> ∃v,h'.IsCell c v:=fun {x c} e=>by
  rcases cc e with⟨m,_⟩|⟨_,e0⟩
  ·exact⟨_,(hc x c m).1⟩
  ·obtain⟨v,q⟩:=I.cell x c e0
   exact⟨v,q.keeps hk⟩
 have jY:∀b∈fp,b < s2.heap.objs.size:=fun b hb=>let ⟨_,e⟩:=hfo b hb;bq e
 refine⟨⟨I.ok.mod,S.kind,I.ok.glob,I.ok.blt,aO _,fun x y c e1 e2=>?_,fun x hx=>?_,fun x c hx e=>?_,I.ok.hd,I.ok.frames,.inl rfl,fun b hb=>⟨cu (jY b hb),fun x c e z=>?_⟩,I.bs,?_,fun b o e hb=>?_,fun b hb pV=>?_,I.stack,I.zA⟩,
  rfl,I.bare,Un.kept hk,⟨_,hn,fun j x v e1 e2 e3=>?_⟩,fun x c e=>isc e,I.aA.fresh (aO _),fun x c e=>?_,fun p hp=>absurd (show p∈([]:List (Addr×Obj)) from hp) (by simp),I.aA.kept hk,?_⟩
 ·rcases cc e1 with⟨m1,_⟩|⟨_,o1⟩ <;> rcases cc e2 with⟨m2,_⟩|⟨_,o2⟩
  ·exact name_of_addr hp m1 m2
  ·exact absurd (vt (hc _ _ m1).2 (old o2)) (qt _)
  ·exact absurd (vt (hc _ _ m2).2 (old o1)) (qt _)
  ·exact I.ok.inj x y c o1 o2
 ·have hk0:∃k0,scope.names.lookup x=some k0/\(k0 = .cell\/k0 = .free):=by
   rcases hx with hx | hx
   ·obtain⟨k0,e,z⟩:=Cj (env:=X.env) hx
    refine⟨k0,e,?_⟩
    rcases z with z | z
    ·exact .inl z.symm
    ·exact .inr z.1
   ·obtain⟨k0,e,z⟩:=Cj (env:=X.env) hx
    refine⟨k0,e,?_⟩
    rcases z with z | z
    ·exact .inr z.symm
    ·exact .inr z.1
  obtain⟨k0,e,z⟩:=hk0
  show ∃c,(cellsFrom (s2.heap.objs.size+1) scope.names (g8 X.env.cells scope.names [])).lookup x=some c
  rw[sO,UB]
  rcases z with rfl | rfl
  ·obtain⟨c,nR⟩:=CV (n:=s2.heap.objs.size+1) e
   exact⟨c,by rw[nR];rfl⟩
  ·cases q:(cellsFrom (s2.heap.objs.size+1) scope.names []).lookup x with
   | some d=>exact⟨d,rfl⟩
   | none =>
    obtain⟨c,nR⟩:=zf (cells:=X.env.cells) scope.names [] x (oE e)
    exact⟨c,by rw[nR];rfl⟩
 ·have eZ:scope.names.lookup x=some .cell:=by simpa [gn] using hx
  rcases cc e with⟨m,_⟩|⟨m,_⟩
  ·exact yC (hc _ _ m).2
  ·rw[vB S.keys m]at eZ;cases eZ
 ·rcases cc e with⟨m,_⟩|⟨_,o1⟩
  ·have:=jY b hb
   rw[<-z]at this
   exact absurd (vt (hc _ _ m).2 this) (qt _)
  ·exact(xv b hb).2.2.2.2.1 x c o1 z
 ·exact c9 I.ok.jy I.sz
 ·rcases (xv b hb).2.2.2.1 with z | z
  ·exact I.ok.nF b o e z
  ·exact absurd (ig (bq (I.ok.bs b o e).1) z) (qt _)
 ·have:=I.vX b pV
  rcases a9.mp this with z | z
  ·exact(xv b hb).2.1 z
  ·exact(xv b hb).2.2.1 z
 ·
  have xw:(cW[j]?).bind (fun o=>some (o.bind fun i=>(σ[i]?).join))=some (some v):=by
   have xx:(cW.map fun o=>o.bind fun i=>(σ[i]?).join)[j]? = some (some v):=e2
   rw[gX]at xx
   cases q:cW[j]? with
   | none=>rw[q]at xx;cases xx
   | some o=>rw[q]at xx;exact xx
  cases q:cW[j]? with
  | none=>rw[q]at xw;cases xw
  | some o =>
   rw[q]at xw
   cases o with
   | none=>simp at xw
   | some i =>
    have uN:(σ[i]?).join=some v:=by simpa using xw
    have e4:σ[i]? = some (some v):=by
     cases q2:σ[i]? with
     | none=>rw[q2]at uN;cases uN
     | some z=>rw[q2]at uN;rw[show z=some v from uN]
    obtain⟨y,xy,xA,xB⟩:=S.fv j i q
    have exy:x=y:=by
     have QG:N'[j]? = some x:=e1
     rw[xA]at QG;exact(ie QG).symm
    subst exy
    obtain⟨m,hm,hl⟩:=I.loc
    have hf:=S.free _ (oE xB) rfl
    obtain⟨u,r,lk⟩:=hl i x v xy e4 (by rcases hf with z | z;exact .inr (.inl z);exact .inr (.inr z))
    refine⟨u,r,.inr ⟨Ci xB,?_⟩⟩
    rcases lk with⟨k,_⟩|⟨_,c,ec,ic⟩
    ·have k':X.env.scope.names.lookup x=some .local:=k
     rcases hf with z | z <;> (rw[z]at k';cases k')
    ·refine⟨c,?_,ic.keeps hk⟩
     show(cellsFrom (s2.heap.objs.size+1) scope.names (g8 X.env.cells scope.names [])).lookup x=some c
     rw[sO,UB]
     cases q3:(cellsFrom (s2.heap.objs.size+1) scope.names []).lookup x with
     | some d =>
      rcases yV _ _ _ _ _ (oE q3) with z | z
      ·simp at z
      ·rw[vB S.keys z]at xB;cases xB
     | none =>
      obtain⟨c',nR⟩:=zf (cells:=X.env.cells) scope.names [] x (oE xB)
      rcases yZ _ _ _ _ nR with z | ⟨_,e5⟩
      ·simp at z
      ·rw[ec]at e5
       rw[nR,e5];rfl
 ·rcases cc e with⟨m,_⟩|⟨_,o1⟩
  ·exact I.aA.fresh (yC (hc _ _ m).2)
  ·exact I.g6 x c o1
 ·show(cW.map _).length=N'.length
  rw[ar,S.len]
end
end L2
namespace L2
open PySem PySem.Spec PyProof.Rows
def wK (X:Cx) (ifs:List Expr) (t:TT):Prop:=
 ∀ (pins:List (Addr×Obj)) (s:Shared) (σ:St) (H:Hp) (Q:Bool->Hp->Prop),Inv X pins σ H s->t σ H Q ->
  wpAny (model X.prog X.w) X.A (forIn ifs true fun c r=>if r=true then do let ok <- isTrue c X.env (eval c X.env);pure (ForInStep.yield ok) else pure (ForInStep.yield r)) (TP X pins σ Q) X.xe s
def wt:TT:=fun _ H Q=>Q true H
section
variable {X : Cx}
theorem dh:wK X [] wt:=fun _ _ _ H _ I h=>wpAny_tests_nil ⟨H,I,h⟩
theorem oQ {c:Expr}{t:TT} (h:PT X c t):wK X [c] t:=fun pins s σ H Q I hw=>wpAny_tests_one (h pins s σ H Q I hw)
end
theorem Vl {prog:Program}{w:World}{A:Around}{R:Result->Shared->Prop}{s:Shared}{elt target iter:Expr}{ifs:List Expr}{scope:Scope}{pos:Pos}{it acc:Value}{env:Env} (I:Nat->Shared->Prop)
  (turn:∀n s,I n s->wpAny (model prog w) A (pyNext it) (fun r s1=>match r with
   | none=>R (.ok .next) s1
   | some v=>wpAny (model prog w) A (letOwnedTupleGo target it v) (fun _ s2=>wpAny (model prog w) A (assign target env v) (fun _ s3 =>
     wpAny (model prog w) A (forIn ifs true fun c r=>if r=true then do let ok <- isTrue c env (eval c env);pure (ForInStep.yield ok) else pure (ForInStep.yield r)) (fun ok s4 =>
      if ok=true then wpAny (model prog w) A (eval elt env) (fun x s5 =>
       wpAny (model prog w) A (call (.builtin "list.append") [acc,x]) (fun _ s6=>∃m,m < n/\I m s6) (fun _ _=>False) s5) (fun _ _=>False) s4
      else ∃m,m < n/\I m s4) (fun _ _=>False) s3) (fun _ _=>False) s2) (fun _ _=>False) s1) (fun _ _=>False) s)
  (n:Nat) (h:I n s) :
  codeAny (model prog w) A (.compLoop (.ListComp elt [⟨target,iter,ifs,0⟩] scope pos) 0 it acc env) R s:=by
 refine codeAny_loop rfl I (fun n s hI=>?_) n h
 show wpAny _ A ((compTurn (.ListComp elt [⟨target,iter,ifs,0⟩] scope pos) 0 it acc env).onRaise (fun x=>do noteFrame x env;theTreesLotGoes x)) _ _ s
 refine wpAny_noted (UC ?_)
 rw[compTurn_list]
 refine ag (sr (ag (aJ (turn n s hI) fun r s1 h1=>?_)))
 cases r with
 | none=>exact au h1
 | some v =>
  refine ag (aJ h1 fun _ s2 h2=>ag (aJ h2 fun _ s3 h3=>ag (aJ h3 fun ok s4 h4=>?_)))
  cases ok with
  | false=>exact au ⟨rfl,h4⟩
  | true=>exact ag (ag (aJ h4 fun x s5 h5=>ag (aJ h5 fun _ s6 h6=>au (au ⟨rfl,h6⟩))))
def kZ (J:It) (g:TG) (ti:TT) (te:TE) (iC:St) (Q:VK) (p:Addr) (H1:Hp):Prop:=
 ∃W:Nat->Nat->List V->St->Hp->Prop,(∃m,W 0 m [] iC (upd H1 p (.lst []))) /\ ∀i m ys τ H2,W i m ys τ H2->H2 p=some (.lst ys) /\
  ((J.stop i H2/\Q (.ref p) H2)\/(J.go i H2 /\ ∀x H3,J.rJ i H2 x H3->g x τ H3 fun d4 H4=>ti d4 H4 fun b H5 =>
   if b=true then te d4 H5 fun y H6=>H6 p=some (.lst ys)/\ys.length < sizeLine /\ ∃m',m' < m/\W (i+1) m' (ys ++ [y]) d4 (upd H6 p (.lst (ys ++ [y])))
   else ∃m',m' < m/\W (i+1) m' ys d4 H5))
def N9 (wi:TI) (cW:List (Option Nat)) (g:TG) (ti:TT) (te:TE):TE:=fun σ H Q=>wi σ H fun J H1=>∀p,H1 p=none->kZ J g ti te (pick cW σ) Q p H1
section
variable {X : Cx} {pins : List (Addr × Obj)} {σ : St} {H2 : Hp} {s2 : Shared} {N' : List Str} {cW : List (Option Nat)} {scope : Scope} {tg elt iter : Expr} {ifs : List Expr} {pos : Pos}
def CompEnd (X:Cx) (pins:List (Addr×Obj)) (σ:St) (Q:VK) (acc:Value) (C:Addr) (s':Shared):Prop:=
 ∃ (p:Addr) (H':Hp),acc = .ref p/\Inv X pins σ H' s'/\iR X pins H' C/\(∃m,s'.heap.Ns C m)/\Q (.ref p) H'
theorem LC {J:It}{fp:List Addr}{it:Addr}{tn:Nat->Heap->Prop}{g:TG}{ti:TT}{te:TE}{Q:VK}{E:Value->Shared->Prop}{RR:Value->Addr->Result->Shared->Prop} (hc:X.calm=true) (S:cp X.N X.env.scope N' cW scope)
  (I2:Inv X pins σ H2 s2) (T:Turn X.prog X.w X.K tg J fp it tn) (st:tn 0 s2.heap) (hf:∀b∈fp,iR X pins H2 b)
  (hb:∀s H fp,PG (gn X N' scope s H fp) tg g/\wK (gn X N' scope s H fp) ifs ti/\PE (gn X N' scope s H fp) elt te)
  (hw:∀p,H2 p=none->kZ J g ti te (pick cW σ) Q p H2) (hR:∀acc C s',CompEnd X pins σ Q acc C s'->RR acc C (.ok .next) s') :
  wpAny (model X.prog X.w) X.A (newList []) (fun acc s3=>wpAny (model X.prog X.w) X.A (newFunctionEnv scope X.env.globals (g8 X.env.cells scope.names []) [] X.env.qual none .none (some X.env)) (fun OM s4 =>
   codeAny (model X.prog X.w) X.A (.compStart (.ListComp elt [⟨tg,iter,ifs,0⟩] scope pos) 0 (.ref it) acc { OM with scope:=relabel scope X.env }) (RR acc OM.locals) s4) E s3) E s2:=by
 refine mq ?_
 have I3:Inv X pins σ (upd H2 s2.heap.objs.size (.lst [])) { s2 with heap:=s2.heap.push { cls:= .type "list", data:= .seq ([]:List Value).toArray } }:=
  I2.D6 (its:= []) (t':=s2.toks) .nil (bY _)
 have hp:=hw s2.heap.objs.size I2.fresh
 generalize e3:({ s2 with heap:=s2.heap.push { cls:= .type "list", data:= .seq ([]:List Value).toArray } }:Shared)=s3 at I3 ⊢
 generalize eH:upd H2 s2.heap.objs.size (.lst [])=H3 at I3 hp
 have jY:∀b∈fp,b < s2.heap.objs.size:=fun b hb=>let ⟨_,e,_⟩:=T.obj _ _ st b hb;bq e
 have get3:∀b o,s2.heap.get? b=some o->s3.heap.get? b=some o:=fun b o e=>by rw[<-e3];exact bx _ e
 have xn:tn 0 s3.heap:=T.keep _ _ _ st fun b _ o e=>get3 b o e
 have lX:∀b∈fp,iR X pins H3 b:=fun b hb=>⟨by rw[<-eH,aj (cu (jY b hb))];exact(hf b hb).1,(hf b hb).2⟩
 have ho3:∀b∈fp,∃o,s3.heap.get? b=some o:=fun b hb=>let ⟨o,e,_⟩:=T.obj _ _ xn b hb;⟨o,e⟩
 refine VO fun h4 hn hk iD hpw=>?_
 have I4:Inv (gn X N' scope s3 H3 fp) [] (pick cW σ) H3 { s3 with heap:=h4 }:=Xx I3 S lX ho3 hn hk iD hpw
 have QH:tn 0 ({ s3 with heap:=h4 }:Shared).heap:=T.keep _ _ _ xn fun b _ o e=>hk b o e
 obtain⟨hG,hI,hE⟩:=hb s3 H3 fp
 obtain⟨W,⟨m0,w0⟩,turn⟩:=hp
 rw[eH]at w0
 have rj:∀ {H':Hp},(∀b∈fp,H' b=none) -> ∀b∈fp,iR (gn X N' scope s3 H3 fp) [] H' b:=fun hn b hb =>
  ⟨hn b hb,(I4.ok.pO b hb).1,I4.ok.nG b hb,.inl hb,fun x c e=>(I4.ok.pO b hb).2 x c e,fun p hp=>absurd (show p∈([]:List (Addr×Obj)) from hp) (by simp)⟩
 have loop:codeAny (model X.prog X.w) X.A (.compLoop (.ListComp elt [⟨tg,iter,ifs,0⟩] scope pos) 0 (.ref it) (.ref s2.heap.objs.size) (Mb scope s3.heap.objs.size X.env))
   (RR (.ref s2.heap.objs.size) s3.heap.objs.size) { s3 with heap:=h4 }:=by
  refine Vl (fun n s'=>∃i ys τ H',Inv (gn X N' scope s3 H3 fp) [] τ H' s'/\tn i s'.heap/\(∀b∈fp,H' b=none)/\W i n ys τ H') ?_ m0 ⟨0,[],_,H3,I4,QH,fun b hb=>(lX b hb).1,w0⟩
  rintro n s5 ⟨i,ys,τ,H5,I5,uJ,AO,w5⟩
  obtain⟨AZ,w5⟩:=turn i n ys τ H5 w5
  rcases w5 with⟨stop,qn⟩|⟨go,step⟩
  ·refine aJ (T.done (gn X N' scope s3 H3 fp) rfl rfl rfl hc i [] s5 τ H5 _ I5 (rj AO) uJ stop) fun r s6 ⟨hr,I6⟩=>?_
   subst hr
   refine hR _ _ _ ⟨_,H5,rfl,?_,?_,?_,qn⟩
   ·exact I3.zR (s':=s6) (ch:=fp) I6.os I6.base I6.aA I6.bare fun b hb=>⟨(lX b hb).2.2.2.1,(lX b hb).2.1,(lX b hb).2.2.2.2.1,(lX b hb).2.2.2.2.2⟩
   ·exact I3.nH (aO _) I6.free
   ·obtain⟨m,hm,_⟩:=I6.loc
    exact⟨m,hm⟩
  ·refine aJ (T.item (gn X N' scope s3 H3 fp) rfl rfl rfl hc i [] s5 τ H5 _ I5 (rj AO) uJ go) fun r s6 ⟨u,hr,h6⟩=>?_
   subst hr
   refine aJ h6 fun _ s7 ⟨x,H7,I7,r7,y7,G7,fr7⟩=>?_
   have I7':=I7.pinned (rj fr7) (T.obj _ _ G7)
   refine aJ (hG _ s7 τ H7 x u _ I7' r7 (step x H7 y7)) fun _ s8 ⟨G8,H8,I8,q8⟩=>?_
   refine aJ (hI _ s8 G8 H8 _ I8 q8) fun b s9 ⟨H9,I9,q9⟩=>?_
   have again:∀ {jb:St}{H':Hp}{s':Shared}{kf:List V}{m':Nat},Inv (gn X N' scope s3 H3 fp) ([]++vY fp s7.heap) jb H' s'->m' < n->W (i+1) m' kf jb H' ->
     ∃m,m < n /\ ∃i ys τ H',Inv (gn X N' scope s3 H3 fp) [] τ H' s'/\tn i s'.heap/\(∀b∈fp,H' b=none)/\W i m ys τ H':=fun {jb H' s' kf m'} I' hm w'=>by
    refine⟨m',hm,i+1,kf,jb,H',I'.zt,T.keep _ _ _ G7 fun b hb o e=>(I'.pin (b,o) (gW _ (gW _ (y9 hb e)))).1,fun b hb=>?_,w'⟩
    obtain⟨o,e,d⟩:=T.obj _ _ G7 b hb
    exact(I'.pin (b,o) (gW _ (gW _ (y9 hb e)))).2.1
   cases b with
   | false =>
    obtain⟨m',hm,w'⟩:=q9
    exact again I9 hm w'
   | true =>
    refine aJ (hE _ s9 G8 H9 _ I9 q9) fun y s10 ⟨z,A0,I10,r10,abG,abH,m',hm,w'⟩=>?_
    refine aJ (qL _ s10 G8 A0 (.ref s2.heap.objs.size) [z] (.ref s2.heap.objs.size) [y] (fun _ H'=>H'=upd A0 s2.heap.objs.size (.lst (ys ++ [z]))) I10 rfl (.cons r10 .nil) ⟨_,_,_,rfl,rfl,abG,abH,rfl⟩) fun _ s11 ⟨_,G9,I11,_,e11⟩=>?_
    subst e11
    exact again I11 hm w'
 exact codeAny_compStart_list loop (T.self X.A 0 _ _ _ QH loop)
theorem dg {wi:TI}{g:TG}{ti:TT}{te:TE} (hc:X.calm=true) (S:cp X.N X.env.scope N' cW scope) (hi:PI X tg iter wi)
  (hb:∀s H fp,PG (gn X N' scope s H fp) tg g/\wK (gn X N' scope s H fp) ifs ti/\PE (gn X N' scope s H fp) elt te)
  (hs:∀x,foldedSetIterable iter X.env x=pure x:=by intro _;rfl):PE X (.ListComp elt [⟨tg,iter,ifs,0⟩] scope pos) (N9 wi cW g ti te):=by
 intro pins s σ H Q I h
 rw[eval_ListComp]
 refine wpAny_comprehension_free (use:=none) rfl hs (KI fun n hn=>CJ I S hn) S.kind (fun x hx hl=>vB S.keys (by rw[<-hl];exact hx)) ?_
 refine aJ (hi pins s σ H _ I h) fun v s1 h1=>aJ h1 fun AN s2 h2=>?_
 obtain⟨it,fp,tn,J,H2,e,I2,T,xm,f2,hw⟩:=h2
 subst e
 refine LC (RR:=fun acc C=>compPost (model X.prog X.w) X.A X.xe none (EP X pins σ Q) acc C) hc S I2 T xm f2 hb hw ?_
 rintro acc C s' ⟨p,H',rfl,I',fC,⟨m,hm⟩,q⟩
 refine⟨m,hm,fun h' lY=>⟨.ref p,H',?_,rfl,q⟩⟩
 exact I'.turned (it:=C) (t':=s'.toks) (fun b o hb e=>(lY.2 b hb).trans e) fC.1 fC.2.1 fC.2.2.2.1 fC.2.2.2.2.1 fC.2.2.2.2.2
theorem qJ {wi:TI}{g:TG}{ti:TT}{te:TE}{i:Nat}{x:Str}{pos' ON:Pos} (hc:X.calm=true) (S:cp X.N X.env.scope N' cW scope) (hN:X.N.Nodup) (hx:X.N[i]? = some x) (hl:X.env.scope.names.lookup x=some .local) (hi:PI X tg iter wi)
  (hb:∀s H fp,PG (gn X N' scope s H fp) tg g/\wK (gn X N' scope s H fp) ifs ti/\PE (gn X N' scope s H fp) elt te)
  (hsw:swapsWith (.ListComp elt [⟨tg,iter,ifs,0⟩] scope pos) (some (.Name x pos')) ON.line X.env=pure true:=by rfl)
  (hs:∀x,foldedSetIterable iter X.env x=pure x:=by intro _;rfl):PS X (.Assign [.Name x pos'] (.ListComp elt [⟨tg,iter,ifs,0⟩] scope pos) ON) (Ae (N9 wi cW g ti te) (pF i)):=by
 intro pins s σ H D I h
 rw[exec_Assign_Name_used _ _ _ _ hsw]
 refine ag (sr (ag ?_))
 show wpAny _ X.A (do let _ <- comprehension (.ListComp elt [⟨tg,iter,ifs,0⟩] scope pos) scope X.env _ (newList []) false (eval iter X.env) (some (assign (.Name x pos') X.env))) _ _ s
 refine ag (aJ (wpAny_comprehension_free (use:=some (assign (.Name x pos') X.env)) (Q:=fun _ s'=>SP X pins D .next s') rfl hs (KI fun n hn=>CJ I S hn) S.kind (fun x hx hl=>vB S.keys (by rw[<-hl];exact hx)) ?_) fun _ s' hq=>au (au hq))
 refine aJ (hi pins s σ H _ I h) fun v s1 h1=>aJ h1 fun AN s2 h2=>?_
 obtain⟨it,fp,tn,J,H2,e,I2,T,xm,f2,hw⟩:=h2
 subst e
 refine LC (Q:=fun v H'=>D.nx (σ.set i (some v)) H') (RR:=fun acc C=>compPost (model X.prog X.w) X.A X.xe (some (assign (.Name x pos') X.env)) (fun _ s'=>SP X pins D .next s') acc C) hc S I2 T xm f2 hb hw ?_
 rintro acc C s' ⟨p,H',rfl,I',fC,⟨m,hm⟩,q⟩
 show wpAny (model X.prog X.w) X.A (assign (.Name x pos') X.env (.ref p)) _ _ s'
 refine wpAny_assign_Name (Lr (v:= .ref p) I' hN hx (.inl hl) rfl (fun lu I'' ⟨a,hsb,ha⟩=>?_) (.inr hl))
 have hCa:C≠a:=by
  rcases ha with ha | ha
  ·rw[ha];exact fC.2.1
  ·exact fun z=>fC.2.2.2.2.1 _ _ ha z.symm
 refine⟨m,hm.sameBut hsb hCa,fun h' lY=>⟨_,H',?_,q⟩⟩
 exact I''.turned (it:=C) (t':=lu.toks) (fun b o hb e=>(lY.2 b hb).trans e) fC.1 fC.2.1 fC.2.2.2.1 fC.2.2.2.2.1 fC.2.2.2.2.2
end
end L2
namespace L2
open PySem PySem.Spec PyProof.Rows PySem.W PySem.Builtin.ObjectAttr
def jQ (h:Heap) (C:Addr) (us:List Value):Heap:=(h.push { cls:= .type "tuple", data:= .seq us.toArray }).push { cls:= .ref C,data:= .fields #[.ref h.objs.size,.none,.none,.none,.bool false,.none] }
theorem sQ {h:Heap}{C:Addr}{us:List Value}{b:Addr}{o:Obj} (e:h.get? b=some o):(jQ h C us).get? b=some o:=bx _ (bx _ e)
theorem CK {h:Heap}{C:Addr}{us:List Value}:(jQ h C us).get? (h.objs.size+1)=some { cls:= .ref C,data:= .fields #[.ref h.objs.size,.none,.none,.none,.bool false,.none] }:=by
 unfold jQ;heap_get
section
variable {P : Program} {w : World} {A : Around} {E : Value -> Shared -> Prop} {h : Heap} {gs : Array GenState} {dr : Drawn} {tk : Nat} {os : OsState}
variable {cn qn : Str} {C N : Addr} {bases up A1 : List Value} {uj : Bool} {sl : List Str} {subs : List Value} {OO : Bool} {OP : Option Bool} {od : Option Addr} {e0 e1 e2 e3 e5 : Option Value} {B A2 QI : String}
variable {mN : Str -> Option Value} {us : List Value} {fI : Addr} {oI : Obj}
theorem Vj {Q:Fin->Shared->Prop} (F:ExcBaseFacts B A2 QI A1) (T:OwnTail h A1 up) (atC:h.get? C=some (excClassObj cn qn C N bases up uj sl subs OO OP od e0 e1 e2 e3 e5 A2)) (G':h.Ns N mN)
  (hi:mN "__init__" = some (.ref fI)) (dH:h.get? fI=some oI) (Ha:oI.cls = .type "function") (bg:us.length<=sizeLine)
  (run:wpAny (model P w) A (call (.ref fI) (.ref (h.objs.size+1)::us)) (fun r s'=>r = .none/\Q (.done (.ret (.ref (h.objs.size+1)))) s') E ⟨jQ h C us,gs,dr,tk,os⟩) :
  wpAny (model P w) A (Builtin.«type.__call__» ⟨.ref C::us,[]⟩) Q E ⟨h,gs,dr,tk,os⟩:=by
 repeat (first | with_reducible refine B7 atC ?_ | with_reducible refine wpAny_madeBy_exc atC ?_ | wp_step)
 refine codeAny_call_builtin_code (UD _ F.quiet) (wpAny_check_new_subT F T atC (codeAny_exc_new_subT F T atC ?_ bg))
 show wpAny _ _ _ _ _ (⟨jQ h C us,gs,dr,tk,os⟩:Shared)
 have OQ:(jQ h C us).get? C=_:=sQ atC
 have atE:(jQ h C us).get? (h.objs.size+1)=_:=CK
 have has:(Value.ref C::up).contains (.ref C)=true:=List.contains_iff_mem.mpr aZ
 unfold isInstance
 repeat (first | with_reducible refine B7 atE ?_ | (with_reducible refine wpAny_isSubtype_exc OQ ?_;rw[has])|wp_step)
 refine wpAny_typeLookup_tail (mN:=mN) OQ (G'.keeps fun _ _ e=>sQ e) (T.keeps fun _ _ e=>sQ e) F.mroIs F.init.lookup ?_
 rw[hi]
 refine fB (ag (show wpAny _ _ (bindSpecial _ _) _ _ _ from ?_))
 unfold bindSpecial
 refine ag (oF (T:= "function") ⟨oI,sQ dH,Ha⟩ ?_)
 rw[aI (show _ from by decide)]
 refine au (ag (aJ run fun r s' hr=>?_))
 obtain⟨rfl,q⟩:=hr
 wp_walk
 exact q
theorem KH {Q:Value->Shared->Prop} (F:ExcBaseFacts B A2 QI A1) (T:OwnTail h A1 up) (atC:h.get? C=some (excClassObj cn qn C N bases up uj sl subs OO OP od e0 e1 e2 e3 e5 A2)) (G':h.Ns N mN)
  (hi:mN "__init__" = some (.ref fI)) (dH:h.get? fI=some oI) (Ha:oI.cls = .type "function") (bg:us.length<=sizeLine)
  (run:wpAny (model P w) (A.under (.builtin "type.__call__" ⟨.ref C::us,[]⟩)) (call (.ref fI) (.ref (h.objs.size+1)::us)) (fun r s'=>r = .none/\Q (.ref (h.objs.size+1)) s') E ⟨jQ h C us,gs,dr,tk,os⟩) :
  wpAny (model P w) A (call (.ref C) us) Q E ⟨h,gs,dr,tk,os⟩:=by
 have l1:=tc_lookup
 have l2:=tc_bind (.ref C)
 have ty:(⟨h,gs,dr,tk,os⟩:Shared).TypeIs (.ref C) "type" :=⟨_,atC,rfl⟩
 refine qw (UE (show wpAny _ _ (callAny (.ref C) _) _ _ _ from ?_))
 repeat (any_goals (first | assumption | with_reducible refine B7 atC ?_ | wp_step))
 exact⟨rfl,codeAny_call_builtin_at (UD _ (by decide +kernel)) entry_typeCall (wpAny_check_type_call_sub atC (Vj F T atC G' hi dH Ha bg run))⟩
end
abbrev A3:List Value:= [.type "ValueError", .type "Exception", .type "BaseException", .type "object"]
def gq (K:Frag) (C:Addr) (i:Option Value):Bool:=
  match K.lookup C with
  | some ⟨.type "type", _,.cls cls,slots⟩ =>
    (match cls.mro,slots.toList with
     | .ref C'::up,[_,_,_,_,some (.builtin n),_]=>C'==C && (n == "ValueError.__new__" && (!cls.hasDel && (tailIn K A3 up && (nsOkIn K cls.ns && nsIn K cls.ns "__init__" == some i))))
     | _,_=>false)
  | _=>false
theorem Wd {K:Frag}{h:Heap}{N:Addr}{mp:Str->Option Value}{n:Str}{v:Value} (X:K.In h) (G:h.Ns N mp) (e:nsIn K N n=some (some v)):mp n=some v:=by
 obtain⟨ob,ens,_,at_,da,_,look⟩:=G
 unfold nsIn at e
 split at e
 next _ _ _ _ _ q =>
  have two:=X _ _ q
  rw[at_]at two
  cases two;cases da
  split at e
  next en he =>
   cases e
   rw[<-look,nsFind,findBy,<-Array.find?_toList,he];rfl
  next=>split at e <;> cases e
 next=>cases e
structure ExcAt (h:Heap) (C:Addr) (i:Option Value):Prop where
 ex:∃bm N nm q bs Ai sn sub ab col dd k0 k1 k2 k3 k5 mN,h.get? C=some (excClassObj nm q C N bs bm Ai sn sub ab col dd k0 k1 k2 k3 k5 "ValueError.__new__")/\h.Ns N mN/\mN "__init__" = i/\OwnTail h A3 bm
theorem sU {K:Frag}{h:Heap}{C:Addr}{i:Option Value} (X:K.In h) (q:gq K C i=true):ExcAt h C i:=by
 unfold gq at q
 split at q
 next od cls slots at_ =>
  split at q
  next C' up a0 a1 a2 a3 n a5 em es =>
   obtain⟨p1,q⟩:=eV.mp q
   obtain⟨p2,q⟩:=eV.mp q
   obtain⟨p3,q⟩:=eV.mp q
   obtain⟨p4,q⟩:=eV.mp q
   obtain⟨p5,p6⟩:=eV.mp q
   have e1:=eN.mp p1
   have e2:=eN.mp p2
   have e3:cls.hasDel=false:=by simpa using p3
   have e6:=eN.mp p6
   subst e1 e2
   obtain⟨nm,bs,mro,ns,qn,hd,sn,sb,ab,col,del⟩:=cls
   have em':mro=_:=em
   have uN:del=false:=e3
   subst em' uN
   obtain rfl:slots = #[a0,a1,a2,a3,some (.builtin "ValueError.__new__"),a5]:=by cases slots;exact gg Array.mk es
   refine⟨⟨up,ns,nm,qn,bs,hd,sn,sb,ab,col,od,a0,a1,a2,a3,a5,h.nsMap ns,X _ _ at_,.of_isNs (isNs_of_in X p5),?_,tail_of_in X p4⟩⟩
   cases i with
   | none=>exact nsMap_none_of_in X p5 e6
   | some v=>exact Wd X (.of_isNs (isNs_of_in X p5)) e6
  next=>cases q
 next=>cases q
def tX:List Value->Bool
 | .ref _::r=>tX r
 | l=>l==A3
theorem VP:∀ {l:List Value},tX l=true->l=A3 \/ ∃a r,l = .ref a::r/\tX r=true
 | [],e=>.inl (eN.mp e)
 | .ref a::r,e=>.inr ⟨a,r,rfl,e⟩
 | .none::r,e=>.inl (eN.mp e)
 | .bool b::r,e=>.inl (eN.mp e)
 | .int i t::r,e=>.inl (eN.mp e)
 | .float i t::r,e=>.inl (eN.mp e)
 | .str i t::r,e=>.inl (eN.mp e)
 | .bytes i t::r,e=>.inl (eN.mp e)
 | .type i::r,e=>.inl (eN.mp e)
 | .builtin i::r,e=>.inl (eN.mp e)
theorem Xy (self:Value) (l:List Value):tX l=true->refuseLoop self "__setattr__" l=pure ():=by
 induction l with
 | nil=>intro e;exact absurd e (by decide)
 | cons v r ih =>
  intro e
  rcases VP e with q | ⟨a,r',q,e'⟩
  ·rw[q];kernel_rfl
  ·cases q
   rw[refuseLoop_ref]
   exact ih e'
structure fw (K:Frag) (C:Addr):Prop where
 ga:findIn K (.ref C) "__getattribute__" = some (some (.builtin "BaseException.__getattribute__"))
 gh:findIn K (.ref C) "__getattr__" = some none
 sa:findIn K (.ref C) "__setattr__" = some (some (.builtin "object.__setattr__"))
 hd:hasDictIn K C=true
 ov:((clsIn K C).any fun cd=>tX cd.mro)=true
 be:mroIn K C (.type "BaseException")=some true
 ve:mroIn K C (.type "ValueError")=some true
 ob:mroIn K C (.type "object")=some true
 ka:findIn K (.ref C) "__class__" = some (some (.builtin "object.__class__"))
 kn:specialIn K (.builtin "object.__class__") "__get__" = some (some (.builtin "getset_descriptor.__get__"))
 kt:takesIn K (.builtin "object.__class__")=some true
section
variable {prog : Program} {w : World} {A : Around} {E : Value -> Shared -> Prop} {s : Shared} {K : Frag} {x C : Addr} {ox : Obj} {od : Option Obj} {name : Str}
theorem LD {R:Result->Shared->Prop}{tk:Tok}{v:Value} (X:K.In s.heap) (I:InstAt s.heap x ox C od) (c:fw K C) (no:findIn K (.ref C) name=some none)
  (go:wpAny (model prog w) A.in1 (storeInOwnDict (.ref x) (.ref C) (.str name tk) name v false) (fun fin s'=>match fin with | .done f=>R (.ok f) s' | .again c'=>c'.quiet=true/\codeAny (model prog w) A c' R s') (fun e s'=>R (.error e) s') s) :
  codeAny (model prog w) A (.call (.builtin "object.__setattr__") ⟨[.ref x,.str name tk,v],[]⟩) R s:=by
 obtain⟨cls,ic,ok⟩:=yI c.ov
 have ty:Looks (model prog w) s.heap (typeOf (.ref x)) (.ref C):=I.type
 have up:Looks (model prog w) s.heap (mroOf (.ref C)) cls.mro:=Looks.andThen (looks_clsIn X ic) Looks.now
 have aaq:Looks (model prog w) s.heap (typeLookup (.ref C) name) none:=looks_findIn X no
 refine Ka B8.slot.plain B8.entry (@check_slot (model prog w) _ _ s _ _ _ (.ref x) [.str name tk,v] [] _ B8.kind B8.split (ty.andThen (B9 X c.ob)) (B8.args _ _ _) ?_)
 rw[osa_eq,refuse_eq]
 refine ag (ag (ty.here (ag (up.here ?_))))
 rw[Xy _ _ ok]
 refine au (show wpAny _ _ _ _ _ s from ?_)
 exact ag (ty.here (ag (aaq.here (ag (au go)))))
theorem LF {tk:Tok}{fill expr:Bool}{Q:Value->Shared->Prop} (X:K.In s.heap) (I:InstAt s.heap x ox C od) (c:fw K C)
  (h:wpAny (model prog w) A.in1 (Builtin.«object.__getattribute__» ⟨[.ref x,.str name tk],[]⟩) (fun fin s'=>match fin with | .done (.ret v)=>wpAny (model prog w) A (handedOut v) Q E s' | _=>False) (fun _ _=>False) s) :
  wpAny (model prog w) A (getAttrBy (.ref x) (.str name tk) fill expr) Q E s:=by
 have L0:=I.type (M:=model prog w)
 have L1:=looks_findIn (M:=model prog w) X c.ga
 have L2:=looks_findIn (M:=model prog w) X c.gh
 have sub:Looks (model prog w) s.heap (isInstance (.ref x) (.type "BaseException")) true:=I.type.andThen (B9 X c.be)
 have lx:(Value.builtin "BaseException.__getattribute__" == Value.builtin "object.__getattribute__")=false:=by decide +kernel
 have nX:(onTheHeap (Value.ref C) && Value.builtin "BaseException.__getattribute__" == Value.builtin "object.__getattribute__")=false:=by rw[lx];rfl
 have hk:builtinKind "BaseException.__getattribute__" = some .slot:=by decide +kernel
 have Zy:splitId "BaseException.__getattribute__" = some ("BaseException", "__getattribute__"):=by decide +kernel
 unfold getAttrBy
 refine fB (ag (L0.here (ag (L1.here ?_))))
 dsimp only
 rw[nX]
 show wpAny _ _ (getAttrByItsOwn _ _ _ _ _ _) _ _ _
 unfold getAttrByItsOwn hookBefore
 refine ag ?_
 rw[aI (show onTheHeap (Value.ref C)=true from rfl)]
 refine L2.here (ag (UG (fB ?_)))
 unfold callGetattribute
 rw[aE (show ¬ (expr && onTheHeap (Value.builtin "BaseException.__getattribute__"))=true by cases expr <;> decide)]
 unfold boundAndCalled
 rw[amd.ga.bind]
 refine ag (au (qw (Ka amd.ga.plain PySem.F.entry_bexc_ga (@check_slot (model prog w) _ _ s "BaseException.__getattribute__" "BaseException" "__getattribute__" (.ref x) [.str name tk] [] _ hk Zy sub (PySem.F.args_bexc_ga _ _) ?_))))
 refine lF h (fun fin s' z=>?_) fun _ _ z=>z.elim
 rcases fin with(_ | _ | _ | _)|_ <;> first | exact z | exact z.elim
theorem WO {tk:Tok}{v:Value}{Q:Fin->Shared->Prop} (X:K.In s.heap) (I:InstAt s.heap x ox C od) (hf:findObj K C od name=some (.value v)) (h:Q (.done (.ret v)) s) :
  wpAny (model prog w) A (Builtin.«object.__getattribute__» ⟨[.ref x,.str name tk],[]⟩) Q E s:=by
 have L0:=I.type (M:=model prog w)
 have L1:=looks_find (M:=model prog w) X I hf
 refine ag (au (ag (au (ag (L0.here (ag (L1.here ?_)))))))
 exact au h
theorem Yv {expr:Bool}{v:Value}{Q:Value->Shared->Prop} (X:K.In s.heap) (I:InstAt s.heap x ox C od) (c:fw K C) (hf:findObj K C od name=some (.value v)) (hh:handedIn v=true)
  (h:Q v { s with toks:=s.toks+1 }):wpAny (model prog w) A (getAttr (.ref x) name expr) Q E s:=by
 unfold getAttr
 refine ag (wpAny_mkText ?_)
 exact LF (s:={ s with toks:=s.toks+1 }) X I c (WO (s:={ s with toks:=s.toks+1 }) X I hf (handed_on hh h))
theorem WQ {Q:Option Value->Shared->Prop} (X:K.In s.heap) (I:InstAt s.heap x ox C od) (c:fw K C) (h:Q (some (.ref C)) { s with toks:=s.toks+1 }):wpAny (model prog w) A (getAttr? (.ref x) "__class__") Q E s:=by
 have hf:findObj K C od "__class__" = some (.bind (.builtin "getset_descriptor.__get__") (.builtin "object.__class__")):=by
  obtain⟨cd,hc,_⟩:=yI c.hd
  unfold findObj
  rw[hc,Kb,c.ka,Kb]
  dsimp only
  rw[c.kn,Kb]
  dsimp only
  rw[c.kt,Kb]
 unfold getAttr? getAttrBy?
 refine ag (wpAny_mkText (ag (UG ?_)))
 have L0:=I.type (M:=model prog w)
 have L1:=looks_find (M:=model prog w) X I hf
 refine LF (s:={ s with toks:=s.toks+1 }) X I c ?_
 refine ag (au (ag (au (ag (Kc (s:={ s with toks:=s.toks+1 }) L0 (ag (Kc (s:={ s with toks:=s.toks+1 }) L1 ?_)))))))
 show wpAny _ _ (holding [.builtin "object.__class__"] (call (.builtin "getset_descriptor.__get__") [.builtin "object.__class__", .ref x,.ref C]) >>= ret) _ _ _
 refine ag (fB (qw (class_get (s:={ s with toks:=s.toks+1 }) (ox:=ox) (od:=od) X I c.ob ?_)))
 exact au (handed_on rfl (au h))
theorem We {M:Model}{h:Heap} (X:K.In h) (c:fw K C):Looks M h (isType (.ref C)) true:=by
 obtain⟨cls,ic,_⟩:=yI c.hd
 unfold clsIn at ic
 split at ic
 next at_ =>
  intro A' Q' E' s' k q
  exact ag (yJ (part:=some headPart) (k _ _ (X _ _ at_)) (au q))
 next=>cases ic
theorem Mc (c:fw K C):KitX K (.ref x) (.ref C) (fun h=>InstAt h x ox C od) where
 ty:=fun _ _ _ I=>I.type
 it:=fun _ _ X _=>We X c
 ne:=fun h tp _ _ _ _ X tup=>by
  obtain⟨cls,ic,_⟩:=yI c.hd
  cases q:(Value.ref C == .ref tp) with
  | false=>rfl
  | true =>
   have e:C=tp:=Value.ref.inj (eN.mp q)
   unfold clsIn at ic
   split at ic
   next at_ =>
    have two:=(X _ _ at_).symm
    rw[e,tup]at two
    cases two
   next=>cases ic
 ca:=fun X I k=>WQ X I c k
end
end L2
namespace L2
open PySem PySem.Spec PyProof.Rows PySem.W PySem.Builtin.ObjectAttr
theorem bH.there {P:Program}{w:World}{H:Hp}{h:Heap}{a:Addr}{o:HO} (x:bH P w H h a o):∃ob,h.get? a=some ob:=by
 cases o with
 | lst xs=>obtain⟨_,_,_,_,e⟩:=x;exact⟨_,e⟩
 | tup xs=>obtain⟨_,_,_,ob,e,_⟩:=x;exact⟨_,e⟩
 | dK kvs=>obtain⟨_,_,_,_,o,_,_,e,_⟩:=x;exact⟨_,e⟩
 | dT kvs=>obtain⟨_,_,_,_,o,_,_,e,_⟩:=x;exact⟨_,e⟩
 | set S n=>obtain⟨o,_,_,_,e,_⟩:=x;exact⟨_,e⟩
 | ins C dx fs=>obtain⟨_,_,_,e,_⟩:=x;exact⟨_,e⟩
 | own y=>exact x
 | xd fs=>obtain⟨_,⟨_,_,_,e,_⟩,_⟩:=x;exact⟨_,e⟩
 | w8 lo hi=>obtain⟨_,_,_,e⟩:=x;exact⟨_,e⟩
 | iB ob u=>obtain⟨e,_⟩:=x;exact⟨_,e⟩
 | nP ps=>exact⟨_,x⟩
 | met f y=>exact⟨_,x⟩
 | ext φ=>exact x.2.1
section
variable {X : Cx} {pins : List (Addr × Obj)} {σ : St} {H : Hp} {s : Shared} {h' : Heap} {a : Addr} {o : HO}
theorem Inv.Dr (I:Inv X pins σ H s) (e:s.heap.get? a=none):H a=none:=by
 cases q:H a with
 | none=>rfl
 | some u =>
  obtain⟨ob,z⟩:=(I.aA a u q).there
  rw[e]at z;cases z
theorem Inv.put (I:Inv X pins σ H s) (k:∀b u,s.heap.get? b=some u->h'.get? b=some u) (e:s.heap.get? a=none) (new:bH X.prog X.w (upd H a o) h' a o):Inv X pins σ (upd H a o) { s with heap:=h' }:=by
 have hn:=I.Dr e
 have ne:∀b u,s.heap.get? b=some u->b≠a:=fun b u q z=>by rw[z,e]at q;cases q
 refine I.un (t':=s.toks) ⟨fun b u q n _ _=>k b u q,fun b u q n _ _=>⟨u.slots,k b u q⟩,fun b u q n _=>by rw[aj (ne b u q)];exact n,fun b u q _=>⟨u,k b u q⟩,fun b xs q=>by rw[aj (ax q hn)];exact q,
  fun b u v q=>by rw[aj (ax q hn)];exact q,fun b ps q=>⟨#[],by rw[aj (ax q hn),q];simp⟩⟩ fun b u q=>?_
 by_cases hb:b=a
 ·subst hb;rw[af]at q;cases q;exact new
 ·rw[aj hb]at q
  exact(I.aA b u q).gF (fun c v _ z=>k c v z) (fun c z=>by rw[aj (ax z hn)];exact z) fun c xs z=>by rw[aj (ax z hn)];exact z
end
def cw (C:Addr) (dx:Option Addr) (a:Addr):HO:= .ext fun h=>∃t,h.get? a=some { cls:= .ref C,dict:=dx,data:= .fields #[.ref t,.none,.none,.none,.bool false,.none] }
def fg (d:Addr) (fs:List (Str×V)):HO:= .ext fun h=>fs.length<=100 /\ ∃mA,h.Ns1 d mA/\(∀f,fY (fs.lookup f) (mA f))/\PySem.Within mA (fs.map (·.1))
section
variable {P : Program} {w : World} {H : Hp} {h : Heap} {a d C : Addr} {dx : Option Addr} {fs : List (Str × V)}
theorem zB {t:Addr} (e:h.get? a=some { cls:= .ref C,dict:=dx,data:= .fields #[.ref t,.none,.none,.none,.bool false,.none] }):bH P w H h a (cw C dx a):=
 ⟨⟨t,e⟩,⟨_,e⟩,fun _ _ ⟨t,q⟩ k=>⟨t,k _ q⟩⟩
theorem MU {mA:Str->Option Value} (z:fs.length<=100) (n:h.Ns1 d mA) (r:∀f,fY (fs.lookup f) (mA f)) (wi:PySem.Within mA (fs.map (·.1))):bH P w H h d (fg d fs):=
 ⟨⟨z,mA,n,r,wi⟩,(let ⟨o,_,_,e,_⟩:=n;⟨o,e⟩),fun _ _ ⟨z,mA,n,r⟩ k=>⟨z,mA,n.at k,r⟩⟩
end
section
variable {X : Cx} {pins : List (Addr × Obj)} {σ : St} {H : Hp} {s : Shared} {A : Around} {E : Value -> Shared -> Prop} {a d C : Addr} {dx : Option Addr} {fs : List (Str × V)} {f : Str}
theorem Inv.excAt (I:Inv X pins σ H s) (e:H a=some (cw C dx a)):∃t,s.heap.get? a=some { cls:= .ref C,dict:=dx,data:= .fields #[.ref t,.none,.none,.none,.bool false,.none] }:=(I.aA a _ e).1
theorem Inv.zC (I:Inv X pins σ H s) (e:H d=some (fg d fs)):fs.length<=100 /\ ∃mA,s.heap.Ns1 d mA/\(∀f,fY (fs.lookup f) (mA f))/\PySem.Within mA (fs.map (·.1)):=(I.aA d _ e).1
theorem Wf {y:V}{u:Value}{Q:Unit->Shared->Prop} (I:Inv X pins σ H s) (e:H a=some (cw C none a)) (c:fw X.K C) (no:findIn X.K (.ref C) f=some none) (ry:RelV y u)
  (h:∀d s',H d=none->d≠a->Inv X pins σ (upd (upd H d (fg d [(f,y)])) a (cw C (some d) a)) s'->Q () s'):wpAny (model X.prog X.w) A (setAttr (.ref a) f u) Q E s:=by
 obtain⟨t,at_⟩:=I.excAt e
 have J:InstAt s.heap a _ C none:=⟨at_,rfl,rfl,True.intro⟩
 refine PySem.W.set_plain I.bU J c.sa (LD (s:={ s with toks:=s.toks+1 }) I.bU J c no ?_)
 obtain⟨cls,ic,uj⟩:=yI c.hd
 refine ag (au (ag (show wpAny _ _ (instanceDict a true) _ _ _ from ?_)))
 refine ag (yJ (s:={ s with toks:=s.toks+1 }) at_ (ag (Kc (s:={ s with toks:=s.toks+1 }) (looks_clsIn I.bU ic) ?_)))
 rw[uj]
 refine ag (wpAny_alloc ?_)
 have fresh:s.heap.get? s.heap.objs.size=none:=B3 (aO _)
 have na:a≠s.heap.objs.size:=cu (bq at_)
 have ly:(s.heap.push { cls:= .type "dict", data:= .dict #[] }).get? a=_:=bx _ at_
 refine ag (wpAny_update (s:={ s with heap:=s.heap.push { cls:= .type "dict", data:= .dict #[] },toks:=s.toks+1 }) ly (au ?_))
 generalize eh:(s.heap.push { cls:= .type "dict", data:= .dict #[] }).update a (fun o=>{ o with dict:=some s.heap.objs.size })=h1
 have at2:h1.get? a=some { cls:= .ref C,dict:=some s.heap.objs.size,data:= .fields #[.ref t,.none,.none,.none,.bool false,.none] }:=by
  rw[<-eh];exact oG _ ly rfl
 have pW:∀b o,b≠a->s.heap.get? b=some o->h1.get? b=some o:=fun b o hb q=>by
  rw[<-eh,mr _ _ (aT hb)];exact bx _ q
 have dAt:h1.get? s.heap.objs.size=some { cls:= .type "dict", data:= .dict #[] }:=by
  rw[<-eh,mr _ _ na];exact eK _ rfl
 have n0:h1.Ns1 s.heap.objs.size (fun _=>none):=Heap.Ns1.of_empty ⟨_,#[],_,dAt,rfl,(fun e he=>absurd he (by simp)),fun _=>rfl⟩
 refine ag (au (ag (wpAny_nsSet1 (s:={ s with heap:=h1,toks:=s.toks+1 }) n0 fun h2 n2 sb=>?_)))
 have w0:PySem.Within (fun _=>none) ([]:List Str):=fun g hg=>absurd rfl hg
 obtain⟨oD,esD,epD,A4,Hb,Hd⟩:=n2.count (PySem.Within.cons f u w0)
 refine ag (wpAny_lookBehind A4 (by rw[Hb];exact pastItsLine_dict (c9 Hd (by rw[dc,vv,ay];decide))) (au ?_))
 refine h s.heap.objs.size _ (I.Dr fresh) (aT na) ?_
 have A5:=I.Dr fresh
 have amM:∀b o,b≠a->s.heap.get? b=some o->h2.get? b=some o:=fun b o hb q=>(sb.2 b (fun z=>by rw[z,fresh]at q;cases q)).trans (pW b o hb q)
 have QJ:h2.get? a=_:=(sb.2 a na).trans at2
 have heD:upd H s.heap.objs.size (fg s.heap.objs.size [(f,y)]) a=some (cw C none a):=by rw[aj na];exact e
 have I1:Inv X pins σ (upd H a (cw C (some s.heap.objs.size) a)) { s with heap:=h1,toks:=s.toks+1 }:=by
  refine I.write (x:=a) (e:=a) (by rw[e];exact True.intro) (.inl rfl) (fun b u hb q=>pW b u hb q) ⟨_,at2⟩ (zB at2)
 have uO:upd H a (cw C (some s.heap.objs.size) a) s.heap.objs.size=none:=by rw[aj (aT na)];exact A5
 have cm:upd (upd H s.heap.objs.size (fg s.heap.objs.size [(f,y)])) a (cw C (some s.heap.objs.size) a)=upd (upd H a (cw C (some s.heap.objs.size) a)) s.heap.objs.size (fg s.heap.objs.size [(f,y)]):=by
  funext b
  unfold upd
  by_cases h1:b=a
  ·subst h1;rw[aI rfl,aE na,aI rfl]
  ·rw[aE h1]
   by_cases h2:b=s.heap.objs.size
   ·rw[aI h2,aI h2]
   ·rw[aE h2,aE h2,aE h1]
 rw[cm]
 have jc:upd H a (cw C (some s.heap.objs.size) a) a=some (cw C (some s.heap.objs.size) a):=af
 have fp:iR X pins (upd H a (cw C (some s.heap.objs.size) a)) s.heap.objs.size:=by
  have z:=I.nH (H':=upd H a (cw C (some s.heap.objs.size) a)) (aO _) uO
  exact z
 have I2:Inv X pins σ (upd H a (cw C (some s.heap.objs.size) a)) { s with heap:=h2,toks:=s.toks+2 }:=
  Inv.turned (s:={ s with heap:=h1,toks:=s.toks+1 }) (h':=h2) I1 (it:=s.heap.objs.size) (t':=s.toks+2) (fun b o hb q=>(sb.2 b hb).trans q) fp.1 fp.2.1 fp.2.2.2.1 fp.2.2.2.2.1 fp.2.2.2.2.2
 refine⟨I2.ok,I2.os,I2.bare,?_,I2.loc,I2.cell,?_,?_,?_,?_,I2.len⟩
 ·have B:=I2.base
  have nb:∀b o,X.cQ.heap.get? b=some o->b ∉ X.ex->b≠s.heap.objs.size:=fun b o q hx z=>by
   obtain⟨o',q'⟩:=I.base.there b o q hx
   rw[z,fresh]at q';cases q'
  refine⟨B.keep,B.slot,fun b o q n hx=>by rw[aj (nb b o q hx)];exact B.free b o q n hx,B.there,fun b xs q=>?_,fun b o u q=>?_,fun b ps q=>?_⟩
  ·have z:=B.jT b xs q;rw[aj (ax z uO)];exact z
  ·have z:=B.jt b o u q;rw[aj (ax z uO)];exact z
  ·obtain⟨m,z⟩:=B.jU b ps q;exact⟨m,by rw[aj (ax z uO)];exact z⟩
 ·rw[aj (aT fp.2.1)];exact I2.free
 ·intro x c q;rw[aj (fp.2.2.2.2.1 x c q)];exact I2.g6 x c q
 ·intro p hp
  obtain⟨p1,p2,p3,p4,p5⟩:=I2.pin p hp
  exact⟨p1,by rw[aj (fp.2.2.2.2.2 p hp)];exact p2,p3,p4,p5⟩
 ·intro b o q
  by_cases hb:b=s.heap.objs.size
  ·subst hb
   rw[af]at q;cases q
   refine MU (by simp) n2 (fun g=>?_) (fun g hg=>?_)
   ·show fY (List.lookup g [(f,y)]) (if g=f then some u else none)
    rw[iE]
    by_cases q:g=f
    ·rw[aI q,eN.mpr q];exact ry
    ·rw[aE q,oz.mpr q];exact True.intro
   ·by_cases q:g=f
    ·rw[q];simp
    ·exact absurd (aE q) hg
  ·rw[aj hb]at q
   exact(I2.aA b o q).gF (fun _ _ _ z=>z) (fun c z=>by rw[aj (ax z uO)];exact z) fun c xs z=>by rw[aj (ax z uO)];exact z
theorem VQ {y:V}{u:Value}{Q:Unit->Shared->Prop} (I:Inv X pins σ H s) (e:H a=some (cw C (some d) a)) (ed:H d=some (fg d fs)) (c:fw X.K C) (no:findIn X.K (.ref C) f=some none) (ry:RelV y u) (bg:fs.length < 100)
  (h:∀s',Inv X pins σ (upd H d (fg d (ix f y fs))) s'->Q () s'):wpAny (model X.prog X.w) A (setAttr (.ref a) f u) Q E s:=by
 obtain⟨t,at_⟩:=I.excAt e
 obtain⟨_,mA,n,r,wi⟩:=I.zC ed
 obtain⟨od,nY,look⟩:=vH n
 have J:InstAt s.heap a _ C (some od):=⟨at_,rfl,rfl,nY⟩
 refine PySem.W.set_plain I.bU J c.sa (LD (s:={ s with toks:=s.toks+1 }) I.bU J c no ?_)
 obtain⟨cls,ic,uj⟩:=yI c.hd
 refine ag (au (ag (show wpAny _ _ (instanceDict a true) _ _ _ from ?_)))
 refine ag (yJ (s:={ s with toks:=s.toks+1 }) at_ (ag (Kc (s:={ s with toks:=s.toks+1 }) (looks_clsIn I.bU ic) ?_)))
 rw[uj]
 refine au (a:=some d) (ag (au (ag (wpAny_nsSet1 (s:={ s with toks:=s.toks+1 }) n fun h2 n2 sb=>?_))))
 obtain⟨oD,esD,epD,A4,Hb,Hd⟩:=n2.count (PySem.Within.cons f u wi)
 refine ag (wpAny_lookBehind A4 (by rw[Hb];exact pastItsLine_dict (c9 Hd (by rw[dc,ar,ay];omega))) (au ?_))
 refine h _ (I.write (t':=s.toks+2) (x:=d) (e:=d) (by rw[ed];exact True.intro) (.inl rfl) (fun b o hb q=>(sb.2 b hb).trans q) ⟨oD,A4⟩ ?_)
 refine MU (by have:=KU f y fs;omega) n2 (fun g=>?_) (fun g hg=>?_)
 ·show fY ((ix f y fs).lookup g) (if g=f then some u else mA g)
  rw[KS]
  by_cases q:g=f
  ·rw[aI q,aI q];exact ry
  ·rw[aE q,aE q];exact r g
 ·by_cases q:g=f
  ·rw[q];exact(CG f y fs).1
  ·exact(CG f y fs).2 g (wi g fun z=>hg ((aE q).trans z))
end
end L2
namespace L2
open PySem PySem.Spec PyProof.Rows PySem.W
mutual
inductive Rep (H:Hp):V->PyData->Prop where
 | aG:Rep H .aG .none
 | bl (b:Bool):Rep H (.bl b) (.bool b)
 | int (i:Int):Rep H (.int i) (.int i)
 | str (x:Str):Rep H (.str x) (.str x)
 | lst {a:Addr}{xs:List V}{ds:List PyData}:H a=some (.lst xs)->gO H xs ds->Rep H (.ref a) (.list ds)
 | tup {a:Addr}{xs:List V}{ds:List PyData}:H a=some (.tup xs)->gO H xs ds->Rep H (.ref a) (.tuple ds)
inductive gO (H:Hp):List V->List PyData->Prop where
 | nil:gO H [] []
 | cons {x:V}{d:PyData}{xs:List V}{ds:List PyData}:Rep H x d->gO H xs ds->gO H (x::xs) (d::ds)
end
section
variable {X : Cx} {pins : List (Addr × Obj)} {σ : St} {H H' : Hp} {s : Shared}
mutual
theorem Rep.reads (I:Inv X pins σ H s):∀ {v:V}{d:PyData}{u:Value},Rep H v d->RelV v u -> ∃as,Reads s.heap u d as
 | _,_,_,.aG,r=>by cases r;exact⟨_,.none⟩
 | _,_,_,.bl b,r=>by cases r;exact⟨_,.bool b⟩
 | _,_,_,.int i,r=>by obtain⟨t,rfl⟩:=r;exact⟨_,.int i t⟩
 | _,_,_,.str x,r=>by obtain⟨t,rfl⟩:=r;exact⟨_,.str x t⟩
 | _,_,_,.lst (a:=a) (xs:=xs) e rs,r=>by
  cases r
  obtain⟨_,its,n,rv,at_⟩:=(show bH X.prog X.w H s.heap a (.lst xs) from I.aA a _ e)
  obtain⟨as,ra⟩:=gO.reads I rs rv
  exact⟨_,.list at_ rfl rfl ra⟩
 | _,_,_,.tup (a:=a) (xs:=xs) e rs,r=>by
  cases r
  obtain⟨_,its,rv,ob,at_,hc,n,hd,_⟩:=(show bH X.prog X.w H s.heap a (.tup xs) from I.aA a _ e)
  obtain⟨as,ra⟩:=gO.reads I rs rv
  exact⟨_,.tuple at_ hc hd ra⟩
theorem gO.reads (I:Inv X pins σ H s):∀ {vs:List V}{ds:List PyData}{us:List Value},gO H vs ds->Vals vs us -> ∃as,ReadsAll s.heap us ds as
 | _,_,_,.nil,r=>by cases r;exact⟨_,.nil⟩
 | _,_,_,.cons r rs,rv=>by
  cases rv with
  | cons q qs =>
   obtain⟨as,h1⟩:=Rep.reads I r q
   obtain⟨bs,h2⟩:=gO.reads I rs qs
   exact⟨_,.cons h1 h2⟩
end
mutual
theorem Rep.same:∀ {v:V}{d:PyData},Rep H v d->aq H H'->Rep H' v d
 | _,_,.aG,_=>.aG
 | _,_,.bl b,_=>.bl b
 | _,_,.int i,_=>.int i
 | _,_,.str x,_=>.str x
 | _,_,.lst e rs,k=>.lst (k _ _ e) (gO.same rs k)
 | _,_,.tup e rs,k=>.tup (k _ _ e) (gO.same rs k)
theorem gO.same:∀ {vs:List V}{ds:List PyData},gO H vs ds->aq H H'->gO H' vs ds
 | _,_,.nil,_=>.nil
 | _,_,.cons r rs,k=>.cons (Rep.same r k) (gO.same rs k)
end
end
section
variable {X : Cx}
def OR:R2:=fun x y H Q=>∃da db,Rep H x da/\Rep H y db/\da.canLay0=true/\db.canLay0=true/\da.depth<=60/\Q (.bl (PyData.eqv da db)) H
def OS:R2:=fun x y H Q=>∃da db,Rep H x da/\Rep H y db/\da.canLay0=true/\db.canLay0=true/\da.depth<=60/\Q (.bl (!PyData.eqv da db)) H
theorem NH (hu:X.A.units+64 < cLine):cE X (compareOp .Eq) OR:=by
 intro pins s σ H x y v u Q I rx ry h
 obtain⟨da,db,r1,r2,l1,l2,dp,q⟩:=h
 obtain⟨as,h1⟩:=r1.reads I rx
 obtain⟨bs,h2⟩:=r2.reads I ry
 exact SeqAt.compareEq_reads h1 h2 l1 l2 (by omega) ⟨.bl _,H,I,rfl,q⟩
theorem NI (hu:X.A.units+64 < cLine):cE X (compareOp .NotEq) OS:=by
 intro pins s σ H x y v u Q I rx ry h
 obtain⟨da,db,r1,r2,l1,l2,dp,q⟩:=h
 obtain⟨as,h1⟩:=r1.reads I rx
 obtain⟨bs,h2⟩:=r2.reads I ry
 exact SeqAt.compareNe_reads h1 h2 l1 l2 (by omega) ⟨.bl _,H,I,rfl,q⟩
def lM (H:Hp) (x:V):Prop:=(∃z:Str,x = .str z/\z.length<=100000)\/x = .aG \/ ∃a d,x = .ref a/\Rep H x d/\d.showable=true/\d.hasDict=false/\d.depth<=50/\d.shown.length<=100000
def abI (te:TE):TE:=fun σ H Q=>te σ H fun x H1=>lM H1 x /\ ∀y:Str,y.length<=100000->Q (.str y) H1
theorem zL {e:Expr}{te:TE}{pos:Pos} (hu:X.A.units+64 < cLine) (hg:X.A.guards=some []) (he:PE X e te):PE X (.FormattedValue e (-1) none pos) (abI te):=by
 intro pins s σ H Q I h
 refine wpAny_FormattedValue_plain (aJ (he pins s σ H _ I h) fun v s1 ⟨x,H1,I1,rx,f,q⟩=>?_)
 rcases f with⟨z,rfl,hz⟩|rfl | ⟨a,d,rfl,rd,hs,hd,hp,hl⟩
 ·obtain⟨t,rfl⟩:=rx
  exact wpAny_formatField_str ⟨.str z,H1,I1,⟨_,rfl⟩,q z hz⟩ ⟨.str z,H1,I1.tok _,⟨_,rfl⟩,q z hz⟩ (by rw[ay];omega)
 ·cases rx
  exact wpAny_formatField_none ⟨.str "None", H1,I1.tok _,⟨_,rfl⟩,q _ (by decide)⟩
 ·obtain⟨as,r⟩:=rd.reads I1 rx
  cases rx
  exact formatField_of_reads r hs (fun z=>by rw[hd]at z;cases z) hg (by omega) (fun _ _ z=>z) (fun h' u tk k=>⟨.str d.shown,H1,I1.kept k,⟨_,rfl⟩,q _ hl⟩) (by rw[ay];omega)
def PJ (X:Cx) (vs:List Expr) (n:Nat) (t:St->Hp->(Hp->Prop)->Prop):Prop:=
 ∀ (pins:List (Addr×Obj)) (s:Shared) (σ:St) (H:Hp) (acc:Str) (Q:Hp->Prop),acc.length+n * 100000<=2000000->Inv X pins σ H s->t σ H Q ->
  Joins (model X.prog X.w) X.A X.xe (evalEach vs X.env) acc (fun out s1=>out.length<=2000000 /\ ∃H1,Inv X pins σ H1 s1/\Q H1) s
def Zz (te:TE) (tr:St->Hp->(Hp->Prop)->Prop):St->Hp->(Hp->Prop)->Prop:=fun σ H Q=>te σ H fun x H1=>(∃y:Str,x = .str y/\y.length<=100000)/\tr σ H1 Q
def ZA:St->Hp->(Hp->Prop)->Prop:=fun _ H Q=>Q H
theorem NJ:PJ X [] 0 ZA:=fun pins s σ H acc Q hz I h=>⟨by omega,H,I,h⟩
theorem oW {v:Expr}{vs:List Expr}{n:Nat}{te:TE}{tr:St->Hp->(Hp->Prop)->Prop} (hv:PE X v te) (hr:PJ X vs n tr):PJ X (v::vs) (n+1) (Zz te tr):=by
 intro pins s σ H acc Q hz I h
 refine aJ (hv pins s σ H _ I h) fun u s1 ⟨x,H1,I1,rx,⟨y,e,hy⟩,q⟩=>?_
 subst e
 obtain⟨t,rfl⟩:=rx
 have hl:(acc++y).length=acc.length+y.length:=strLen_append ..
 exact⟨y,t,rfl,by rw[hl,ay];omega,hr pins s1 σ H1 (acc++y) Q (by rw[hl];omega) I1 q⟩
def aar (tr:St->Hp->(Hp->Prop)->Prop):TE:=fun σ H Q=>tr σ H fun H1=>∀y:Str,y.length<=2000000->Q (.str y) H1
theorem MV {v1 v2:Expr}{rest:List Expr}{pos:Pos}{n:Nat}{tr:St->Hp->(Hp->Prop)->Prop} (hr:PJ X (v1::v2::rest) n tr) (hn:n<=20:=by decide):PE X (.JoinedStr (v1::v2::rest) pos) (aar tr):=by
 intro pins s σ H Q I h
 have z:=hr pins s σ H Str.empty _ (by have:Str.empty.length=0:=rfl;omega) I h
 refine wpAny_JoinedStr ?_
 have mono:∀ (l:List (Sem Value)) (acc:Str) (P P':Str->Shared->Prop) (s:Shared),(∀o s,P o s->P' o s)->Joins (model X.prog X.w) X.A X.xe l acc P s->Joins (model X.prog X.w) X.A X.xe l acc P' s:=by
  intro l
  induction l with
  | nil=>intro acc P P' s k q;exact k _ _ q
  | cons a l ih=>intro acc P P' s k q;exact aJ q fun v s1 ⟨y,t,e,hz,q'⟩=>⟨y,t,e,hz,ih _ P P' s1 k q'⟩
 refine mono _ _ _ _ _ ?_ z
 rintro o s1 ⟨hz,H1,I1,q⟩
 exact⟨by rw[ay];omega,.str o,H1,I1.tok _,⟨_,rfl⟩,q o hz⟩
end
end L2
namespace L2
open PySem PySem.Spec PyProof.Rows PySem.W
section
variable {X : Cx} {pins : List (Addr × Obj)} {σ : St} {H : Hp} {s : Shared} {C fI : Addr} {us : List Value} {vs : List V} {Q : VK} {CX : ke} {k : Nat} {fd : FuncData} {ps : List Str} {sp : Sp} {E : XK} {x : Str} {p pos : Pos} {e : Expr} {es : List Expr} {t : TA}
theorem Xz (q:gq X.K C (some (.ref fI))=true) (fn:isFn X.K (.ref fI)=true) (F:aN X.prog X.w X.K X.mg X.base CX k fI fd ps sp) (hr:bQ (k+1) X.A) (hb:Binds X.K fd ps []) (hx:Passes CX X E) (I:Inv X pins σ H s) (r:Vals vs us) (bg:us.length<=100)
  (h:∀e,H e=none->sp (.ref e::vs) (upd H e (cw C none e)) (fun v H2=>v = .aG/\Q (.ref e) H2) E):wpAny (model X.prog X.w) X.A (call (.ref C) us) (EP X pins σ Q) X.xe s:=by
 obtain⟨⟨up,N,nm,qn,bs,hd,sn,sb,ab,col,od,a0,a1,a2,a3,a5,mN,at_,ns,ni,T⟩⟩:=sU I.bU q
 obtain⟨oI,lk,oc⟩:=iF.mp (show(X.K.lookup fI).map (·.cls)=some (.type "function") from eN.mp fn)
 have h1:=h (s.heap.objs.size+1) (I.aA.fresh (qz _))
 have bU:=I.bU
 have I2:Inv X pins σ (upd H (s.heap.objs.size+1) (cw C none (s.heap.objs.size+1))) { s with heap:=jQ s.heap C us }:=I.put (fun _ _ z=>sQ z) (B3 (qz _)) (zB CK)
 have e0:=I2.Af.make C us []
 have rR:=hr.make C us []
 have r2:Vals (V.ref (s.heap.objs.size+1)::vs) (Value.ref (s.heap.objs.size+1)::us):= .cons rfl r
 have hl:(Value.ref (s.heap.objs.size+1)::us).length=ps.length:=by rw[<-r2.length];exact F.len _ _ _ _ h1
 have xC:=hb { s with heap:=jQ s.heap C us } (Value.ref (s.heap.objs.size+1)::us) I2.bU (by rw[ik];exact hl)
 rw[ik]at xC
 have run:=F.run _ X.stack _ _ ⟨Value.ref (s.heap.objs.size+1)::us,[]⟩ (Value.ref (s.heap.objs.size+1)::us) _ _ E rR e0 xC r2 h1
 obtain⟨hp,g,d,tk,os⟩:=s
 refine KH UI T at_ ns ni (bU _ _ lk) oc (by rw[ay];omega) (qw (su run fun r s' hq=>?_))
 cases r with
 | error e=>exact hx pins σ _ _ e s' I2 hq
 | ok fl =>
  cases fl with
  | ret u =>
   obtain⟨v,H',I3,rv,ev,q3⟩:=I2.after hq
   subst ev
   exact⟨rv,.ref (hp.objs.size+1),H',I3,rfl,q3⟩
  | next=>exact False.elim hq
  | brk=>exact False.elim hq
  | cont=>exact False.elim hq
def Oa (C:Addr) (sp:Sp) (E:XK) (t:TA):TE:=fun σ H Q=>t σ H fun vs H1=>vs.length<=100 /\ ∀e,H1 e=none->sp (.ref e::vs) (upd H1 e (cw C none e)) (fun v H2=>v = .aG/\Q (.ref e) H2) E
theorem Yw (q:gq X.K C (some (.ref fI))=true) (fn:isFn X.K (.ref fI)=true) (kp:keepIn X.K (.ref C)=true) (F:aN X.prog X.w X.K X.mg X.base CX k fI fd ps sp) (hr:bQ (k+1) X.A) (hb:Binds X.K fd ps []) (hx:Passes CX X E)
  (hg:Gl X x) (hm:X.mg x=some (.ref C)) (ha:PA X (e::es) t) (jz:(x==("__debug__" : Str))=false:=by decide)
  (he:starEach (e::es) X.env=(false,eval e X.env)::starEach es X.env:=by rfl) (dG:(backTo pos (starEach es X.env)).any (·.1)=false:=by rfl):PE X (.Call (.Name x p) (e::es) [] pos) (Oa C sp E t):=by
 intro pins s σ H Q I h
 refine vm (oU I hg hm ?_ jz)
 refine callWith_K (h₀:=X.base) I.ok.mod.jx kp (aJ (ha pos pins s σ H _ I h) fun us s1 ⟨vs,H1,I1,r,bg,q1⟩=>⟨I1.bU,?_⟩) he dG
 exact Xz q fn F hr hb hx I1 r (by show us.length<=100;rw[<-r.length];exact bg) q1
structure wc (K:Frag) (B:Addr):Prop where
 rd:readsIn K B (.type "type")=true
 ga:specialIn K (.ref B) "__getattribute__" = some (some (.builtin "type.__getattribute__"))
 fi:findCls K (.ref B) (.type "type") "__init__" = some (.val (.builtin "ValueError.__init__"))
theorem Vz {a:Addr}{dx:Option Addr}{u:Value}{i:Option Value} (c:fw X.K C) (q:gq X.K C i=true) (I:Inv X pins σ H s) (e:H a=some (cw C dx a)) (h:Q .aG H) :
  wpAny (model X.prog X.w) X.A (call (.builtin "ValueError.__init__") [.ref a,u]) (EP X pins σ Q) X.xe s:=by
 obtain⟨t,at_⟩:=I.excAt e
 obtain⟨⟨up,N,nm,qn,bs,hd,sn,sb,ab,col,od,a0,a1,a2,a3,a5,mN,atC,ns,ni,T⟩⟩:=sU I.bU q
 have FI:=UI
 obtain⟨hp,g,d,tk,os⟩:=s
 refine qw (Ka FI.init.plain FI.initEntry (wpAny_check_init_subT (rest:= [u]) FI T atC at_ rfl ?_))
 have ly:(hp.push { cls:= .type "tuple", data:= .seq #[u] }).get? a=some { cls:= .ref C,dict:=dx,data:= .fields #[.ref t,.none,.none,.none,.bool false,.none] }:=bx _ at_
 have at2:((hp.push { cls:= .type "tuple", data:= .seq #[u] }).update a (Obj.mapFields fun z=>z.setIfInBounds 0 (.ref hp.objs.size))).get? a=some { cls:= .ref C,dict:=dx,data:= .fields #[.ref hp.objs.size,.none,.none,.none,.bool false,.none] }:=oG _ ly rfl
 have fin:∀nZ,EP X pins σ Q .none ⟨(hp.push { cls:= .type "tuple", data:= .seq #[u] }).update a (Obj.mapFields fun z=>z.setIfInBounds 0 (.ref hp.objs.size)),g,d,nZ,os⟩:=fun nZ=>by
  refine⟨.aG,upd H a (cw C dx a),?_,rfl,?_⟩
  ·exact Inv.write (s:=⟨hp,g,d,tk,os⟩) I (x:=a) (e:=a) (t':=nZ) (by rw[e];exact True.intro) (.inl rfl) (fun b o hb z=>by rw[mr _ _ (aT hb)];exact bx _ z) ⟨_,at2⟩ (zB at2)
  ·have:upd H a (cw C dx a)=H:=by
    funext b;unfold upd
    by_cases hb:b=a
    ·rw[aI hb,hb,e]
    ·rw[aE hb]
   rw[this];exact h
 wp_walk
 exact fin _
def WR (X:Cx) (t:TA):TE:=fun σ H Q=>t σ H fun vs H1=>∃a C dx y i,vs = [.ref a,y]/\H1 a=some (cw C dx a)/\fw X.K C/\gq X.K C i=true/\Q .aG H1
theorem KY {B:Addr}{apos:Pos}{pl:Sem Bool} (b:wc X.K B) (hg:Gl X x) (hm:X.mg x=some (.ref B)) (ha:PA X (e::es) t) (jz:(x==("__debug__" : Str))=false:=by decide)
  (he:starEach (e::es) X.env=(false,eval e X.env)::starEach es X.env:=by rfl) (dG:(backTo pos (starEach es X.env)).any (·.1)=false:=by rfl)
  (ht:eval (.Call (.Attribute (.Name x p) "__init__" apos) (e::es) [] pos) X.env=(do
   let ov <- eval (.Name x p) X.env
   standAt apos.atName
   let (f,first) <- holding [ov] (getMethod ov "__init__" pl)
   callWith pos f first (backTo pos (starEach (e::es) X.env)) (backToKw pos (keywordEach [] X.env))):=by rfl) :
  PE X (.Call (.Attribute (.Name x p) "__init__" apos) (e::es) [] pos) (WR X t):=by
 intro pins s σ H Q I h
 refine methodCall_KW (pl:=pl) (oU I hg hm ?_ jz) ht
 refine method_cls I.bU b.ga (cls_value I.bU b.rd b.fi rfl ?_)
 refine al6 (aJ (ha pos pins { s with toks:=s.toks+1 } σ H _ (I.tok _) h) fun us s1 ⟨vs,H1,I1,r1,q1⟩=>?_) he dG
 obtain⟨a,C,dx,y,i,rfl,ea,c,qi,q⟩:=q1
 obtain⟨u1,u2,rfl,r2,r3⟩:=r1.two
 cases r2
 exact Vz c qi I1 ea q
end
section
variable {X : Cx} {o value e : Expr} {f : Str} {pos pos' : Pos} {ta tv : TE}
def aas (X:Cx) (ta tv:TE) (f:Str):TS:=fun D σ H=>tv σ H fun y H1=>ta σ H1 fun x H2=>∃a C,x = .ref a/\H2 a=some (cw C none a)/\fw X.K C/\findIn X.K (.ref C) f=some none /\
 ∀d,H2 d=none->d≠a->D.nx σ (upd (upd H2 d (fg d [(f,y)])) a (cw C (some d) a))
theorem MW (ha:PE X o ta) (hv:PE X value tv) (hs:swapsWith value (some (.Attribute o f pos')) pos.line X.env=pure false:=by rfl):PS X (.Assign [.Attribute o f pos'] value pos) (aas X ta tv f):=by
 intro pins s σ H D I h
 refine amg (aJ (hv pins s σ H _ I h) fun u s1 ⟨y,H1,I1,ry,q⟩=>aJ (ha pins s1 σ H1 _ I1 q) fun ov s2 ⟨x,H2,I2,rx,a,C,ex,ea,c,n,q2⟩=>?_) hs
 subst ex
 obtain rfl:ov=Value.ref a:=rx
 exact Wf I2 ea c n ry fun d s3 h1 h2 I3=>⟨σ,_,I3,q2 d h1 h2⟩
def ZC (X:Cx) (ta tv:TE) (f:Str):TS:=fun D σ H=>tv σ H fun y H1=>ta σ H1 fun x H2=>∃a C d fs,x = .ref a/\H2 a=some (cw C (some d) a)/\H2 d=some (fg d fs)/\fw X.K C/\findIn X.K (.ref C) f=some none/\fs.length < 100 /\
 D.nx σ (upd H2 d (fg d (ix f y fs)))
theorem Md (ha:PE X o ta) (hv:PE X value tv) (hs:swapsWith value (some (.Attribute o f pos')) pos.line X.env=pure false:=by rfl):PS X (.Assign [.Attribute o f pos'] value pos) (ZC X ta tv f):=by
 intro pins s σ H D I h
 refine amg (aJ (hv pins s σ H _ I h) fun u s1 ⟨y,H1,I1,ry,q⟩=>aJ (ha pins s1 σ H1 _ I1 q) fun ov s2 ⟨x,H2,I2,rx,a,C,d,fs,ex,ea,ed,c,n,bg,q2⟩=>?_) hs
 subst ex
 obtain rfl:ov=Value.ref a:=rx
 exact VQ I2 ea ed c n ry bg fun s3 I3=>⟨σ,_,I3,q2⟩
def OT (K:Frag):List V->Hp->VK->Prop:=fun xs H Q=>∃x c t cv b,xs = [x,c]/\RelV c cv/\(i7 K H x t \/ ∃a C dx,x = .ref a/\t = .ref C/\H a=some (cw C dx a)/\fw K C/\(∀d,dx=some d -> ∃fs,H d=some (fg d fs)))/\kitOne K t cv=some b/\Q (.bl b) H
theorem mX:eO X (.builtin "isinstance") (fun xs H Q=>(∃x,(∃C,xs = [x,.ref C])\/(∃T,xs = [x,.ty T]))/\OT X.K xs H Q):=by
 intro pins s σ H xs us Q I r h
 obtain⟨hx,x,c,t,cv,b,rfl,rc,ty,e,q⟩:=h
 obtain⟨u,w',rfl,ru,eG⟩:=r.two
 have ecv:w'=cv:=by
  obtain⟨x',⟨C,z⟩|⟨T,z⟩⟩:=hx
  ·cases z;cases rc;cases eG;rfl
  ·cases z;cases rc;cases eG;rfl
 subst ecv
 rcases ty with ty | ⟨a,C,dx,rfl,rfl,ea,c,hd⟩
 ·exact WL I ru ty e fun tk=>⟨.bl b,H,I.tok _,rfl,q⟩
 ·cases ru
  obtain⟨t,at_⟩:=I.excAt ea
  cases dx with
  | none =>
   have J:InstAt s.heap a _ C none:=⟨at_,rfl,rfl,True.intro⟩
   exact kia_one (Mc c) I.bU J e (fun z=>nomatch z) fun tk=>⟨.bl b,H,I.tok _,rfl,q⟩
  | some d =>
   obtain⟨fs,ed⟩:=hd d rfl
   obtain⟨_,mA,n,_⟩:=I.zC ed
   obtain⟨od,nY,_⟩:=vH n
   have J:InstAt s.heap a _ C (some od):=⟨at_,rfl,rfl,nY⟩
   exact kia_one (Mc c) I.bU J e (fun z=>nomatch z) fun tk=>⟨.bl b,H,I.tok _,rfl,q⟩
end
end L2
namespace L2
open PySem PySem.Spec PyProof.Rows PySem.W
def xD (K:Frag) (l:Addr):It:=
 ⟨fun i H=>∃xs x,ai K H l xs/\xs[i]? = some x,fun i H x H'=>∃t v,H t=none/\x = .ref t/\(∀xs,ai K H l xs->xs[i]? = some v)/\H'=upd H t (.tup [.int i,v]),fun i H=>∃xs,ai K H l xs/\xs.length<=i⟩
theorem WS {P:Program}{w:World}{K:Frag}{elts:List Expr}{n1:Nat}{tp:Pos} (l e it:Addr) (du:e≠it) :
  Turn P w K (.Tuple elts n1 tp) (xD K l) [e,it] e (fun i h=>(∃old,IsEnum h e it i old)/\h.IsListIter it l i) where
 mem:=by simp
 obj:=fun i h st b hb=>by
  obtain⟨⟨old,h1⟩,h2⟩:=st
  rcases a9.mp hb with z | z
  ·subst z;exact⟨_,h1,fun v q=>by cases q⟩
  ·have z':b=it:=by simpa using z
   subst z'
   obtain⟨o,q,_,d⟩:=h2
   exact⟨o,q,fun v z=>by rw[d]at z;cases z⟩
 keep:=fun i h h' st k=>by
  obtain⟨⟨old,h1⟩,h2⟩:=st
  exact⟨⟨old,k e (by simp) _ h1⟩,h2.at fun o q=>k it (by simp) o q⟩
 item:=by
  intro X hP hw hK hc i pins s σ H E I hf st hg
  subst hP hw hK
  obtain⟨xs,x,hq,hx⟩:=hg
  obtain⟨its,rv,p,hz⟩:=I.list hq
  obtain⟨u,hu,ru⟩:=rv.get hx
  obtain⟨⟨old,h1⟩,h2⟩:=st
  have fe:=hf e (by simp)
  have fi:=hf it (by simp)
  refine wpAny_pyNext_enum_item h1 h2 p.isList (x:=u) (by simpa using hu) du fun h' e1 i1 t1 z1 k1=>⟨_,rfl,?_⟩
  refine wpAny_letOwnedTupleGo_enum (s:={ s with heap:=h',toks:=s.toks+1 }) e1 fun jd e2 sb=>?_
  have eS:e≠s.heap.objs.size:=cu (bq h1)
  have k2:∀b o,b≠e->b≠it->s.heap.get? b=some o->jd.get? b=some o:=fun b o n1 n2 q=>(sb.2 b n1).trans (k1 b o n1 n2 q)
  have t2:jd.get? s.heap.objs.size=some { cls:= .type "tuple", data:= .seq #[.int i s.toks,u] }:=(sb.2 _ (aT eS)).trans t1
  have hn:H s.heap.objs.size=none:=I.aA.fresh (aO _)
  have lt:∀b o,s.heap.get? b=some o->b≠s.heap.objs.size:=fun b o q=>cu (bq q)
  have iV:∀b o,H b=some o->b≠e/\b≠it:=fun b o q=>⟨(fun z=>by rw[z,fe.1]at q;cases q),(fun z=>by rw[z,fi.1]at q;cases q)⟩
  have gy:∀b,b ∉ [e,it]->b≠e/\b≠it:=fun b hb=>⟨fun z=>hb (by simp[z]),fun z=>hb (by simp[z])⟩
  have J:Inv X pins σ (upd H s.heap.objs.size (.tup [.int i,x])) { s with heap:=jd,toks:=s.toks+1 }:=by
   refine I.step (g':=s.gens) (d':=s.drawn) (t':=s.toks+1) (ch:= [e,it]) (fun b hb=>?_) (fun b o _ _ hc q _=>k2 b o (gy b hc).1 (gy b hc).2 q) (fun b o _ _ hc q _=>⟨o.slots,k2 b o (gy b hc).1 (gy b hc).2 q⟩)
    (fun b o _ q n=>by rw[aj (lt b o q)];exact n) (fun b o hc q=>⟨o,k2 b o (gy b hc).1 (gy b hc).2 q⟩) (fun b ys q=>by rw[aj (ax q hn)];exact q) (fun b o v q=>by rw[aj (ax q hn)];exact q)
    (fun b ps q=>⟨#[],by rw[aj (ax q hn),q];simp⟩) (fun m hm=>?_) (fun b o q=>?_) I.bare
   ·rcases a9.mp hb with z | z
    ·subst z;exact⟨fe.2.2.2.1,fe.2.1,fe.2.2.2.2.1,fe.2.2.2.2.2⟩
    ·have z':b=it:=by simpa using z
     subst z';exact⟨fi.2.2.2.1,fi.2.1,fi.2.2.2.2.1,fi.2.2.2.2.2⟩
   ·obtain⟨o,es,ep,ho,r⟩:=hm
    exact⟨o,es,ep,k2 _ o (aT fe.2.1) (aT fi.2.1) ho,r⟩
   ·by_cases hb:b=s.heap.objs.size
    ·subst hb
     rw[af]at q;cases q
     exact⟨by rw[ay];show 2<=_;decide,[.int i s.toks,u],.cons ⟨_,rfl⟩ (.cons ru .nil),_,t2,rfl,_,rfl,rfl⟩
    ·rw[aj hb]at q
     refine(I.aA b o q).gF (fun c v hc z=>?_) (fun c z=>by rw[aj (ax z hn)];exact z) fun c ys z=>by rw[aj (ax z hn)];exact z
     rcases hc with hc | hc
     ·subst hc;exact k2 _ v (iV _ _ q).1 (iV _ _ q).2 z
     ·exact k2 c v (iV _ _ hc).1 (iV _ _ hc).2 z
  refine⟨.ref s.heap.objs.size,_,J,rfl,⟨s.heap.objs.size,x,hn,rfl,fun ys hy=>by rw[I.zp hy hq];exact hx,rfl⟩,⟨⟨u,e2⟩,?_⟩,fun b hb=>?_⟩
  ·exact i1.extBut sb.extBut (aT du)
  ·have:b≠s.heap.objs.size:=by
    rcases a9.mp hb with z | z
    ·rw[z];exact eS
    ·have z':b=it:=by simpa using z
     obtain⟨o,q,_⟩:=h2
     rw[z'];exact lt _ _ q
   rw[aj this];exact(hf b hb).1
 done:=by
  intro X hP hw hK hc i pins s σ H E I hf st hg
  subst hP hw hK
  obtain⟨xs,hq,hx⟩:=hg
  obtain⟨its,rv,p,hz⟩:=I.list hq
  obtain⟨⟨old,h1⟩,h2⟩:=st
  have fi:=hf it (by simp)
  have hl:=rv.length
  exact wpAny_pyNext_enum_end (I.ok.hd hc) h1 h2 p.isList (by simp;omega) fun h' eb=>⟨rfl,I.turned (t':=s.toks) (fun b o hb q=>eb b o hb q) fi.1 fi.2.1 fi.2.2.2.1 fi.2.2.2.2.1 fi.2.2.2.2.2⟩
 self:=fun _ _ _ _ _ st h=>let ⟨⟨_,h1⟩,_⟩:=st;wpAny_pyIter_enum h1 h
section
variable {X : Cx}
def aat (K:Frag) (ta:TA):TI:=fun σ H R=>ta σ H fun vs H1=>∃a,vs = [.ref a]/\(∃xs,ai K H1 a xs)/\R (xD K a) H1
theorem Yx {a:Expr}{ta:TA}{p pos tp:Pos}{elts:List Expr}{n1:Nat} (hg:Gl X "enumerate") (hm:X.mg "enumerate" = none) (ha:PA X [a] ta) (hs:starEach [a] X.env = [(false,eval a X.env)]:=by rfl) :
  PI X (.Tuple elts n1 tp) (.Call (.Name "enumerate" p) [a] [] pos) (aat X.K ta):=by
 intro pins s σ H R I h
 refine Call_ (tO I hg hm (show bootBuiltins "enumerate" = some (.type "enumerate") by decide +kernel) (JW (aJ (ha pos pins s σ H _ I h) fun us s1 ⟨vs,H1,I1,r1,q1⟩=>?_) hs rfl))
 obtain⟨l,e,⟨xs,hq⟩,q⟩:=q1
 subst e
 obtain⟨u,rfl,ru⟩:=r1.one
 cases ru
 obtain⟨its,rv,pl,hz⟩:=I1.list hq
 refine call_enumerate_list pl.isList fun h' e1 i1 z1 k1=>?_
 have I2:Inv X pins σ H1 { s1 with heap:=h' }:=I1.kept (t':=s1.toks) k1
 refine wpAny_pyIter_enum (s:={ s1 with heap:=h' }) e1 ?_
 refine⟨s1.heap.objs.size+1,[s1.heap.objs.size+1,s1.heap.objs.size],_,_,H1,rfl,I2,WS l (s1.heap.objs.size+1) s1.heap.objs.size (Nat.succ_ne_self _),⟨⟨.none,e1⟩,i1⟩,fun b hb=>?_,q⟩
 rcases a9.mp hb with z | z
 ·subst z;exact I1.nH (qz _) (I1.aA.fresh (qz _))
 ·have z':b=s1.heap.objs.size:=by simpa using z
  subst z';exact I1.nH (aO _) (I1.aA.fresh (aO _))
theorem Cv:∀ {ys:List Str}{us:List Value},Vals (ys.map V.str) us->StrsAre us ys:=by
 intro ys
 induction ys with
 | nil=>intro us r;cases r;exact .nil
 | cons y ys ih =>
  intro us r
  cases r with
  | cons q qs =>
   obtain⟨t,rfl⟩:=q
   exact .cons _ _ (ih qs)
def rJoin (K:Frag):V->List V->Hp->VK->Prop:=fun x vs H Q=>∃ (z:Str) (p:Addr) (ys:List Str),x = .str z/\vs = [.ref p]/\(ai K H p (ys.map V.str)\/aB K H p (ys.map V.str))/\(ys.map (·.length)).sum+ys.length * z.length<=1000000/\Q (.str (Txt.join z ys)) H
theorem Yy:AU X "str.join" (rJoin X.K):=by
 intro pins s σ H x xs v us Q I rx rv h
 obtain⟨z,p,ys,rfl,rfl,hp,hz,q⟩:=h
 obtain⟨t,rfl⟩:=rx
 obtain⟨u,rfl,ru⟩:=rv.one
 cases ru
 rcases hp with hp | hp
 ·obtain⟨its,r,pl,_⟩:=I.list hp
  exact join_list pl.isList (by simpa using Cv r) (by omega) fun t' k=>⟨.str _,H,I.tok _,⟨_,rfl⟩,q⟩
 ·obtain⟨its,r,pl,_⟩:=I.tuple hp
  exact join_tuple pl (by simpa using Cv r) (by omega) fun t' k=>⟨.str _,H,I.tok _,⟨_,rfl⟩,q⟩
def abJ:V->Option Int->Option Int->Hp->VK->Prop:=fun x lo hi H Q=>∃z:Str,x = .str z/\z.length<=1000000/\Q (.str (Txt.slice z lo hi)) H
theorem Ds:uK X abJ:=by
 intro pins s σ H x v vl vu lo hi sl Q I rx hs pl pu h
 obtain⟨z,rfl,hz,q⟩:=h
 obtain⟨t,rfl⟩:=rx
 have fz:(Txt.slice z lo hi).length<=sizeLine:=c9 (Txt.slice_le z _ _) (by rw[ay];omega)
 refine⟨"str", _,PySem.F.slot_str_getitem.lookup,typeIs_str _ _ _,?_⟩
 cases pl with
 | none =>
  cases pu with
  | none=>exact Kd (l:=none) (u:=none) (st:=none) hs rfl (Ke ⟨fz,fun t' k=>⟨.str _,H,I.tok _,⟨_,rfl⟩,q⟩⟩)
  | int j tj=>exact Kd (l:=none) (u:=some (j,tj)) (st:=none) hs rfl (Ke ⟨fz,fun t' k=>⟨.str _,H,I.tok _,⟨_,rfl⟩,q⟩⟩)
 | int i ti =>
  cases pu with
  | none=>exact Kd (l:=some (i,ti)) (u:=none) (st:=none) hs rfl (Ke ⟨fz,fun t' k=>⟨.str _,H,I.tok _,⟨_,rfl⟩,q⟩⟩)
  | int j tj=>exact Kd (l:=some (i,ti)) (u:=some (j,tj)) (st:=none) hs rfl (Ke ⟨fz,fun t' k=>⟨.str _,H,I.tok _,⟨_,rfl⟩,q⟩⟩)
end
def CW (Pv:Nat->List V->St->Hp->Prop) (n i m:Nat) (ys:List V) (τ:St) (H:Hp):Prop:=m=n - i/\i<=n/\Pv i ys τ H
theorem cw_next {Pv:Nat->List V->St->Hp->Prop}{n i:Nat}{ys:List V}{τ:St}{H:Hp} (h:i < n) (p:Pv (i+1) ys τ H):∃m',m' < n - i/\CW Pv n (i+1) m' ys τ H:=⟨n - (i+1),by omega,rfl,h,p⟩
theorem zb {lo:Int}{n:Nat}{g:TG}{ti:TT}{te:TE}{iC:St}{Q:VK}{p:Addr}{H1:Hp} (Pv:Nat->List V->St->Hp->Prop) (h0:Pv 0 [] iC (upd H1 p (.lst []))) (hl:∀i ys τ H,Pv i ys τ H->H p=some (.lst ys))
  (hs:∀i ys τ H,i < n->Pv i ys τ H->g (.int (lo+i)) τ H fun d4 H4=>ti d4 H4 fun b H5=>if b=true then te d4 H5 fun y H6=>H6 p=some (.lst ys)/\ys.length < sizeLine /\ ∃m',m' < n - i/\CW Pv n (i+1) m' (ys ++ [y]) d4 (upd H6 p (.lst (ys ++ [y]))) else ∃m',m' < n - i/\CW Pv n (i+1) m' ys d4 H5)
  (hd:∀ys τ H,Pv n ys τ H->Q (.ref p) H):kZ (rL lo n) g ti te iC Q p H1:=by
 refine⟨CW Pv n,⟨n,by simp,bY _,h0⟩,?_⟩
 rintro i m ys τ H ⟨rfl,hi,pv⟩
 refine⟨hl i ys τ H pv,?_⟩
 by_cases aM:i < n
 ·refine .inr ⟨aM,fun x H3 y3=>?_⟩
  obtain⟨e3,ex⟩:=y3
  subst e3 ex
  exact hs i ys τ _ aM pv
 ·have e:i=n:=by omega
  subst e
  exact .inl ⟨aO _,hd ys τ H pv⟩
theorem gK {K:Frag}{a:Addr}{xs:List V}{g:TG}{ti:TT}{te:TE}{iC:St}{Q:VK}{p:Addr}{H1:Hp} (Pv:Nat->List V->St->Hp->Prop) (h0:Pv 0 [] iC (upd H1 p (.lst []))) (hl:∀i ys τ H,Pv i ys τ H->H p=some (.lst ys)/\ai K H a xs)
  (hs:∀i x ys τ H,xs[i]? = some x->Pv i ys τ H->g x τ H fun d4 H4=>ti d4 H4 fun b H5=>if b=true then te d4 H5 fun y H6=>H6 p=some (.lst ys)/\ys.length < sizeLine /\ ∃m',m' < xs.length - i/\CW Pv xs.length (i+1) m' (ys ++ [y]) d4 (upd H6 p (.lst (ys ++ [y]))) else ∃m',m' < xs.length - i/\CW Pv xs.length (i+1) m' ys d4 H5)
  (hd:∀ys τ H,Pv xs.length ys τ H->Q (.ref p) H):kZ (rK K a) g ti te iC Q p H1:=by
 refine⟨CW Pv xs.length,⟨xs.length,by simp,bY _,h0⟩,?_⟩
 rintro i m ys τ H ⟨rfl,hi,pv⟩
 obtain⟨hp,hq⟩:=hl i ys τ H pv
 refine⟨hp,?_⟩
 by_cases aM:i < xs.length
 ·refine .inr ⟨⟨xs,xs[i],hq,by simp[aM]⟩,fun x H3 y3=>?_⟩
  obtain⟨e3,ex⟩:=y3
  subst e3
  exact hs i x ys τ _ (ex xs hq) pv
 ·have e:i=xs.length:=by omega
  subst e
  exact .inl ⟨⟨xs,hq,aO _⟩,hd ys τ H pv⟩
theorem oR {K:Frag}{a:Addr}{xs:List V}{g:TG}{ti:TT}{te:TE}{iC:St}{Q:VK}{p:Addr}{H1:Hp} (Pv:Nat->List V->St->Hp->Prop) (h0:Pv 0 [] iC (upd H1 p (.lst []))) (hl:∀i ys τ H,Pv i ys τ H->H p=some (.lst ys)/\aB K H a xs)
  (hs:∀i x ys τ H,xs[i]? = some x->Pv i ys τ H->g x τ H fun d4 H4=>ti d4 H4 fun b H5=>if b=true then te d4 H5 fun y H6=>H6 p=some (.lst ys)/\ys.length < sizeLine /\ ∃m',m' < xs.length - i/\CW Pv xs.length (i+1) m' (ys ++ [y]) d4 (upd H6 p (.lst (ys ++ [y]))) else ∃m',m' < xs.length - i/\CW Pv xs.length (i+1) m' ys d4 H5)
  (hd:∀ys τ H,Pv xs.length ys τ H->Q (.ref p) H):kZ (nT K a) g ti te iC Q p H1:=by
 refine⟨CW Pv xs.length,⟨xs.length,by simp,bY _,h0⟩,?_⟩
 rintro i m ys τ H ⟨rfl,hi,pv⟩
 obtain⟨hp,hq⟩:=hl i ys τ H pv
 refine⟨hp,?_⟩
 by_cases aM:i < xs.length
 ·refine .inr ⟨⟨xs,xs[i],hq,by simp[aM]⟩,fun x H3 y3=>?_⟩
  obtain⟨e3,ex⟩:=y3
  subst e3
  exact hs i x ys τ _ (ex xs hq) pv
 ·have e:i=xs.length:=by omega
  subst e
  exact .inl ⟨⟨xs,hq,aO _⟩,hd ys τ H pv⟩
def OU (N N':List Str) (cW:List (Option Nat)) (sc:Scope):Bool:=(List.range cW.length).all fun j=>match cW[j]? with
 | some (some i)=>(match N[i]? with | some x=>N'[j]? == some x && sc.names.lookup x==some .free | none=>false)
 | _=>true
theorem cR {N N':List Str}{cW:List (Option Nat)}{sc:Scope} (h:OU N N' cW sc=true) (j i:Nat) (e:cW[j]? = some (some i)):∃x,N[i]? = some x/\N'[j]? = some x/\sc.names.lookup x=some .free:=by
 have hj:j < cW.length:=(cq.mp e).1
 have z:=fo.mp h j (oA.mpr hj)
 rw[e]at z
 dsimp only at z
 split at z
 ·rename_i x q
  obtain⟨z1,z2⟩:=eV.mp z
  exact⟨x,q,eN.mp z1,eN.mp z2⟩
 ·cases z
structure Nm (x:Str):Prop where
 lo:1<=x.length
 hi:x.length<=8
 az:∀c∈x.cps.toList,97<=c/\c<=122
def sign (c:Nat):Str:=⟨#[c]⟩
theorem K':∀ (cs:List Nat) (acc:Array Nat),(cs.map sign).foldl (fun acc p=>acc++("" : Str).cps++p.cps) acc=acc++cs.toArray
 | [],acc=>by simp
 | c::cs,acc=>by
  rw[d5,List.foldl_cons,K' cs]
  have e:("" : Str).cps = #[]:=rfl
  rw[e]
  apply Kf.mp
  simp[sign]
theorem Wg (cs:List Nat):Txt.join ("" : Str) (cs.map sign)=⟨cs.toArray⟩:=by
 unfold Txt.join Builtin.Str.glued
 cases cs with
 | nil=>rfl
 | cons c cs =>
  rw[d5]
  show(⟨(cs.map sign).foldl _ (sign c).cps⟩:Str)=_
  rw[K']
  apply gg Str.mk
  apply Kf.mp
  simp[sign]
theorem Wh {z:Str}{c:Nat} (h:c∈(Txt.slice z none (some 6)).cps.toList):c∈z.cps.toList:=by
 unfold Txt.slice at h
 split at h
 ·exact h
 ·simp only[qu]at h
  obtain⟨i,_,e⟩:=h
  obtain⟨_,e2⟩:=vw.mp e
  rw[<-e2];simp
theorem La (z:Str):(Txt.slice z none (some 6)).length<=6:=by
 have hi:(Builtin.Str.strSliceIndices none (some 6) 1 z.length).length<=6:=by
  unfold Builtin.Str.strSliceIndices sliceRange
  simp only[show(1:Int) > 0 by decide,mn,ar,B']
  split <;> (try split) <;> omega
 unfold Txt.slice
 split
 ·rename_i h
  have e:(Builtin.Str.strSliceIndices none (some 6) 1 z.length).length=z.length:=by simpa using h
  omega
 ·show(List.filterMap _ _).toArray.size<=6
  rw[cJ]
  exact c9 (Kg _ _) hi
theorem we (a b:Str):(a++b).cps=a.cps++b.cps:=rfl
theorem Yz {z:Str}{c:Nat} (hz:∀c∈z.cps.toList,97<=c/\c<=122) (hc:97<=c/\c<=122):Nm (Txt.slice z none (some 6)++sign c++("q" : Str)):=by
 have hq:("q" : Str).cps = #[113]:=by decide +kernel
 have hl:=La z
 have e:(Txt.slice z none (some 6)++sign c++("q" : Str)).length=(Txt.slice z none (some 6)).length+2:=by
  show(_:Array Nat).size=_
  rw[we,we,hq]
  show(_ ++ #[c] ++ #[113]).size=_
  rw[Kh,Kh];rfl
 refine⟨by omega,by omega,fun d hd=>?_⟩
 rw[we,we,hq]at hd
 have rH:d∈(Txt.slice z none (some 6)).cps.toList\/d=c\/d=113:=by
  have:d∈((Txt.slice z none (some 6)).cps ++ #[c] ++ #[113]).toList:=hd
  simp at this
  rcases this with h | h | h
  ·exact .inl (by simpa using h)
  ·exact .inr (.inl h)
  ·exact .inr (.inr h)
 rcases rH with h | h | h
 ·exact hz d (Wh h)
 ·rw[h];exact hc
 ·rw[h];omega
theorem XA {p:Str}{c d:Nat} (h:p++sign c++("q" : Str)=p++sign d++("q" : Str)):c=d:=by
 have h1:=gg (fun s:Str=>s.cps.toList) h
 simp only[we]at h1
 have h2:p.cps.toList++([c]++("q" : Str).cps.toList)=p.cps.toList++([d]++("q" : Str).cps.toList):=by
  simpa [sign,Array.toList_append] using h1
 have h3:=List.append_cancel_left h2
 simpa using h3
theorem zM:∀ {ys found:List Str},ys.Nodup->found.length < ys.length -> ∃y∈ys,y ∉ found
 | [],found,_,h=>by simp at h
 | y::ys,found,nd,h=>by
  obtain⟨n1,n2⟩:=fV.mp nd
  by_cases hy:y∈found
  ·have hl:=UJ hy
   have hp:=UK hy
   obtain⟨z,hz,hn⟩:=zM (found:=found.erase y) n2 (by rw[hl];rw[dc]at h;omega)
   refine⟨z,bX _ hz,fun q=>hn ?_⟩
   have ne:z≠y:=fun e=>n1 (by rw[<-e];exact hz)
   exact(Ki ne).mpr q
  ·exact⟨y,aZ,hy⟩
end L2
namespace L2
open PySem PySem.Spec PyProof.Rows PySem.W
section
variable {X : Cx}
theorem De (K:Frag) (h:X.K=K):cE X (compareOp .In) (AW K false):=by subst h;exact CH
theorem Lb (K:Frag) (h:X.K=K):cE X (compareOp .NotIn) (AW K true):=by subst h;exact KO
theorem CL (K:Frag) (h:X.K=K):uL X (D5 K):=by subst h;exact dW
theorem zu (K:Frag) (h:X.K=K):uL X (OH K):=by subst h;exact js
theorem LG {tg l:Expr}{tl:TE} (K:Frag) (h:X.K=K) (hl:PE X l tl):PI X tg l (N5 K tl):=by subst h;exact fq hl
theorem Me {tg l:Expr}{tl:TE} (K:Frag) (h:X.K=K) (hl:PE X l tl):PI X tg l (OD K tl):=by subst h;exact iu hl
theorem Wj (K:Frag) (h:X.K=K):eO X (.builtin "len") (fun xs H Q=>∃p ys,xs = [.ref p]/\(ai K H p ys\/aB K H p ys)/\Q (.int ys.length) H):=by subst h;exact eW
end
theorem tw (x:Str) (ys:List Str):AV (.str x) (ys.map V.str)=decide (x∈ys):=by
 unfold AV
 rw[Kj]
 induction ys with
 | nil=>simp
 | cons y ys ih =>
  rw[sy,ih]
  show((y==x) || decide (x∈ys))=decide (x∈y::ys)
  by_cases h:y=x
  ·subst h;simp
  ·have h':(y==x)=false:=oz.mpr h
   rw[h',UL]
   have:x∈y::ys ↔ x∈ys:=by simp[aT h]
   simp[this]
theorem mU (ys:List Str):(ys.map V.str).all lK=true:=by
 rw[fo]
 intro v hv
 obtain⟨y,_,rfl⟩:=bj.mp hv
 rfl
end L2
namespace L2
open PySem PySem.Spec PyProof.Rows PySem.W
def iM (H:Hp) (a:Addr):Hp:=fun b=>if b=a then none else H b
theorem kQ {H:Hp}{a b:Addr} (n:b≠a):iM H a b=H b:=by unfold iM;rw[aE n]
theorem Lc {H:Hp}{a b:Addr}{o:HO} (e:iM H a b=some o):b≠a/\H b=some o:=by
 unfold iM at e
 split at e
 ·cases e
 next n=>exact⟨n,e⟩
theorem Ld {H:Hp}{a b:Addr} (e:H b=none):iM H a b=none:=by
 unfold iM;split
 ·rfl
 ·exact e
section
variable {X : Cx} {pins : List (Addr × Obj)} {σ : St} {H H1 : Hp} {s s1 : Shared} {a C : Addr} {dx : Option Addr}
theorem Inv.MX (I:Inv X pins σ H s) (e:H a=some (cw C dx a)) (hd:∀d,dx=some d -> ∃fs,H d=some (fg d fs)):∃ox od t,InstAt s.heap a ox C od/\ox={ cls:= .ref C,dict:=dx,data:= .fields #[.ref t,.none,.none,.none,.bool false,.none] }:=by
 obtain⟨t,at_⟩:=I.excAt e
 cases dx with
 | none=>exact⟨_,none,t,⟨at_,rfl,rfl,True.intro⟩,rfl⟩
 | some d =>
  obtain⟨fs,ed⟩:=hd d rfl
  obtain⟨_,mA,n,r,_⟩:=I.zC ed
  obtain⟨od,nY,_⟩:=vH n
  exact⟨_,some od,t,⟨at_,rfl,rfl,nY⟩,rfl⟩
theorem Inv.hidden (I:Inv X pins σ H s) (hx:X.ex = []) (hs:X.stack=X.env::X.outer) (hf:X.env.frame=some X.env.locals) (ha:H a=some (cw C dx a)) (h0:X.iQ a=none) {h':Heap}
  (k:(hideAll s.heap (a::cT X.stack)).StaysIn h') (up:s.heap.UpToSlots h'):Un X.fs [] X.iQ (iM H a) X.cQ.heap h'/\cS X.prog X.w (iM H a) h':=by
 have ub:Un X.fs [] X.iQ H X.cQ.heap s.heap:=by have:=I.base;rw[hx]at this;exact this
 have wL:∀b,b∈cT X.stack->b=X.env.locals\/b∈X.fs:=fun b hb=>by
  have:=I.vX b hb
  rcases a9.mp this with z | z
  ·exact .inl z
  ·exact .inr z
 have nA:∀ {b:Addr},H b=none->b≠a:=fun e z=>by subst z;rw[ha]at e;cases e
 have get:∀b o,s.heap.get? b=some o->b≠a->b ∉ cT X.stack->h'.get? b=some o:=fun b o e n m=>k b o (hideAll_get _ e fun z=>by
  rcases a9.mp z with z | z
  ·exact n z
  ·exact m z)
 have wM:∀b o,X.cQ.heap.get? b=some o->b≠X.env.locals:=fun b o e z=>by
  have h1:=bq e
  have h2:=I.ok.above
  subst z
  exact absurd h1 (Ca.mpr h2)
 have wu:∀b o,b∈X.fs->s.heap.get? b=some o -> ∃sl,h'.get? b=some { o with slots:=sl }:=fun b o m e=>by
  obtain⟨_,o',e',nf⟩:=(I.fZ).mem m
  rw[e]at e'
  cases e'
  exact up b o e nf
 refine⟨⟨fun b o e n m _=>?_,fun b o e n m _=>?_,fun b o e n _=>Ld (ub.free b o e n (by simp)),fun b o e _=>?_,fun b xs e=>?_,fun b o u e=>?_,fun b ps e=>?_⟩,fun b o e=>?_⟩
 ·have e1:=ub.keep b o e n m (by simp)
  refine get b o e1 (nA (ub.free b o e n (by simp))) fun z=>?_
  rcases wL b z with z | z
  ·exact wM b o e z
  ·exact m z
 ·obtain⟨sl,e1⟩:=ub.slot b o e n m (by simp)
  obtain⟨xi,e2⟩:=wu b _ m e1
  exact⟨xi,e2⟩
 ·obtain⟨o',e1⟩:=ub.there b o e (by simp)
  by_cases m:b∈X.fs
  ·obtain⟨sl,e2⟩:=wu b _ m e1
   exact⟨_,e2⟩
  ·refine⟨o',get b o' e1 (fun z=>?_) fun z=>?_⟩
   ·subst z
    have:=ub.free b o e h0 (by simp)
    rw[ha]at this;cases this
   ·rcases wL b z with z | z
    ·exact wM b o e z
    ·exact m z
 ·have e1:=ub.jT b xs e
  rw[kQ (bZ e1 ha (by intro z;cases z))];exact e1
 ·have e1:=ub.jt b o u e
  rw[kQ (bZ e1 ha (by intro z;cases z))];exact e1
 ·obtain⟨mo,e1⟩:=ub.jU b ps e
  exact⟨mo,by rw[kQ (bZ e1 ha (by intro z;cases z))];exact e1⟩
 ·obtain⟨n,e1⟩:=Lc e
  have rh:∀ {c:Addr}{u:HO},H c=some u->c ∉ cT X.stack:=fun q m=>by
   have:=I.zA _ m
   rw[q]at this;cases this
  refine(I.aA b o e1).gF (fun c u hc q=>?_) (fun c q=>?_) fun c xs q=>?_
  ·rcases hc with rfl | q1
   ·exact get _ u q n (rh e1)
   ·exact get c u q (bZ q1 ha (by intro z;cases z)) (rh q1)
  ·rw[kQ (bZ q ha (by intro z;cases z))];exact q
  ·rw[kQ (bZ q ha (by intro z;cases z))];exact q
end
def Cx.g5 (X:Cx) (a:Addr):Cx:={ X with A:=X.A.mark (some (.ref a)),calm:=false,xe:=fun _ _=>False }
section
variable {X : Cx} {pins : List (Addr × Obj)} {σ : St} {H : Hp} {s : Shared} {a C : Addr}
theorem Inv.g5 (I:Inv X pins σ H s) (a:Addr):Inv (X.g5 a) pins σ H s:=
 ⟨⟨I.ok.mod,I.ok.kind,I.ok.glob,I.ok.blt,I.ok.above,I.ok.inj,I.ok.has,I.ok.nQ,(fun z=>Bool.noConfusion (show false=true from z)),I.ok.frames,I.ok.ll,I.ok.pO,I.ok.bs,I.ok.jy,I.ok.nF,I.ok.nG,I.ok.fZ,I.ok.jZ⟩,I.os,I.bare,I.base,I.loc,I.cell,I.free,I.g6,I.pin,I.aA,I.len⟩
theorem Inv.uncaught {Y:Cx} (ok:X.Ok) (I:Inv (X.g5 a) pins σ H s):Inv X pins σ H s:=
 ⟨ok,I.os,I.bare,I.base,I.loc,I.cell,I.free,I.g6,I.pin,I.aA,I.len⟩
theorem SP.uncaught {D:Ends}{f:Flow} (ok:X.Ok) (h:SP (X.g5 a) pins D f s):SP X pins D f s:=by
 cases f with
 | next=>obtain⟨aK,H',I,q⟩:=h;exact⟨aK,H',I.uncaught (Y:=X) ok,q⟩
 | brk=>obtain⟨aK,H',I,q⟩:=h;exact⟨aK,H',I.uncaught (Y:=X) ok,q⟩
 | cont=>obtain⟨aK,H',I,q⟩:=h;exact⟨aK,H',I.uncaught (Y:=X) ok,q⟩
 | ret u=>obtain⟨v,aK,H',I,r,q⟩:=h;exact⟨v,aK,H',I.uncaught (Y:=X) ok,r,q⟩
end
end L2
namespace L2
open PySem PySem.Spec PyProof.Rows PySem.W
section
variable {P : Program} {w : World} {A : Around} {R : Result -> Shared -> Prop}
theorem XB {it l:Addr}{its:Array Value}{g:Heap} (tr:Nat->Bool) (hh:A.in1.handled=none) (du:l≠it) (hl:g.IsList l its)
  (ht:∀i v,its[i]? = some v -> ∃a ws,v = .ref a/\a≠it/\IsTup g a ws/\ws.size<=sizeLine/\tr i = !ws.isEmpty):∀ (k i:Nat) (s:Shared),its.size - i=k->i<=its.size->(∀b o,b≠it->g.get? b=some o->s.heap.get? b=some o)->s.heap.IsListIter it l i ->
  (∀h' tk,(∀b o,b≠it->g.get? b=some o->h'.get? b=some o)->R (.ok (.ret (.bool (((List.range its.size).drop i).any tr)))) { s with heap:=h',toks:=tk }) ->
  codeAny (model P w) A (.builtin "any.loop" ⟨[.ref it],[]⟩) R s:=by
 intro k
 induction k with
 | zero =>
  intro i s hk hi kp hit hR
  obtain rfl:i=its.size:=by omega
  refine mw F.entry_any_loop (?_:wpAny _ _ _ _ _ _)
  rw[show A.under (.builtin "any.loop" ⟨[.ref it],[]⟩)=A.in1 from qA Kk _]
  show wpAny _ _ (pyNext (.ref it) >>= _) _ _ s
  have pX:s.heap.IsList l its:=hl.at fun o e=>kp l o du e
  refine ag (wpAny_pyNext_list_end hh hit pX (by simp) fun h' ex=>ag (sC (au ?_)))
  have:=hR h' s.toks fun b o n e=>ex b o n (kp b o n e)
  rw[UM (by simp)]at this
  exact this
 | succ k ih =>
  intro i s hk hi kp hit hR
  have aM:i < its.size:=by omega
  have hd:(List.range its.size).drop i=i::(List.range its.size).drop (i+1):=by rw[Cb (by simpa using aM),List.getElem_range]
  refine mw F.entry_any_loop (?_:wpAny _ _ _ _ _ _)
  rw[show A.under (.builtin "any.loop" ⟨[.ref it],[]⟩)=A.in1 from qA Kk _]
  show wpAny _ _ (pyNext (.ref it) >>= _) _ _ s
  have pX:s.heap.IsList l its:=hl.at fun o e=>kp l o du e
  have hx:its[i]? = some its[i]:=by simp[aM]
  obtain⟨a,ws,ea,na,abK,hz,htr⟩:=ht i _ hx
  refine ag (wpAny_pyNext_list_item hit pX hx fun h' abL sb=>?_)
  have uP:∀b o,b≠it->g.get? b=some o->h'.get? b=some o:=fun b o n e=>sb.extBut b o n (kp b o n e)
  have aau:IsTup h' a ws:=by
   obtain⟨o,ho,r⟩:=abK
   exact⟨o,uP a o na ho,r⟩
  rw[ea]
  refine ag (fB (truthy_tuple (s:={ s with heap:=h' }) aau (by rw[ay]at hz;omega) (ag (wpAny_letGo ?_))))
  rw[<-htr]
  cases hb:tr i with
  | false =>
   refine au ⟨qB Kk _,ih (i+1) _ (by omega) aM uP abL fun h2 tk2 k2=>?_⟩
   have:=hR h2 tk2 k2
   rw[hd,sy,hb,UL]at this
   exact this
  | true =>
   refine ag (sC (au ?_))
   have:=hR h' (s.toks+1+1) uP
   rw[hd,sy,hb,Bool.true_or]at this
   exact this
end
section
variable {X : Cx}
theorem WT (hc:X.calm=true):eO X (.builtin "any") (fun xs H Q=>∃ (p:Addr) (ys:List V) (rs:List (List V)),xs = [.ref p]/\ai X.K H p ys/\Paired (fun y r=>∃a,y=V.ref a/\aB X.K H a r) ys rs/\Q (.bl (rs.any fun r=>!r.isEmpty)) H):=by
 intro pins s σ H xs us Q I r h
 obtain⟨p,ys,rs,rfl,hq,pr,q⟩:=h
 obtain⟨u,rfl,rx⟩:=vals1 r
 cases rx
 obtain⟨its,rv,pl,hz⟩:=I.list hq
 have hlen:=rv.length
 have all:∀i v,its[i]? = some v -> ∃a ws,v = .ref a/\IsTup s.heap a ws/\ws.size<=sizeLine/\(rs.map fun r=>!r.isEmpty).getD i false = !ws.isEmpty:=by
  intro i v e
  clear q hq pl hz r
  induction rv generalizing rs i with
  | nil=>simp at e
  | cons r1 rt ih =>
   cases pr with
   | cons p1 pt =>
    cases i with
    | zero =>
     simp at e
     subst e
     obtain⟨a,rfl,ha⟩:=p1
     cases r1
     obtain⟨ws,r2,ht,pY⟩:=I.tuple ha
     have fh:=r2.length
     exact⟨a,_,rfl,ht,by rw[cJ];omega,by rw[Cu r2];rfl⟩
    | succ i=>exact ih _ pt (by simpa using hlen) i (by simpa using e)
 have hsz:its.toArray.size=rs.length:=by rw[cJ,<-hlen];exact jL pr
 have fin:(List.range its.toArray.size).any (fun i=>(rs.map fun r=>!r.isEmpty).getD i false)=rs.any fun r=>!r.isEmpty:=by
  rw[hsz]
  apply qv.mpr
  simp only[qD,oA]
  constructor
  ·rintro⟨i,hi,e⟩
   refine⟨rs[i],jl hi,?_⟩
   simpa [List.getD,hi] using e
  ·rintro⟨r,hr,e⟩
   obtain⟨i,hi,rfl⟩:=Kl hr
   exact⟨i,hi,by simpa [List.getD,hi] using e⟩
 refine call_function_tree F.kind_any F.plain_any F.entry_any (F.args_any1 (.ref p)) (?_:wpAny _ _ _ _ _ _)
 unfold Builtin.«any»
 refine ag (m:=oneArg "any" _) (au (ag (B4 pl.isList ?_)))
 have new:∀b o,s.heap.get? b=some o->b≠s.heap.objs.size:=fun b o e=>cu (bq e)
 obtain⟨ol,xE,_⟩:=id pl.isList
 refine au ⟨qB Kk _,XB (g:=s.heap) (fun i=>(rs.map fun r=>!r.isEmpty).getD i false) (I.ok.hd hc) (new p ol xE) pl.isList (fun i v e=>?_) _ 0 _ rfl (bY _) (fun b o n e=>bx _ e) ⟨_,eK _ rfl,rfl,rfl⟩ fun h' tk kp=>?_⟩
 ·obtain⟨a,ws,ea,ht,pY,e2⟩:=all i v (by simpa using e)
  obtain⟨o,ho,_⟩:=id ht
  exact⟨a,ws,ea,new a o ho,ht,pY,e2⟩
 ·rw[UN,fin]
  exact⟨.bl _,H,I.kept (t':=tk) fun b o e=>kp b o (new b o e) e,rfl,q⟩
end
section
variable {X : Cx}
theorem kH (hc:X.calm=true):eO X (.builtin "all") (fun xs H Q=>∃ (p:Addr) (bs:List Bool),xs = [.ref p]/\ai X.K H p (bs.map V.bl)/\Q (.bl (bs.all id)) H):=by
 intro pins s σ H xs us Q I r h
 obtain⟨p,bs,rfl,hq,q⟩:=h
 obtain⟨u,rfl,rx⟩:=vals1 r
 cases rx
 obtain⟨its,rv,pl,hz⟩:=I.list hq
 have hlen:=rv.length
 have vals:its=bs.map Value.bool:=by
  clear q hq pl hz r hlen
  induction bs generalizing its with
  | nil=>cases rv;rfl
  | cons b bs ih =>
   cases rv with
   | cons r1 rt=>cases r1;rw[ih _ rt];rfl
 have new:∀b o,s.heap.get? b=some o->b≠s.heap.objs.size:=fun b o e=>cu (bq e)
 obtain⟨ol,xE,_⟩:=id pl.isList
 refine call_all_walk (B4 pl.isList ?_)
 refine⟨s.heap.objs.size,_,_,_,_,_,fun i=>bs.getD i true,rfl,Walks.list (A:=X.A.in1) (I.ok.hd hc) s.heap.objs.size p (new p ol xE) its.toArray,⟨⟨_,eK _ rfl,rfl,rfl⟩,pl.isList.at fun o e=>bx _ e⟩,fun i v s2 Q2 E2 hv je=>?_,fun h' tk kp=>?_⟩
 ·rw[vals]at hv
  have:bs[i]?.map Value.bool=some v:=by simpa using hv
  obtain⟨b,hb,rfl⟩:=iF.mp this
  refine oC ?_
  have e:bs.getD i true=b:=by rw[jM,hb];rfl
  exact e ▸ je
 ·have fin:(List.range its.toArray.size).all (fun i=>bs.getD i true)=bs.all id:=by
   have hs:its.toArray.size=bs.length:=by rw[vals];simp
   rw[hs]
   apply qv.mpr
   simp only[fo,oA]
   constructor
   ·intro h b hb
    obtain⟨i,hi,rfl⟩:=Kl hb
    simpa [List.getD,hi] using h i hi
   ·intro h i hi
    simpa [List.getD,hi] using h bs[i] (jl hi)
  rw[fin]
  exact⟨.bl _,H,I.kept (t':=tk) fun b o e=>kp b o (by simpa using new b o e) (bx _ e),rfl,q⟩
def YA:V->List V->Hp->VK->Prop:=fun x vs H Q=>∃ (l:Addr) (ys:List Str) (y:Str) (j:Nat),x = .ref l/\vs = [.str y]/\H l=some (.lst (ys.map V.str))/\ys[j]? = some y/\(∀m,m < j->ys[m]? ≠ some y)/\Q (.int j) H
theorem XC:G3 X "list.index" YA:=by
 intro pins s σ H x vs v us Q I rx rv h
 obtain⟨l,ys,y,j,rfl,rfl,hH,hj,nV,q⟩:=h
 cases rx
 obtain⟨u,rfl,t,rfl⟩:=rv.one
 obtain⟨z,its,n,r,hl,e⟩:=I.ui hH
 have cZ:j < its.length:=by
  have:=(cq.mp hj).1
  rw[<-hl,ar];exact this
 have at_:∀m (hm:m < its.length),∃ (w:Str) (t':Tok),ys[m]? = some w/\its[m] = .str w t':=fun m hm=>by
  have jB:m < ys.length:=by rw[<-hl,ar]at hm;exact hm
  obtain⟨u,hu,t',ht⟩:=r.get (i:=m) (x:= .str ys[m]) (by rw[gX,br jB];rfl)
  rw[br hm]at hu
  exact⟨ys[m],t',br jB,by rw[ie hu];exact ht⟩
 have fl:(ys.map V.str).all lK=true:=mU ys
 refine yH F.slot_list_index ⟨_,e,rfl⟩ F.entry_list_index (F.args_list_index_2 _ _) (SeqAt.list_indexAt l its.toArray n none #[] (.str y t) (gT (.str y)) j (by simpa using cZ) ?_ ?_ ?_) ⟨e,?_,?_⟩
 ·rw[ay]at z;have:=hl;omega
 ·obtain⟨w,t',hw,ew⟩:=at_ j cZ
  rw[hj]at hw;cases hw
  show gT (.str y) (its.toArray[j])=true
  rw[amh,ew,zK (y:= .str y) ⟨t',rfl⟩ rfl]
  show decide _=true
  exact cF rfl
 ·intro m hm hmj
  have jB:m < its.length:=by simpa using hm
  obtain⟨w,t',hw,ew⟩:=at_ m jB
  show gT (.str y) (its.toArray[m])=false
  rw[amh,ew,zK (y:= .str w) ⟨t',rfl⟩ rfl]
  have ne:=nV m hmj
  rw[hw]at ne
  show decide _=false
  exact c8 fun z=>ne (by rw[z])
 ·intro u hu
  exact tu (x:= .str y) ⟨t,rfl⟩ rfl r fl u (by simpa using hu)
 ·exact⟨.int j,H,I.tok _,⟨_,rfl⟩,q⟩
end
section
variable {X : Cx} {e : Expr} {te : TE} {pos p2 p3 p4 : Pos} {k : Nat}
def abM (K:Frag) (te:TE):TE:=fun σ H Q=>te σ H fun x H2=>∃ (l:Addr) (xs:List V),x = .ref l/\ai K H2 l xs /\ ∀p,H2 p=none->Q (.ref p) (upd H2 p (.lst xs.reverse))
theorem ZD (he:PE X e te):PE X (.Subscript e (.Slice none none (some (.UnaryOp .USub (.Constant (.int 1) k p3) p4)) p2) pos) (abM X.K te):=by
 intro pins s σ H Q I h
 refine Subscript_ (aJ (he pins s σ H _ I h) fun v s1 ⟨x,H1,I1,r1,l,xs,ex,hx,q⟩=>?_)
 subst ex
 cases r1
 refine wpAny_Slice ?_
 rw[Uw]
 refine au (au ?_)
 refine aJ (dj (zT zJ aD) pins s1 σ H1 (fun o H'=>o=some (-1)/\H'=H1) I1 ⟨_,rfl,_,rfl,rfl,rfl⟩) fun vs s4 ⟨o,H4,I4,ps,eo,eH⟩=>?_
 subst eo eH
 have I5:Inv X pins σ H4 { s4 with heap:=s4.heap.push { cls:= .type "slice", data:= .fields #[.none,.none,vs] } }:=I4.kept (t':=s4.toks) fun b ob z=>bx _ z
 obtain⟨its,r,ht,hz⟩:=I5.list hx
 have hlen:=r.length
 refine tail_any (ops:=_) ht.isList.typeIs Ux.lookup ?_ (by with_unfolding_all rfl)
 refine wpAny_getItem_list_slice ht.isList (Heap.IsSliceOf.new ..) .none .none ps (by decide) ?_ (by rw[cJ];omega)
 rw[krv_pick]
 refine⟨.ref _,_,I5.laid (t':=s4.toks) (o:= .lst xs.reverse) (fun b ob z=>bx _ z) (aO _) ?_,rfl,q _ (I5.aA.fresh (aO _))⟩
 exact⟨by rw[Km];exact hz,its.reverse,0,r.reverse,eK _ rfl⟩
end
end L2
namespace L2
open PySem PySem.Spec PyProof.Rows
section
variable {κ : Type} [DecidableEq κ]
def cf (kvs:List (κ×V)) (k:κ):Option V:=(kvs.find? fun kv=>decide (kv.1=k)).map (·.2)
def putK (kvs:List (κ×V)) (k:κ) (v:V):List (κ×V):=
 if (kvs.any fun kv=>decide (kv.1=k))=true then kvs.map (fun kv=>if kv.1=k then (kv.1,v) else kv) else kvs ++ [(k,v)]
theorem iI {p:κ×V}{r:List (κ×V)}{k:κ} (e:p.1=k):cf (p::r) k=some p.2:=by simp[cf,yK,e]
theorem ip {p:κ×V}{r:List (κ×V)}{k:κ} (e : ¬ p.1=k):cf (p::r) k=cf r k:=by simp[cf,yK,e]
theorem tx (k:κ):∀kvs:List (κ×V),(kvs.any fun kv=>decide (kv.1=k))=(cf kvs k).isSome
 | []=>rfl
 | p::r=>by
  rw[sy]
  by_cases e:p.1=k
  ·simp only[iI e,cF e,Bool.true_or,Option.isSome_some]
  ·rw[ip e,c8 e,UL];exact tx k r
theorem Mf (k j:κ) (y:V):∀kvs:List (κ×V),cf (kvs.map fun kv=>if kv.1=k then (kv.1,y) else kv) j=(cf kvs j).map fun x=>if j=k then y else x
 | []=>rfl
 | p::r=>by
  have ih:=Mf k j y r
  rw[d5]
  by_cases h:p.1=k
  ·rw[aI h]
   by_cases e:p.1=j
   ·rw[iI (p:=(p.1,y)) e,iI e,B1,aI (e.symm.trans h)]
   ·rw[ip (p:=(p.1,y)) e,ip e,ih]
  ·rw[aE h]
   by_cases e:p.1=j
   ·rw[iI (p:=p) e,iI e,B1,aE (fun z=>h (e.trans z))]
   ·rw[ip (p:=p) e,ip e,ih]
theorem LH (k j:κ) (y:V):∀kvs:List (κ×V),cf kvs k=none->cf (kvs ++ [(k,y)]) j=if j=k then some y else cf kvs j
 | [],_=>by
  by_cases e:k=j
  ·rw[aI e.symm];exact iI (p:=(k,y)) e
  ·rw[aE (fun z=>e z.symm)];exact ip (p:=(k,y)) e
 | p::r,hn=>by
  rw[UO]
  have hk : ¬ p.1=k:=fun z=>by rw[iI z]at hn;cases hn
  rw[ip hk]at hn
  have ih:=LH k j y r hn
  by_cases e:p.1=j
  ·rw[iI e,iI e,aE (fun z=>hk (e.trans z))]
  ·rw[ip e,ip e,ih]
theorem tD (kvs:List (κ×V)) (k j:κ) (y:V):cf (putK kvs k y) j=if j=k then some y else cf kvs j:=by
 unfold putK
 by_cases a:(kvs.any fun kv=>decide (kv.1=k))=true
 ·rw[aI a,Mf]
  rw[tx]at a
  by_cases e:j=k
  ·obtain⟨x,hx⟩:=JY.mp a
   rw[aI e,e,hx,B1,aI rfl]
  ·rw[aE e]
   cases cf kvs j with
   | none=>rfl
   | some x=>rw[B1,aE e]
 ·rw[aE a]
  refine LH k j y kvs ?_
  rw[tx]at a
  cases q:cf kvs k with
  | none=>rfl
  | some x=>rw[q]at a;exact(a rfl).elim
theorem Cp (kvs:List (κ×V)) (k:κ) (v:V):(putK kvs k v).length<=kvs.length+1:=by
 unfold putK
 split
 ·rw[ar];omega
 ·rw[aW,dc,vv];omega
theorem vL {kvs:List (κ×V)}{k:κ} (v:V) (h:cf kvs k=none):putK kvs k v=kvs ++ [(k,v)]:=by
 unfold putK
 rw[tx,h]
 exact aE (by decide)
theorem fY.vI {o:Option V}{u:Option Value} (r:fY o u):o.isSome=u.isSome:=by
 cases o with
 | none=>cases u with
  | none=>rfl
  | some _=>exact(show False from r).elim
 | some _=>cases u with
  | none=>exact(show False from r).elim
  | some _=>rfl
theorem KV.val {kvs:List (κ×V)}{vs:List (κ×Value)} (r:KV kvs vs) (k:κ):fY (cf kvs k) (valueAt vs k):=by
 unfold KV at r
 induction r with
 | nil=>exact True.intro
 | @cons p q ps qs h t ih =>
  obtain⟨h1,h2⟩:=h
  by_cases e:p.1=k
  ·have e':q.1=k:=h1.symm.trans e
   have b:valueAt (q::qs) k=some q.2:=by simp[valueAt,yK,e']
   rw[iI e,b];exact h2
  ·have e' : ¬ q.1=k:=fun z=>e (h1.trans z)
   have b:valueAt (q::qs) k=valueAt qs k:=by simp[valueAt,yK,e']
   rw[ip e,b];exact ih
theorem KV.any {kvs:List (κ×V)}{vs:List (κ×Value)} (r:KV kvs vs) (k:κ):(kvs.any fun kv=>decide (kv.1=k))=vs.any fun kv=>decide (kv.1=k):=by
 unfold KV at r
 induction r with
 | nil=>rfl
 | cons h t ih=>rw[sy,sy,ih,h.1]
theorem KV.D9 {kvs:List (κ×V)}{vs:List (κ×Value)} (r:KV kvs vs) (k:κ) {y:V}{u:Value} (ry:RelV y u) :
  KV (kvs.map fun kv=>if kv.1=k then (kv.1,y) else kv) (vs.map fun kv=>if kv.1=k then (kv.1,u) else kv):=by
 unfold KV at r ⊢
 induction r with
 | nil=>exact .nil
 | @cons p q ps qs h t ih =>
  rw[d5,d5]
  refine .cons ?_ ih
  obtain⟨h1,h2⟩:=h
  by_cases e:p.1=k
  ·rw[aI e,aI (h1.symm.trans e)];exact⟨h1,ry⟩
  ·rw[aE e,aE (fun z=>e (h1.trans z))];exact⟨h1,h2⟩
theorem KV.put {kvs:List (κ×V)}{vs:List (κ×Value)} (r:KV kvs vs) (k:κ) {y:V}{u:Value} (ry:RelV y u):KV (putK kvs k y) (stored vs k u):=by
 unfold putK stored
 rw[r.any k]
 by_cases e:(vs.any fun kv=>decide (kv.1=k))=true
 ·rw[aI e,aI e];exact r.D9 k ry
 ·rw[aE e,aE e];exact Paired.snoc r ⟨rfl,ry⟩
theorem KV.length {kvs:List (κ×V)}{vs:List (κ×Value)} (r:KV kvs vs):kvs.length=vs.length:=jL r
end
theorem qV {P:Program}{w:World}{k:Key}{u:Value} (r:RelV (kV k) u):(d7 P w).is k u=true:=by
 cases k with
 | inl i=>obtain⟨t,e⟩:=(show ∃t,u=Value.int i t from r);subst e;exact VL P w i t
 | inr x=>obtain⟨t,e⟩:=(show ∃t,u=Value.str x t from r);subst e;exact VM P w x t
theorem LI {P:Program}{w:World}:∀ {ks:List Key}{us:List Value},Vals (ks.map kV) us->ItemsAre (d7 P w) ks us
 | [],_,r=>by rw[List.map_nil]at r;cases r;exact .nil
 | k::ks,_,r=>by
  rw[d5]at r
  cases r with
  | cons h t=>exact .cons (qV h) (LI t)
abbrev KT (H:Hp):List (List Key×V)->List (List Key×Addr×Value)->Prop:=Paired fun p q=>p.1=q.1/\H q.2.1=some (.tup (p.1.map kV))/\RelV p.2 q.2.2
theorem KT.val {H:Hp}{kvs:List (List Key×V)}{xs:List (List Key×Addr×Value)} (r:KT H kvs xs) (k:List Key):fY (cf kvs k) ((atKey xs k).map (·.2)):=by
 induction r with
 | nil=>exact True.intro
 | @cons p q ps qs h t ih =>
  obtain⟨h1,_,h2⟩:=h
  by_cases e:p.1=k
  ·have e':q.1=k:=h1.symm.trans e
   have b:atKey (q::qs) k=some q.2:=by simp[atKey,yK,e']
   rw[iI e,b];exact h2
  ·have e' : ¬ q.1=k:=fun z=>e (h1.trans z)
   have b:atKey (q::qs) k=atKey qs k:=by simp[atKey,yK,e']
   rw[ip e,b];exact ih
theorem KT.D9 {H:Hp}{kvs:List (List Key×V)}{xs:List (List Key×Addr×Value)} (r:KT H kvs xs) (k:List Key) {y:V}{u:Value} (ry:RelV y u) :
  KT H (kvs.map fun kv=>if kv.1=k then (kv.1,y) else kv) (xs.map (putAt k u)):=by
 induction r with
 | nil=>exact .nil
 | @cons p q ps qs h t ih =>
  rw[d5,d5]
  refine .cons ?_ ih
  obtain⟨h1,h2,h3⟩:=h
  unfold putAt
  by_cases e:p.1=k
  ·rw[aI e,aI (h1.symm.trans e)];exact⟨h1,h2,ry⟩
  ·rw[aE e,aE (fun z=>e (h1.trans z))];exact⟨h1,h2,h3⟩
theorem KT.put {H:Hp}{kvs:List (List Key×V)}{xs:List (List Key×Addr×Value)} (r:KT H kvs xs) (k:List Key) {b:Addr}{y:V}{u:Value} (hb:H b=some (.tup (k.map kV))) (ry:RelV y u) :
  KT H (putK kvs k y) (storedH xs k b u):=by
 have e:(kvs.any fun kv=>decide (kv.1=k))=(atKey xs k).isSome:=by
  rw[tx,(r.val k).vI,UP]
 unfold putK storedH
 rw[e]
 by_cases q:(atKey xs k).isSome=true
 ·rw[aI q,aI q];exact r.D9 k ry
 ·rw[aE q,aE q];exact Paired.snoc r ⟨rfl,hb,ry⟩
theorem KT.keeps {H H':Hp}{kvs:List (List Key×V)}{xs:List (List Key×Addr×Value)} (r:KT H kvs xs) (ht:∀b ys,H b=some (.tup ys)->H' b=some (.tup ys)):KT H' kvs xs:=
 Paired.Ac r fun _ _ z=>⟨z.1,ht _ _ z.2.1,z.2.2⟩
section
variable {P : Program} {w : World} {H : Hp} {h : Heap} {a : Addr}
theorem Ob {u:HO} (ok:cS P w H h) (e:Rd H a u):bH P w H h a u:=e.ok ok
theorem tY {kvs:List (Key×V)} (ok:cS P w H h) (e:Rd H a (.dK kvs)):kvs.length<=sizeLine/\(a==sysModules)=false /\ ∃vs,KV kvs vs/\h.DictOf (d7 P w) a vs:=
 show bH P w H h a (.dK kvs) from Ob ok e
theorem DL {kvs:List (Key×V)} (ok:cS P w H h) (e:H a=some (.dK kvs)):kvs.length<=sizeLine/\(a==sysModules)=false /\ ∃vs,KV kvs vs/\h.DictOf (d7 P w) a vs:=tY ok (.inl e)
theorem wg {ks:List Key} (ok:cS P w H h) (e:H a=some (.tup (ks.map kV))):(tupleKind (d7 P w)).is h ks a:=by
 obtain⟨_,its,r,o,h1,h2,n,h3,_⟩:=(show bH P w H h a (.tup (ks.map kV)) from ok a _ e)
 exact⟨o,its.toArray,n,h1,h2,h3,by simpa using LI r⟩
theorem wx {kvs:List (List Key×V)} (ok:cS P w H h) (e:Rd H a (.dT kvs)):kvs.length<=sizeLine/\(a==sysModules)=false /\
  ∃xs,KT H kvs xs/\h.DictOfH (tupleKind (d7 P w)) a xs:=by
 obtain⟨z,y,xs,r,o,es,ep,h1,h2,h3,h4,h5⟩:=(show bH P w H h a (.dT kvs) from Ob ok e)
 refine⟨z,y,xs,r,o,es,ep,h1,h2,h3,h4,fun x hx=>?_,h5⟩
 have all:∀ {l:List (List Key×V)}{m:List (List Key×Addr×Value)},KT H l m -> ∀x∈m,(tupleKind (d7 P w)).is h x.1 x.2.1:=by
  intro l m q
  induction q with
  | nil=>intro x hx;exact nomatch hx
  | @cons p q ps qs hq t ih =>
   intro x hx
   rcases a9.mp hx with e | hx
   ·subst e
    exact wg ok (by rw[<-hq.1];exact hq.2.1)
   ·exact ih x hx
 exact all r x hx
theorem aav {kvs:List (List Key×V)} (ok:cS P w H h) (e:H a=some (.dT kvs)):kvs.length<=sizeLine/\(a==sysModules)=false /\
  ∃xs,KT H kvs xs/\h.DictOfH (tupleKind (d7 P w)) a xs:=wx ok (.inl e)
end
def iz (H:Hp) (a:Addr) (y:V) (r:Option V):Prop:=
 (∃kvs k,Rd H a (.dK kvs)/\y=kV k/\r=cf kvs k) \/ ∃kvs k b,Rd H a (.dT kvs)/\y = .ref b/\H b=some (.tup (k.map kV))/\r=cf kvs k
def nJ (H:Hp) (a:Addr) (y v:V) (H':Hp):Prop:=
 (∃kvs k,H a=some (.dK kvs)/\y=kV k/\kvs.length < sizeLine/\H'=upd H a (.dK (putK kvs k v))) \/
 ∃kvs k b,H a=some (.dT kvs)/\y = .ref b/\H b=some (.tup (k.map kV))/\kvs.length < sizeLine/\H'=upd H a (.dT (putK kvs k v))
theorem iz.k {H:Hp}{a:Addr}{kvs:List (Key×V)}{k:Key} (e:H a=some (.dK kvs)):iz H a (kV k) (cf kvs k):= .inl ⟨kvs,k,.inl e,rfl,rfl⟩
theorem nJ.k {H:Hp}{a:Addr}{kvs:List (Key×V)}{k:Key}{v:V} (e:H a=some (.dK kvs)) (hl:kvs.length < sizeLine):nJ H a (kV k) v (upd H a (.dK (putK kvs k v))):= .inl ⟨kvs,k,e,rfl,hl,rfl⟩
section
variable {X : Cx} {pins : List (Addr × Obj)} {σ : St} {H : Hp} {s : Shared} {a : Addr} {y v : V} {u r : Value} {o : Option V} {A : Around} {E : Value -> Shared -> Prop}
theorem Inv.big (I:Inv X pins σ H s):sysModules < s.heap.objs.size:=by
 have h:mainGlobals < s.heap.objs.size:=(I.mod.glob.keeps I.bk).lt
 exact vt (by decide) h
theorem WU {Q:Value->Shared->Prop} (hu:A.units+1 < cLine) (I:Inv X pins σ H s) (g:iz H a y (some v)) (ry:RelV y u) (h:∀w' s',Inv X pins σ H s'->RelV v w'->Q w' s') :
  wpAny (model X.prog X.w) A (getItem (.ref a) u) Q E s:=by
 rcases g with⟨kvs,k,e,ey,l⟩|⟨kvs,k,b,e,ey,eb,l⟩
 ·subst ey
  obtain⟨z,hd,vs,rel,dd⟩:=tY I.aA e
  obtain⟨w',hw,eG⟩:=fY.some_of (v:=v) (o:=valueAt vs k) (by rw[l];exact rel.val k)
  exact wpAny_getItem_of (qV ry) dd.mapOf hw (h w' _ (I.tok _) eG)
 ·subst ey
  cases (show u=Value.ref b from ry)
  obtain⟨z,hd,xs,rel,dd⟩:=wx I.aA e
  obtain⟨w',hw,eG⟩:=fY.some_of (v:=v) (o:=(atKey xs k).map (·.2)) (by rw[l];exact rel.val k)
  obtain⟨p,hp,pZ⟩:=iF.mp hw
  refine wpAny_getItem_heap (Kn hu) (wg I.aA eb) dd hp ?_
  rw[pZ]
  exact h w' _ (I.tok _) eG
theorem abN {Q:Value->Shared->Prop} (hu:A.units+1 < cLine) (I:Inv X pins σ H s) (g:iz H a y o) (ry:RelV y u) (h:∀s',Inv X pins σ H s'->Q (.bool o.isSome) s') :
  wpAny (model X.prog X.w) A (compareOp .In u (.ref a)) Q E s:=by
 rcases g with⟨kvs,k,e,ey,l⟩|⟨kvs,k,b,e,ey,eb,l⟩
 ·subst ey
  obtain⟨z,hd,vs,rel,dd⟩:=tY I.aA e
  refine wpAny_in_of (qV ry) hd dd.mapOf ?_
  rw[<-(rel.val k).vI,<-l]
  exact h _ (I.tok _)
 ·subst ey
  cases (show u=Value.ref b from ry)
  obtain⟨z,hd,xs,rel,dd⟩:=wx I.aA e
  refine wpAny_in_heap (Kn hu) (wg I.aA eb) hd dd ?_
  have q:=(rel.val k).vI
  rw[UP]at q
  rw[<-q,<-l]
  exact h _ (I.tok _)
theorem YB {Q:Value->Shared->Prop} (hu:A.units+1 < cLine) (I:Inv X pins σ H s) (g:iz H a y o) (ry:RelV y u) (h:∀s',Inv X pins σ H s'->Q (.bool (!o.isSome)) s') :
  wpAny (model X.prog X.w) A (compareOp .NotIn u (.ref a)) Q E s:=by
 rcases g with⟨kvs,k,e,ey,l⟩|⟨kvs,k,b,e,ey,eb,l⟩
 ·subst ey
  obtain⟨z,hd,vs,rel,dd⟩:=tY I.aA e
  refine wpAny_notIn_of (qV ry) hd dd.mapOf ?_
  rw[<-(rel.val k).vI,<-l]
  exact h _ (I.tok _)
 ·subst ey
  cases (show u=Value.ref b from ry)
  obtain⟨z,hd,xs,rel,dd⟩:=wx I.aA e
  refine wpAny_notIn_heap (Kn hu) (wg I.aA eb) hd dd ?_
  have q:=(rel.val k).vI
  rw[UP]at q
  rw[<-q,<-l]
  exact h _ (I.tok _)
theorem MY {h':Heap}{t':Nat}{ob:HO} (I:Inv X pins σ H s) (mu:xf (H a)) (hs:Heap.SameBut a s.heap h') (he:∃q,h'.get? a=some q) (new:bH X.prog X.w (upd H a ob) h' a ob) :
  Inv X pins σ (upd H a ob) { s with heap:=h',toks:=t' }:=
 I.write (x:=a) (e:=a) mu (.inl rfl) (fun b q hb z=>(hs.2 b hb).trans z) he new
theorem NK {P:Program}{w:World}{H':Hp}{h':Heap}{kvs:List (Key×V)}{vs:List (Key×Value)} (z:kvs.length<=sizeLine) (hd:(a==sysModules)=false) (rel:KV kvs vs) (dd:h'.DictOf (d7 P w) a vs) :
  bH P w H' h' a (.dK kvs):=⟨z,hd,vs,rel,dd⟩
theorem WV {H':Hp}{Q:Unit->Shared->Prop} (hu:A.units+1 < cLine) (I:Inv X pins σ H s) (g:nJ H a y v H') (ry:RelV y u) (rv:RelV v r) (h:∀s',Inv X pins σ H' s'->Q () s') :
  wpAny (model X.prog X.w) A (setItem (.ref a) u r) Q E s:=by
 rcases g with⟨kvs,k,e,ey,l,eH⟩|⟨kvs,k,b,e,ey,eb,l,eH⟩
 ·subst ey eH
  obtain⟨z,hd,vs,rel,dd⟩:=DL I.aA e
  have hz:vs.length<=sizeLine:=by rw[<-rel.length];exact z
  have hl:(putK kvs k v).length<=sizeLine:=by have:=Cp kvs k v;omega
  refine wpAny_setItem_pairs (hsz:=hz) (qV ry) dd fun h' n4 hs=>h _ ?_
  have he:∃q,h'.get? a=some q:=let ⟨q,_,_,hq,_⟩:=n4;⟨q,hq⟩
  exact MY I (by rw[e];exact True.intro) hs he (NK hl hd (rel.put k rv) n4)
 ·subst ey eH
  cases (show u=Value.ref b from ry)
  obtain⟨z,hd,xs,rel,dd⟩:=aav I.aA e
  have hz:xs.length<=sizeLine:=by rw[<-jL rel];exact z
  have hl:(putK kvs k v).length<=sizeLine:=by have:=Cp kvs k v;omega
  refine wpAny_setItem_heap (hsz:=hz) (Kn hu) (wg I.aA eb) dd fun h' n4 hs=>h _ ?_
  obtain⟨q,es,ep,hq,h2,h3,h4,_,h5⟩:=n4
  refine MY I (by rw[e];exact True.intro) hs ⟨q,hq⟩ ⟨hl,hd,_,(rel.put k eb rv).keeps fun c ys ec=>?_,q,es,ep,hq,h2,h3,h4,h5⟩
  rw[aj (bZ ec e (fun z=>nomatch z))]
  exact ec
end
section
variable {X : Cx} {pins : List (Addr × Obj)} {σ : St} {H : Hp} {s : Shared} {a : Addr} {kvs : List (Key × V)} {k : Key} {u : Value} {A : Around} {E : Value -> Shared -> Prop}
theorem aaw {Q:Value->Shared->Prop} (I:Inv X pins σ H s) (e:Rd H a (.dK kvs)) (h:∀t s',Inv X pins σ H s'->Q (.int kvs.length t) s'):wpAny (model X.prog X.w) A (call (.builtin "len") [.ref a]) Q E s:=by
 obtain⟨z,hd,vs,rel,dd⟩:=tY I.aA e
 refine call_len_dict hd dd (by rw[<-rel.length];rw[ay]at z;omega) ?_
 rw[<-rel.length]
 exact h _ _ (I.tok _)
end
def OV (i:Expr):Prop:= ∀ov iv,subscripted i false ov iv=operate [ov,iv] (getItem ov iv)
theorem YC {prog:Program}{w:World}{A:Around}{E:Value->Shared->Prop}{s:Shared}{env:Env}{value slice:Expr}{pos:Pos}{T id:String}{Q:Value->Shared->Prop}
  (hl:typeLookup (.type T) "__getitem__" = pure (some (.builtin id))) (hs:OV slice)
  (h:wpAny (model prog w) A (eval value env) (fun o bh=>wpAny (model prog w) A (eval slice env) (fun i lg=>lg.TypeIs o T/\wpAny (model prog w) A (getItem o i) Q E lg) E bh) E s) :
  wpAny (model prog w) A (eval (.Subscript value slice pos) env) Q E s:=by
 refine Subscript_ (lF h (fun o bh abO=>lF abO (fun i lg D'=>?_) fun _ _ x=>x) fun _ _ x=>x)
 obtain⟨hT,D'⟩:=D'
 unfold subscriptTail
 refine ag ?_
 rw[getitemInPython_of_ne hT.not_modules]
 refine ag (wpAny_specialOf hT hl ?_)
 have fin:wpAny (model prog w) A (subscripted slice false o i) (fun r OW=>wpAny (model prog w) A (letTemporaryGo value o r >>= fun _=>pure r) Q E OW) E lg:=by
  rw[hs o i]
  exact wpAny_operating (lF D' (fun r OW abP=>ag (wpAny_letTemporaryGo (au abP))) fun _ _ x=>x)
 first
  | exact au (ag fin)
  | exact ag (au (ag fin))
  | exact ag fin
theorem VR {X:Cx}{pins:List (Addr×Obj)}{σ:St}{H:Hp}{s:Shared}{a:Addr}{y:V}{o:Option V} (I:Inv X pins σ H s) (g:iz H a y o):s.TypeIs (.ref a) "dict" :=by
 rcases g with⟨kvs,k,e,_,_⟩|⟨kvs,k,b,e,_,_,_⟩
 ·obtain⟨_,_,vs,_,dd⟩:=tY I.aA e
  exact dd.typeIs
 ·obtain⟨_,_,xs,_,dd⟩:=wx I.aA e
  exact dd.typeIs
def DM (td ty:TE):TE:=fun σ H Q=>td σ H fun x H1=>ty σ H1 fun y H2=>∃a v,x = .ref a/\iz H2 a y (some v)/\Q v H2
def OX (ty td:TE):TE:=fun σ H Q=>ty σ H fun y H1=>td σ H1 fun x H2=>∃a o,x = .ref a/\iz H2 a y o/\Q (.bl o.isSome) H2
def YD (ty td:TE):TE:=fun σ H Q=>ty σ H fun y H1=>td σ H1 fun x H2=>∃a o,x = .ref a/\iz H2 a y o/\Q (.bl (!o.isSome)) H2
def aax (td ty tv:TE):TS:=fun D σ H=>tv σ H fun v H1=>td σ H1 fun x H2=>ty σ H2 fun y H3=>∃a H4,x = .ref a/\nJ H3 a y v H4/\D.nx σ H4
section
variable {X : Cx} {o i e value : Expr} {pos pos' amS : Pos} {td ty tv : TE}
theorem zD (hu:X.A.units+1 < cLine) (ho:PE X o td) (hi:PE X i ty) (hs:OV i):PE X (.Subscript o i pos) (DM td ty):=by
 intro pins s σ H Q I h
 refine YC PySem.F.slot_dict_getitem.lookup hs (aJ (ho pins s σ H _ I h) fun u s1 ⟨x,H1,I1,rx,q1⟩=>aJ (hi pins s1 σ H1 _ I1 q1) fun iv s2 ⟨y,H2,I2,ry,a,v,ex,g,q2⟩=>?_)
 subst ex
 obtain rfl:u=Value.ref a:=rx
 exact⟨VR I2 g,WU hu I2 g ry fun w' s3 I3 eG=>⟨v,H2,I3,eG,q2⟩⟩
theorem NL (hu:X.A.units+1 < cLine) (hi:PE X i ty) (ho:PE X o td):PC X .In i o (OX ty td):=by
 intro pins s σ H Q I h
 refine aJ (hi pins s σ H _ I h) fun iv s1 ⟨y,H1,I1,ry,q1⟩=>aJ (ho pins s1 σ H1 _ I1 q1) fun u s2 ⟨x,H2,I2,rx,a,ov,ex,g,q2⟩=>?_
 subst ex
 obtain rfl:u=Value.ref a:=rx
 exact abN hu I2 g ry fun s3 I3=>⟨.bl ov.isSome,H2,I3,rfl,q2⟩
theorem LJ (hu:X.A.units+1 < cLine) (hi:PE X i ty) (ho:PE X o td):PC X .NotIn i o (YD ty td):=by
 intro pins s σ H Q I h
 refine aJ (hi pins s σ H _ I h) fun iv s1 ⟨y,H1,I1,ry,q1⟩=>aJ (ho pins s1 σ H1 _ I1 q1) fun u s2 ⟨x,H2,I2,rx,a,ov,ex,g,q2⟩=>?_
 subst ex
 obtain rfl:u=Value.ref a:=rx
 exact YB hu I2 g ry fun s3 I3=>⟨.bl (!ov.isSome),H2,I3,rfl,q2⟩
theorem zE (hu:X.A.units+1 < cLine) (ho:PE X o td) (hi:PE X i ty) (hv:PE X value tv) (hs:swapsWith value (some (.Subscript o i pos')) pos.line X.env=pure false) :
  PS X (.Assign [.Subscript o i pos'] value pos) (aax td ty tv):=by
 intro pins s σ H D I h
 refine wpAny_Assign_Subscript (aJ (hv pins s σ H _ I h) fun r s1 ⟨v,H1,I1,rv,q1⟩=>aJ (ho pins s1 σ H1 _ I1 q1) fun u s2 ⟨x,H2,I2,rx,q2⟩=>aJ (hi pins s2 σ H2 _ I2 q2) fun iv s3 ⟨y,H3,I3,ry,a,H4,ex,g,q3⟩=>?_) hs
 subst ex
 obtain rfl:u=Value.ref a:=rx
 exact WV hu I3 g ry rv fun s4 I4=>⟨σ,H4,I4,q3⟩
end
theorem XD {P:Program}{w:World}{H:Hp} (h:Heap) (hb:sysModules < h.objs.size):bH P w H (h.push { cls:= .type "dict", data:= .dict #[] }) h.objs.size (.dK []):=
 ⟨bY _,oz.mpr (aT (cu hb)),[],.nil,Heap.DictOf.new h⟩
def Du:TE:=fun _ H Q=>∀p,H p=none->Q (.ref p) (upd H p (.dK []))
section
variable {X : Cx} {pos : Pos}
theorem vM:PE X (.Dict [] [] pos) Du:=fun pins s σ H Q I h =>
 wpAny_Dict_empty ⟨.ref s.heap.objs.size,_,I.laid (a:=s.heap.objs.size) (o:= .dK []) (t':=s.toks) (fun _ _ q=>bx _ q) (aO _) (XD s.heap I.big),rfl,h _ (I.aA.fresh (aO _))⟩
end
end L2
namespace HT
open PySem PyProof.Rows
section
variable {prog : Program} {w : World} {A : Around} {E : Value -> Shared -> Prop} {s : Shared}
theorem Vm {t sl:Addr}{items:Array Value}{vl vu:Value}{lo hi:Option Int}{Q:Value->Shared->Prop} (ht:IsTup s.heap t items) (hs:s.heap.IsSliceOf sl vl vu .none) (pl:IsPart vl lo) (pu:IsPart vu hi)
  (h0:bf items.size 0 lo=0) (h1:bf items.size items.size hi=items.size) (h:Q (.ref t) s):wpAny (model prog w) A (getItem (.ref t) (.ref sl)) Q E s:=by
 obtain⟨os,rP,AS,xq⟩:=id hs
 have G0:s.TypeIs (.ref sl) "slice" :=⟨os,rP,AS⟩
 unfold getItem
 try with_reducible refine fB ?_
 first | refine ag (au ?_)|skip
 refine ag (wpAny_sequenceKey ht.typeIs (by decide) ?_)
 refine ag (Uv (name:=Str.ofString "__getitem__") ht.typeIs yF
  (sx yF ht.typeIs entry_tuple_getitem ?_ (args_tuple_getitem _ _)))
 show wpAny _ _ (Builtin.Tuple.tupleItemsOf (.ref t) >>= _) _ _ s
 refine ag (tupleItemsOf_ ht ?_)
 refine ag (oF G0 ?_)
 rw[aI (by decide)]
 refine ag (Kz hs pl pu ?_)
 rw[h0,h1]
 have abQ:((((0:Nat):Int)==0 && (1:Int)==1 && (items.size - 0)==items.size)=true):=by simp
 show wpAny _ _ (if ((((0:Nat):Int)==0 && (1:Int)==1 && (items.size - 0)==items.size)=true) then _ else _) _ _ s
 rw[aI abQ]
 refine ag (ag (oF ht.typeIs (au ?_)))
 rw[aI (by decide)]
 exact ag (sC (au ⟨_,rfl,au h⟩))
theorem XF {t b:Addr}{ws:List Value}{Q:Value->Shared->Prop} (ht:IsTup s.heap t ([]:List Value).toArray) (hb:IsTup s.heap b ws.toArray) (h:Q (.ref b) s):wpAny (model prog w) A (binaryOp .Add (.ref t) (.ref b)) Q E s:=by
 obtain⟨⟨cls,dd,data,sl⟩,ho,hc,n,hd⟩:=id ht
 obtain⟨⟨OG,AR,data2,rO⟩,lW,cU,n2,hd2⟩:=id hb
 obtain rfl:cls = .type "tuple" :=hc
 obtain rfl:data = .seq #[] n:=hd
 obtain rfl:OG = .type "tuple" :=cU
 obtain rfl:data2 = .seq ws.toArray n2:=hd2
 exact concat_meets ⟨_,ho,rfl⟩ ⟨_,lW,rfl⟩ Up Uq Ur Us (Ut _ _) (tuple_addW0 t b #[] ws.toArray n n2 dd AR sl rO rfl) ⟨ho,lW,h⟩
end
end HT
namespace L2
open PySem PySem.Spec PyProof.Rows PySem.W
theorem Mg {H:Hp}{q:Addr}{o:HO} (hq:H q=none):aq H (upd H q o):=fun b u e=>by rw[aj (ax e hq)];exact e
section
variable {X : Cx}
def Ea:V->Option Int->Option Int->Hp->VK->Prop:=fun x lo hi H Q=>∃a xs,x = .ref a/\H a=some (.tup xs) /\ ∀p H',aq H H'->H' p=some (.tup (eP xs lo hi))->Q (.ref p) H'
theorem zF:uK X Ea:=by
 intro pins s σ H x v vl vu lo hi sl Q I rx hs pl pu h
 obtain⟨a,xs,rfl,hx,q⟩:=h
 by_cases hw:HT.bf xs.length 0 lo=0/\HT.bf xs.length xs.length hi=xs.length
 ·cases rx
  obtain⟨its,r,ht,hz⟩:=I.tuple (aB.of hx)
  have hlen:its.toArray.size=xs.length:=by rw[cJ];exact r.length.symm
  refine⟨"tuple", _,yF.lookup,ht.typeIs,HT.Vm ht hs pl pu (by rw[hlen];exact hw.1) (by rw[hlen];exact hw.2) ?_⟩
  refine⟨.ref a,H,I,rfl,q a H (aq.refl _) ?_⟩
  unfold eP
  rw[hw.1,hw.2,UN,Nat.sub_zero,dw]
  exact hx
 ·exact Zs pins s σ H (.ref a) v vl vu lo hi sl Q I rx hs pl pu ⟨a,xs,rfl,aB.of hx,hw,fun p hp=>q p _ (Mg hp) af⟩
def DN:R2:=fun x y H Q=>∃a b xs ys,x = .ref a/\y = .ref b/\H a=some (.tup xs)/\H b=some (.tup ys)/\xs.length+ys.length<=sizeLine /\ ∀p H',aq H H'->H' p=some (.tup (xs++ys))->Q (.ref p) H'
theorem vV:cE X (binaryOp .Add) DN:=by
 intro pins s σ H x y v u Q I rx ry h
 obtain⟨a,b,xs,ys,rfl,rfl,ha,hb,hz,q⟩:=h
 cases xs with
 | nil =>
  cases rx
  cases ry
  obtain⟨its,r1,p1,_⟩:=I.tuple (aB.of ha)
  obtain⟨lR,r2,p2,_⟩:=I.tuple (aB.of hb)
  cases r1
  exact HT.XF p1 p2 ⟨.ref b,H,I,rfl,q b H (aq.refl _) hb⟩
 | cons z xs=>exact Yr pins s σ H (.ref a) (.ref b) v u Q I rx ry ⟨a,b,_,ys,rfl,rfl,aB.of ha,aB.of hb,by simp,hz,fun e=>q a H (aq.refl _) (by rw[e,ik];exact ha),fun _ p hp=>q p _ (Mg hp) af⟩
theorem YE {P:Program}{w:World}{k:Key}{u:Value} (h:(d7 P w).is k u=true):RelV (kV k) u:=by
 cases k with
 | inl i=>exact Value.isInt_shape (show Value.isInt i u=true from h)
 | inr x=>exact Uh (show Value.isStrOf x u=true from h)
theorem MZ:∀ {xs:List V}{us:List Value},xs.length=us.length->(∀ (i:Nat) x u,xs[i]? = some x->us[i]? = some u->RelV x u)->Vals xs us
 | [],[],_,_=>.nil
 | [],_::_,h,_=>by simp at h
 | _::_,[],h,_=>by simp at h
 | x::xs,u::us,h,f=>.cons (f 0 x u rfl rfl) (MZ (by simpa using h) fun i y v a b=>f (i+1) y v (by simpa using a) (by simpa using b))
theorem Wl (hc:X.calm=true):eO X (.type "list") (fun xs H Q=>∃d kvs,xs = [.ref d]/\H d=some (.dK kvs) /\ ∀l,H l=none->Q (.ref l) (upd H l (.lst (kvs.map fun kv=>kV kv.1)))):=by
 intro pins s σ H xs us Q I r h
 obtain⟨d,kvs,rfl,hd,q⟩:=h
 obtain⟨u,rfl,rx⟩:=vals1 r
 cases rx
 obtain⟨hz,lo,vs,kv,dd⟩:=DL I.aA hd
 obtain⟨ep,da⟩:=dd.dictAt
 have hlen:kvs.length=vs.length:=kv.length
 refine kdl_call (kdl_dict (kvs:=vs) (ep:=ep) lo) (I.ok.hd hc) da (by rw[<-hlen];exact hz) fun h' tk acc c kp e it=>?_
 refine⟨.ref s.heap.objs.size,_,I.laid (t':=tk) kp (aO _) (show bH X.prog X.w _ h' _ (.lst (kvs.map fun kv=>kV kv.1)) from⟨by rw[ar];exact hz,acc.toList,c,?_,by rw[Array.toArray_toList];exact e⟩),rfl,q _ (I.aA.fresh (aO _))⟩
 refine MZ (by rw[ar,gD];exact hlen.trans it.1.symm) fun i x v hx hv=>?_
 obtain⟨k,y,hk,hi⟩:=it.2 i v (by rw[<-vo];exact hv)
 obtain⟨kv',uQ,rfl⟩:=iF.mp (by rw[<-gX];exact hx)
 have e:kv'.1=k:=by
  clear it hx hv hlen da dd q hz hd
  induction kv generalizing i with
  | nil=>simp at uQ
  | cons p _ ih =>
   cases i with
   | zero =>
    simp at uQ hk
    subst uQ
    rw[p.1,hk]
   | succ i=>exact ih i (by simpa using hk) (by simpa using uQ)
 rw[e]
 exact YE hi
end
end L2
namespace HT
open PySem PyProof.Rows
section
open PySem.SeqAt
open PySem.AutoSeq1 (wpAny_loadPart')
open PySem.MeetsSeq PySem.MeetsSeq2 PySem.MeetsSeq3
end
end HT
namespace HT
open PySem PyProof.Rows
end HT
namespace L2
open PySem PySem.Spec PyProof.Rows PySem.W HT
theorem gm {α β:Type}{F:α->β->Prop}:∀ {l:List α}{m:List β}{i:Nat}{x:α},Paired F l m->l[i]? = some x -> ∃y,m[i]? = some y/\F x y
 | _,_,i,x,.nil,e=>by simp at e
 | _,_,0,x,.cons p _,e=>by simp at e;subst e;exact⟨_,rfl,p⟩
 | _,_,i+1,x,.cons _ t,e=>by simpa using gm (i:=i) t (by simpa using e)
end L2
namespace HT
open PySem PyProof.Rows
end HT
namespace HT
open PySem PyProof.Rows
open PySem.AutoSeq1 (wpAny_loadPart')
end HT
namespace L2
open PySem PySem.Spec PyProof.Rows PySem.W HT
end L2
namespace HT
open PySem PyProof.Rows
end HT
namespace HT
open PySem PyProof.Rows PySem.W
end HT
namespace HT
open PySem PyProof.Rows PySem.W L2
theorem zg:plainId "dict.update.loop" = true:=by decide +kernel
theorem LK:entryFor table "dict.update.loop" = some Builtin.«dict.update.loop» :=entryFor_of_fast (by kernel_rfl)
theorem stored_new {K:Type} [DecidableEq K] {kvs:List (K×Value)}{k:K}{v:Value} (h:k ∉ kvs.map (·.1)):stored kvs k v=kvs ++ [(k,v)]:=by
 unfold stored
 rw[aE]
 intro z
 obtain⟨p,hp,e⟩:=qD.mp z
 exact h (bj.mpr ⟨p,hp,by simpa using e⟩)
end HT
namespace HT
open PySem PyProof.Rows PySem.W L2
end HT
namespace HT
open PySem PyProof.Rows
section
open PySem.SeqAt
open PySem.AutoSeq1 (wpAny_loadPart')
open PySem.MeetsSeq PySem.MeetsSeq2 PySem.MeetsSeq3
end
end HT
namespace L2
open PySem PySem.Spec PyProof.Rows PySem.W HT
end L2
namespace L2
open PySem PySem.Spec PyProof.Rows PySem.W
def wz (o:Obj):Option Value:=match o.data with | .fields vs=>vs[2]? | _=>none
def Kp (o o':Obj):Prop:=o'.dict=o.dict/\wz o'=wz o
def KD {α:Type}:Sem α->Prop
 | .pure _=>True
 | .raise _=>True
 | .unsupported _=>True
 | .finish _=>True
 | .rule _ k=>KD (k ())
 | .at _ k=>KD (k ())
 | .load _ _ k=>∀o,KD (k o)
 | .update _ _ f k=>(∀o,Kp o (f o))/\KD (k ())
 | .alloc _ k=>∀a,KD (k a)
 | .loadIfAlive _ k=>∀o,KD (k o)
 | .point _ k=>KD (k ())
 | .register _ _=>False
 | .fresh k=>∀t,KD (k t)
 | .ask k=>∀x,KD (k x)
 | .choose _ _ k=>∀n,KD (k n)
 | .os _ _ k=>∀r,KD (k r)
 | .call _ _ _ _ _=>False
 | .handled _ k=>∀v,KD (k v)
 | .newGen _ k=>∀n,KD (k n)
 | .genState _ k=>∀x,KD (k x)
 | .resume _ _ _ _=>False
 | .yield _ _ _ _=>False
 | .stack k=>∀l,KD (k l)
 | .fork _ _=>False
 | .thread k=>∀n,KD (k n)
 | .await _ _ _ _ _=>False
def RD (h h':Heap):Prop:= ∀ (a:Addr) (o:Obj),h.objs[a]? = some o -> ∃o',h'.objs[a]? = some o'/\Kp o o'
theorem RD.refl (h:Heap):RD h h:=fun a o e=>⟨o,e,rfl,rfl⟩
theorem RD.trans {h1 h2 h3:Heap} (a:RD h1 h2) (b:RD h2 h3):RD h1 h3:=fun x o e=>by
 obtain⟨o1,e1,d1⟩:=a x o e
 obtain⟨o2,e2,d2⟩:=b x o1 e1
 exact⟨o2,e2,d2.1.trans d1.1,d2.2.trans d1.2⟩
theorem RD.push {h0 h:Heap} (r:RD h0 h) (o:Obj):RD h0 (h.push o):=r.trans fun x u e=>⟨u,by
 obtain⟨objs,l⟩:=h
 show(objs.push o)[x]? = some u
 have hx:x < objs.size:=(vw.mp e).1
 rw[Array.getElem?_push,aE (cu hx)];exact e,rfl,rfl⟩
theorem RD.update {h0 h:Heap} (r:RD h0 h) {a:Addr}{f:Obj->Obj} (hf:∀o,Kp o (f o)):RD h0 (h.update a f):=r.trans fun x u e=>by
 obtain⟨objs,l⟩:=h
 show ∃o',(objs.modify a f)[x]? = some o'/\_
 rw[Array.getElem?_modify]
 have e':objs[x]? = some u:=e
 by_cases c:a=x
 ·rw[aI c,e'];exact⟨f u,rfl,hf u⟩
 ·rw[aE c];exact⟨u,e',rfl,rfl⟩
theorem RD.dict {h h':Heap} (r:RD h h') {a:Addr}{o o':Obj} (e:h.get? a=some o) (e':h'.get? a=some o'):Kp o o':=by
 have raw:∀ {g:Heap}{u:Obj},g.get? a=some u->g.objs[a]? = some u:=fun {g u} q=>by
  unfold Heap.get? at q
  split at q
  ·cases q
  ·exact q
 obtain⟨o2,e2,d⟩:=r a o (raw e)
 rw[raw e']at e2
 cases e2
 exact d
theorem aay {α:Type}{M:Model}{Γ:PySem.Ctx}{h0:Heap}:∀ {t:Sem α}{Q:α->Pos->Shared->Prop}{E:Value->Pos->Shared->Prop}{p:Pos}{s:Shared},KD t->RD h0 s.heap->Sem.wp M Γ t Q E p s ->
  Sem.wp M Γ t (fun v p s'=>Q v p s'/\RD h0 s'.heap) (fun v p s'=>E v p s'/\RD h0 s'.heap) p s:=by
 intro t
 induction t with
 | pure a=>intro Q E p s _ r h;exact⟨h,r⟩
 | raise e=>intro Q E p s _ r h;exact⟨h,r⟩
 | unsupported w=>intro Q E p s _ r h;exact h
 | finish e=>intro Q E p s _ r h;exact h
 | rule t k ih=>intro Q E p s kd r h;exact ih () kd r h
 | «at» q k ih=>intro Q E p s kd r h;exact ih () kd r h
 | load a q k ih=>intro Q E p s kd r h;obtain⟨o,e,h⟩:=h;exact⟨o,e,ih o (kd o) r h⟩
 | update a q f k ih=>intro Q E p s kd r h;exact⟨h.1,ih () kd.2 (r.update kd.1) h.2⟩
 | alloc o k ih=>intro Q E p s kd r h;exact ih _ (kd _) (r.push o) h
 | loadIfAlive a k ih=>intro Q E p s kd r h;exact ih _ (kd _) r h
 | point l k ih=>intro Q E p s kd r h;exact ih () kd r h
 | register a k ih=>intro Q E p s kd r h;exact h
 | fresh k ih=>intro Q E p s kd r h;exact ih _ (kd _) r h
 | ask k ih=>intro Q E p s kd r h;exact ih _ (kd _) r h
 | choose src n k ih=>intro Q E p s kd r h;exact⟨h.1,ih _ (kd _) r h.2⟩
 | os q l k ih=>intro Q E p s kd r h;exact ih _ (kd _) r h
 | call c hd g l k ih=>intro Q E p s kd r h;exact False.elim kd
 | handled own k ih=>intro Q E p s kd r h;exact ih _ (kd _) r h
 | newGen c k ih=>intro Q E p s kd r h;exact ih _ (kd _) r h
 | genState g k ih=>intro Q E p s kd r h;obtain⟨st,e,h⟩:=h;exact⟨st,e,ih _ (kd _) r h⟩
 | resume g rs l k ih=>intro Q E p s kd r h;exact False.elim kd
 | yield v g l k ih=>intro Q E p s kd r h;exact False.elim kd
 | stack k ih=>intro Q E p s kd r h;exact ih _ (kd _) r h
 | fork c k ih=>intro Q E p s kd r h;exact False.elim kd
 | thread k ih=>intro Q E p s kd r h;exact ih _ (kd _) r h
 | await a t b l k ih=>intro Q E p s kd r h;exact False.elim kd
theorem ZE {α:Type}{M:Model}{A:Around}{t:Sem α}{Q:α->Shared->Prop}{E:Value->Shared->Prop}{s:Shared} (k:KD t) (h:wpAny M A t Q E s) :
  wpAny M A t (fun v s'=>Q v s'/\RD s.heap s'.heap) (fun v s'=>E v s'/\RD s.heap s'.heap) s:=fun Γ p hi=>aay k (RD.refl _) (h Γ p hi)
theorem KD.bind {α β:Type}{f:α->Sem β} (hf:∀x,KD (f x)):∀ {t:Sem α},KD t->KD (t.bind f):=by
 intro t
 induction t with
 | pure a=>intro _;exact hf a
 | raise e=>intro _;trivial
 | unsupported w=>intro _;trivial
 | finish e=>intro _;trivial
 | rule t k ih=>intro kd;exact ih () kd
 | «at» q k ih=>intro kd;exact ih () kd
 | load a q k ih=>intro kd o;exact ih o (kd o)
 | update a q g k ih=>intro kd;exact⟨kd.1,ih () kd.2⟩
 | alloc o k ih=>intro kd a;exact ih a (kd a)
 | loadIfAlive a k ih=>intro kd o;exact ih o (kd o)
 | point l k ih=>intro kd;exact ih () kd
 | register a k ih=>intro kd;exact False.elim kd
 | fresh k ih=>intro kd o;exact ih o (kd o)
 | ask k ih=>intro kd o;exact ih o (kd o)
 | choose src n k ih=>intro kd o;exact ih o (kd o)
 | os q l k ih=>intro kd o;exact ih o (kd o)
 | call c hd g l k ih=>intro kd;exact False.elim kd
 | handled own k ih=>intro kd o;exact ih o (kd o)
 | newGen c k ih=>intro kd o;exact ih o (kd o)
 | genState g k ih=>intro kd o;exact ih o (kd o)
 | resume g rs l k ih=>intro kd;exact False.elim kd
 | yield v g l k ih=>intro kd;exact False.elim kd
 | stack k ih=>intro kd o;exact ih o (kd o)
 | fork c k ih=>intro kd;exact False.elim kd
 | thread k ih=>intro kd o;exact ih o (kd o)
 | await a t b l k ih=>intro kd;exact False.elim kd
theorem KD.dQ {α β:Type}{t:Sem α}{f:α->Sem β} (h:KD t) (hf:∀x,KD (f x)):KD (t >>= f):=KD.bind hf h
theorem KD.pure {α:Type}{x:α}:KD (Pure.pure x:Sem α):=True.intro
theorem KD.lZ {α:Type}{w:String}:KD (PySem.unsupported w:Sem α):=True.intro
theorem CZ:KD PySem.stack:=fun _=>True.intro
theorem Df {a:Addr}:KD (PySem.load a):=fun _=>True.intro
theorem LL {a:Addr}{f:Obj->Obj} (h:∀o,Kp o (f o)):KD (PySem.update a f):=⟨h,True.intro⟩
theorem VS {v:Value}:KD (fieldsOf v):=by
 unfold fieldsOf
 split
 ·refine KD.dQ Df fun o=>?_
  split
  ·exact KD.pure
  ·exact KD.lZ
 ·exact KD.lZ
theorem zv {v:Value}{i:Nat}:KD (field v i):=by
 unfold field
 refine KD.dQ VS fun o=>?_
 split
 ·exact KD.pure
 ·exact KD.lZ
theorem Vo {i:Nat}{x:Value} (hi:i≠2):∀o:Obj,Kp o (Obj.mapFields (·.setIfInBounds i x) o):=fun⟨c,d,dt,s⟩=>by
 cases dt <;> first | exact⟨rfl,rfl⟩|exact⟨rfl,Array.getElem?_setIfInBounds_ne hi⟩
theorem vD {v x:Value}{i:Nat} (hi:i≠2:=by decide):KD (setField v i x):=by
 unfold setField
 split
 ·unfold updateField
  refine KD.dQ Df fun o=>?_
  split
  ·split
   ·exact LL (Vo hi)
   ·exact KD.lZ
  ·exact KD.lZ
 ·exact KD.lZ
theorem Ck {ty:String}{vs:List Value}:KD (newFields ty vs):=by
 unfold newFields newObj
 dsimp only
 split
 ·exact KD.lZ
 ·show KD (newObjAsIs _ _ _)
  unfold newObjAsIs
  exact KD.dQ (fun _=>True.intro) fun _=>KD.pure
theorem VT {env:Env}{b:Bool}{l:List Env}:KD (keptBack env b l):=by
 unfold keptBack
 split
 ·split
  ·exact KD.pure
  ·unfold underTheClaimsCaller
   exact KD.dQ (KD.dQ CZ fun _=>KD.pure) fun _=>by split <;> exact KD.pure
 ·exact KD.pure
theorem WW {env:Env}{l:List Env}:KD (behindIsImport env l):=by
 unfold behindIsImport
 split
 ·exact KD.pure
 ·split
  ·exact KD.pure
  ·exact KD.dQ zv fun _=>KD.pure
theorem Mh:∀l:List Env,KD (readyFrames l)
 | []=>by unfold readyFrames;exact KD.pure
 | env::outer=>by
  unfold readyFrames
  split
  ·refine KD.dQ Df fun o=>?_
   split
   ·exact KD.pure
   ·exact KD.dQ WW fun _=>KD.dQ VT fun _=>KD.dQ (LL fun _=>⟨rfl,rfl⟩) fun _=>Mh outer
  ·exact KD.lZ
theorem Cw {env:Env}:KD (PySem.frameOf env):=by
 unfold PySem.frameOf
 refine KD.dQ ?_ fun l=>KD.dQ ?_ fun r=>?_
 ·unfold frameEnvs
  exact KD.dQ CZ fun _=>KD.pure
 ·unfold frameObject
  split
  ·exact KD.pure
  ·exact KD.dQ (Mh _) fun _=>KD.pure
 ·split
  ·exact KD.pure
  ·exact KD.lZ
theorem C0 {f:Addr}{b:Bool}:KD (entryPlaceOf f b):=by
 unfold entryPlaceOf
 refine KD.dQ CZ fun l=>?_
 split
 ·exact KD.pure
 ·exact KD.pure
theorem zG {e:Value}{env:Env}:KD (noteFrame e env):=by
 unfold noteFrame
 split
 ·refine KD.dQ zv fun hd=>?_
  have last:∀f b,KD (setField e 1 =<< (do EntryCells.newEntry hd (<- PySem.frameOf env) .none (rawInt f) .none (<- entryPlaceOf f b))):=fun f b=>KD.dQ (KD.dQ Cw fun _=>KD.dQ C0 fun _=>Ck) fun _=>vD
  split
  ·refine KD.dQ zv fun x=>?_
   split
   ·exact KD.pure
   ·exact KD.dQ vD fun _=>KD.dQ Cw fun _=>KD.dQ C0 fun _=>KD.dQ Ck fun _=>vD
  ·exact KD.dQ Cw fun _=>KD.dQ C0 fun _=>KD.dQ Ck fun _=>vD
 ·exact KD.lZ
theorem qH {e:Value}{f:Option Addr}:KD (setFlight e f):=by
 unfold setFlight
 refine KD.dQ zv fun tb=>?_
 split
 ·exact vD
 ·exact KD.pure
theorem Cy {env:Env}{e:Value}:KD (leaving env e):=by
 unfold leaving
 exact KD.dQ zG fun _=>qH
end L2
namespace L2
open PySem PySem.Spec PyProof.Rows PySem.W
def gu (n:Bool) (C:Addr) (dx:Option Addr) (a:Addr):HO:= .ext fun h=>∃ox vs,h.get? a=some ox/\ox.cls = .ref C/\ox.dict=dx/\ox.data = .fields vs/\(n=true->vs[2]? = some .none)
section
variable {P : Program} {w : World} {H : Hp} {h : Heap} {a C : Addr} {dx : Option Addr} {n : Bool}
theorem YF {ox:Obj}{vs:Array Value} (e:h.get? a=some ox) (c:ox.cls = .ref C) (d:ox.dict=dx) (f:ox.data = .fields vs) (z:n=true->vs[2]? = some .none):bH P w H h a (gu n C dx a):=
 ⟨⟨ox,vs,e,c,d,f,z⟩,⟨_,e⟩,fun _ _ ⟨ox,vs,q,r⟩ k=>⟨ox,vs,k _ q,r⟩⟩
theorem M0 {B:Heap}{l:List Env}{a0:Value} (f:Heap.FlyingW B l a (.ref C) a0 h) (r:∃ox,h.get? a=some ox/\ox.dict=dx/\(n=true->wz ox=some .none)):bH P w H h a (gu n C dx a):=by
 obtain⟨_,_,_,oe,vs,_,_,_,he,hc,hd,_⟩:=f
 obtain⟨ox,e,d,z⟩:=r
 rw[he]at e;cases e
 exact YF he hc.1 d hd fun y=>by have:=z y;unfold wz at this;rw[hd]at this;exact this
theorem M6 {O:HO} (ok:cS P w H h) (n:H a=none) (o:bH P w (upd H a O) h a O):cS P w (upd H a O) h:=fun b u e=>by
 by_cases c:b=a
 ·subst c
  rw[af]at e;cases e
  exact o
 ·rw[aj c]at e
  exact(ok b u e).gF (fun _ _ _ q=>q) (fun x q=>by rw[aj (ax q n)];exact q) fun x xs q=>by rw[aj (ax q n)];exact q
theorem Un.add {fs ex:List Addr}{H':Hp}{h':Heap}{O:HO} (u:Un fs ex H H' h h') (n':H' a=none) (n:h.get? a=none):Un fs ex H (upd H' a O) h h':=
 ⟨u.keep,u.slot,fun b o e q x=>by
  have:b≠a:=by rintro rfl;rw[n]at e;cases e
  rw[aj this];exact u.free b o e q x,u.there,fun b xs e=>by
  have q:=u.jT b xs e
  rw[aj (ax q n')];exact q,fun b o v e=>by
  have q:=u.jt b o v e
  rw[aj (ax q n')];exact q,fun b ps e=>by
  obtain⟨m,q⟩:=u.jU b ps e
  exact⟨m,by rw[aj (ax q n')];exact q⟩⟩
theorem Mi {O:HO}:upd (iM H a) a O=upd H a O:=by
 funext b;unfold upd
 by_cases c:b=a
 ·rw[aI c,aI c]
 ·rw[aE c,aE c,kQ c]
end
section
variable {X : Cx} {pins : List (Addr × Obj)} {σ : St} {H : Hp} {s : Shared} {A : Around} {E : Value -> Shared -> Prop} {a d C : Addr} {dx : Option Addr} {fs : List (Str × V)} {f : Str} {n : Bool}
theorem WX {b:Bool}{v:V}{Q:Value->Shared->Prop} (I:Inv X pins σ H s) (e:H a=some (gu n C (some d) a)) (ed:H d=some (fg d fs)) (c:fw X.K C) (no:findIn X.K (.ref C) f=some none) (l:fs.lookup f=some v)
  (h:∀u s',Inv X pins σ H s'->RelV v u->Q u s'):wpAny (model X.prog X.w) A (getAttr (.ref a) f b) Q E s:=by
 obtain⟨ox,vs,at_,hc,hd,hf,_⟩:=(I.aA a _ e).1
 obtain⟨_,mA,n',r,_⟩:=I.zC ed
 obtain⟨od,nY,look⟩:=vH n'
 have rf:=r f
 rw[l]at rf
 obtain⟨u,hu,ru⟩:=fY.some_of rf
 have J:InstAt s.heap a ox C (some od):=⟨at_,hc,by unfold notCls;rw[hf],by rw[hd];exact nY⟩
 exact Yv I.bU J c (findObj_own c.hd no rfl (by rw[look,hu])) (WK ru) (h u _ (I.tok _) ru)
end
section
variable {X : Cx} {e : Expr} {f : Str} {pos : Pos} {ta : TE}
def aaz (X:Cx) (ta:TE) (f:Str):TE:=fun σ H Q=>ta σ H fun x H1=>∃a n C d fs v,x = .ref a/\H1 a=some (gu n C (some d) a)/\H1 d=some (fg d fs)/\fw X.K C/\findIn X.K (.ref C) f=some none/\fs.lookup f=some v/\Q v H1
theorem YG (he:PE X e ta) (hb:attributeBase e f X.env (eval e X.env)=eval e X.env:=by rfl):PE X (.Attribute e f pos) (aaz X ta f):=by
 intro pins s σ H Q I h
 refine Yp hb (aJ (he pins s σ H _ I h) fun u s1 ⟨x,H1,I1,rx,a,_,C,d,fs,v,ex,ea,ed,c,n,l,q⟩=>?_)
 subst ex
 obtain rfl:u=Value.ref a:=rx
 exact WX I1 ea ed c n l fun u' s2 I2 ru=>⟨v,H1,I2,ru,q⟩
end
section
variable {X : Cx} {pins : List (Addr × Obj)} {σ : St} {H H1 : Hp} {s s1 : Shared} {a C : Addr} {dx : Option Addr}
theorem VU {e:Expr}{pos:Pos}{te:TE}{D:Ends}{R:Addr->Addr->Option Addr->Hp->Prop} (I:Inv X pins σ H s) (hc:X.calm=true) (he:PE X e te)
  (h:te σ H fun v H1=>∃a C dx i,v = .ref a/\H1 a=some (cw C dx a)/\(∀d,dx=some d -> ∃fs,H1 d=some (fg d fs))/\fw X.K C/\gq X.K C i=true/\R a C dx H1)
  (fin:∀a C dx H1 s1,Inv X pins σ H1 s1->H1 a=some (cw C dx a)->R a C dx H1->X.xe (.ref a) s1) :
  wpAny (model X.prog X.w) X.A (exec (.Raise (some e) none pos) X.env) (SP X pins D) X.xe s:=by
 rw[arm_exec_Raise]
 refine ag (sr (show wpAny _ _ (raiseStmt X.env (some (do let v <- eval e X.env;standAt pos;pure v)) none) _ _ _ from ?_))
 unfold raiseStmt
 refine ag (ag (aJ (he pins s σ H _ I h) fun u s1 ⟨v,H1,J,r,a,C,dx,i,ev,ea,hd,c,q,hR⟩=>ag (sr (au ?_))))
 subst ev
 obtain rfl:u = .ref a:=r
 obtain⟨ox,od,t,inst,rfl⟩:=J.MX ea hd
 have zW:Looks (model X.prog X.w) s1.heap (isType (.ref a)) false:=fun A' Q' E' s' k z=>by
  simp only[isType,loadHead]
  exact ag (yJ (k _ _ inst.at_) (au z))
 have He:Looks (model X.prog X.w) s1.heap (isInstance (.ref a) (.type "BaseException")) true:=inst.type.andThen (B9 J.bU c.be)
 obtain⟨bm,N,nm,qn,bs,Ai,sn,sub,ab,col,dd,k0,k1,k2,k3,k5,mN,hC,_⟩:=(sU J.bU q).ex
 have Hf:s1.TypeIs (.ref C) "type" :=⟨_,hC,rfl⟩
 refine ag (au (ag (fB ?_)))
 unfold excFromValue isExcClass
 refine ag (ag (zW.here (au ?_)))
 refine ag (He.here (au ?_))
 refine ag (zW.here ?_)
 unfold raisedInstance
 refine ag (ag (inst.type.here (ag (oF Hf ?_))))
 rw[aI (show(Value.type "type" == Value.type "type")=true from by decide)]
 refine au ?_
 unfold setFlight raiseNew
 refine ag (ag (qy inst.at_ rfl (x:= .none) rfl ?_))
 rw[aE (show ¬ ((Value.none != Value.none)=true) from by decide)]
 refine au (ag (wpAny_handled_none (J.ok.hd hc) ?_))
 first
  | exact Cc (fin a C dx H1 s1 J ea hR)
  | exact ag (au (Cc (fin a C dx H1 s1 J ea hR)))
end
def gU (P:Program) (w:World):ke:=fun outer H s E e s'=>∃ (a:Addr) (n:Bool) (C:Addr) (a0:Value) (dx:Option Addr) (H':Hp) (B:Heap),e = .ref a/\s'.os=s.os/\AllBare s'.gens/\Heap.FlyingW B outer a (.ref C) a0 s'.heap /\
 (∃ox,s'.heap.get? a=some ox/\ox.dict=dx/\(n=true->wz ox=some .none))/\(∀h',B.StaysIn h'->s'.heap.UpToSlots h'->Un (cT outer) [] H H' s.heap h'/\cS P w H' h')/\H' a=none/\s.heap.get? a=none/\E (.ref C) (some a) (upd H' a (gu n C dx a))
theorem jO {α:Type}{M:Model}{A:Around}{t:Sem α}{Q Q':α->Shared->Prop}{E:Value->Shared->Prop}{s:Shared} (k:KD t) (h:wpAny M A t Q E s) (q:∀v s',Q v s'->RD s.heap s'.heap->Q' v s'):wpAny M A t Q' E s:=
 lF (ZE k h) (fun v s' z=>q v s' z.1 z.2) fun _ _ z=>z.1
section
variable {P : Program} {w : World} {K : Frag} {mg : Str -> Option Value} {base : Heap} {N : List Str} {qual : Str} {scope : Scope} {f : Addr} {cd : Value} {A : Around} {outer : List Env} {s : Shared} {H : Hp} {E : XK}
def YH (K:Frag) (H0:Hp) (E:XK) (te:TE):TS:=fun _ σ H=>te σ H fun v H1=>∃a C dx i,v = .ref a/\H1 a=some (cw C dx a)/\(∀d,dx=some d -> ∃fs,H1 d=some (fg d fs))/\fw K C/\gq K C i=true/\H0 a=none/\E (.ref C) (some a) (upd H1 a (gu true C dx a))
theorem WY {e:Expr}{pos:Pos}{te:TE} (he:PE (iS (gU P w) P w K mg base N qual scope f cd A outer s H E) e te) :
  PS (iS (gU P w) P w K mg base N qual scope f cd A outer s H E) (.Raise (some e) none pos) (YH K H E te):=by
 intro pins s1 σ H1 D I h
 refine VU (R:=fun a C dx H2=>H a=none/\E (.ref C) (some a) (upd H2 a (gu true C dx a))) I rfl he h fun a C dx H2 s2 J ea ⟨h0,hE⟩=>?_
 have fr:s2.heap.FunFrames base (envOfC qual scope s.heap.objs.size f cd::outer):=J.stack
 have all:∀env∈(envOfC qual scope s.heap.objs.size f cd::outer),∀b,env.frame=some b->b∈a::cT (envOfC qual scope s.heap.objs.size f cd::outer):=fun env m b hb=>bX _ (qu.mpr ⟨env,m,hb⟩)
 obtain⟨t,at_⟩:=J.excAt ea
 have new:s.heap.get? a=none:=by
  have ub:Un (cT outer) [] H H2 s.heap s2.heap:=J.base
  cases q:s.heap.get? a with
  | none=>rfl
  | some o =>
   have:=ub.free a o q h0 (by simp)
   rw[ea]at this;cases this
 show wpAny (model P w) _ (leaving _ (.ref a)) _ _ _
 refine jO Cy (wpAny_leaving_firstW (Q:=fun _ s'=>∃h',s'={ s2 with heap:=h' }/\Heap.LeftW (hideAll s2.heap (a::cT (envOfC qual scope s.heap.objs.size f cd::outer))) (envOfC qual scope s.heap.objs.size f cd::outer) a (.ref C) (.ref t) s2.heap h') (base:=hideAll s2.heap (a::cT (envOfC qual scope s.heap.objs.size f cd::outer))) (L:=s.heap.objs.size) (a0:= .ref t) J.ok.frames (funFrames_hide fr all) rfl at_ (fun b o q=>of_hideAll _ q) (Cd _ aZ) rfl rfl rfl fun h' hL=>⟨h',rfl,hL⟩) fun _ s' ⟨h',es,hL⟩ rd=>?_
 subst es
 obtain⟨k1,⟨_,_,k2⟩,k3,k4⟩:=hL
 have fl:Heap.FlyingW (hideAll s2.heap (a::cT (envOfC qual scope s.heap.objs.size f cd::outer))) outer a (.ref C) (.ref t) h':=⟨k1,Cd _ aZ,k2,k3⟩
 obtain⟨ox,kg,_⟩:=fl.there
 refine⟨a,true,C,.ref t,dx,iM H2 a,hideAll s2.heap (a::cT (envOfC qual scope s.heap.objs.size f cd::outer)),rfl,J.os,J.bare,fl,⟨ox,kg,(rd.dict at_ kg).1,fun _=>(rd.dict at_ kg).2⟩,fun jd kb up=>?_,by unfold iM;rw[aI rfl],new,by rw[Mi];exact hE⟩
 exact J.hidden rfl rfl rfl ea h0 kb (yL k4 up)
end
section
variable {P : Program} {w : World} {K : Frag} {mg : Str -> Option Value} {base : Heap} {N : List Str} {qual : Str} {f : Addr}
theorem bw.Hg {x:Str}{st:Stmt}{fd:FuncData}{ps:List Str}{k:Nat}{sp:Sp} (F:bw K x qual st f fd) (S:cO N ps (aH st)) (len:∀vs H Q E,sp vs H Q E->vs.length=ps.length)
  (qU:∀ (aQ:Value) (A:Around) (outer:List Env) (s:Shared) (H:Hp) (vs:List V) (Q:VK) (E:XK),bQ k (A.deeper (envOfC qual (aH st) s.heap.objs.size f aQ))->sp vs H Q E ->
   ∃t,gH (iS (gU P w) P w K mg base N qual (aH st) f aQ A outer s H E) (aU st) t/\t { nx:=fun _ H'=>Q .aG H',rt:=Q } (start N vs) H):aN P w K mg base (gU P w) (k+1) f fd ps sp:=by
 obtain⟨oc,od,kV,doc,pm,an,aQ,ct,lV,rfl,lk,f9⟩:=F.ex
 exact N8 lk f9 S len fun A outer s H vs Q E hr jA=>qU aQ A outer s H vs Q E hr jA
end
section
variable {s : Shared} {a C B : Addr}
theorem KP {A:Around}{E:Value->Shared->Prop}{Q:Bool->Shared->Prop}{P:Program}{w:World}{K:Frag}{ox:Obj}{i:Option Value}{r:Bool} (X:K.In s.heap) (q:gq K B i=true) (me:mroIn K C (.ref B)=some r) (at_:s.heap.get? a=some ox) (cl:ox.cls = .ref C) (h:Q r s) :
  wpAny (model P w) A (excMatches (.ref a) (.ref B)) Q E s:=by
 obtain⟨bm,N,nm,qn,bs,Ai,sn,sub,ab,col,dd,k0,k1,k2,k3,k5,mN,hC,_,_,T⟩:=(sU X q).ex
 have L:Looks (model P w) s.heap (isSubtype (.ref C) (.ref B)) r:=B9 X me
 obtain⟨hh,g,d,tk,os⟩:=s
 have hT:bm.contains (.type "BaseException")=true:=T.hasType (by decide)
 have hcB:(Value.ref B::bm).contains (.type "BaseException")=true:=by rw[List.contains_cons,hT,Bool.or_true]
 have f:=tc_notTuple
 unfold excMatches
 repeat (first | (with_reducible refine B7 at_ ?_;rw[cl])|with_reducible refine B7 hC ?_ | (with_reducible refine wpAny_isSubtype_exc hC ?_;rw[hcB])|(with_reducible refine L.here ?_)|wp_step)
 cases r <;> (wp_walk;exact h)
end
def Cx.kW (X:Cx) (pins:List (Addr×Obj)) (E:St->XK):Cx:={ X with pn:=X.pn++pins,xe:=fun e s'=>∃aK H s1,Inv X pins aK H s1/\gU X.prog X.w X.stack H s1 (E aK) e s' }
section
variable {X : Cx} {pins wk : List (Addr × Obj)} {σ : St} {H : Hp} {s : Shared} {E : St -> XK} {D : Ends}
theorem Inv.kW (I:Inv X pins σ H s):Inv (X.kW pins E) [] σ H s:=
 ⟨⟨I.ok.mod,I.ok.kind,I.ok.glob,I.ok.blt,I.ok.above,I.ok.inj,I.ok.has,I.ok.nQ,I.ok.hd,I.ok.frames,I.ok.ll,I.ok.pO,I.ok.bs,I.ok.jy,I.ok.nF,I.ok.nG,I.ok.fZ,I.ok.jZ⟩,I.os,I.bare,I.base,I.loc,I.cell,I.free,I.g6,(fun p hp=>I.pin p (by rw[ik]at hp;exact hp)),I.aA,I.len⟩
theorem Inv.pG (ok:X.Ok) (I:Inv (X.kW pins E) wk σ H s):Inv X pins σ H s:=
 ⟨ok,I.os,I.bare,I.base,I.loc,I.cell,I.free,I.g6,(fun p hp=>I.pin p (oB _ hp)),I.aA,I.len⟩
theorem Cx.Ok.aaA (ok:(X.kW pins E).Ok):X.Ok:=⟨ok.mod,ok.kind,ok.glob,ok.blt,ok.above,ok.inj,ok.has,ok.nQ,ok.hd,ok.frames,ok.ll,ok.pO,ok.bs,ok.jy,ok.nF,ok.nG,ok.fZ,ok.jZ⟩
theorem SP.pG {f:Flow} (ok:X.Ok) (h:SP (X.kW pins E) wk D f s):SP X pins D f s:=by
 cases f with
 | next=>obtain⟨aK,H',I,q⟩:=h;exact⟨aK,H',I.pG ok,q⟩
 | brk=>obtain⟨aK,H',I,q⟩:=h;exact⟨aK,H',I.pG ok,q⟩
 | cont=>obtain⟨aK,H',I,q⟩:=h;exact⟨aK,H',I.pG ok,q⟩
 | ret u=>obtain⟨v,aK,H',I,r,q⟩:=h;exact⟨v,aK,H',I.pG ok,r,q⟩
end
section
variable {X : Cx} {Oc : List (Addr × Obj)} {EE : St -> XK} {k : Nat} {f : Addr} {fd : FuncData} {ps : List Str} {sp : Sp} {x : Str} {p pos : Pos} {e : Expr} {es : List Expr} {t : TA}
def ZF (sp:Sp) (EE:St->XK) (t:TA):TE:=fun σ H Q=>t σ H fun vs H1=>sp vs H1 Q (EE σ)
theorem Mj (F:aN X.prog X.w X.K X.mg X.base (gU X.prog X.w) k f fd ps sp) (hr:bQ k X.A) (hg:Gl X x) (hm:X.mg x=some (.ref f)) (hk:keepIn X.K (.ref f)=true) (hb:Binds X.K fd ps [])
  (ha:PA (X.kW Oc EE) (e::es) t) (jz:(x==("__debug__" : Str))=false:=by decide) (he:starEach (e::es) X.env=(false,eval e X.env)::starEach es X.env:=by rfl) (dG:(backTo pos (starEach es X.env)).any (·.1)=false:=by rfl) :
  PE (X.kW Oc EE) (.Call (.Name x p) (e::es) [] pos) (ZF sp EE t):=by
 intro pins s σ H Q I h
 refine vm (oU I hg hm ?_ jz)
 refine callWith_K (h₀:=X.base) I.ok.mod.jx hk (aJ (ha pos pins s σ H _ I h) fun us s1 ⟨vs,H1,I1,r,q⟩=>⟨I1.bU,?_⟩) he dG
 have hl:us.length=ps.length:=by rw[<-r.length];exact F.len _ _ _ _ q
 have cX:=hb s1 us I1.bU (by rw[ik];exact hl)
 rw[ik]at cX
 refine qw (su (F.run X.A X.stack s1 H1 ⟨us,[]⟩ us vs _ _ hr I1.Af cX r q) fun res s2 hq=>?_)
 cases res with
 | ok fl =>
  cases fl with
  | ret u=>exact I1.after hq
  | next=>exact False.elim hq
  | brk=>exact False.elim hq
  | cont=>exact False.elim hq
 | error ev=>exact⟨σ,H1,s1,I1.pG I1.ok.aaA,hq⟩
end
section
variable {X : Cx} {j : Nat} {C : Addr} {n cn : Str} {p5 p6 p7 : Pos} {b0 b1 : Stmt} {body DO : List Stmt} {tb : Ends -> TS} {th : Addr -> TS} {ci : Option Value}
def NM (tb:Ends->TS):TS:=fun D σ H=>tb D D σ H
end
end L2
namespace L2
open PySem PySem.Spec PyProof.Rows PySem.W
section
variable {P : Program} {w : World} {K : Frag} {mg : Str -> Option Value} {base : Heap} {N : List Str} {qual : Str} {scope : Scope} {f : Addr} {cd : Value} {A : Around} {outer : List Env} {s : Shared} {H : Hp} {E : XK}
theorem aaB:Passes (gU P w) (iS (gU P w) P w K mg base N qual scope f cd A outer s H E) E:=by
 rintro pins σ H1 s1 e s2 I ⟨a,n,C,a0,dx,H',B,rfl,os,bare,rS,⟨ox,kg,hd,hz⟩,xF,na,new,hE⟩
 show wpAny (model P w) _ (leaving _ (.ref a)) _ _ _
 have xo:s1.os=s.os:=I.os
 refine jO Cy (wpAny_leaves_onW (Q:=fun _ s'=>∃h',s'={ s2 with heap:=h' }/\Heap.FlyingW B outer a (.ref C) a0 h'/\s2.heap.UpToSlots h') I.ok.frames rfl rS fun h' fl up=>⟨h',rfl,fl,up⟩) fun _ s' ⟨h',es,fl,up⟩ rd=>?_
 subst es
 obtain⟨o',gG,_⟩:=fl.there
 refine⟨a,n,C,a0,dx,H',B,rfl,os.trans xo,bare,fl,⟨o',gG,(rd.dict kg gG).1.trans hd,fun y=>(rd.dict kg gG).2.trans (hz y)⟩,fun jd kb u2=>?_,na,?_,hE⟩
 ·obtain⟨u,ok⟩:=xF jd kb (yL up u2)
  have J:=I.zR (s':={ s2 with heap:=jd }) os u ok bare (fun b z=>absurd z (by simp))
  exact⟨J.base,J.aA⟩
 ·cases q:s.heap.get? a with
  | none=>rfl
  | some o =>
   obtain⟨o2,e2⟩:=I.base.there a o q (by show a ∉ ([]:List Addr);simp)
   rw[new]at e2;cases e2
end
section
variable {M : Model} {A : Around} {E : Value -> Shared -> Prop} {s : Shared} {B : Heap} {env : Env} {outer l : List Env} {L e : Addr} {cls a0 : Value}
theorem VV {oe:Obj}{vs:Array Value}{Q:Unit->Shared->Prop} (hfr:A.frames=some (env::outer)) (hl:s.heap.FunFrames B (env::outer)) (hf:env.frame=some L)
  (he:s.heap.get? e=some oe) (xG:B.StaysIn s.heap) (uR:B.get? e=none) (hd:oe.data = .fields vs) (h1:vs[1]? = some .none) (h0:vs[0]? = some a0)
  (h:∀h',Heap.HeldW B (env::outer) e oe.cls a0 L h'->s.heap.UpToSlots h'->Q () { s with heap:=h' }):wpAny M A (noteFrame (.ref e) env) Q E s:=by
 unfold noteFrame
 simp only[hf]
 refine ag (qy he hd h1 ?_)
 rw[aE (by decide)]
 exact wpAny_entryW hfr hl hf he xG uR hd (vw.mp h1).1 h0 fun h' ⟨k1,k2,k3,k4⟩=>h h' ⟨k1,uR,k2,k3⟩ k4
theorem KC {Q:Unit->Shared->Prop} (hh:Heap.HeldW B l e cls a0 L s.heap)
  (h:∀h',Heap.HeldW B l e cls a0 L h'->s.heap.UpToSlots h'->Q () { s with heap:=h' }):wpAny M A (setFlight (.ref e) (some L)) Q E s:=by
 obtain⟨xG,uR,hl,oe,vs,T,oT,ts,he,pM,hd,h1,A6,A7,hT,rT,h3⟩:=hh
 have OY:3 < ts.size:=(vw.mp h3).1
 have other:∀b,b≠T->(s.heap.update T (Obj.mapFields (·.setIfInBounds 3 ((some L:Option Addr).elim Value.none fun f=>rawInt f)))).get? b=s.heap.get? b:=fun b hb=>mr _ _ (aT hb)
 have Mk:∀b o,s.heap.get? b=some o->(∀vs,o.data ≠ .fields vs)->b≠T:=fun b o hb lz q=>by
  rw[q,hT]at hb;injection hb with hb;subst hb;exact lz ts rT
 unfold setFlight
 refine ag (qy he hd h1 ?_)
 rw[aI (show(Value.ref T != Value.none)=true from by simp)]
 refine Ko hT rT OY (h _ ⟨fun b o xH=>(other b fun q=>by rw[q,A6]at xH;cases xH).trans (xG b o xH),uR,
  hl.of_keeps fun b o hb lz=>⟨o,(other b (Mk b o hb lz)).trans hb,rfl⟩,?_⟩ fun b o hb lz=>⟨o.slots,(other b (Mk b o hb lz)).trans hb⟩)
 exact⟨oe,vs,T,_,_,(other e (aT A7)).trans he,pM,hd,h1,A6,A7,oG _ hT (Obj.isFreed_of_fields (Obj.data_mapFields rT _)),Obj.data_mapFields rT _,by simp[OY]⟩
theorem VA {abR:String}{Q:Flow->Shared->Prop} (hf:env.frame=some L) (hh:Heap.HeldW B l e cls a0 L s.heap)
  (h:∀h',Heap.HeldW B l e cls a0 L h'->s.heap.UpToSlots h'->RD s.heap h'->E (.ref e) { s with heap:=h' }):wpAny M A (PySem.passOn abR (.ref e) env:Sem Flow) Q E s:=by
 have hh':=hh
 obtain⟨_,_,_,oe,vs,T,oT,ts,he,pM,hd,h1,_⟩:=hh'
 unfold PySem.passOn
 refine ag (qy he hd h1 ?_)
 rw[aE (show ¬ ((Value.ref T==Value.none)=true) from by simp),hf]
 first
  | refine ag (jO qH (KC (Q:=fun _ s'=>∃h',s'={ s with heap:=h' }/\Heap.HeldW B l e cls a0 L h'/\s.heap.UpToSlots h') hh fun h' k u=>⟨h',rfl,k,u⟩) fun _ s' ⟨h',es,k,u⟩ rd=>?_)
  | refine ag (au (ag (jO qH (KC (Q:=fun _ s'=>∃h',s'={ s with heap:=h' }/\Heap.HeldW B l e cls a0 L h'/\s.heap.UpToSlots h') hh fun h' k u=>⟨h',rfl,k,u⟩) fun _ s' ⟨h',es,k,u⟩ rd=>?_)))
 subst es
 exact Cc (h h' k u rd)
theorem VB {Q:Unit->Shared->Prop} (hf:env.frame=some L) (hh:Heap.HeldW B (env::outer) e cls a0 L s.heap) (hQ:∀h',Heap.FlyingW B outer e cls a0 h'->s.heap.UpToSlots h'->Q () { s with heap:=h' }):wpAny M A (leaving env (.ref e)) Q E s:=by
 unfold leaving
 refine ag (wpAny_noteFrame_againW hf hh.2.2.2 ?_)
 refine wpAny_landsW hh fun h' hfl up=>?_
 obtain⟨k1,k2,⟨_,_,k3⟩,k4⟩:=hfl
 exact hQ h' ⟨k1,k2,k3,k4⟩ up
theorem KZ {h h':Heap} (k:∀b o,h.get? b=some o->(∀vs,o.data ≠ .fields vs) -> ∃o',h'.get? b=some o' /\ ∀vs,o'.data ≠ .fields vs):∀ {l:List Env},h.FunFrames B l->h'.FunFrames B l
 | [],_=>trivial
 | _::_,⟨hk,⟨L,o,hf,hn,ho,hd⟩,hr⟩=>by
  obtain⟨o',gG,rH⟩:=k L o ho hd
  exact⟨hk,⟨L,o',hf,hn,gG,rH⟩,KZ k hr⟩
theorem WZ {h h':Heap}{n:Addr}{m m':Str->Option Value} (hh:Heap.HeldW B l e cls a0 L h) (hs:Heap.SameBut n h h') (n0:h.Ns n m) (n1:h'.Ns n m') (hB:B.get? n=none):Heap.HeldW B l e cls a0 L h':=by
 obtain⟨xG,uR,hl,oe,vs,T,oT,ts,he,pM,hd,h1,A6,A7,hT,rT,h3⟩:=hh
 obtain⟨o0,es0,ep0,ho0,A5,_⟩:=n0
 obtain⟨o1,fQ,ep1,A8,uS,_⟩:=n1
 have nf:∀b o us,h.get? b=some o->o.data = .fields us->b≠n:=fun b o us hb hu q=>by
  rw[q,ho0]at hb;cases hb;rw[A5]at hu;cases hu
 refine⟨fun b o q=>(hs.2 b fun z=>by rw[z,hB]at q;cases q).trans (xG b o q),uR,KZ (fun b o hb lz=>?_) hl,oe,vs,T,oT,ts,(hs.2 e (nf _ _ _ he hd)).trans he,pM,hd,h1,A6,A7,(hs.2 T (nf _ _ _ hT rT)).trans hT,rT,h3⟩
 by_cases c:b=n
 ·subst c
  exact⟨o1,A8,fun vs z=>by rw[uS]at z;cases z⟩
 ·exact⟨o,(hs.2 b c).trans hb,lz⟩
end
end L2
namespace L2
open PySem PySem.Spec PyProof.Rows PySem.W
theorem Vs:entryFor table "proto.unchain" = some Builtin.«proto.unchain» :=entryFor_of_fast (by kernel_rfl)
section
variable {X : Cx} {pins : List (Addr × Obj)} {σ : St} {H : Hp} {s : Shared} {c : Addr}
def abS (a C t:Addr) (dx:Option Addr) (s1 s2:Shared):Prop:=(∃ox vs,s2.heap.get? a=some ox/\ox.cls = .ref C/\ox.dict=dx/\ox.data = .fields vs/\vs[0]? = some (.ref t)/\vs[1]? = some .none)/\(∀b,b≠a->s2.heap.get? b=s1.heap.get? b)/\s2.os=s1.os/\s2.gens=s1.gens
theorem Wm {e:Expr}{pos p0:Pos}{j:Nat}{te:TE}{Q:Flow->Shared->Prop}{XE:Value->Shared->Prop}{R:Addr->Addr->Option Addr->Hp->Prop} (hX:(X.g5 c).xe=fun _ _=>False) (I:Inv (X.g5 c) pins σ H s) (he:PE (X.g5 c) e te)
  (h:te σ H fun v H1=>∃a C dx i C' A9,v = .ref a/\H1 a=some (cw C dx a)/\(∀d,dx=some d -> ∃fs,H1 d=some (fg d fs))/\fw X.K C/\gq X.K C i=true/\H1 c=some (gu true C' A9 c)/\a≠c/\R a C dx H1)
  (fin:∀a C t dx H1 s1 s2,Inv (X.g5 c) pins σ H1 s1->H1 a=some (cw C dx a)->R a C dx H1->abS a C t dx s1 s2->XE (.ref a) s2) :
  wpAny (model X.prog X.w) (X.A.mark (some (.ref c))) (exec (.Raise (some e) (some (.Constant .none j p0)) pos) X.env) Q XE s:=by
 rw[arm_exec_Raise]
 refine ag (sr (show wpAny _ _ (raiseStmt X.env (some (do let v <- eval e X.env;standAt pos;pure v)) (some (do let v <- eval (.Constant .none j p0) X.env;standAt pos;pure v))) _ _ _ from ?_))
 unfold raiseStmt
 refine ag (ag (UC (aJ (he pins s σ H _ I h) fun u s1 ⟨v,H1,J,r,a,C,dx,i,C',A9,ev,ea,hd,xc,q,hc,QK,hR⟩=>ag (sr (au ?_)))))
 subst ev
 obtain rfl:u = .ref a:=r
 obtain⟨ox,od,t,inst,rfl⟩:=J.MX ea hd
 have zW:Looks (model X.prog X.w) s1.heap (isType (.ref a)) false:=fun A' Q' E' s' k z=>by
  simp only[isType,loadHead]
  exact ag (yJ (k _ _ inst.at_) (au z))
 have He:Looks (model X.prog X.w) s1.heap (isInstance (.ref a) (.type "BaseException")) true:=inst.type.andThen (B9 J.bU xc.be)
 obtain⟨bm,N,nm,qn,bs,Ai,sn,sub,ab,col,dd,k0,k1,k2,k3,k5,mN,hC,_⟩:=(sU J.bU q).ex
 have naC:C≠a:=fun z=>by rw[z]at hC;have h1:=inst.at_;rw[hC]at h1;cases h1
 obtain⟨oc,vc,cat,_,_,f9,Hh⟩:=(J.aA c _ hc).1
 have cx:=Hh rfl
 have jC:=inst.at_
 refine ag (fB (ag (Constant_none (ag (sr (au (ag (au ?_))))))))
 refine ag (fB ?_)
 unfold excFromValue isExcClass
 refine ag (ag (zW.here (au ?_)))
 refine ag (He.here (au ?_))
 dsimp only
 rw[aI (show(Value.none==Value.none)=true from by decide)]
 refine ag (au ?_)
 refine ag (Ko jC rfl (show 3 < 6 by decide) ?_)
 have ly:=oG (h:=s1.heap) (Obj.mapFields (·.setIfInBounds 3 Value.none)) jC rfl
 refine ag (Ko ly rfl (show 4 < 6 by decide) ?_)
 have at2:=oG (Obj.mapFields (·.setIfInBounds 4 (Value.bool true))) ly rfl
 have Ba:∀b,b≠a->((s1.heap.update a (Obj.mapFields (·.setIfInBounds 3 Value.none))).update a (Obj.mapFields (·.setIfInBounds 4 (Value.bool true)))).get? b=s1.heap.get? b:=fun b hb=>(mr _ _ (aT hb)).trans (mr _ _ (aT hb))
 generalize hh2:(s1.heap.update a (Obj.mapFields (·.setIfInBounds 3 Value.none))).update a (Obj.mapFields (·.setIfInBounds 4 (Value.bool true)))=h2 at at2 Ba
 refine ag (show wpAny _ _ (isType (.ref a)) _ _ _ from ?_)
 simp only[isType,loadHead]
 refine ag (yJ at2 (au ?_))
 unfold raisedInstance
 have tyL:Looks (model X.prog X.w) h2 (typeOf (.ref a)) (.ref C):=(Looks.ld at2).andThen .now
 have Hf:({ s1 with heap:=h2 }:Shared).TypeIs (.ref C) "type" :=⟨_,(Ba C naC).trans hC,rfl⟩
 refine ag (ag (tyL.here (ag (oF Hf ?_))))
 rw[aI (show(Value.type "type" == Value.type "type")=true from by decide)]
 refine au ?_
 unfold setFlight raiseNew
 refine ag (ag (qy at2 rfl (x:= .none) rfl ?_))
 rw[aE (show ¬ ((Value.none != Value.none)=true) from by decide)]
 refine au (ag (wpAny_handled ?_))
 show wpAny _ _ (if (Value.ref c != Value.ref a)=true then _ else _) _ _ _
 rw[aI (show(Value.ref c != Value.ref a)=true from by simp;exact fun z=>QK z.symm)]
 refine ag (fB (UR (mw Vs ?_)))
 unfold Builtin.«proto.unchain»
 refine ag (qy ((Ba c (aT QK)).trans cat) f9 cx ?_)
 rw[aI (show(Value.none==Value.none)=true from by decide)]
 refine ag (au (au ?_))
 show wpAny _ _ (do updateField a 2 (.ref c);throw (Value.ref a)) _ _ _
 refine ag (show wpAny _ _ (setField (.ref a) 2 (.ref c)) _ _ _ from Ko at2 rfl (show 2 < 6 by decide) ?_)
 have QJ:=oG (Obj.mapFields (·.setIfInBounds 2 (Value.ref c))) at2 rfl
 refine Cc (fin a C t dx H1 s1 _ J ea hR ⟨⟨_,_,QJ,rfl,rfl,rfl,rfl,rfl⟩,fun b hb=>(mr _ _ (aT hb)).trans (Ba b hb),rfl,rfl⟩)
end
end L2
namespace L2
open PySem PySem.Spec PyProof.Rows PySem.W
section
variable {X : Cx} {pins : List (Addr × Obj)} {σ : St} {H H1 : Hp} {s s1 : Shared} {a C : Addr} {dx : Option Addr}
theorem Inv.YI (I:Inv X pins σ H s) (hx:X.ex = []) (hs:X.stack=X.env::X.outer) (hf:X.env.frame=some X.env.locals) (ha:H a=some (cw C dx a)) (h0:X.iQ a=none) {h':Heap}
  (k:(hideAll s.heap (a::cT X.stack)).StaysIn h') (wu:∀b o,b∈X.fs->s.heap.get? b=some o -> ∃sl,h'.get? b=some { o with slots:=sl }):Un X.fs [] X.iQ (iM H a) X.cQ.heap h'/\cS X.prog X.w (iM H a) h':=by
 have ub:Un X.fs [] X.iQ H X.cQ.heap s.heap:=by have:=I.base;rw[hx]at this;exact this
 have wL:∀b,b∈cT X.stack->b=X.env.locals\/b∈X.fs:=fun b hb=>by
  have:=I.vX b hb
  rcases a9.mp this with z | z
  ·exact .inl z
  ·exact .inr z
 have nA:∀ {b:Addr},H b=none->b≠a:=fun e z=>by subst z;rw[ha]at e;cases e
 have get:∀b o,s.heap.get? b=some o->b≠a->b ∉ cT X.stack->h'.get? b=some o:=fun b o e n m=>k b o (hideAll_get _ e fun z=>by
  rcases a9.mp z with z | z
  ·exact n z
  ·exact m z)
 have wM:∀b o,X.cQ.heap.get? b=some o->b≠X.env.locals:=fun b o e z=>by
  have h1:=bq e
  have h2:=I.ok.above
  subst z
  exact absurd h1 (Ca.mpr h2)
 refine⟨⟨fun b o e n m _=>?_,fun b o e n m _=>?_,fun b o e n _=>Ld (ub.free b o e n (by simp)),fun b o e _=>?_,fun b xs e=>?_,fun b o u e=>?_,fun b ps e=>?_⟩,fun b o e=>?_⟩
 ·have e1:=ub.keep b o e n m (by simp)
  refine get b o e1 (nA (ub.free b o e n (by simp))) fun z=>?_
  rcases wL b z with z | z
  ·exact wM b o e z
  ·exact m z
 ·obtain⟨sl,e1⟩:=ub.slot b o e n m (by simp)
  obtain⟨xi,e2⟩:=wu b _ m e1
  exact⟨xi,e2⟩
 ·obtain⟨o',e1⟩:=ub.there b o e (by simp)
  by_cases m:b∈X.fs
  ·obtain⟨sl,e2⟩:=wu b _ m e1
   exact⟨_,e2⟩
  ·refine⟨o',get b o' e1 (fun z=>?_) fun z=>?_⟩
   ·subst z
    have:=ub.free b o e h0 (by simp)
    rw[ha]at this;cases this
   ·rcases wL b z with z | z
    ·exact wM b o e z
    ·exact m z
 ·have e1:=ub.jT b xs e
  rw[kQ (bZ e1 ha (by intro z;cases z))];exact e1
 ·have e1:=ub.jt b o u e
  rw[kQ (bZ e1 ha (by intro z;cases z))];exact e1
 ·obtain⟨mo,e1⟩:=ub.jU b ps e
  exact⟨mo,by rw[kQ (bZ e1 ha (by intro z;cases z))];exact e1⟩
 ·obtain⟨n,e1⟩:=Lc e
  have rh:∀ {c:Addr}{u:HO},H c=some u->c ∉ cT X.stack:=fun q m=>by
   have:=I.zA _ m
   rw[q]at this;cases this
  refine(I.aA b o e1).gF (fun c u hc q=>?_) (fun c q=>?_) fun c xs q=>?_
  ·rcases hc with rfl | q1
   ·exact get _ u q n (rh e1)
   ·exact get c u q (bZ q1 ha (by intro z;cases z)) (rh q1)
  ·rw[kQ (bZ q ha (by intro z;cases z))];exact q
  ·rw[kQ (bZ q ha (by intro z;cases z))];exact q
end
def reE (K:Frag) (H0:Hp) (E:XK) (B:Addr) (j:Nat) (te:Addr->TE):St->XK:=fun aK cls oa H2=>(∃C,cls = .ref C/\mroIn K C (.ref B)=some true) /\ ∃a,oa=some a/\te a (aK.set j (some (.ref a))) H2 fun v H3 =>
 ∃a2 C2 dx i C' A9,v = .ref a2/\H3 a2=some (cw C2 dx a2)/\(∀d,dx=some d -> ∃fs,H3 d=some (fg d fs))/\fw K C2/\gq K C2 i=true/\H3 a=some (gu true C' A9 a)/\a2≠a/\H0 a2=none/\E (.ref C2) (some a2) (upd H3 a2 (gu false C2 dx a2))
section
variable {P : Program} {w : World} {K : Frag} {mg : Str -> Option Value} {base : Heap} {N : List Str} {qual : Str} {scope : Scope} {f : Addr} {cd : Value} {A : Around} {outer : List Env} {s : Shared} {H : Hp} {E : XK}
variable {j jj : Nat} {Bc : Addr} {n cn : Str} {p0 p5 p6 p7 pos : Pos} {b1 : Stmt} {body : List Stmt} {e : Expr} {te : Addr -> TE} {tb : Ends -> TS} {ci : Option Value}
theorem XG {X:Cx} (hX:X=iS (gU P w) P w K mg base N qual scope f cd A outer s H E) (hb:∀pins D,gH (X.kW pins (reE K H E Bc j te)) (b1::body) (tb D))
  (hN:X.N.Nodup) (hj:X.N[j]? = some n) (hn:X.env.scope.names.lookup n=some .local)
  (gc:Gl X cn) (mc:X.mg cn=some (.ref Bc)) (qc:gq X.K Bc ci=true) (he:∀a,PE (X.g5 a) e (te a)) (Hi:(cn==("__debug__" : Str))=false:=by decide) :
  PS X (.Try (b1::body) [.ExceptHandler (some (.Name cn p5)) (some n) [.Raise (some e) (some (.Constant .none jj p0)) pos] p6] [] [] p7) (NM tb):=by
 subst hX
 generalize hX:iS (gU P w) P w K mg base N qual scope f cd A outer s H E=X at *
 have hs:X.stack=X.env::X.outer:=by subst hX;rfl
 have hf:X.env.frame=some X.env.locals:=by subst hX;rfl
 have hex:X.ex = []:=by subst hX;rfl
 have hK:X.K=K:=by subst hX;rfl
 have hH:X.iQ=H:=by subst hX;rfl
 have hP:X.prog=P:=by subst hX;rfl
 have hw:X.w=w:=by subst hX;rfl
 intro pins s0 σ H0 D I h
 refine wpAny_Try_except ?_
 refine lF (hb pins D [] s0 σ H0 D I.kW h) (fun fl s1 z=>?_) fun ev s2 z=>?_
 ·have z':=SP.pG I.ok z
  cases fl with
  | next=>exact yD z'
  | brk=>exact z'
  | cont=>exact z'
  | ret u=>exact z'
 ·obtain⟨aK,H0,s1,I1,a,nn,C',a0,dx,H',B,rfl,os,bare,rS,⟨ox,kg,hd,hz⟩,xF,na,new,⟨C2,eC,me⟩,a',ea,xI⟩:=z
  cases ea
  cases eC
  rw[hs]at rS
  refine jO zG (wpAny_looks_onW (Q:=fun _ s'=>∃h',s'={ s2 with heap:=h' }/\Heap.HeldW B (X.env::X.outer) a (.ref C') a0 X.env.locals h'/\s2.heap.UpToSlots h') (by rw[<-hs];exact I1.ok.frames) hf rS fun h3 held rV=>⟨h3,rfl,held,rV⟩) fun _ s3 ⟨h3,e3,held,rV⟩ Hj=>?_
  subst e3
  refine jO qH (wpAny_landsW (Q:=fun _ s'=>∃h',s'={ s2 with heap:=h' }/\Heap.FlyingW B (X.env::X.outer) a (.ref C') a0 h'/\h3.UpToSlots h') held fun h4 lh jD=>⟨h4,rfl,lh,jD⟩) fun _ s4 ⟨h4,e4,lh,jD⟩ Hk=>?_
  subst e4
  have up:s2.heap.UpToSlots h4:=yL rV jD
  have rd:RD s2.heap h4:=Hj.trans Hk
  have lay:∀h5,Heap.FlyingW B (X.env::X.outer) a (.ref C') a0 h5->s2.heap.UpToSlots h5->RD s2.heap h5->Inv X pins aK (upd H' a (gu nn C' dx a)) { s2 with heap:=h5 }:=fun h5 f5 u5 r5=>by
   obtain⟨u,ok⟩:=xF h5 f5.1 u5
   obtain⟨o5,e5,_⟩:=f5.there
   exact I1.zR (s':={ s2 with heap:=h5 }) os (u.add na new) (M6 ok na (M0 f5 ⟨o5,e5,(r5.dict kg e5).1.trans hd,fun y=>(r5.dict kg e5).2.trans (hz y)⟩)) bare (fun b z=>absurd z (by simp))
  have J:=lay h4 lh up rd
  obtain⟨o4,jf,kh⟩:=lh.there
  refine wpAny_handleBy_cons (codeAny_handlers_test ?_) (by intro z;cases z)
  refine oU (J.g5 a) gc mc ?_ Hi
  refine KP (K:=X.K) J.bU qc (hK ▸ me) jf kh ?_
  refine codeAny_handlers_suite_as ?_
  refine jO qH (lands_againW (Q:=fun _ s'=>∃h',s'={ s2 with heap:=h' }/\Heap.FlyingW B (X.env::X.outer) a (.ref C') a0 h'/\h4.UpToSlots h') lh fun h5 rm rW=>⟨h5,rfl,rm,rW⟩) fun _ s5 ⟨h5,e5,rm,rW⟩ Hl=>?_
  subst e5
  have J5:=lay h5 rm (yL up rW) (rd.trans Hl)
  refine CU (X:=X.g5 a) (v:= .ref a) (J5.g5 a) hN hj (.inl hn) rfl (fun s6 I6=>?_) (.inr hn)
  refine Uj (Wm (c:=a) (X:=X) (R:=fun a2 C2 Bb H3=>H a2=none/\E (.ref C2) (some a2) (upd H3 a2 (gu false C2 Bb a2))) rfl I6 (he a) (hK ▸ xI) fun a2 C2 t Bb H3 s7 s8 J7 Bd ⟨h0,hE⟩ ⟨⟨o8,vs8,QL,cl8,di8,da8,v0,v1⟩,Be,os8,gs8⟩=>?_)
  have fr:s7.heap.FunFrames X.base X.stack:=J7.stack
  obtain⟨t7,at7⟩:=J7.excAt Bd
  have QM:∀b o,s7.heap.get? b=some o->(∀vs,o.data ≠ .fields vs)->b≠a2:=fun b o hb lz z=>by
   rw[z,at7]at hb;cases hb;exact lz _ rfl
  have all:∀env∈X.stack,∀b,env.frame=some b->b∈a2::cT X.stack:=fun env m b hb=>bX _ (qu.mpr ⟨env,m,hb⟩)
  have ff7:s7.heap.FunFrames (hideAll s7.heap (a2::cT X.stack)) X.stack:=funFrames_hide fr all
  have ff8:s8.heap.FunFrames (hideAll s7.heap (a2::cT X.stack)) X.stack:=ff7.of_keeps fun b o hb lz=>⟨o,(Be b (QM b o hb lz)).trans hb,rfl⟩
  have st8:(hideAll s7.heap (a2::cT X.stack)).StaysIn s8.heap:=fun b o hb=>by
   have n2:b≠a2:=fun z=>by rw[z,Cd _ aZ]at hb;cases hb
   exact(Be b n2).trans (of_hideAll _ hb)
  have nl:X.env.locals≠a2:=fun z=>by
   have:=J7.free
   rw[show(X.g5 a).env.locals=X.env.locals from rfl,z,Bd]at this;cases this
  have abT:(hideAll s7.heap (a2::cT X.stack)).get? X.env.locals=none:=Cd _ (bX _ (by rw[hs];exact qu.mpr ⟨X.env,aZ,hf⟩))
  obtain⟨m7,ns7,_⟩:=J7.loc
  have abU:s7.heap.Ns X.env.locals m7:=ns7
  have xJ:s8.heap.Ns X.env.locals m7:=by
   obtain⟨oo,es,ep,ho,r⟩:=abU
   exact⟨oo,es,ep,(Be _ nl).trans ho,r⟩
  have frA:(X.A.mark (some (.ref a))).frames=some (X.env::X.outer):=by rw[<-hs];exact J7.ok.frames
  refine jO zG (VV (Q:=fun _ s'=>∃h',s'={ s8 with heap:=h' }/\Heap.HeldW (hideAll s7.heap (a2::cT X.stack)) (X.env::X.outer) a2 o8.cls (.ref t) X.env.locals h'/\s8.heap.UpToSlots h') frA (by rw[<-hs];exact ff8) hf QL st8 (Cd _ aZ) da8 v1 v0 fun h' k u=>⟨h',rfl,k,u⟩) fun _ s9 ⟨h9,e9,Od,QN⟩ rd9=>?_
  subst e9
  have QO:h9.Ns X.env.locals m7:=QN.ns xJ
  have pM:(X.env.scope.kind == .class || (X.env.scope.kind == .module && X.env.locals != X.env.globals))=false:=by rw[I1.ok.kind];rfl
  refine wpAny_nameGoes_keeps hn QO pM fun QP v j' lY=>?_
  have ZG:=WZ Od lY QO j' abT
  have pas:∀s',X.xe (.ref a2) s'->notedBy (model X.prog X.w) (X.A.mark (some (.ref a))) X.env (cameBackBy (model X.prog X.w) X.A X.env X.xe) (.ref a2) s':=by subst hX;exact fun s' z=>PassesOwnAt.leaving _ _ z
  have xe:∀s',X.xe (.ref a2) s' ↔ wpAny (model X.prog X.w) X.A (leaving X.env (.ref a2)) (fun _ lu=>gU P w X.outer H s E (.ref a2) lu) (fun e' lu=>gU P w X.outer H s E e' lu) s':=by subst hX;exact fun s'=>Iff.rfl
  refine VA hf ZG fun n5 zN abV abW=>pas _ ((xe _).mpr ?_)
  have ZH:∀b o,b∈X.fs->s7.heap.get? b=some o -> ∃sl,n5.get? b=some { o with slots:=sl }:=fun b o m hb=>by
   obtain⟨_,o',e',nf⟩:=J7.fZ.mem m
   rw[hb]at e';cases e'
   obtain⟨sl,q9⟩:=QN b o ((Be b (QM b o hb nf)).trans hb) nf
   have Bf:b≠X.env.locals:=fun z=>by
    have lt:=bq (show X.cQ.heap.get? b=some _ from(J7.ok.fZ.mem m).2.choose_spec.1)
    have:=J7.ok.above
    rw[z]at lt
    exact absurd lt (Ca.mpr this)
   have q10:QP.get? b=some { o with slots:=sl }:=(lY.2 b Bf).trans q9
   obtain⟨rO,q11⟩:=abV b _ q10 nf
   exact⟨rO,q11⟩
  have abX:∃o,QP.get? a2=some o/\o.dict=Bb:=by
   obtain⟨o9,e9,_⟩:=Od.there
   exact⟨o9,(lY.2 a2 (aT nl)).trans e9,(rd9.dict QL e9).1.trans di8⟩
  obtain⟨o10,abY,d10⟩:=abX
  have abZ:o8.cls = .ref C2:=cl8
  rw[abZ]at zN
  refine jO Cy (VB (Q:=fun _ s'=>∃h',s'.heap=h'/\s'.os=s8.os/\s'.gens=s8.gens/\Heap.FlyingW (hideAll s7.heap (a2::cT X.stack)) X.outer a2 (.ref C2) (.ref t) h'/\n5.UpToSlots h') hf zN fun h' k u=>⟨h',rfl,rfl,rfl,k,u⟩) fun _ s12 ⟨xK,e12,ab0,ab1,OZ,ab2⟩ ab3=>?_
  subst e12
  obtain⟨o12,O0,_⟩:=OZ.there
  have ab4:s7.os=X.cQ.os:=J7.os
  have Hm:X.cQ=s:=by subst hX;rfl
  have hfs:X.fs=cT X.outer:=rfl
  have ab5:s.heap.get? a2=none:=by
   have ub:Un X.fs X.ex X.iQ H3 X.cQ.heap s7.heap:=J7.base
   cases q:s.heap.get? a2 with
   | none=>rfl
   | some o =>
    have:=ub.free a2 o (by rw[Hm];exact q) (by rw[hH];exact h0) (by rw[hex];simp)
    rw[Bd]at this;cases this
  refine⟨a2,false,C2,.ref t,Bb,iM H3 a2,hideAll s7.heap (a2::cT X.stack),rfl,ab0.trans (os8.trans (ab4.trans (by rw[Hm]))),by rw[ab1,gs8];exact J7.bare,OZ,⟨o12,O0,?_,fun z=>nomatch z⟩,fun h13 k13 u13=>?_,by unfold iM;rw[aI rfl],ab5,by rw[Mi];exact hE⟩
  ·have q:=(ab3.dict (h:=n5) (zN.there.choose_spec.1) O0).1
   exact q.trans (((abW.dict abY zN.there.choose_spec.1).1).trans d10)
  ·have r:=J7.YI (h':=h13) (a:=a2) hex hs hf Bd (by rw[show(X.g5 a).iQ=X.iQ from rfl,hH];exact h0) k13 fun b o m hb=>by
    obtain⟨_,o',e',nf⟩:=J7.fZ.mem m
    rw[hb]at e';cases e'
    obtain⟨sl,q⟩:=ZH b o m hb
    obtain⟨rO,q2⟩:=ab2 b _ q nf
    obtain⟨sl3,q3⟩:=u13 b _ q2 nf
    exact⟨sl3,q3⟩
   rw[<-Hm,<-hH,<-hP,<-hw]
   exact r
end
end L2
namespace L2
open PySem PySem.Spec PyProof.Rows PySem.W HT
section
variable {X : Cx}
theorem CM (hc:X.calm=true):eO X (.builtin "any") (fun xs H Q=>∃ (p:Addr) (bs:List Bool),xs = [.ref p]/\ai X.K H p (bs.map V.bl)/\Q (.bl (bs.any id)) H):=by
 intro pins s σ H xs us Q I r h
 obtain⟨p,bs,rfl,hq,q⟩:=h
 obtain⟨u,rfl,rx⟩:=vals1 r
 cases rx
 obtain⟨its,rv,pl,hz⟩:=I.list hq
 have hlen:=rv.length
 have vals:its=bs.map Value.bool:=by
  clear q hq pl hz r hlen
  induction bs generalizing its with
  | nil=>cases rv;rfl
  | cons b bs ih =>
   cases rv with
   | cons r1 rt=>cases r1;rw[ih _ rt];rfl
 have new:∀b o,s.heap.get? b=some o->b≠s.heap.objs.size:=fun b o e=>cu (bq e)
 obtain⟨ol,xE,_⟩:=id pl.isList
 refine call_any_walk (B4 pl.isList ?_)
 refine⟨s.heap.objs.size,_,_,_,_,_,fun i=>bs.getD i false,rfl,Walks.list (A:=X.A.in1) (I.ok.hd hc) s.heap.objs.size p (new p ol xE) its.toArray,⟨⟨_,eK _ rfl,rfl,rfl⟩,pl.isList.at fun o e=>bx _ e⟩,fun i v s2 Q2 E2 hv je=>?_,fun h' tk kp=>?_⟩
 ·rw[vals]at hv
  have:bs[i]?.map Value.bool=some v:=by simpa using hv
  obtain⟨b,hb,rfl⟩:=iF.mp this
  refine oC ?_
  have e:bs.getD i false=b:=by rw[jM,hb];rfl
  exact e ▸ je
 ·have fin:(List.range its.toArray.size).any (fun i=>bs.getD i false)=bs.any id:=by
   have hs:its.toArray.size=bs.length:=by rw[vals];simp
   rw[hs]
   apply qv.mpr
   simp only[qD,oA]
   constructor
   ·rintro⟨i,hi,e⟩
    exact⟨bs[i],jl hi,by simpa [List.getD,hi] using e⟩
   ·rintro⟨b,hb,e⟩
    obtain⟨i,hi,rfl⟩:=Kl hb
    exact⟨i,hi,by simpa [List.getD,hi] using e⟩
  rw[fin]
  exact⟨.bl _,H,I.kept (t':=tk) fun b o e=>kp b o (by simpa using new b o e) (bx _ e),rfl,q⟩
def Hn (x:Str):It:=⟨fun i _=>i < x.cps.size,fun i H v H'=>H'=H /\ ∃c,x.cps[i]? = some c/\v = .str ⟨#[c]⟩,fun i _=>x.cps.size<=i⟩
theorem Ml {P:Program}{w:World}{K:Frag}{tg:Expr} (it:Addr) (x:Str) (t:Tok) (T:String) (hT : ["enumerate", "zip", "dict_itemiterator", "dict_reverseitemiterator", "odict_iterator", "itertools.zip_longest", "itertools.pairwise"].contains T=false)
  (W:∀A':Around,A'.handled=none->Walks P w A' it [it] [it] x.cps.size (SignAt x) (fun i h=>h.IsStrIter it T x t i))
  (hs:∀ (A:Around) (i:Nat) (s:Shared) (Q:Value->Shared->Prop) (E:Value->Shared->Prop),s.heap.IsStrIter it T x t i->Q (.ref it) s->wpAny (model P w) A (pyIter (.ref it)) Q E s):Turn P w K tg (Hn x) [it] it (fun i h=>i<=x.cps.size/\h.IsStrIter it T x t i) where
 mem:=by simp
 obj:=fun i h st b hb=>by
  obtain rfl:b=it:=by simpa using hb
  obtain⟨_,o,e,c,d⟩:=st
  exact⟨o,e,fun v z=>by rw[d]at z;cases z⟩
 keep:=fun i h h' st k=>by
  obtain⟨l,o,e,r⟩:=st
  exact⟨l,o,k it (by simp) _ e,r⟩
 item:=by
  intro X hP hw hK hc i pins s σ H E I hf st hg
  subst hP hw hK
  obtain⟨f0,f1,f2,f3,f4,f5⟩:=hf it (by simp)
  refine(W X.A (I.ok.hd hc)).item i s _ _ hg st.2 fun v h' tk hv iW kk=>?_
  obtain⟨c,u,Hh,rfl⟩:=hv
  have I1:Inv X pins σ H { s with heap:=h',toks:=tk }:=I.turned (fun b o hb e=>kk b o (by simpa using hb) e) f0 f1 f3 f4 f5
  obtain⟨o,e,cl,d⟩:=id iW
  exact⟨_,rfl,zS (s:={ s with heap:=h',toks:=tk }) e cl d hT ⟨.str ⟨#[c]⟩,H,I1,⟨u,rfl⟩,⟨rfl,c,Hh,rfl⟩,⟨hg,iW⟩,fun b hb=>(hf b hb).1⟩⟩
 done:=by
  intro X hP hw hK hc i pins s σ H E I hf st hg
  subst hP hw hK
  obtain⟨f0,f1,f2,f3,f4,f5⟩:=hf it (by simp)
  have ei:i=x.cps.size:=Nat.le_antisymm st.1 hg
  subst ei
  exact(W X.A (I.ok.hd hc)).done s _ _ st.2 fun h' tk kk=>⟨rfl,I.turned (fun b o hb e=>kk b o (by simpa using hb) e) f0 f1 f3 f4 f5⟩
 self:=fun A i s Q E st h=>hs A i s Q E st.2 h
def ab6 (te:TE):TI:=fun σ H R=>te σ H fun v H1=>∃x,v = .str x/\R (Hn x) H1
theorem NN {tg e:Expr}{te:TE} (he:PE X e te):PI X tg e (ab6 te):=by
 intro pins s σ H R I h
 refine aJ (he pins s σ H _ I h) fun v s1 ⟨y,H1,I1,r1,x,ey,q⟩=>?_
 subst ey
 obtain⟨t,rfl⟩:=r1
 have I2:∀o:Obj,Inv X pins σ H1 { s1 with heap:=s1.heap.push o }:=fun o=>I1.kept (t':=s1.toks) fun b ob z=>bx _ z
 have fp:∀b ∈ [s1.heap.objs.size],iR X pins H1 b:=fun b hb=>by
  obtain rfl:b=s1.heap.objs.size:=by simpa using hb
  exact I1.nH (aO _) (I1.aA.fresh (aO _))
 cases ha:x.cps.all (· < 128)
 ·refine wpAny_pyIter_wide ha ?_
  exact⟨s1.heap.objs.size,[s1.heap.objs.size],_,_,H1,rfl,I2 _,Ml s1.heap.objs.size x t "str_iterator" (by decide) (fun A' hA=>Walks.strWide hA _ x t) (fun _ _ _ _ _ st h=>wpAny_pyIter_striter_wide st h),⟨bY _,_,eK _ rfl,rfl,rfl⟩,fp,q⟩
 ·refine wpAny_pyIter_ascii ha ?_
  exact⟨s1.heap.objs.size,[s1.heap.objs.size],_,_,H1,rfl,I2 _,Ml s1.heap.objs.size x t "str_ascii_iterator" (by decide) (fun A' hA=>Walks.strAscii hA _ x t) (fun _ _ _ _ _ st h=>wpAny_pyIter_striter_ascii st h),⟨bY _,_,eK _ rfl,rfl,rfl⟩,fp,q⟩
theorem Mm {x:Str}{g:TG}{ti:TT}{te:TE}{iC:St}{Q:VK}{p:Addr}{H1:Hp} (Pv:Nat->List V->St->Hp->Prop) (h0:Pv 0 [] iC (upd H1 p (.lst []))) (hl:∀i ys τ H,Pv i ys τ H->H p=some (.lst ys))
  (hs:∀i c ys τ H,x.cps[i]? = some c->Pv i ys τ H->g (.str ⟨#[c]⟩) τ H fun d4 H4=>ti d4 H4 fun b H5=>if b=true then te d4 H5 fun y H6=>H6 p=some (.lst ys)/\ys.length < sizeLine /\ ∃m',m' < x.cps.size - i/\CW Pv x.cps.size (i+1) m' (ys ++ [y]) d4 (upd H6 p (.lst (ys ++ [y]))) else ∃m',m' < x.cps.size - i/\CW Pv x.cps.size (i+1) m' ys d4 H5)
  (hd:∀ys τ H,Pv x.cps.size ys τ H->Q (.ref p) H):kZ (Hn x) g ti te iC Q p H1:=by
 refine⟨CW Pv x.cps.size,⟨x.cps.size,by simp,bY _,h0⟩,?_⟩
 rintro i m ys τ H ⟨rfl,hi,pv⟩
 refine⟨hl i ys τ H pv,?_⟩
 by_cases aM:i < x.cps.size
 ·refine .inr ⟨aM,fun v H3 y3=>?_⟩
  obtain⟨e3,c,hc,rfl⟩:=y3
  subst e3
  exact hs i c ys τ _ hc pv
 ·have e:i=x.cps.size:=by omega
  subst e
  exact .inl ⟨aO _,hd ys τ H pv⟩
end
end L2
namespace HT
open PySem PyProof.Rows PySem.W L2
theorem Vp (a:Addr) (vs:Array Value) (n:Nat) (u:Tok) (sl:Array (Option Value)) :
  Meets (Builtin.«object.__getattribute__» ⟨[.ref a,.str "keys" u],[]⟩) (fun A R s=>s.heap.get? a=some { cls:= .type "tuple", dict:=none,data:= .seq vs n,slots:=sl }/\raisesAttr (.ref a) "keys" A R s):=
 meets_getattribute_miss_tuple a vs n sl "keys" u (by rw[US,UT];kernel_rfl) (by decide +kernel) (by rw[ay];decide +kernel)
theorem XH {prog:Program}{w:World}{A:Around}{E:Value->Shared->Prop}{s:Shared}{a:Addr}{vs:Array Value}{n:Nat}{sl:Array (Option Value)}{Q:Option Value->Shared->Prop} (hx:s.heap.get? a=some { cls:= .type "tuple", dict:=none,data:= .seq vs n,slots:=sl }) (hA:A.handled=none)
  (h:∀h' tk,(∀b o,s.heap.get? b=some o->h'.get? b=some o)->Q none { s with heap:=h',toks:=tk }):wpAny (model prog w) A (getAttr? (.ref a) "keys") Q E s:=by
 obtain⟨hp,g,d,tk,os⟩:=s
 have hT:∀nZ,(⟨hp,g,d,nZ,os⟩:Shared).TypeIs (.ref a) "tuple" :=fun _=>⟨_,hx,rfl⟩
 have f1:=sub_AttributeError
 have f3:=UU.lookup
 have f4:=UU.bind (.ref a)
 have f5:=am_tuple_getattr_none
 unfold getAttr? getAttrBy? getAttrBy
 repeat (any_goals (first | assumption | exact hT _ | ((with_reducible show wpAny _ _ (call (Value.builtin "tuple.__getattribute__") _ _) _ _ _);refine yH UU (hT _) am_entry_tuple_getattribute (F.args_tuple_getattribute_2 _ _) (Vp a vs n _ sl) ⟨hx,hA,fun h' nZ e eZ=>?_⟩)|wp_step))
 obtain⟨t',u',he⟩:=eZ.there
 show wpAny _ _ (getattributeRaised _ _ _ _ _ _ _) _ _ _
 unfold getattributeRaised
 repeat (any_goals (first | assumption | wp_step))
 exact h h' nZ eZ.keeps
end HT
namespace HT
open PySem PyProof.Rows PySem.W L2
section
variable {prog : Program} {w : World} {A : Around} {R : Result -> Shared -> Prop} {it t d : Addr} {vs : Array Value} {g : Heap}
theorem XI {E:Value->Shared->Prop}{Q:Unit->Shared->Prop}{s:Shared}{T:Addr}{x y:Value}{k:Key}{kvs:List (Key×Value)}{i:Int} (hT:IsTup s.heap T #[x,y]) (hk:(d7 prog w).is k x=true) (hd:s.heap.DictOf (d7 prog w) d kvs) (new:k ∉ kvs.map (·.1)) (hz:kvs.length<=sizeLine)
  (q:∀h' tk,h'.DictOf (d7 prog w) d (kvs ++ [(k,y)])->Heap.SameBut d s.heap h'->Q () { s with heap:=h',toks:=tk }) :
  wpAny (model prog w) A (holding [Value.ref T] (do
   let pair <- (Builtin.Dict.pairItems (.ref T)).tryCatch fun e=>do
    if !(<- isInstance e (.type "TypeError")) then throw e
    rule "dict.update.element-no-sequence"
    raiseError "TypeError" s!"cannot convert dictionary update sequence element #{i} to a sequence"
   match pair with
   | [k,v]=>holding [k,v] (dictSet d k v)
   | l =>
    rule "dict.update.element-length"
    raiseError "ValueError" s!"dictionary update sequence element #{i} has length {l.length}; 2 is required")) Q E s:=by
 refine fB (ag (wpAny_tryCatch ?_))
 unfold Builtin.Dict.pairItems
 refine ag (oF hT.typeIs ?_)
 rw[aI (by decide)]
 obtain⟨o,ho,_,n,Ho⟩:=hT
 refine ag (wpAny_seqItems ho Ho (au ?_))
 show wpAny _ _ (holding [x,y] (dictSet d x y)) _ _ _
 refine fB (wpAny_dictSet_pairs (hsz:=hz) hk hd fun h' dd sb=>?_)
 rw[stored_new new]at dd
 exact q h' _ dd sb
theorem YJ (hh:A.in1.handled=none) (Hq:d≠it) (uT:d≠t) (QQ:t≠it) (ps:List (Key×Value)) (nd:(ps.map (·.1)).Nodup) (hz:ps.length<=sizeLine) (hsz:vs.size=ps.length) (hv:IsTup g t vs)
  (rX:∀ (i:Nat) p,ps[i]? = some p -> ∃a x,vs[i]? = some (.ref a)/\a≠it/\a≠d/\IsTup g a #[x,p.2]/\(d7 prog w).is p.1 x=true) :
  ∀ (m k:Nat) (s:Shared),ps.length - k=m->k<=ps.length->IsTupIter s.heap it t k->s.heap.DictOf (d7 prog w) d (ps.take k) ->
   (∀b o,b≠it->b≠d->g.get? b=some o->s.heap.get? b=some o) ->
   (∀h' tk,h'.DictOf (d7 prog w) d ps->(∀b o,b≠it->b≠d->g.get? b=some o->h'.get? b=some o)->R (.ok (.ret .none)) { s with heap:=h',toks:=tk }) ->
   codeAny (model prog w) A (.builtin "dict.update.loop" ⟨[.ref d,.ref it,rawInt k,.none],[]⟩) R s:=by
 have up:∀ {b:Addr}{us:Array Value}{h:Heap},b≠it->b≠d->(∀b o,b≠it->b≠d->g.get? b=some o->h.get? b=some o)->IsTup g b us->IsTup h b us:=fun n1 n2 kp ⟨o,ho,r⟩=>⟨o,kp _ _ n1 n2 ho,r⟩
 intro m
 induction m with
 | zero =>
  intro k s hm hk t1 dd kp hR
  have ek:k=ps.length:=by omega
  refine mw LK (?_:wpAny _ _ _ _ _ _)
  rw[qA zg _]
  show wpAny _ A.in1 (pyNext (.ref it) >>= _) _ _ s
  refine ag (next_tuple_end hh t1 (up QQ uT.symm kp hv) (by simp;omega) fun h' k'=>?_)
  refine ag (m:=Builtin.Dict.addKeywords d []) (au (au ?_))
  have n4:h'.DictOf (d7 prog w) d (ps.take k):=dd.at fun o e=>k' d o Hq e
  rw[ek,dw]at n4
  exact hR h' s.toks n4 fun b o a1 a2 e=>k' b o a1 (kp b o a1 a2 e)
 | succ m ih =>
  intro k s hm hk t1 dd kp hR
  have aM:k < ps.length:=by omega
  have hp:ps[k]? = some ps[k]:=br aM
  obtain⟨a,x,hva,Bg,na2,aaC,lQ⟩:=rX k _ hp
  have tk1:ps.take (k+1)=ps.take k ++ [ps[k]]:=by rw[de,hp];rfl
  have new:ps[k].1 ∉ (ps.take k).map (·.1):=fun w=>by
   have e:ps.map (·.1)=(ps.take k).map (·.1)++(ps.drop k).map (·.1):=by rw[<-aY,List.take_append_drop]
   rw[e,qE]at nd
   refine nd.2.2 _ w _ ?_ rfl
   rw[Cb aM]
   exact aZ
  refine mw LK (?_:wpAny _ _ _ _ _ _)
  rw[qA zg _]
  show wpAny _ A.in1 (pyNext (.ref it) >>= _) _ _ s
  refine ag (next_tuple_item t1 (up QQ uT.symm kp hv) hva fun h' QR sb=>?_)
  have uP:∀b o,b≠it->b≠d->g.get? b=some o->h'.get? b=some o:=fun b o a1 a2 e=>sb.extBut b o a1 (kp b o a1 a2 e)
  have n4:h'.DictOf (d7 prog w) d (ps.take k):=dd.at fun o e=>sb.extBut d o Hq e
  refine ag (XI (s:={ s with heap:=h' }) (k:=ps[k].1) (up Bg na2 uP aaC) lQ n4 new (by rw[aX];omega) fun jd tk ab7 QS=>?_)
  rw[show((k:Int)+1)=((k+1:Nat):Int) from rfl]
  exact au ⟨qB zg _,ih (k+1) _ (by omega) aM (QR.extBut QS.extBut Hq.symm) (by rw[tk1];exact ab7) (fun b o a1 a2 e=>QS.extBut b o a2 (uP b o a1 a2 e)) hR⟩
theorem Vt {E:Value->Shared->Prop}{Q:Value->Shared->Prop}{s:Shared} (hh:A.handled=none) (ps:List (Key×Value)) (nd:(ps.map (·.1)).Nodup) (hz:ps.length<=sizeLine) (hsz:vs.size=ps.length) {n:Nat}{sl:Array (Option Value)}
  (hv:s.heap.get? t=some { cls:= .type "tuple", dict:=none,data:= .seq vs n,slots:=sl })
  (rX:∀ (i:Nat) p,ps[i]? = some p -> ∃a x,vs[i]? = some (.ref a)/\IsTup s.heap a #[x,p.2]/\(d7 prog w).is p.1 x=true)
  (q:∀d h' tk,s.heap.objs.size<=d->h'.DictOf (d7 prog w) d ps->(∀b o,s.heap.get? b=some o->h'.get? b=some o)->Q (.ref d) { s with heap:=h',toks:=tk }) :
  wpAny (model prog w) A (call (.type "dict") [.ref t]) Q E s:=by
 refine callType_codes (Q₁:=fun obj bh=>obj = .ref s.heap.objs.size/\bh={ s with heap:=s.heap.push { cls:= .type "dict", data:= .dict #[] } }) F.kt_called_dict (F.kt_typeCall_dict_1 _) F.entry_dict_init (kt_code_dict_new _ ⟨rfl,rfl⟩) ?_
 rintro obj bh ⟨rfl,rfl⟩
 have dn:(s.heap.push { cls:= .type "dict", data:= .dict #[] }).DictOf (d7 prog w) s.heap.objs.size []:=Heap.DictOf.new s.heap
 have k2:∀b o,s.heap.get? b=some o->(s.heap.push { cls:= .type "dict", data:= .dict #[] }).get? b=some o:=fun b o e=>bx _ e
 generalize s.heap.push { cls:= .type "dict", data:= .dict #[] }=h2 at dn k2 ⊢
 refine⟨dn.typeIs,F.args_dict_init_2 _ _,?_⟩
 unfold Builtin.«dict.__init__»
 refine ag ?_
 unfold Builtin.Dict.selfAndRest
 refine ag (wpAny_notOrdered_dict dn.typeIs ?_)
 refine(au ?_:wpAny _ _ (pure (s.heap.objs.size,[Value.ref t])) _ _ _)
 show wpAny _ _ (Builtin.Dict.updateFrom "dict.__init__" s.heap.objs.size (.ref t) [] .none) _ _ _
 unfold Builtin.Dict.updateFrom
 have v2:=k2 _ _ hv
 refine ag (oF (T:= "tuple") ⟨_,v2,rfl⟩ ?_)
 rw[aI (by decide)]
 refine ag (XH v2 hh fun h3 tk3 k3=>?_)
 rw[aI (by decide)]
 have it3:IsTup h3 t vs:=⟨_,k3 _ _ v2,rfl,n,rfl⟩
 refine ag (sC (ag (iter_tuple it3 ?_)))
 refine au ⟨qB zg _,?_⟩
 have up:∀b o,s.heap.get? b=some o->h3.get? b=some o:=fun b o e=>k3 b o (k2 b o e)
 have Bh:s.heap.objs.size < h3.objs.size:=by
  obtain⟨o,_,_,ho,_⟩:=dn
  exact bq (k3 _ _ ho)
 have dd3:h3.DictOf (d7 prog w) s.heap.objs.size []:=dn.at fun o e=>k3 _ o e
 have lt:∀ {b:Addr}{o:Obj},s.heap.get? b=some o->b < s.heap.objs.size:=fun e=>bq e
 refine YJ (A:=A.in1) (g:=s.heap) (it:=h3.objs.size) hh (cu Bh) (JU (lt hv)) (cu (vt (lt hv) Bh)) ps nd hz hsz ⟨_,hv,rfl,n,rfl⟩ (fun i p hp=>?_) _ 0 _ rfl (bY _) ⟨_,eK _ rfl,rfl,rfl⟩ (dd3.at fun o e=>bx _ e) (fun b o _ _ e=>bx _ (up b o e)) fun h' tk dd kp=>?_
 ·obtain⟨a,x,h1,QT,h3'⟩:=rX i p hp
  obtain⟨o,ho,_⟩:=id QT
  exact⟨a,x,h1,cu (vt (lt ho) Bh),cu (lt ho),QT,h3'⟩
 ·exact⟨rfl,q _ h' tk (aO _) dd fun b o e=>kp b o (cu (vt (lt e) Bh)) (cu (lt e)) e⟩
end
end HT
namespace L2
open PySem PySem.Spec PyProof.Rows PySem.W HT
section
variable {X : Cx}
theorem LM:cE X (compareOp .LtE) (fun x y H Q=>∃i j,x = .str i/\y = .str j/\Q (.bl (!decide (j.cps.toList < i.cps.toList))) H):=by
 intro pins s σ H x y v u Q I rx ry ⟨i,j,ex,ey,q⟩
 subst ex ey
 obtain⟨t,rfl⟩:=rx
 obtain⟨t',rfl⟩:=ry
 exact P.le_str (cP I q rfl)
def i5 (H:Hp) (vs:List V) (kvs:List (Str×V)):Prop:=Paired (fun y p=>∃a,y=V.ref a/\H a=some (.tup [.str p.1,p.2])) vs kvs
theorem i5.same {H H':Hp}{vs:List V}{kvs:List (Str×V)} (h:i5 H vs kvs) (s:aq H H'):i5 H' vs kvs:=Paired.imp' (fun _ _ ⟨a,e,q⟩=>⟨a,e,s _ _ q⟩) h
def nc (kvs:List (Str×V)):List (Key×V):=kvs.map fun p=>(Sum.inr p.1,p.2)
theorem M7:∀ (kvs:List (Str×V)) (ys:List Value),ys.length=kvs.length->(∀ (i:Nat) (hi:i < kvs.length),∃y,ys[i]? = some y/\RelV kvs[i].2 y)->KV (nc kvs) ((kvs.map fun p=>(Sum.inr p.1:Key)).zip ys)
 | [],ys,h,_=>.nil
 | p::kvs,[],h,_=>by simp at h
 | p::kvs,y::ys,h,f=>by
  obtain⟨y',e,r⟩:=f 0 (by simp)
  obtain rfl:y=y':=by simpa using e
  exact .cons ⟨rfl,r⟩ (M7 kvs ys (by simpa using h) fun i hi=>by
   obtain⟨y2,e2,r2⟩:=f (i+1) (Nat.succ_lt_succ hi)
   exact⟨y2,by simpa using e2,r2⟩)
end
end L2
namespace L2
open PySem PySem.Spec PyProof.Rows PySem.W
structure iN (k:Nat) (A:Around):Prop where
 dp:A.depth+3 * k+5 < recursionLimit
 un:A.units+16 * k+200 < cLine
 gd:A.guards=some []
theorem bQ.marked {k:Nat}{A:Around} (r:bQ k A) (v:Option Value):iN k (A.mark v):=⟨r.dp,r.un,r.gd⟩
theorem iN.deeper {k:Nat}{A:Around} (r:iN (k+1) A) (env:Env):iN k (A.deeper env):=
 ⟨by have:=r.dp;show A.depth+1+3 * k+5 < _;omega,by have:=r.un;show A.units+3+16 * k+200 < _;omega,by first | exact r.gd | simp[Around.deeper,r.gd]⟩
theorem iN.make {k:Nat}{A:Around} (r:iN (k+1) A) (C:Addr) (us:List Value) (kw:List (Str×Value)):iN k (A.under (.builtin "type.__call__" ⟨.ref C::us,kw⟩)):=
 ⟨by have:=r.dp;rw[K7];omega,by have:=r.un;rw[K8];omega,KW r.gd⟩
theorem iN.depth {k:Nat}{A:Around} (r:iN k A):A.depth < recursionLimit:=by have:=r.dp;omega
theorem iN.units {k:Nat}{A:Around} (r:iN k A):A.units+64 < cLine:=by have:=r.un;omega
def zX (P:Program) (w:World) (K:Frag) (mg:Str->Option Value) (base:Heap) (N:List Str) (qual:Str) (scope:Scope) (f:Addr) (cd:Value) (A:Around) (outer:List Env) (s:Shared) (H:Hp) (E:XK):Cx:=
 { iS aS P w K mg base N qual scope f cd A outer s H E with calm:=false }
structure wA (P:Program) (w:World) (K:Frag) (mg:Str->Option Value) (base:Heap) (k:Nat) (f:Addr) (fd:FuncData) (ps:List Str) (sp:Sp):Prop where
 len:∀vs H Q E,sp vs H Q E->vs.length=ps.length
 run:∀ (A:Around) (outer:List Env) (s:Shared) (H:Hp) (args:Args) (us:List Value) (vs:List V) (Q:VK) (E:XK),iN k A->nI P w K mg base A outer s H->BindsTo s fd args (ps.zip us)->Vals vs us->sp vs H Q E ->
  codeAny (model P w) A (.call (.ref f) args) (CR aS outer P w H s Q E) s
section
variable {P : Program} {w : World} {K : Frag} {mg : Str -> Option Value} {base : Heap} {N : List Str} {qual : Str} {f : Addr}
theorem Wn {scope:Scope}{cd:Value}{A:Around}{outer:List Env}{s s1:Shared}{H H1:Hp}{E:XK}{pins:List (Addr×Obj)}{σ:St}
  (I:Inv (iS aS P w K mg base N qual scope f cd { A with handled:=none } outer s H E) pins σ H1 s1):Inv (zX P w K mg base N qual scope f cd A outer s H E) pins σ H1 s1:=
 ⟨⟨I.ok.mod,I.ok.kind,I.ok.glob,I.ok.blt,I.ok.above,I.ok.inj,I.ok.has,I.ok.nQ,(fun z=>Bool.noConfusion (show false=true from z)),I.ok.frames,I.ok.ll,I.ok.pO,I.ok.bs,I.ok.jy,I.ok.nF,I.ok.nG,I.ok.fZ,I.ok.jZ⟩,I.os,I.bare,I.base,I.loc,I.cell,I.free,I.g6,I.pin,I.aA,I.len⟩
theorem bw.okH {x:Str}{st:Stmt}{fd:FuncData}{ps:List Str}{k:Nat}{sp:Sp} (F:bw K x qual st f fd) (S:cO N ps (aH st)) (len:∀vs H Q E,sp vs H Q E->vs.length=ps.length)
  (qU:∀ (aQ:Value) (A:Around) (outer:List Env) (s:Shared) (H:Hp) (vs:List V) (Q:VK) (E:XK),iN k (A.deeper (envOfC qual (aH st) s.heap.objs.size f aQ))->sp vs H Q E ->
   ∃t,gH (zX P w K mg base N qual (aH st) f aQ A outer s H E) (aU st) t/\t { nx:=fun _ H'=>Q .aG H',rt:=Q } (start N vs) H):wA P w K mg base (k+1) f fd ps sp:=by
 obtain⟨oc,od,kV,doc,pm,an,aQ,ct,lV,rfl,lk,f9⟩:=F.ex
 refine⟨len,fun A outer s H args us vs Q E hr e0 hb r jA=>?_⟩
 have hl:=len _ _ _ _ jA
 have KX:K.In s.heap:=e0.mod.jx.keeps fun b o e=>(e0.bs b o e).1
 have lim:s.heap.NoLimit:=e0.mod.nolimit.keeps fun b o e=>(e0.bs b o e).1
 have DH:∀y∈ps.zip us,(aH st).names.lookup y.1=some .local\/((aH st).names.lookup y.1=some .cell/\((cellsFrom (s.heap.objs.size+1) (aH st).names []).lookup y.1).isSome=true):=fun⟨n,v⟩ hy=>by
  rcases S.par n (JX hy).1 with q | q
  ·exact .inl q
  ·exact .inr ⟨q,Ul _ _ _ (.inl q)⟩
 refine codeAny_call_function hr.depth (KX _ _ lk) rfl S.co S.gen rfl (PySem.W.codeRec_of KX f9) (hb _ _ _ _ ?_)
 refine al5 S.kind DH fun env he s1 x=>?_
 subst he
 refine⟨lim.keeps x.toInCall.keep,codeAny_func ?_⟩
 obtain⟨t,ht,hq⟩:=qU aQ A outer s H vs Q E (hr.deeper _) jA
 have e0':nI P w K mg base { A with handled:=none } outer s H:=⟨e0.frames,e0.mod,e0.bs,e0.jy,e0.fZ,e0.jZ,e0.aA,e0.bare⟩
 have I:Inv (zX P w K mg base N qual (aH st) f aQ A outer s H E) [] (start N vs) H s1:=Wn (Lz S rfl e0' hl r x)
 refine lF (ht [] s1 (start N vs) H _ I hq) (fun fl s' hs=>?_) fun e s' hs=>hs
 have fin:∀ {aK:St}{H':Hp}{v:V}{u:Value},Inv (zX P w K mg base N qual (aH st) f aQ A outer s H E) [] aK H' s'->RelV v u->Q v H'->CE outer P w H s Q u s':=
  fun {aK H' v u} J rv q=>⟨v,H',J.os,J.bare,J.base,J.aA,rv,q⟩
 cases fl with
 | ret u =>
  obtain⟨v,aK,H',J,rv,q⟩:=hs
  exact fin J rv q
 | next =>
  obtain⟨aK,H',J,q⟩:=hs
  exact fin (v:=V.aG) (u:=Value.none) J rfl q
 | brk =>
  obtain⟨_,_,_,q⟩:=hs
  exact False.elim q
 | cont =>
  obtain⟨_,_,_,q⟩:=hs
  exact False.elim q
end
section
variable {X : Cx} {pins : List (Addr × Obj)} {σ : St} {H : Hp} {s : Shared} {C fI : Addr} {us : List Value} {vs : List V} {Q : VK} {k : Nat} {fd : FuncData} {ps : List Str} {sp : Sp} {E : XK} {x : Str} {p pos : Pos} {e : Expr} {es : List Expr} {t : TA}
theorem XJ (q:gq X.K C (some (.ref fI))=true) (fn:isFn X.K (.ref fI)=true) (F:wA X.prog X.w X.K X.mg X.base k fI fd ps sp) (hr:iN (k+1) X.A) (hb:Binds X.K fd ps []) (hx:Passes aS X E) (I:Inv X pins σ H s) (r:Vals vs us) (bg:us.length<=100)
  (h:∀e,H e=none->sp (.ref e::vs) (upd H e (cw C none e)) (fun v H2=>v = .aG/\Q (.ref e) H2) E):wpAny (model X.prog X.w) X.A (call (.ref C) us) (EP X pins σ Q) X.xe s:=by
 obtain⟨⟨up,N,nm,qn,bs,hd,sn,sb,ab,col,od,a0,a1,a2,a3,a5,mN,at_,ns,ni,T⟩⟩:=sU I.bU q
 obtain⟨oI,lk,oc⟩:=iF.mp (show(X.K.lookup fI).map (·.cls)=some (.type "function") from eN.mp fn)
 have h1:=h (s.heap.objs.size+1) (I.aA.fresh (qz _))
 have bU:=I.bU
 have I2:Inv X pins σ (upd H (s.heap.objs.size+1) (cw C none (s.heap.objs.size+1))) { s with heap:=jQ s.heap C us }:=I.put (fun _ _ z=>sQ z) (B3 (qz _)) (zB CK)
 have e0:=I2.Af.make C us []
 have rR:=hr.make C us []
 have r2:Vals (V.ref (s.heap.objs.size+1)::vs) (Value.ref (s.heap.objs.size+1)::us):= .cons rfl r
 have hl:(Value.ref (s.heap.objs.size+1)::us).length=ps.length:=by rw[<-r2.length];exact F.len _ _ _ _ h1
 have xC:=hb { s with heap:=jQ s.heap C us } (Value.ref (s.heap.objs.size+1)::us) I2.bU (by rw[ik];exact hl)
 rw[ik]at xC
 have run:=F.run _ X.stack _ _ ⟨Value.ref (s.heap.objs.size+1)::us,[]⟩ (Value.ref (s.heap.objs.size+1)::us) _ _ E rR e0 xC r2 h1
 obtain⟨hp,g,d,tk,os⟩:=s
 refine KH UI T at_ ns ni (bU _ _ lk) oc (by rw[ay];omega) (qw (su run fun r s' hq=>?_))
 cases r with
 | error e=>exact hx pins σ _ _ e s' I2 hq
 | ok fl =>
  cases fl with
  | ret u =>
   obtain⟨v,H',I3,rv,ev,q3⟩:=I2.after hq
   subst ev
   exact⟨rv,.ref (hp.objs.size+1),H',I3,rfl,q3⟩
  | next=>exact False.elim hq
  | brk=>exact False.elim hq
  | cont=>exact False.elim hq
theorem YK (q:gq X.K C (some (.ref fI))=true) (fn:isFn X.K (.ref fI)=true) (kp:keepIn X.K (.ref C)=true) (F:wA X.prog X.w X.K X.mg X.base k fI fd ps sp) (hr:iN (k+1) X.A) (hb:Binds X.K fd ps []) (hx:Passes aS X E)
  (hg:Gl X x) (hm:X.mg x=some (.ref C)) (ha:PA X (e::es) t) (jz:(x==("__debug__" : Str))=false:=by decide)
  (he:starEach (e::es) X.env=(false,eval e X.env)::starEach es X.env:=by rfl) (dG:(backTo pos (starEach es X.env)).any (·.1)=false:=by rfl):PE X (.Call (.Name x p) (e::es) [] pos) (Oa C sp E t):=by
 intro pins s σ H Q I h
 refine vm (oU I hg hm ?_ jz)
 refine callWith_K (h₀:=X.base) I.ok.mod.jx kp (aJ (ha pos pins s σ H _ I h) fun us s1 ⟨vs,H1,I1,r,bg,q1⟩=>⟨I1.bU,?_⟩) he dG
 exact XJ q fn F hr hb hx I1 r (by show us.length<=100;rw[<-r.length];exact bg) q1
end
end L2
namespace L2
open PySem PySem.W PySem.Calls PyProof.Rows
section
variable {α β : Type} {n : Nat}
def Pm (n:Nat) (p:Array Nat):Prop:=p.toList.Perm (List.range n)
theorem Pm.lt {p:Array Nat} (h:Pm n p) (hn:0 < n) (i:Nat):p.getD i 0 < n:=by
 rw[mx]
 cases e:p[i]? with
 | none=>exact hn
 | some x =>
  have:x∈p.toList:=Array.mem_def.mp (Array.mem_of_getElem? e)
  exact oA.mp (h.mem_iff.mp this)
theorem Pm.rev {p:Array Nat} (h:Pm n p) (i j:Nat):Pm n (kas_rev p i j):=(amj.mp (mirror_perm p i j _)).trans h
theorem Pm.bub {p:Array Nat} (h:Pm n p) (i j:Nat):Pm n (bubble p i j):=(amj.mp (bubble_perm p i j)).trans h
theorem NO {γ:Type}{p:Array Nat}{vs:List γ} (d:γ) (h:Pm vs.length p):(p.toList.map fun i=>vs.getD i d).Perm vs:=by
 have h1:=List.Perm.map (fun i=>vs.getD i d) h
 refine h1.trans (List.Perm.of_eq ?_)
 apply UW
 ·simp
 ·intro i h1 h2
  simp[List.getD,h2]
end
theorem VW {α β:Type}{F:α->β->Prop}{l l':List α} (h:l'.Perm l):∀ {m:List β},Paired F l m -> ∃m',m'.Perm m/\Paired F l' m':=by
 induction h with
 | nil=>intro m p;exact⟨m,.refl _,p⟩
 | cons x _ ih =>
  intro m p
  cases p with
  | cons q t =>
   obtain⟨m',e,r⟩:=ih t
   exact⟨_::m',e.cons _,.cons q r⟩
 | swap x y l =>
  intro m p
  cases p with
  | cons q t =>
   cases t with
   | cons q2 t=>exact⟨_,List.Perm.swap _ _ _,.cons q2 (.cons q t)⟩
 | trans _ _ Hr Hs =>
  intro m p
  obtain⟨m2,e2,p2⟩:=Hs p
  obtain⟨m1,e1,p1⟩:=Hr p2
  exact⟨m1,e1.trans e2,p1⟩
theorem Wo {prog:Program}{w:World}{A:Around}{E:Value->Shared->Prop}{s:Shared}{a:Addr}{Q:Bool->Shared->Prop} (h:Q true s):wpAny (model prog w) A (eqBool (.ref a) (.ref a)) Q E s:=by
 unfold eqBool
 refine fB ?_
 have:((Value.ref a)==(Value.ref a))=true:=by simp
 rw[aI this]
 exact ag (sC (au h))
section
variable {X : Cx}
theorem ZI {P:Program}{w:World}{H:Hp}{h:Heap}{a:Addr}{o:HO} (x:bH P w H h a o):∃q,h.get? a=some q:=by
 cases o with
 | lst xs=>obtain⟨_,_,_,_,e⟩:=x;exact⟨_,e⟩
 | tup xs=>obtain⟨_,_,_,q,e,_⟩:=x;exact⟨q,e⟩
 | dK kvs=>obtain⟨_,_,_,_,o,_,_,e,_⟩:=x;exact⟨o,e⟩
 | dT kvs=>obtain⟨_,_,_,_,o,_,_,e,_⟩:=x;exact⟨o,e⟩
 | set S n=>obtain⟨o,_,_,_,e,_⟩:=x;exact⟨o,e⟩
 | ins C dx fs=>obtain⟨_,_,_,e,_⟩:=x;exact⟨_,e⟩
 | own y=>exact x
 | xd fs=>obtain⟨_,⟨o,_,_,e,_⟩,_⟩:=x;exact⟨o,e⟩
 | w8 lo hi=>obtain⟨_,_,_,e⟩:=x;exact⟨_,e⟩
 | iB q u=>exact⟨q,x.1⟩
 | nP ps=>exact⟨_,x⟩
 | met f y=>exact⟨_,x⟩
 | ext φ=>exact x.2.1
theorem Inv.sorted {pins:List (Addr×Obj)}{σ:List (Option V)}{H:Hp}{s:Shared}{h':Heap}{m:Str->Option Value}{D:Addr}{ys:List V}{out:List Value}{c:Nat}{t':Nat} (I:Inv X pins σ H s) (hm:s.heap.Ns X.env.locals m) (jB:h'.Ns X.env.locals m)
  (k:∀b o,b≠X.env.locals->s.heap.get? b=some o->h'.get? b=some o) (hD:∀b o,s.heap.get? b=some o->b≠D) (new:h'.get? D=some (listOf out.toArray c)) (r:Vals ys out) (hz:ys.length<=sizeLine) :
  H D=none/\Inv X pins σ (upd H D (.lst ys)) { s with heap:=h',toks:=t' }:=by
 have there:∀b u,H b=some u -> ∃o,s.heap.get? b=some o:=fun b u e=>ZI (I.aA b u e)
 have hn:H D=none:=by
  cases q:H D with
  | none=>rfl
  | some u =>
   obtain⟨o,e⟩:=there D u q
   exact absurd rfl (hD D o e)
 have xM:∀b u,H b=some u->b≠D:=fun b u e z=>by rw[z,hn]at e;cases e
 have xg:∀b u,H b=some u->b≠X.env.locals:=fun b u e z=>by rw[z,I.free]at e;cases e
 refine⟨hn,I.step (g':=s.gens) (d':=s.drawn) (ch:= []) (fun _ z=>nomatch z) (fun b o hL _ _ e _=>k b o hL e) (fun b o hL _ _ e _=>⟨o.slots,k b o hL e⟩) (fun b o _ e n=>by rw[aj (hD b o e)];exact n) (fun b o _ e=>?_)
  (fun b xs e=>by rw[aj (xM b _ e)];exact e) (fun b o u e=>by rw[aj (xM b _ e)];exact e) (fun b ps e=>⟨#[],by rw[aj (xM b _ e),e];simp⟩) (fun m' q=>?_) (fun b u e=>?_) I.bare⟩
 ·by_cases hb:b=X.env.locals
  ·obtain⟨o',es,ep,ho,_⟩:=jB
   exact⟨o',by rw[hb];exact ho⟩
  ·exact⟨o,k b o hb e⟩
 ·obtain⟨o,es,ep,ho,hd,hs,hf⟩:=hm
  obtain⟨o2,Ht,ep2,lW,hd2,f',xN⟩:=q
  rw[ho]at lW;cases lW
  rw[hd]at hd2;cases hd2
  have:m'=m:=funext fun x=>(xN x).symm.trans (hf x)
  rw[this];exact jB
 ·by_cases hb:b=D
  ·subst hb
   rw[af]at e;cases e
   exact⟨hz,out,c,r,new⟩
  ·rw[aj hb]at e
   refine(I.aA b u e).gF (fun a v hc q=>k a v ?_ q) (fun a q=>by rw[aj (xM a _ q)];exact q) fun a xs q=>by rw[aj (xM a _ q)];exact q
   rcases hc with z | z
   ·rw[z];exact xg b u e
   ·exact xg a _ z
theorem W0 {P:Program}{w:World}{B:Around}{E:Value->Shared->Prop}{s:Shared}{a:Addr}{us:List Value}{n:Nat}{R:PySem.Fin->Shared->Prop} (at_:s.heap.get? a=some (seqObj "list" us.toArray n)) (bg:us.length < 2)
  (k:∀c g,(∀b o,b≠a->s.heap.get? b=some o->g.get? b=some o)->g.get? a=some (listOf us.toArray c)->R (.done (.ret .none)) { s with heap:=g }):wpAny (model P w) B (Builtin.«list.sort» ⟨[.ref a],[]⟩) R E s:=by
 obtain⟨ep,gone⟩:∃ep,(s.heap.update a (Obj.mapSeq fun _=>(#[]:Array Value))).get? a=some (seqObj "list" #[] ep):=⟨_,get?_update_seq at_ fun _=>#[]⟩
 have fits:us.toArray.size<=sizeLine:=by rw[ay,cJ];omega
 have small:us.toArray.size < 2:=by simpa using bg
 rw[list_sort_plain]
 refine ag (listItems_at at_ rfl (ag (listUpdate_at at_ rfl (ag (seqEpoch_at gone rfl (ag (wpAny_newTuple (ag (UX (fB ?_) (bY _))) (by simpa using fits))))) fits (bY _))))
 have two:∀b o,(s.heap.update a (Obj.mapSeq fun _=>(#[]:Array Value))).get? b=some o->(((s.heap.update a (Obj.mapSeq fun _=>(#[]:Array Value))).push (seqObj "tuple" us.toArray 0)).push (seqObj "list" #[] 0)).get? b=some o:=fun b o q=>bx _ (bx _ q)
 change wpAny (model P w) B _ R E { s with heap:=((s.heap.update a (Obj.mapSeq fun _=>(#[]:Array Value))).push (seqObj "tuple" us.toArray 0)).push (seqObj "list" #[] 0) }
 have zY:=two _ _ gone
 have others:∀b o,b≠a->s.heap.get? b=some o->(((s.heap.update a (Obj.mapSeq fun _=>(#[]:Array Value))).push (seqObj "tuple" us.toArray 0)).push (seqObj "list" #[] 0)).get? b=some o:=fun b o nb q=>two b o (((Kq s.heap a _).2 b nb).trans q)
 generalize (((s.heap.update a (Obj.mapSeq fun _=>(#[]:Array Value))).push (seqObj "tuple" us.toArray 0)).push (seqObj "list" #[] 0))=g at zY others ⊢
 dsimp only
 rw[aI small,aI small]
 refine ag (au (ag (au ?_)))
 have same:(arrOf (SortSt.mk' general' (us.toArray.zip us.toArray) #[] 7 none)).map (·.2)=us.toArray:=Kf.mp (by show((us.toArray.zip us.toArray).map (·.2)).toList=_;simp[List.map_snd_zip])
 dsimp only
 rw[same]
 refine ag (seqEpoch_at zY rfl (ag (listUpdate_at zY rfl ?_ (bY _) (jN fits))))
 obtain⟨c,back⟩:∃c,(g.update a (Obj.mapSeq fun _=>us.toArray)).get? a=some (seqObj "list" us.toArray c):=⟨_,get?_update_seq zY fun _=>us.toArray⟩
 simp only[bne_self_eq_false,yE,UA]
 exact au (k c _ (fun b o nb q=>((Kq g a _).2 b nb).trans (others b o nb q)) back)
theorem VC {P:Program}{w:World}{B:Around}{E:Value->Shared->Prop}{s:Shared}{l:Addr}{us:List Value}{R:Value->Shared->Prop} (at_:s.heap.IsList l us.toArray) (bg:us.length < 2)
  (k:∀D c g,(∀b o,s.heap.get? b=some o->g.get? b=some o)->(∀b o,s.heap.get? b=some o->b≠D)->g.get? D=some (listOf us.toArray c)->R (.ref D) { s with heap:=g }):wpAny (model P w) B (call (.builtin "sorted") [.ref l]) R E s:=by
 have fits:us.length<=sizeLine:=by rw[ay];omega
 refine amk kind_sorted plain_sorted entry_sorted (args_sorted1 _) (ag (m:=checkCount "sorted" 1 1 _) (au (ag (collect_list at_ (ag (UX ?_ fits)) (by simpa using fits)))))
 have size:((s.heap.push (seqObj "list" #[] 0)).update s.heap.objs.size (Obj.mapSeq fun x=>x++us.toArray)).objs.size=s.heap.objs.size+1:=(Heap.size_update ..).trans (size_push' ..)
 have gF:∀b o,s.heap.get? b=some o->b≠s.heap.objs.size+1/\((s.heap.push (seqObj "list" #[] 0)).update s.heap.objs.size (Obj.mapSeq fun x=>x++us.toArray)).get? b=some o:=fun b o q =>
  have lt:b < s.heap.objs.size:=bq q
  ⟨cu (sD lt),(Heap.get?_update_ne _ _ _ _ (cu lt)).trans ((Heap.get?_push_ne _ _ _ (cu lt)).trans q)⟩
 change wpAny (model P w) _ _ _ E { s with heap:=((s.heap.push (seqObj "list" #[] 0)).update s.heap.objs.size (Obj.mapSeq fun x=>x++us.toArray)).push (seqObj "list" us.toArray 0) }
 have here:(((s.heap.push (seqObj "list" #[] 0)).update s.heap.objs.size (Obj.mapSeq fun x=>x++us.toArray)).push (seqObj "list" us.toArray 0)).get? (s.heap.objs.size+1)=some (seqObj "list" us.toArray 0):=size ▸ eK _ rfl
 rw[size]
 generalize (s.heap.push (seqObj "list" #[] 0)).update s.heap.objs.size (Obj.mapSeq fun x=>x++us.toArray)=g at here gF ⊢
 refine ag (fB (sx slot_list_sort ⟨_,here,rfl⟩ entry_list_sort (W0 (s:={ s with heap:=g.push (seqObj "list" us.toArray 0) }) here bg fun c g2 kp new=>?_) (args_list_sort _)))
 exact⟨_,rfl,au ⟨_,rfl,k _ c g2 (fun b o q=>kp b o (gF b o q).1 (bx _ (gF b o q).2)) (fun b o q=>(gF b o q).1) new⟩⟩
theorem M8 {h:Heap}:∀ {vs:List Value},(∀v∈vs,∃a k t z,v = .ref a/\IsTup h a #[.str k t,.ref z]) -> ∃fs,fs.length=vs.length/\KatTups h vs fs /\ ∀f∈fs,∃k t,f=Value.str k t
 | [],_=>⟨[],rfl,.nil,by simp⟩
 | v::vs,g=>by
  obtain⟨fs,h1,h2,h3⟩:=M8 (vs:=vs) fun x hx=>g x (bX _ hx)
  obtain⟨a,k,t,z,rfl,o,ho,hc,n,hd⟩:=g v aZ
  refine⟨.str k t::fs,by rw[dc,dc,h1],.cons ho hc hd rfl h2,fun f hf=>?_⟩
  rcases a9.mp hf with rfl | hf
  ·exact⟨k,t,rfl⟩
  ·exact h3 f hf
theorem LN {γ:Type}{f:γ->V}{g:γ->Value} (h:∀x,RelV (f x) (g x)):∀l:List γ,Vals (l.map f) (l.map g)
 | []=>.nil
 | x::l=>.cons (h x) (LN h l)
end
end L2
namespace L2
open PySem PySem.W PySem.Spec PyProof.Rows
end L2
namespace L2
open PySem PySem.W PySem.Spec PyProof.Rows
def rY (a b:Str):Prop:=a.cps.toList<=b.cps.toList
theorem C1 {a b:Str} (h1:rY a b) (h2:rY b a):a=b:=by
 have e:a.cps.toList=b.cps.toList:=List.le_antisymm h1 h2
 cases a;cases b
 exact gg Str.mk (Kf.mp e)
theorem Le:∀ {r:List Str}{p:Str},risingS p r=true->(∀x∈r,rY p x)/\r.Pairwise rY
 | [],p,_=>⟨by simp,.nil⟩
 | x::r,p,h=>by
  obtain⟨h1,h2⟩:=eV.mp (show(!ltCps x.cps.toList p.cps.toList && risingS x r)=true from h)
  obtain⟨h3,h4⟩:=Le h2
  have hp:rY p x:=by
   rw[ltCps_eq]at h1
   have : ¬ (x.cps.toList < p.cps.toList):=by simpa using h1
   exact this
  refine⟨fun y hy=>?_,.cons h3 h4⟩
  rcases a9.mp hy with rfl | hy
  ·exact hp
  ·exact List.le_trans hp (h3 y hy)
theorem Lf {l:List Str} (h:sortedS l=true):l.Pairwise rY:=by
 cases l with
 | nil=>exact .nil
 | cons x r=>obtain⟨h1,h2⟩:=Le (show risingS x r=true from h);exact .cons h1 h2
theorem LO:∀ {us:List Value}{ss:List Str},StrsAre us ss->Vals (ss.map V.str) us
 | _,_,.nil=>.nil
 | _,_,.cons _ t r=>.cons ⟨t,rfl⟩ (LO r)
end L2
namespace HS
open PySem PySem.Spec PyProof.Rows
theorem YL (t:SetTable) (es:Array (Int×Value)) (z:Int) (x:Value):(layNew t es z x).2.1.led=t.led:=by
 unfold layNew
 split
 ·dsimp only
  unfold SetTable.orStandIn
  split <;> rfl
 ·rfl
theorem Wq {t u:SetTable}{zs:Array Int}{n:Nat}{ord:Array Nat} (e:t.relaid zs n=some (u,ord)):u.led=t.led/\u.plain=t.plain:=by
 unfold SetTable.relaid SetTable.laid at e
 cases c:SetTable.layClean (SetTable.sizeAbove n - 1) zs with
 | none=>rw[c]at e;cases e
 | some ow =>
  rw[c]at e
  have e2:=ie e
  have e3:=gg Prod.fst e2
  dsimp only at e3
  rw[<-e3]
  exact⟨rfl,rfl⟩
theorem VX (t:SetTable) (es:Array (Int×Value)) (n:Nat):(relayAll t es n).2.1.led=t.led/\(t.plain=false->(relayAll t es n).2.1.plain=false):=by
 unfold relayAll
 split
 ·rename_i u ord e
  obtain⟨h1,h2⟩:=Wq e
  dsimp only
  split
  ·exact⟨h1,fun z=>h2.trans z⟩
  ·exact⟨rfl,fun _=>rfl⟩
 ·exact⟨rfl,fun _=>rfl⟩
def fG (P:Program) (w:World) (h:Heap) (a:Addr) (xs:List Str):Prop:=
 ∃o es ep t,h.get? a=some o/\o.ExactSet/\o.data = .set es ep t/\ElemsOf (strKind P w) es.toList/\(∀k,k∈xs ↔ ∃e∈es.toList,(strKind P w).is k e.2=true) /\
  es.size < scanBound/\t.fits es.size=true/\es.size=xs.length/\t.led=(!w.params.followText "set-order")/\(es.size≠0->t.plain=false)
theorem fG.keep {P:Program}{w:World}{h h':Heap}{a:Addr}{xs:List Str} (x:fG P w h a xs) (k:∀o,h.get? a=some o->h'.get? a=some o):fG P w h' a xs:=let ⟨o,es,ep,t,e,r⟩:=x;⟨o,es,ep,t,k o e,r⟩
theorem fG.lt {P:Program}{w:World}{h:Heap}{a:Addr}{xs:List Str} (x:fG P w h a xs):a < h.objs.size:=let ⟨_,_,_,_,e,_⟩:=x;bq e
theorem fG.typeIs {P:Program}{w:World}{s:Shared}{a:Addr}{xs:List Str} (x:fG P w s.heap a xs):s.TypeIs (.ref a) "set" :=let ⟨o,_,_,_,e,c,_⟩:=x;⟨o,e,c.1⟩
theorem XM {P:Program}{w:World}{h:Heap}{a:Addr} (e:h.get? a=some { cls:= .type "set", dict:=none,data:= .set #[] 0 (.fresh 0 0 (!w.params.followText "set-order")) }):fG P w h a []:=
 ⟨_,#[],0,_,e,⟨rfl,rfl,rfl⟩,rfl,fun z hz=>(by simp at hz),fun k=>(by simp),by decide,by rfl,rfl,rfl,fun z=>absurd rfl z⟩
def iT (xs:List Str) (k:Str):List Str:=if k∈xs then xs else xs ++ [k]
section
variable {P : Program} {w : World} {A : Around} {E : Value -> Shared -> Prop} {s : Shared} {a : Addr} {xs : List Str}
theorem Mn {h:Heap}{o:Obj}{es gR:Array (Int×Value)}{ep:Nat}{t t':SetTable}{ys:List Str} (ho:h.get? a=some o) (hx:o.ExactSet) (hd:o.data = .set es ep t) (l4:ElemsOf (strKind P w) gR.toList)
  (hm:∀k,k∈ys ↔ ∃e∈gR.toList,(strKind P w).is k e.2=true) (hb:gR.size < scanBound) (hf:t'.fits gR.size=true) (hn:gR.size=ys.length) (hl:t'.led=(!w.params.followText "set-order")) (hp:t'.plain=false) :
  (h.update a (Obj.putSet gR t')).get? a=some { o with data:= .set gR (ep+1) t' }/\fG P w (h.update a (Obj.putSet gR t')) a ys:=by
 have hg:(h.update a (Obj.putSet gR t')).get? a=some { o with data:= .set gR (ep+1) t' }:=by
  have z:=oG (Obj.putSet gR t') ho (by rw[putSet_of gR t' hd];rfl)
  rw[putSet_of gR t' hd]at z;exact z
 exact⟨hg,_,gR,ep+1,t',hg,hx,rfl,l4,hm,hb,hf,hn,hl,fun _=>hp⟩
theorem XN {k:Str}{tk:Tok}{Q:Bool->Shared->Prop} (hS:fG P w s.heap a xs) (room:xs.length+1 < scanBound) (h:∀h',Heap.SameBut a s.heap h'->fG P w h' a (iT xs k) -> ∀b,Q b { s with heap:=h' }) :
  wpAny (model P w) A (setAddHashed a (.str k tk) (hashStr w k)) Q E s:=by
 obtain⟨o,es,ep,t,ho,hex,hd,l4,gv,hb,hf,hn,wN,dG⟩:=hS
 have lQ:(strKind P w).is k (.str k tk)=true:=by show Value.isStrOf k (.str k tk)=true;simp[Value.isStrOf]
 have Hu:(Value.str k tk).scannable=true:=rfl
 have amN:es.size+1 < scanBound:=by omega
 unfold setAddHashed setAddHashedIn
 refine fB (ag (kC ho hd hf ?_));dsimp only
 rw[byScan_of (knd:=strKind P w) Hu hb l4,aI rfl]
 refine ag ?_;unfold setAddByScan
 refine ag (sC (ag (wpAny_setScan_of (knd:=strKind P w) (k:=k) lQ ho hd hf l4 ?_)))
 cases hr:List.findIdx? (fun e=>(strKind P w).is k e.2) es.toList with
 | some j =>
  obtain⟨hj,Bi,_⟩:=List.findIdx?_eq_some_iff_getElem.mp hr
  have hk:k∈xs:=(gv k).mpr ⟨es.toList[j],jl hj,Bi⟩
  refine au (au ?_)
  have e0:s={ s with heap:=s.heap }:=by cases s;rfl
  rw[e0]
  refine h s.heap (Heap.SameBut.refl a s.heap) ?_ _
  unfold iT;rw[aI hk]
  exact⟨o,es,ep,t,ho,hex,hd,l4,gv,hb,hf,hn,wN,dG⟩
 | none =>
  dsimp only
  have hk:k ∉ xs:=fun z=>by
   obtain⟨e,he,hp⟩:=(gv k).mp z
   have:=List.findIdx?_eq_none_iff.mp hr e he
   rw[hp]at this;cases this
  have gw:∀ (b:Bool) {bh:Shared}{Q':Unit->Shared->Prop},Q' () bh->wpAny (model P w) A (match b with | true=>rule "set.scan.the-table-gave-way" | false=>pure ()) Q' E bh:=fun b bh Q' hq=>by
   cases b
   ·exact au hq
   ·exact sC hq
  have iO:=layNew_perm t es ((strKind P w).hash k) (.str k tk)
  have zZ:=layNew_fits t es ((strKind P w).hash k) (.str k tk)
  have wJ:=YL t es ((strKind P w).hash k) (.str k tk)
  generalize hL:layNew t es (hashStr w k) (.str k tk)=L
  rw[show(strKind P w).hash k=hashStr w k from rfl,hL]at iO zZ wJ
  obtain⟨fQ,t1,wd,amT⟩:=L
  dsimp only at iO zZ wJ ⊢
  rw[Array.toList_push]at iO
  have O1:ElemsOf (strKind P w) fQ.toList:=(l4.push (k:=k) lQ Hu).perm iO
  have amU:fQ.size=es.size+1:=by rw[<-gD,iO.length_eq,aW,gD];rfl
  have Oe:∀k',k'∈iT xs k ↔ ∃e∈fQ.toList,(strKind P w).is k' e.2=true:=fun k'=>by
   unfold iT;rw[aE hk,cz,eL,gv k']
   constructor
   ·rintro(⟨e,he,hp⟩|rfl)
    ·exact⟨e,iO.mem_iff.mpr (oB _ he),hp⟩
    ·exact⟨_,iO.mem_iff.mpr (gW _ (eL.mpr rfl)),lQ⟩
   ·rintro⟨e,he,hp⟩
    rcases cz.mp (iO.mem_iff.mp he) with he | he
    ·exact .inl ⟨e,he,hp⟩
    ·rw[eL]at he;subst he
     exact .inr ((strKind P w).inj _ k' k hp lQ)
  have xO:fQ.size=(iT xs k).length:=by unfold iT;rw[aE hk,aW,oH];omega
  have fb:fQ.size < scanBound:=by omega
  refine ag (gw _ ?_)
  have tail:∀t2:SetTable,t2.fits fQ.size=true->t2.led=t.led->t2.plain=false->wpAny (model P w) A (do
    storeSet a fQ t2
    if (!wd && t2.tooFull)=true then do
      let r:=relayAll t2 fQ (SetTable.grown fQ.size)
      (match r.2.2 with | true=>rule "set.scan.the-table-gave-way" | false=>pure ())
      storeSet a r.1 r.2.1
      pure (some true)
     else pure (some true)) (fun r s'=>wpAny (model P w) A (match r with | some added=>pure added | none=>setAddHashedIn a (.str k tk) (hashStr w k) 99999) Q E s') E s:=by
   intro t2 xN fh pZ
   obtain⟨A8,hS1⟩:=Mn (P:=P) (w:=w) ho hex hd O1 Oe fb xN xO (fh.trans wN) pZ
   have QU:=Kq s.heap a (Obj.putSet fQ t2)
   refine ag (wpAny_storeSet_of ho hd ?_ (Kr fb))
   split
   ·have q1:=relayAll_perm t2 fQ (SetTable.grown fQ.size)
    have q2:=relayAll_fits t2 fQ (SetTable.grown fQ.size)
    have q3:=VX t2 fQ (SetTable.grown fQ.size)
    dsimp only
    generalize relayAll t2 fQ (SetTable.grown fQ.size)=R at q1 q2 q3 ⊢
    obtain⟨Ht,t3,g2⟩:=R
    dsimp only at q1 q2 q3 ⊢
    have sz2:Ht.size=fQ.size:=by rw[<-gD,q1.length_eq,gD]
    have hm2:∀k',k'∈iT xs k ↔ ∃e∈Ht.toList,(strKind P w).is k' e.2=true:=fun k'=>(Oe k').trans ⟨fun⟨e,he,q⟩=>⟨e,q1.mem_iff.mpr he,q⟩,fun⟨e,he,q⟩=>⟨e,q1.mem_iff.mp he,q⟩⟩
    obtain⟨_,hS2⟩:=Mn (P:=P) (w:=w) A8 hex rfl (O1.perm q1) hm2 (by omega) q2 (by omega) (q3.1.trans (fh.trans wN)) (q3.2 pZ)
    refine ag (gw _ (ag (wpAny_storeSet_of A8 rfl ?_ (Kr (by omega)))))
    exact au (au (h _ (QU.trans (Kq _ a _)) hS2 _))
   ·exact au (au (h _ QU hS1 _))
  by_cases Hv:t1.plain=true
  ·rw[aI Hv]
   refine ag ?_
   rw[hashByValue_scannable 8 Hu]
   refine au ?_
   show wpAny (model P w) A (do
    storeSet a fQ { t1 with plain:=false }
    _) _ E s
   exact tail { t1 with plain:=false } (SetTable.fits_plain_off zZ) wJ rfl
  ·rw[aE Hv]
   refine ag (au ?_)
   show wpAny (model P w) A (do
    storeSet a fQ t1
    _) _ E s
   exact tail t1 zZ wJ (by simpa using Hv)
end
end HS
namespace HS
open PySem PySem.Spec PyProof.Rows
def jv (val:Nat->Str) (i:Nat):List Str:=((List.range i).map val).foldl iT []
theorem zh (val:Nat->Str) (i:Nat):jv val (i+1)=iT (jv val i) (val i):=by
 unfold jv;rw[List.range_succ,aY,List.foldl_append];rfl
theorem XO (xs:List Str) (k:Str):(iT xs k).length<=xs.length+1:=by
 unfold iT
 split
 ·omega
 ·rw[aW,oH];omega
theorem YM {xs:List Str} (h:xs.Nodup) (k:Str):(iT xs k).Nodup:=by
 unfold iT
 split
 ·exact h
 ·rename_i hn
  rw[qE]
  exact⟨h,by simp,fun a ha b hb e=>hn (by rw[<-(eL.mp hb),<-e];exact ha)⟩
theorem XQ {xs:List Str}{k y:Str}:y∈iT xs k ↔ y∈xs\/y=k:=by
 unfold iT
 split
 ·rename_i h
  exact⟨.inl,fun z=>z.elim id fun e=>e ▸ h⟩
 ·rw[cz,eL]
theorem Mo (val:Nat->Str):∀i,(jv val i).length<=i
 | 0=>aO _
 | i+1=>by rw[zh];have:=XO (jv val i) (val i);have:=Mo val i;omega
theorem M9 (val:Nat->Str):∀i,(jv val i).Nodup
 | 0=>oJ
 | i+1=>by rw[zh];exact YM (M9 val i) _
theorem Mp (val:Nat->Str) (y:Str):∀i,y∈jv val i ↔ ∃j,j < i/\val j=y
 | 0=>⟨fun h=>(by cases h),fun⟨_,h,_⟩=>absurd h (yM _)⟩
 | i+1=>by
  rw[zh,XQ,Mp val y i]
  constructor
  ·rintro(⟨j,h,e⟩|e)
   ·exact⟨j,by omega,e⟩
   ·exact⟨i,by omega,e.symm⟩
  ·rintro⟨j,h,e⟩
   by_cases c:j=i
   ·exact .inr (by rw[<-e,c])
   ·exact .inl ⟨j,by omega,e⟩
section
variable {P : Program} {w : World} {A : Around} {R : Result -> Shared -> Prop} {I : Addr} {fp wr : List Addr} {G : Array GenState -> Array GenState -> Prop} {n : Nat} {Pv : Nat -> Value -> Prop} {St : Nat -> Shared -> Prop}
theorem XR (W:WalksS P w A.in1 I fp wr G n Pv St) (S:Addr) (hS:S ∉ fp) (val:Nat->Str) (hv:∀i v,Pv i v -> ∃t,v = .str (val i) t) (hb:n+1 < scanBound) :
  ∀ (k i:Nat) (s:Shared),n - i=k->i<=n->St i s->fG P w s.heap S (jv val i)->(∀s',Moved (S::wr) G s s'->fG P w s'.heap S (jv val n)->R (.ok (.ret .none)) s') ->
   codeAny (model P w) A (.builtin "set.update.loop" ⟨[.ref S,.ref I],[]⟩) R s:=by
 have hw:S ∉ wr:=fun z=>hS (W.sub _ z)
 have up:∀b∈wr,b∈S::wr:=fun b z=>bX _ z
 intro k
 induction k with
 | zero =>
  intro i s hk hi st x q
  obtain rfl:i=n:=by omega
  refine mw F.entry_set_update_loop ?_
  rw[qA UY _]
  show wpAny _ A.in1 (pyNext (.ref I) >>= _) _ _ s
  refine ag (W.done s _ _ st fun s' m=>?_);show wpAny _ A.in1 (ret Value.none) _ _ s'
  exact au (q s' (m.mono up) (x.keep fun o e=>m.heap S o hw e))
 | succ k ih =>
  intro i s hk hi st x q
  have lt:i < n:=by omega
  refine mw F.entry_set_update_loop ?_
  rw[qA UY _]
  show wpAny _ A.in1 (pyNext (.ref I) >>= _) _ _ s
  refine ag (W.item i s _ _ lt st fun v s' hP iW m=>?_)
  obtain⟨t,rfl⟩:=hv i v hP
  have x':fG P w s'.heap S (jv val i):=x.keep fun o e=>m.heap S o hw e
  show wpAny _ A.in1 (holding [Value.str (val i) t] (setAdd S (.str (val i) t)) >>= _) _ _ s'
  refine ag (fB ?_);unfold setAdd
  have lQ:(strKind P w).is (val i) (.str (val i) t)=true:=by show Value.isStrOf (val i) (.str (val i) t)=true;simp[Value.isStrOf]
  refine fB (ag ((strKind P w).pyHash (k:=val i) lQ ?_))
  have room:(jv val i).length+1 < scanBound:=by have:=Mo val i;omega
  refine XN (s:={ s' with toks:=s'.toks+1 }) x' room fun h' sb x2 b=>?_
  rw[<-zh]at x2
  refine au ⟨qB UY _,ih (i+1) _ (by omega) lt (W.frame _ s' _ _ iW (qz _) fun c hc o e=>?_) x2 fun lu m'' x''=>?_⟩
  ·rw[sb.2 c (fun z:c=S=>hS (by rw[<-z];exact hc))];exact e
  ·refine q lu (Moved.trans W.gtrans ((m.mono up).then_heap (qz _) fun c o hc e=>?_) m'') x''
   rw[sb.2 c (fun z:c=S=>hc (by rw[z];exact aZ))];exact e
end
section
variable {P : Program} {w : World} {A : Around} {E : Value -> Shared -> Prop} {s : Shared}
abbrev nK (w:World):Obj:={ cls:= .type "set", dict:=none,data:= .set #[] 0 (.fresh 0 0 (!w.params.followText "set-order")) }
theorem VY (a:Value) {Q₁:Value->Shared->Prop} (h:Q₁ (.ref s.heap.objs.size) { s with heap:=s.heap.push (nK w) }) :
  codeAny (model P w) A (.call (.builtin "set.__new__") ⟨[.type "set", a],[]⟩) (wants Q₁ E) s:=by
 refine UE ?_;show wpAny _ A.in1 (do checkBuiltinCall "set.__new__" ⟨[.type "set", a],[]⟩;again (.builtin "set.__new__" ⟨[.type "set", a],[]⟩)) _ _ s
 refine ag (wpAny_of_eq (F.newCall_set_1 a) (au ⟨qB F.plain_set_new _,mw F.entry_set_new ?_⟩));rw[qA F.plain_set_new _]
 unfold Builtin.«set.__new__» Builtin.Frozenset.newClass;have ss:=sub_set_self
 obtain⟨hp,g,d,tk,os⟩:=s;dsimp only
 wp_walk
 refine oK (au ?_);dsimp only;simp only[newObj]
 refine ag (wpAny_alloc (au ?_));exact au h
structure Src (P:Program) (w:World) (T:String) (l:Addr) (ol:Obj) (n:Nat) (Pv:Nat->Value->Prop):Prop where
 cls:ol.cls = .type T
 ns:isSubtype (.type T) (.type "set")=pure false
 nf:isSubtype (.type T) (.type "frozenset")=pure false
 nd:(Value.type T==Value.type "dict")=false
 iter:∀ (A:Around) (s:Shared),A.handled=none->s.heap.get? l=some ol -> ∃ (oI:Obj) (St:Nat->Heap->Prop),
  (∀ (E:Value->Shared->Prop) (Q:Value->Shared->Prop),Q (.ref s.heap.objs.size) { s with heap:=s.heap.push oI }->wpAny (model P w) A (pyIter (.ref l)) Q E s) /\
  Walks P w A s.heap.objs.size [s.heap.objs.size,l] [s.heap.objs.size] n Pv St/\St 0 (s.heap.push oI)
theorem W2 {T:String}{l:Addr}{ol:Obj}{n:Nat}{Pv:Nat->Value->Prop}{val:Nat->Str}{Q:Value->Shared->Prop} (hh:A.handled=none) (C:Src P w T l ol n Pv) (hl:s.heap.get? l=some ol) (hv:∀i v,Pv i v -> ∃t,v = .str (val i) t) (hb:n+1 < scanBound)
  (h:∀ (h':Heap) (tk:Nat),fG P w h' s.heap.objs.size (jv val n)->(∀b o,b < s.heap.objs.size->s.heap.get? b=some o->h'.get? b=some o)->Q (.ref s.heap.objs.size) { s with heap:=h',toks:=tk }) :
  wpAny (model P w) A (call (.type "set") [.ref l]) Q E s:=by
 obtain⟨c0,tl0,amV⟩:=sE.mro
 have amO:=sE.made;have amW:=sE.sub
 refine qw (UE ?_);show wpAny _ _ (callAny (.type "set") _) _ _ _
 refine au ⟨UD _ (by decide +kernel),mw F.entry_type_call ?_⟩;rw[Around.under_plain (weight_type_call_type "set" [.ref l] []) rfl]
 have f1:=sE.notType;have f2:=sE.canCreate
 have f3:=F.typeCall_set_1 (.ref l)
 repeat (any_goals (first | assumption | wp_step))
 refine su (VY (.ref l) (E:=E) (Q₁:=fun obj bh=>obj = .ref s.heap.objs.size/\bh={ s with heap:=s.heap.push (nK w) }) ⟨rfl,rfl⟩) fun r bh hr=>?_
 cases r with
 | error e=>exact hr
 | ok fl =>
  cases fl with
  | ret obj =>
   obtain⟨rfl,rfl⟩:=hr
   have gS:(s.heap.push (nK w)).get? s.heap.objs.size=some (nK w):=eK _ rfl
   have tS:Shared.TypeIs { s with heap:=s.heap.push (nK w) } (.ref s.heap.objs.size) "set" :=⟨_,gS,rfl⟩
   have i1:=sE.init.lookup;have i2:=sE.init.bind (.ref s.heap.objs.size)
   repeat (any_goals (first | assumption | wp_step))
   refine su (Ka (R:=wants (fun r lg=>r = .none /\ ∃h' tk,lg={ s with heap:=h',toks:=tk }/\fG P w h' s.heap.objs.size (jv val n)/\(∀b o,b < s.heap.objs.size->s.heap.get? b=some o->h'.get? b=some o)) E) sE.init.plain F.entry_set_init (check_set_init_1 tS ?_)) fun ab8 lg DP=>?_
   ·have jg:(s.heap.push (nK w)).get? l=some ol:=bx _ hl
    obtain⟨ab9,amP,amQ,amL⟩:=ol
    have aca:ab9 = .type T:=C.cls
    subst aca
    have ns:=C.ns;have nf:=C.nf;have nd:=C.nd
    unfold Builtin.«set.__init__» noKeywords Builtin.Frozenset.updateFrom
    generalize hPI:pyIter=PI
    wp_walk
    subst hPI
    obtain⟨oI,St,it,W,st⟩:=C.iter A.in1.in1.in1 { s with heap:=s.heap.push (nK w) } (by simp[hh]) jg
    refine wpAny_of_in1 (it _ _ ?_)
    refine ag (UR ?_)
    have lS:l < s.heap.objs.size:=bq hl
    have nS:s.heap.objs.size ∉ [(s.heap.push (nK w)).objs.size,l]:=by
     rw[sA];simp only[a9,eL,kE,kG,not_or];exact⟨cu (yN _),JU lS⟩
    refine XR W.toS s.heap.objs.size nS val hv hb (n - 0) 0 _ (by omega) (bY _) st (XM (bx _ gS)) ?_
    intro s' m x'
    obtain⟨h',g',d',nZ,xo⟩:=s'
    have e1:g'=s.gens:=m.gens
    have e2:d'=s.drawn:=m.drawn
    have e3:xo=s.os:=m.os
    subst e1;subst e2;subst e3
    show wpAny _ _ _ _ _ _
    refine au ?_;show wpAny _ _ (ret Value.none) _ _ _
    refine au ⟨rfl,h',nZ,rfl,x',fun b o hb e=>?_⟩
    have b1:b≠s.heap.objs.size:=cu hb
    have b2:b≠(s.heap.push (nK w)).objs.size:=by rw[sA];exact cu (sD hb)
    exact m.heap b o (by simp only[a9,eL,kE,kG,not_or];exact⟨b1,b2⟩) (bx _ (bx _ e))
   ·cases ab8 with
    | error e=>exact DP
    | ok aaD =>
     cases aaD with
     | ret r =>
      obtain⟨rfl,h',tk,rfl,x',k'⟩:=DP
      repeat (any_goals (first | assumption | wp_step))
      exact h _ _ x' k'
     | _=>exact DP.elim
  | _=>exact hr.elim
theorem src_list {l:Addr}{items:Array Value}{ol:Obj} (cl:ol.cls = .type "list") (dt:∃n,ol.data = .seq items n):Src P w "list" l ol items.size (fun i v=>items[i]? = some v) where
 cls:=cl
 ns:=F.sub_list_set
 nf:=F.sub_list_frozenset
 nd:=by decide
 iter:=fun A s hh hl=>by
  have il:s.heap.IsList l items:=⟨ol,hl,cl,dt⟩
  have lt:=bq hl
  exact⟨_,_,fun E Q q=>B4 il q,Walks.list hh _ l (cu lt) items,⟨_,eK _ rfl,rfl,rfl⟩,il.push _⟩
theorem YN {l:Addr}{items:Array Value}{ol:Obj} (cl:ol.cls = .type "tuple") (dt:∃n,ol.data = .seq items n):Src P w "tuple" l ol items.size (fun i v=>items[i]? = some v) where
 cls:=cl
 ns:=F.sub_tuple_set
 nf:=F.sub_tuple_frozenset
 nd:=by decide
 iter:=fun A s hh hl=>by
  have il:s.heap.IsTuple l items:=⟨ol,hl,cl,dt⟩
  have lt:=bq hl
  exact⟨_,_,fun E Q q=>wpAny_pyIter_tuple il q,Walks.tuple hh _ l (cu lt) items,⟨_,eK _ rfl,rfl,rfl⟩,il.push _⟩
end
end HS
namespace HS
open PySem PySem.Spec PyProof.Rows
theorem sP:Slot "set_iterator" "__next__" "set_iterator.__next__" :=
 Slot.of (owner:= "set_iterator") (n:= "__next__") (by rw[US,UT];kernel_rfl) (by decide +kernel) (by decide +kernel) (by decide +kernel) (by first | exact .inl (by decide +kernel)|exact .inr (by decide +kernel)) (by rw[UZ];kernel_rfl)
theorem Vu:entryFor table "set_iterator.__next__" = some Builtin.«set_iterator.__next__» :=entryFor_of_tree (by kernel_rfl)
theorem Mq:Manifest.owners.lookup (String.ofList "rotareti_tes".toList.reverse)=some Manifest.sig_set_iterator:=by kernel_rfl
theorem VD (a:Value):argsOk "set_iterator.__next__" ⟨[a],[]⟩:=by
 unfold argsOk;rw[signature?_of (id:= "set_iterator.__next__") (n:= ['_','_','t','x','e','n','_','_']) (o:= "rotareti_tes".toList) (by kernel_rfl) Mq];kernel_rfl
theorem y6:Slot "set_iterator" "__iter__" "set_iterator.__iter__" :=
 Slot.of (owner:= "set_iterator") (n:= "__iter__") (by rw[US,UT];kernel_rfl) (by decide +kernel) (by decide +kernel) (by decide +kernel) (by first | exact .inl (by decide +kernel)|exact .inr (by decide +kernel)) (by rw[UZ];kernel_rfl)
theorem KJ:entryFor table "set_iterator.__iter__" = some Builtin.«dict_keyiterator.__iter__» :=entryFor_alias (id':= "dict_keyiterator.__iter__") (by kernel_rfl) rfl (by decide +kernel) (by kernel_rfl)
theorem KQ (a:Value):argsOk "set_iterator.__iter__" ⟨[a],[]⟩:=by
 unfold argsOk;rw[signature?_of (id:= "set_iterator.__iter__") (n:= ['_','_','r','e','t','i','_','_']) (o:= "rotareti_tes".toList) (by kernel_rfl) Mq];kernel_rfl
theorem VE:entryFor table "set.__iter__" = some Builtin.«frozenset.__iter__» :=entryFor_alias (id':= "frozenset.__iter__") (by kernel_rfl) rfl (by decide +kernel) (by kernel_rfl)
abbrev lA (first:Value) (i:Nat) (a:Addr) (n ep:Nat):Obj:={ cls:= .type "set_iterator", dict:=none,data:= .fields #[first,.int i 0,.ref a,.int n 0,.int ep 0],slots:= #[] }
section
variable {P : Program} {w : World} {A : Around} {E : Value -> Shared -> Prop} {s : Shared} {I a : Addr} {o : Obj} {es : Array (Int × Value)} {ep : Nat} {t : SetTable}
theorem zw {first:Value}{i n:Nat}{Q:Option Value->Shared->Prop} (hit:s.heap.get? I=some (lA first i a n ep)) (ho:s.heap.get? a=some o) (hd:o.data = .set es ep t) (hf:t.fits es.size=true) (hn:es.size=n)
  (body:wpAny (model P w) A.in1 (do
   if let .int slot _:=first then
    match <- setNext a slot.toNat ((i:Int)).toNat ((ep:Int)).toNat with
    | some (x,next) =>
     setField (.ref I) 0 (rawInt next)
     setField (.ref I) 1 (rawInt ((i:Int)+1))
     ret x
    | none=>setField (.ref I) 2 .none;raiseNew (<- newExc (.type "StopIteration") [])
   else
    let some places <- seqItems? first | unsupported "internal:set_iterator"
    match places[((i:Int)).toNat]? with
    | some (.int place _) =>
     let x <- setNextDrawn a place.toNat ((ep:Int)).toNat
     setField (.ref I) 1 (rawInt ((i:Int)+1))
     ret x
    | some _=>unsupported "internal:set_iterator"
    | none=>setField (.ref I) 0 (rawInt 0);setField (.ref I) 2 .none;raiseNew (<- newExc (.type "StopIteration") []))
   (fun fin s'=>∃r,fin = .done (.ret r)/\Q (some r) s') (fun e s'=>wpAny (model P w) A (do if <- isInstance e (.type "StopIteration") then pure none else throw e) Q E s') s):wpAny (model P w) A (pyNext (.ref I)) Q E s:=by
 have hT:s.TypeIs (.ref I) "set_iterator" :=⟨_,hit,rfl⟩
 unfold pyNext
 refine ag (UG (Uv (name:=Str.ofString "__next__") hT sP (sx sP hT Vu ?_ (VD _))))
 unfold Builtin.«set_iterator.__next__»
 refine ag (au ?_)
 dsimp only
 refine ag (wpAny_fieldsOf hit rfl ?_)
 dsimp only
 refine ag ?_;unfold setEntries
 refine ag (kC ho hd hf (au ?_))
 dsimp only
 rw[aE (by rw[hn];simp)]
 refine lF body (fun fin s' h=>?_) fun e s' h=>?_
 ·obtain⟨r,rfl,q⟩:=h
  exact⟨r,rfl,au q⟩
 ·exact h
theorem Mr {Q:Option Value->Shared->Prop} (hh:A.handled=none) (q:∀h',(∀b ob,s.heap.get? b=some ob->h'.get? b=some ob)->Q none { s with heap:=h' }) :
  wpAny (model P w) A.in1 (newExc (.type "StopIteration") [] >>= fun e=>(raiseNew e:Sem PySem.Fin)) (fun fin s'=>∃r,fin = .done (.ret r)/\Q (some r) s') (fun e s'=>wpAny (model P w) A (do if <- isInstance e (.type "StopIteration") then pure none else throw e) Q E s') s:=by
 refine ag ?_;simp only[newExc,newTuple]
 refine ag (mq ?_ (by size_fits))
 refine ag (m:=firstArgMember _ _) (wpAny_of_eq (a:=Value.none) (by first | rfl | (simp only[firstArgMember];rfl)) (mq ?_ (by size_fits)))
 simp only[raiseNew]
 refine ag (wpAny_handled ?_);rw[show A.in1.handled=none from hh]
 refine ag (au (Cc ?_))
 refine ag (wpAny_isInstance (T:= "StopIteration") (b:=true) (show Shared.TypeIs _ _ _ from⟨_,eK _ rfl,rfl⟩) isSubtype_stop ?_)
 exact au (q _ fun b ob e=>bx _ (bx _ e))
theorem Vv {slot i n nx:Nat}{x:Value}{Q:Option Value->Shared->Prop} (hit:s.heap.get? I=some (lA (.int slot 0) i a n ep)) (ho:s.heap.get? a=some o) (hd:o.data = .set es ep t) (hf:t.fits es.size=true) (hn:es.size=n)
  (Hw:∀ (E':Value->Shared->Prop) (Q':Option (Value×Nat)->Shared->Prop),Q' (some (x,nx)) s->wpAny (model P w) A.in1 (setNext a slot i ep) Q' E' s)
  (q:∀h',h'.get? I=some (lA (.int nx 0) (i+1) a n ep)->Heap.SameBut I s.heap h'->Q (some x) { s with heap:=h' }):wpAny (model P w) A (pyNext (.ref I)) Q E s:=by
 refine zw hit ho hd hf hn ?_
 simp only[qx]
 refine ag (Hw _ _ ?_)
 refine ag (yO hit (by simp) fun h1 g1 s1=>?_)
 refine ag (yO g1 (by simp) fun h2 g2 s2=>?_)
 exact au ⟨x,rfl,q h2 (by rw[g2];simp[rawInt]) (s1.trans s2)⟩
theorem VF {slot i n:Nat}{Q:Option Value->Shared->Prop} (hh:A.handled=none) (hit:s.heap.get? I=some (lA (.int slot 0) i a n ep)) (ho:s.heap.get? a=some o) (hd:o.data = .set es ep t) (hf:t.fits es.size=true) (hn:es.size=n)
  (Hw:∀ (E':Value->Shared->Prop) (Q':Option (Value×Nat)->Shared->Prop),Q' none s->wpAny (model P w) A.in1 (setNext a slot i ep) Q' E' s)
  (q:∀h',(∀b ob,b≠I->s.heap.get? b=some ob->h'.get? b=some ob)->Q none { s with heap:=h' }):wpAny (model P w) A (pyNext (.ref I)) Q E s:=by
 refine zw hit ho hd hf hn ?_
 simp only[qx]
 refine ag (Hw _ _ ?_)
 refine ag (yO hit (by simp) fun h1 g1 s1=>?_)
 exact Mr hh fun h2 k2=>q h2 fun b ob nb e=>k2 b ob (by rw[s1.2 b nb];exact e)
theorem Vw {pt:Addr}{ps:List Nat}{i n pl:Nat}{z:Int}{x:Value}{Q:Option Value->Shared->Prop} (hit:s.heap.get? I=some (lA (.ref pt) i a n ep)) (ho:s.heap.get? a=some o) (hd:o.data = .set es ep t) (hf:t.fits es.size=true) (hn:es.size=n)
  (hp:∃op c,s.heap.get? pt=some op/\op.data = .seq (ps.map fun(j:Nat)=>rawInt j).toArray c) (hi:ps[i]? = some pl) (hx:es[pl]? = some (z,x))
  (q:∀h',h'.get? I=some (lA (.ref pt) (i+1) a n ep)->Heap.SameBut I s.heap h'->Q (some x) { s with heap:=h' }):wpAny (model P w) A (pyNext (.ref I)) Q E s:=by
 refine zw hit ho hd hf hn ?_
 obtain⟨op,c,Hx,uU⟩:=hp
 dsimp only
 simp only[qx]
 refine ag ?_;unfold seqItems?
 refine ag (JV Hx ?_)
 rw[uU]
 refine au ?_
 dsimp only
 have e1:(ps.map fun(j:Nat)=>rawInt j).toArray[i]? = some (rawInt pl):=by simp[hi]
 rw[e1]
 show wpAny _ _ (setNextDrawn a ((pl:Int)).toNat ep >>= _) _ _ s
 rw[qx];unfold setNextDrawn
 refine ag (ag (kC ho hd hf ?_))
 dsimp only
 rw[aE (by simp),hx]
 refine au ?_
 refine ag (yO hit (by simp) fun h2 g2 s2=>?_)
 exact au ⟨x,rfl,q h2 (by rw[g2];simp[rawInt]) s2⟩
theorem VG {pt:Addr}{ps:List Nat}{i n:Nat}{Q:Option Value->Shared->Prop} (hh:A.handled=none) (hit:s.heap.get? I=some (lA (.ref pt) i a n ep)) (ho:s.heap.get? a=some o) (hd:o.data = .set es ep t) (hf:t.fits es.size=true) (hn:es.size=n)
  (hp:∃op c,s.heap.get? pt=some op/\op.data = .seq (ps.map fun(j:Nat)=>rawInt j).toArray c) (hi:ps.length<=i)
  (q:∀h',(∀b ob,b≠I->s.heap.get? b=some ob->h'.get? b=some ob)->Q none { s with heap:=h' }):wpAny (model P w) A (pyNext (.ref I)) Q E s:=by
 refine zw hit ho hd hf hn ?_
 obtain⟨op,c,Hx,uU⟩:=hp
 dsimp only
 simp only[qx]
 refine ag ?_;unfold seqItems?
 refine ag (JV Hx ?_)
 rw[uU]
 refine au ?_
 dsimp only
 have e1:(ps.map fun(j:Nat)=>rawInt j).toArray[i]? = none:=by simp;omega
 rw[e1]
 refine ag (yO hit (by simp) fun h1 g1 s1=>?_)
 refine ag (yO g1 (by simp) fun h2 g2 s2=>?_)
 exact Mr hh fun h3 k3=>q h3 fun b ob nb e=>k3 b ob (by rw[s2.2 b nb,s1.2 b nb];exact e)
end
end HS
namespace HS
open PySem PySem.Spec PyProof.Rows
theorem LP {α:Type} (next:Nat->Nat):∀ (fuel k:Nat) (left:List α) (out:Array α),left.length=fuel->(pickOrder.go next fuel k left out).toList.Perm (out.toList++left)
 | 0,k,left,out,h=>by
  have:left = []:=sF h
  subst this
  unfold pickOrder.go;simp
 | fuel+1,k,left,out,h=>by
  have aM:next k % left.length < left.length:=Nat.mod_lt _ (by omega)
  unfold pickOrder.go
  rw[br aM]
  dsimp only
  refine(LP next fuel (k+1) _ _ (by rw[amn,aI aM];omega)).trans ?_
  rw[Array.toList_push,B6]
  refine amo _ ?_
  generalize next k % left.length=j at aM
  have key:∀ (l:List α) (j:Nat) (h:j < l.length),(l[j]::l.eraseIdx j).Perm l:=by
   intro l
   induction l with
   | nil=>intro j h;exact absurd h (yM _)
   | cons x l ih =>
    intro j h
    cases j with
    | zero=>exact qF _
    | succ j=>exact(List.Perm.swap _ _ _).trans ((ih j (Ks h)).cons x)
  exact key left j aM
section
variable {P : Program} {w : World} {A : Around} {E : Value -> Shared -> Prop} {s : Shared} {a : Addr} {xs : List Str}
theorem M' {α:Type}:∀ (m:Nat) (l:List α) {s:Shared}{Q:List α->Shared->Prop},l.length=m->(∀ps d,ps.Perm l->Q ps { s with drawn:=d })->wpAny (model P w) A (drawOrder m l) Q E s
 | 0,l,s,Q,h,q=>by
  have:l = []:=sF h
  subst this
  unfold drawOrder
  exact au (q [] s.drawn (qF _))
 | m+1,[],s,Q,h,q=>by simp at h
 | m+1,x::l,s,Q,h,q=>by
  unfold drawOrder
  refine ag ?_
  have ch:∀ {Q':Nat->Shared->Prop}{s:Shared},(∀i d,i < (x::l).length->Q' i { s with drawn:=d })->wpAny (model P w) A (choose .order (x::l).length) Q' E s:=fun {Q' s} q'=>by
   intro Γ p hΓ
   exact⟨by simp,q' _ _ (Nat.mod_lt _ (by simp))⟩
  refine ch fun i d hi=>?_
  rw[br hi]
  dsimp only
  refine ag (M' m _ (by rw[amn,aI hi];omega) fun ps d' hp=>au ?_)
  refine q _ _ ((hp.cons _).trans ?_)
  have key:∀ (l:List α) (j:Nat) (h:j < l.length),(l[j]::l.eraseIdx j).Perm l:=by
   intro l
   induction l with
   | nil=>intro j h;exact absurd h (yM _)
   | cons x l ih =>
    intro j h
    cases j with
    | zero=>exact qF _
    | succ j=>exact(List.Perm.swap _ _ _).trans ((ih j (Ks h)).cons x)
  exact key _ i hi
theorem Wr {es:List (Int×Value)} (h:ElemsOf (strKind P w) es):∃ks:List Str,StrsAre (es.map (·.2)) ks /\ ∀k,k∈ks ↔ ∃e∈es,(strKind P w).is k e.2=true:=by
 induction es with
 | nil=>exact⟨[],.nil,fun k=>(by simp)⟩
 | cons e es ih =>
  obtain⟨ks,h1,h2⟩:=ih h.tail
  obtain⟨⟨k,hk,_⟩,_⟩:=h.head
  obtain⟨t,et⟩:=Uh hk
  refine⟨k::ks,?_,fun y=>?_⟩
  ·rw[d5,et];exact .cons k t h1
  ·rw[a9,h2 y]
   constructor
   ·rintro(rfl | ⟨e',he,q⟩)
    ·exact⟨e,aZ,hk⟩
    ·exact⟨e',bX _ he,q⟩
   ·rintro⟨e',he,q⟩
    rcases a9.mp he with rfl | he
    ·exact .inl ((strKind P w).inj _ _ _ q hk)
    ·exact .inr ⟨e',he,q⟩
theorem LQ {vs us:List Value}{ks:List Str} (h:StrsAre us ks) (p:vs.Perm us):∃ys,StrsAre vs ys/\ys.Perm ks:=by
 induction p generalizing ks with
 | nil=>exact⟨ks,h,qF _⟩
 | cons x _ ih =>
  cases h with
  | cons y t r=>obtain⟨ys,h1,h2⟩:=ih r;exact⟨y::ys,.cons y t h1,h2.cons y⟩
 | swap x y l =>
  cases h with
  | cons k1 t1 r1 =>
   cases r1 with
   | cons k2 t2 r2=>exact⟨k2::k1::_,.cons k2 t2 (.cons k1 t1 r2),List.Perm.swap _ _ _⟩
 | trans _ _ Hr Hs =>
  obtain⟨ys,h1,h2⟩:=Hs h
  obtain⟨zs,h3,h4⟩:=Hr h1
  exact⟨zs,h3,h4.trans h2⟩
theorem zx {vs:List Value}{ys:List Str} (h:StrsAre vs ys):vs.length=ys.length:=by
 induction h with
 | nil=>rfl
 | cons _ _ _ ih=>rw[dc,dc,ih]
theorem VH {a b:List Str} (nd:a.Nodup) (hl:b.length=a.length) (h:∀x∈a,x∈b):b.Perm a:=by
 induction a generalizing b with
 | nil=>have:b = []:=sF hl;subst this;exact qF _
 | cons x a ih =>
  rw[fV]at nd
  have hx:=h x aZ
  have p1:=amq hx
  have fh:(b.erase x).length=a.length:=by rw[UJ hx,hl];rfl
  have h2:∀y∈a,y∈b.erase x:=fun y hy=>(Ki (show y≠x from fun e=>nd.1 (by rw[<-e];exact hy))).mpr (h y (bX _ hy))
  exact p1.trans ((ih nd.2 fh h2).cons x)
structure Eb (P:Program) (w:World) (a:Addr) (vs:List Value) (I:Addr) (fp:List Addr) (h:Heap):Prop where
 go:∃St:Nat->Heap->Prop,(∀A:Around,A.handled=none->Walks P w A I fp [I] vs.length (fun i v=>vs[i]? = some v) St)/\St 0 h
theorem Ms {o:Obj}{es:Array (Int×Value)}{ep:Nat}{t:SetTable}{I:Addr} (slot:Nat->Nat) {vs:List Value} (du:a≠I) (hd:o.data = .set es ep t) (hf:t.fits es.size=true) (hn:es.size=vs.length) (h0:slot 0=0) {h:Heap} (ho:h.get? a=some o) (hi:h.get? I=some (lA (.int 0 0) 0 a vs.length ep))
  (item:∀ (A:Around) (s:Shared) (i:Nat) (v:Value) (E':Value->Shared->Prop) (Q':Option (Value×Nat)->Shared->Prop),s.heap.get? a=some o->vs[i]? = some v->Q' (some (v,slot (i+1))) s->wpAny (model P w) A (setNext a (slot i) i ep) Q' E' s)
  (done:∀ (A:Around) (s:Shared) (E':Value->Shared->Prop) (Q':Option (Value×Nat)->Shared->Prop),s.heap.get? a=some o->Q' none s->wpAny (model P w) A (setNext a (slot vs.length) vs.length ep) Q' E' s):Eb P w a vs I [I,a] h:=by
 refine⟨fun i h=>h.get? a=some o/\h.get? I=some (lA (.int (slot i) 0) i a vs.length ep),fun A hh=>⟨fun b hb=>(by simp at hb;simp[hb]),fun i h h' st k=>⟨k a (by simp) _ st.1,k I (by simp) _ st.2⟩,fun i s Q E hi st q=>?_,fun s Q E st q=>?_,fun i s Q E st q=>?_⟩,ho,by rw[h0];exact hi⟩
 ·have hv:vs[i]? = some vs[i]:=br hi
  refine Vv st.2 st.1 hd hf hn (fun E' Q' q'=>item _ _ i _ E' Q' st.1 hv q') fun h' g sb=>?_
  exact q _ h' s.toks hv ⟨by rw[sb.2 a du];exact st.1,g⟩ fun b ob hb e=>by rw[sb.2 b (fun z=>hb (by simp[z]))];exact e
 ·exact VF hh st.2 st.1 hd hf hn (fun E' Q' q'=>done _ _ E' Q' st.1 q') fun h' k=>q h' s.toks fun b ob hb e=>k b ob (fun z=>hb (by simp[z])) e
 ·have hT:s.TypeIs (.ref I) "set_iterator" :=⟨_,st.2,rfl⟩
  refine U0 hT y6 (sx y6 hT KJ ?_ (KQ _))
  show wpAny _ _ (ret (.ref I)) _ _ s
  exact au ⟨_,rfl, "set_iterator", _,hT,sP.lookup,q⟩
theorem XS {o:Obj}{es:Array (Int×Value)}{ep:Nat}{t:SetTable}{I pt:Addr}{ps:List Nat}{vs:List Value} (du:a≠I) (hnp:pt≠I) (hd:o.data = .set es ep t) (hf:t.fits es.size=true) (hn:es.size=vs.length) (dG:ps.length=vs.length) {h:Heap} (ho:h.get? a=some o) (hi:h.get? I=some (lA (.ref pt) 0 a vs.length ep))
  {op:Obj}{c:Nat} (hp:h.get? pt=some op) (uU:op.data = .seq (ps.map fun(j:Nat)=>rawInt j).toArray c) (item:∀ (i:Nat) (v:Value),vs[i]? = some v -> ∃pl z,ps[i]? = some pl/\es[pl]? = some (z,v)):Eb P w a vs I [I,a,pt] h:=by
 refine⟨fun i h=>h.get? a=some o/\h.get? pt=some op/\h.get? I=some (lA (.ref pt) i a vs.length ep),fun A hh=>⟨fun b hb=>(by simp at hb;simp[hb]),fun i h h' st k=>⟨k a (by simp) _ st.1,k pt (by simp) _ st.2.1,k I (by simp) _ st.2.2⟩,fun i s Q E hi st q=>?_,fun s Q E st q=>?_,fun i s Q E st q=>?_⟩,ho,hp,hi⟩
 ·have hv:vs[i]? = some vs[i]:=br hi
  obtain⟨pl,z,h1,h2⟩:=item i _ hv
  refine Vw st.2.2 st.1 hd hf hn ⟨op,c,st.2.1,uU⟩ h1 h2 fun h' g sb=>?_
  exact q _ h' s.toks hv ⟨by rw[sb.2 a du];exact st.1,by rw[sb.2 pt hnp];exact st.2.1,g⟩ fun b ob hb e=>by rw[sb.2 b (fun z=>hb (by simp[z]))];exact e
 ·exact VG hh st.2.2 st.1 hd hf hn ⟨op,c,st.2.1,uU⟩ (by omega) fun h' k=>q h' s.toks fun b ob hb e=>k b ob (fun z=>hb (by simp[z])) e
 ·have hT:s.TypeIs (.ref I) "set_iterator" :=⟨_,st.2.2,rfl⟩
  refine U0 hT y6 (sx y6 hT KJ ?_ (KQ _))
  show wpAny _ _ (ret (.ref I)) _ _ s
  exact au ⟨_,rfl, "set_iterator", _,hT,sP.lookup,q⟩
end
end HS
namespace HS
open PySem PySem.Spec PyProof.Rows
theorem LR (j k:Nat):SetTable.below #[j] k=if j < k then 1 else 0:=by
 unfold SetTable.below
 show SetTable.below.go #[j] k 1 0 1=_
 unfold SetTable.below.go
 by_cases h:j < k
 ·simp[h,SetTable.below.go]
 ·simp[h,SetTable.below.go]
theorem Ws (k:Nat):SetTable.below #[] k=0:=by unfold SetTable.below;rfl
section
variable {P : Program} {w : World} {A : Around} {E : Value -> Shared -> Prop} {s : Shared} {a : Addr} {xs : List Str}
theorem XT {Q:Value->Shared->Prop} (hS:fG P w s.heap a xs) (nd:xs.Nodup)
  (q:∀ (h':Heap) (d':Drawn) (I:Addr) (fp:List Addr) (vs:List Value) (ys:List Str),Eb P w a vs I fp h'->StrsAre vs ys->ys.Perm xs->(∀b∈fp,b=a\/s.heap.objs.size<=b)->I∈fp->(∀b∈fp,b < h'.objs.size)->s.heap.objs.size<=I->(∀b ob,s.heap.get? b=some ob->h'.get? b=some ob)->Q (.ref I) { s with heap:=h',drawn:=d' }) :
  wpAny (model P w) A (pyIter (.ref a)) Q E s:=by
 have hT:=hS.typeIs
 obtain⟨o,es,ep,t,ho,hex,hd,l4,gv,hb,hf,hn,wN,dG⟩:=hS
 have xP:=bq ho
 obtain⟨ks,k1,k2⟩:=Wr l4
 have kl:ks.length=xs.length:=by have:=zx k1;rw[ar,gD]at this;omega
 have kp:ks.Perm xs:=VH nd kl fun x hx=>(k2 x).mpr ((gv x).mp hx)
 refine U0 hT F.slot_set_iter (sx F.slot_set_iter hT VE ?_ (F.args_set_iter_1 _))
 unfold Builtin.«frozenset.__iter__» Builtin.Frozenset.slot0 Builtin.Frozenset.sizeOf setEntries setDrawn setsByText
 refine ag (ag (au (au ?_)))
 refine ag (ag (ag (kC ho hd hf (au (au ?_)))))
 dsimp only
 refine ag (ag (kC ho hd hf ?_));dsimp only
 refine ag (ag (oK (au (au ?_))))
 show wpAny _ _ (if (!w.params.followText "set-order" && (!t.plain && decide (es.size > 1)))=true then _ else _) _ _ s
 by_cases big:(!w.params.followText "set-order" && (!t.plain && decide (es.size > 1)))=true
 ·
  rw[aI big]
  refine ag (M' es.size (List.range es.size) (by simp) fun ps d rX=>?_)
  have pl:ps.length=es.size:=by rw[rX.length_eq];simp
  refine ag (mq ?_ (by show(ps.map _).toArray.size<=sizeLine;rw[cJ,ar,pl];exact Kr hb))
  refine ag ?_;unfold setEpoch
  refine ag (kC (bx _ ho) hd hf (au ?_))
  dsimp only
  refine ag (mq (au ⟨_,rfl, "set_iterator", _,⟨_,eK _ rfl,rfl⟩,sP.lookup,?_⟩))
  have Bj:∀p∈ps,p < es.size:=fun p hp=>oA.mp (rX.mem_iff.mp hp)
  let vs:List Value:=ps.map fun p=>(es.toList.map (·.2)).getD p .none
  have pv:vs.Perm (es.toList.map (·.2)):=by
   have e1:(List.range es.size).map (fun p=>(es.toList.map (·.2)).getD p .none)=es.toList.map (·.2):=by
    apply UW
    ·simp
    ·intro n h1 h2
     have:n < es.size:=by simpa using h1
     simp[this]
   rw[<-e1];exact rX.map _
  obtain⟨ys,y1,y2⟩:=LQ k1 pv
  have vl:vs.length=es.size:=by show(ps.map _).length=_;rw[ar,pl]
  have uV:(s.heap.push { cls:= .type "tuple", data:= .seq (ps.map fun(i:Nat)=>rawInt i).toArray }).objs.size=s.heap.objs.size+1:=sA ..
  refine q _ d _ [_,a,s.heap.objs.size] vs ys (XS (o:=o) (op:={ cls:= .type "tuple", data:= .seq (ps.map fun(i:Nat)=>rawInt i).toArray }) (ps:=ps) (by rw[uV];exact cu (sD xP)) (by rw[uV];exact cu (yN _)) hd hf vl.symm (by rw[vl,pl]) (bx _ (bx _ ho)) ?_ (bx _ (eK _ rfl)) rfl ?_) y1 (y2.trans kp) ?_ aZ ?_ (by rw[uV];omega) fun b ob e=>bx _ (bx _ e)
  ·rw[eK _ rfl,vl];rfl
  ·intro i v hv
   have xQ:(ps.map fun p=>(es.toList.map (·.2)).getD p .none)[i]? = some v:=hv
   rw[gX]at xQ
   obtain⟨p,hp,ev⟩:=iF.mp xQ
   have aM:=Bj p (gj hp)
   refine⟨p,es[p].1,hp,?_⟩
   rw[vx aM]
   congr 1
   rw[<-ev]
   simp[aM]
  ·intro b cX
   simp only[a9,kE,kG]at cX
   rcases cX with rfl | rfl | rfl
   ·exact .inr (by rw[uV];omega)
   ·exact .inl rfl
   ·exact .inr (aO _)
  ·intro b cX
   simp only[a9,kE,kG]at cX
   rw[sA,uV]
   rcases cX with z | z | z
   ·rw[z,uV];exact yN _
   ·rw[z];exact sD (sD xP)
   ·rw[z];exact sD (yN _)
 ·rw[aE big]
  refine ag (au ?_)
  refine ag ?_;unfold setEpoch
  refine ag (kC ho hd hf (au ?_))
  dsimp only
  refine ag (mq (au ⟨_,rfl, "set_iterator", _,⟨_,eK _ rfl,rfl⟩,sP.lookup,?_⟩))
  have QV:∀b ∈ [s.heap.objs.size,a],b=a\/s.heap.objs.size<=b:=fun b cX=>by
   simp only[a9,kE,kG]at cX
   rcases cX with rfl | rfl
   ·exact .inr (aO _)
   ·exact .inl rfl
  have QW:∀ (oo:Obj),∀b ∈ [s.heap.objs.size,a],b < (s.heap.push oo).objs.size:=fun oo b cX=>by
   simp only[a9,kE,kG]at cX
   rw[sA]
   rcases cX with z | z
   ·rw[z];exact yN _
   ·rw[z];exact sD xP
  cases bt:w.params.followText "set-order" with
  | true =>
   have sv:∀next:Nat->Nat,((pickOrder next es).toList.map (·.2)).Perm (es.toList.map (·.2)):=fun next=>by
    unfold pickOrder
    have:=LP next es.size 0 es.toList #[] (by simp)
    exact(by simpa using this:(pickOrder.go next es.size 0 es.toList #[]).toList.Perm es.toList).map _
   obtain⟨ys,y1,y2⟩:=LQ k1 (sv (w.params.setOrder a ep))
   have vl:=(sv (w.params.setOrder a ep)).length_eq
   rw[ar,gD,ar,gD]at vl
   refine q _ s.drawn _ [_,a] ((pickOrder (w.params.setOrder a ep) es).toList.map (·.2)) ys (Ms (o:=o) (fun _=>0) (cu xP) hd hf (by rw[ar,gD,vl]) rfl (bx _ ho) ?_ ?_ ?_) y1 (y2.trans kp) QV aZ (QW _) (aO _) fun b ob e=>bx _ e
   ·rw[eK _ rfl,ar,gD,vl];rfl
   ·intro A s i v E' Q' ha hv hq
    unfold setNext setsByText
    refine ag (kC ha hd hf ?_);dsimp only
    refine ag (ag (oK (au ?_)))
    show wpAny _ _ (if w.params.followText "set-order" = true then _ else _) _ _ _
    rw[aI bt,aE (by simp)]
    unfold setWalk setsByText
    refine ag (ag (kC ha hd hf ?_));dsimp only
    refine ag (ag (oK (au ?_)))
    show wpAny _ _ (if w.params.followText "set-order" = true then _ else _) _ _ _
    rw[aI bt]
    refine ag (oK (au (au ?_)))
    show Q' (((pickOrder (w.params.setOrder a ep) es)[i]?).map fun e=>(e.2,0)) s
    rw[gX,vo]at hv
    obtain⟨e,he,ev⟩:=iF.mp hv
    rw[he]
    show Q' (some (e.2,0)) s
    rw[ev];exact hq
   ·intro A s E' Q' ha hq
    unfold setNext setsByText
    refine ag (kC ha hd hf ?_);dsimp only
    refine ag (ag (oK (au ?_)))
    show wpAny _ _ (if w.params.followText "set-order" = true then _ else _) _ _ _
    rw[aI bt,aE (by simp)]
    unfold setWalk setsByText
    refine ag (ag (kC ha hd hf ?_));dsimp only
    refine ag (ag (oK (au ?_)))
    show wpAny _ _ (if w.params.followText "set-order" = true then _ else _) _ _ _
    rw[aI bt]
    refine ag (oK (au (au ?_)))
    show Q' (((pickOrder (w.params.setOrder a ep) es)[((pickOrder (w.params.setOrder a ep) es).toList.map (·.2)).length]?).map fun e=>(e.2,0)) s
    rw[Kt (by simp)]
    exact hq
  | false =>
   have bg:es.size<=1:=by
    rw[bt]at big
    by_cases z:es.size<=1
    ·exact z
    ·have hp:=dG (by omega)
     rw[hp]at big
     exact absurd (by simp;omega) big
   have led:t.led=true:=by rw[wN,bt];rfl
   have xv:t.place.size=es.size:=by
    have:=hf
    simp only[SetTable.fits,gY,eN,oM]at this
    exact this.1
   refine q _ s.drawn _ [_,a] (es.toList.map (·.2)) ks (Ms (o:=o) (fun i=>if i=0 then 0 else t.place.getD 0 0+1) (cu xP) hd hf (by rw[ar,gD]) rfl (bx _ ho) ?_ ?_ ?_) k1 kp QV aZ (QW _) (aO _) fun b ob e=>bx _ e
   ·rw[eK _ rfl,ar,gD];rfl
   ·intro A s i v E' Q' ha hv hq
    rw[gX,vo]at hv
    obtain⟨e,he,ev⟩:=iF.mp hv
    have hi:i < es.size:=(vw.mp he).1
    have i0:i=0:=by omega
    subst i0
    obtain⟨pl,Bm⟩:∃j,t.place = #[j]:=by
     have:t.place.size=1:=by omega
     exact⟨t.place[0],by
      apply Array.ext
      ·simp[this]
      ·intro k h1 h2;have:k=0:=by omega
       subst this;simp⟩
    unfold setNext setsByText
    refine ag (kC ha hd hf ?_);dsimp only
    refine ag (ag (oK (au ?_)))
    show wpAny _ _ (if w.params.followText "set-order" = true then _ else _) _ _ _
    rw[aE (by rw[bt];exact dU)]
    show wpAny _ _ (if (!t.plain && decide (es.size > 1))=true then _ else _) _ _ _
    rw[aE (by simp;omega)]
    show wpAny _ _ ((if (!t.led && !es.isEmpty)=true then unsupported "set:maker-not-led" else pure ()) >>= _) _ _ _
    rw[led,aE (by simp)]
    refine ag (au ?_)
    rw[Bm,aI rfl,LR,aE (by omega),he]
    refine au ?_
    show Q' (some (e.2,pl+1)) s
    rw[ev]
    have:(if 0+1=0 then 0 else t.place.getD 0 0+1)=pl+1:=by rw[Bm];rfl
    rw[this]at hq
    exact hq
   ·intro A s E' Q' ha hq
    unfold setNext setsByText
    refine ag (kC ha hd hf ?_);dsimp only
    refine ag (ag (oK (au ?_)))
    show wpAny _ _ (if w.params.followText "set-order" = true then _ else _) _ _ _
    rw[aE (by rw[bt];exact dU)]
    show wpAny _ _ (if (!t.plain && decide (es.size > 1))=true then _ else _) _ _ _
    rw[aE (by simp;omega)]
    show wpAny _ _ ((if (!t.led && !es.isEmpty)=true then unsupported "set:maker-not-led" else pure ()) >>= _) _ _ _
    rw[led,aE (by simp)]
    refine ag (au ?_)
    have out:es[SetTable.below t.place (if (es.toList.map (·.2)).length=0 then 0 else t.place.getD 0 0+1)]? = none:=by
     rw[ar,gD]
     by_cases z:es.size=0
     ·have:t.place = #[]:=Array.eq_empty_of_size_eq_zero (by omega)
      rw[this,Ws]
      exact Kt (by omega)
     ·have e1:es.size=1:=by omega
      obtain⟨pl,Bm⟩:∃j,t.place = #[j]:=by
       have:t.place.size=1:=by omega
       exact⟨t.place[0],by
        apply Array.ext
        ·simp[this]
        ·intro k h1 h2;have:k=0:=by omega
         subst this;simp⟩
      rw[aE z,Bm,LR]
      have : #[pl].getD 0 0=pl:=rfl
      rw[this,aI (by omega)]
      exact Kt (by omega)
    rw[out]
    exact au hq
end
end HS
namespace HS
open PySem PySem.Spec PyProof.Rows PySem.W
section
variable {P : Program} {w : World} {A : Around} {E : Value -> Shared -> Prop} {s : Shared} {a : Addr} {xs : List Str}
theorem XU {Q:Bool->Shared->Prop} (hT:s.TypeIs (.ref a) "set") (h:Q false s):wpAny (model P w) A (Builtin.List.listLengthHint (.ref a)) Q E s:=by
 unfold Builtin.List.listLengthHint
 refine ag (wpAny_specialOf hT PySem.F.slot_set_len.lookup ?_);generalize uW:("set.__len__" : String)=id0
 wp_delta
 rw[show splitId id0=some ("set", "__len__") from by subst uW;decide +kernel];subst uW
 refine ag (wpAny_isInstance (T:= "set") (b:=true) hT (by rw[UZ];kernel_rfl) ?_)
 refine U1 (fun z=>absurd z (by decide)) fun _=>U1 (fun _=>?_) fun z=>absurd (by decide +kernel) z
 exact ag (oF hT (au h))
theorem Wt {R:Result->Shared->Prop} (hh:A.handled=none) (hS:fG P w s.heap a xs) (nd:xs.Nodup) (S:Addr) (QX:S≠a) (res:Value) (c₀:Nat) (hL:s.heap.get? S=some { cls:= .type "list", data:= .seq #[] c₀ })
  (hR:∀h' d' tk (vs:List Value) (ys:List Str) c',(∀b o,b≠S->s.heap.get? b=some o->h'.get? b=some o)->h'.get? S=some { cls:= .type "list", dict:=none,data:= .seq vs.toArray c',slots:= #[] }->StrsAre vs ys->ys.Perm xs->R (.ok (.ret res)) { s with heap:=h',drawn:=d',toks:=tk }) :
  wpAny (model P w) A.in1 (Builtin.List.listExtendWith (.ref S) (.ref a) res)
   (fun fin s'=>match fin with | .done f=>R (.ok f) s' | .again c'=>c'.quiet=true/\codeAny (model P w) A c' R s') (fun e s'=>R (.error e) s') s:=by
 have hT:=hS.typeIs
 have hsz:xs.length < scanBound:=by obtain⟨o,es,ep,t,ho,hex,hd,l4,gv,hb,hf,hn,_⟩:=hS;omega
 unfold Builtin.List.listExtendWith
 refine ag (oF (T:= "set") hT ?_)
 have h1:Builtin.List.listSameRef (.ref S) (.ref a)=false:=by simp[Builtin.List.listSameRef,QX]
 have h2:(Value.type "set" == Value.type "list")=false:=by decide
 have h3:(Value.type "set" == Value.type "tuple")=false:=by decide
 simp only[h1,h2,h3,Uy,UA,yE]
 refine ag (XT hS nd fun h' d' I fp vs ys W v1 v2 f1 f2 f3 f4 k=>?_)
 obtain⟨St,Wk,st⟩:=W.go
 have W1:=Wk A.in1 (by simpa using hh)
 have vl:vs.length=xs.length:=by rw[zx v1,v2.length_eq]
 have QY:S ∉ fp:=fun z=>by
  rcases f1 S z with e | e
  ·exact QX e
  ·exact absurd (bq hL) (Ca.mpr e)
 have Tn:Shared.TypeIs { s with heap:=h',drawn:=d' } (.ref a) "set" :=by
  obtain⟨o,e,c⟩:=hT;exact⟨o,k _ _ e,c⟩
 refine ag (fB (XU Tn ?_))
 have Hy:=k _ _ hL
 have key:∀ (h:Heap) (c₁:Nat),St 0 h->(∀b o,b≠S->s.heap.get? b=some o->h.get? b=some o)->h.get? S=some { cls:= .type "list", data:= .seq #[] c₁ } ->
   codeAny (model P w) A (.builtin "list.extend.loop" ⟨[.ref S,.ref I,res],[]⟩) R { s with heap:=h,drawn:=d' }:=by
  intro h c₁ xl hk aaE
  refine codeAny_extend_loopS W1.toS (by rw[vl];exact Kr hsz) S QY res vs.length 0 _ #[] c₁ rfl (bY _) xl aaE (ItemsOf.nil _) fun s' O2 c' hm hS' Ec=>?_
  rw[Moved.eq_with hm]
  have ev:O2.toList=vs:=by
   apply List.ext_getElem?
   intro j
   rw[vo]
   by_cases hj:j < vs.length
   ·have uX:j < O2.size:=by rw[Ec.1];exact hj
    rw[vx uX]
    exact(Ec.2 j _ (vx uX)).symm
   ·rw[Kt (by rw[Ec.1];omega),U6 (by omega)]
  refine hR s'.heap d' s'.toks vs ys c' (fun b o hb e=>hm.heap b o (fun gv=>?_) (hk b o hb e)) (by rw[hS',<-ev]) v1 v2
  rcases a9.mp gv with e' | gv
  ·exact hb e'
  ·exact absurd (bq e) (by rw[eL.mp gv];exact Ca.mpr f4)
 refine U1 (fun _=>?_) (fun _=>au ⟨qB amr _,key _ c₀ st (fun b o _ e=>k b o e) Hy⟩)
 refine ag (sC (ag ?_))
 show wpAny _ _ (updateSeq S (·.push .none) >>= fun _=>updateSeq S (·.pop)) _ _ _
 refine ag (wpAny_updateSeq Hy rfl ?_)
 have Of:=oG (Obj.mapSeq (·.push Value.none)) Hy rfl
 refine wpAny_updateSeq (hz:=by seq_fits) Of rfl ?_
 have aaF:=oG (Obj.mapSeq (·.pop)) Of rfl
 have pW:∀b o,b≠S->h'.get? b=some o->((h'.update S (Obj.mapSeq (·.push Value.none))).update S (Obj.mapSeq (·.pop))).get? b=some o:=fun b o hb e=>(mr _ _ (aT hb)).trans ((mr _ _ (aT hb)).trans e)
 exact au ⟨qB amr _,key _ _ (W1.frame 0 _ _ st fun b hb o e=>pW b o (fun z=>QY (z ▸ hb)) e) (fun b o hb e=>pW b o hb (k b o e)) aaF⟩
theorem VZ {Q:List Value->Shared->Prop} (hh:A.handled=none) (hS:fG P w s.heap a xs) (nd:xs.Nodup)
  (hQ:∀h' d' tk (vs:List Value) (ys:List Str),(∀b o,s.heap.get? b=some o->h'.get? b=some o)->StrsAre vs ys->ys.Perm xs->Q vs { s with heap:=h',drawn:=d',toks:=tk }):wpAny (model P w) A (collect (.ref a)) Q E s:=by
 unfold collect
 refine ag (UR (mw PySem.F.entry_proto_collect ?_));rw[qA PySem.F.plain_proto_collect _]
 show wpAny _ A.in1 (newList [] >>= fun l=>again (.builtin "list.__iadd__" ⟨[l,.ref a],[]⟩)) _ _ s
 refine ag (mq (au ⟨qB ams _,mw PySem.F.entry_list_iadd ?_⟩));rw[qA ams _]
 show wpAny _ A.in1 (Builtin.List.listExtendWith (.ref s.heap.objs.size) (.ref a) (.ref s.heap.objs.size)) _ _ _
 have hn:s.heap.objs.size≠a:=JU hS.lt
 refine Wt (R:=fun r s'=>match r with | .ok (.ret v)=>wpAny (model P w) A (match v with | .ref a=>(do match (<- load a).data with | .seq xs _=>pure xs.toList | _=>unsupported "internal:collect")|_=>unsupported "internal:collect") Q E s' | .ok _=>False | .error e=>E e s') (s:={ s with heap:=s.heap.push { cls:= .type "list", data:= .seq ([]:List Value).toArray } }) hh (hS.keep fun o e=>bx _ e) nd _ hn _ 0 (eK _ rfl) fun h' d' tk vs ys c' k hl v1 v2=>?_
 show wpAny _ A (load s.heap.objs.size >>= _) _ _ _
 refine ag (JV hl (au ?_))
 exact hQ h' d' tk vs ys (fun b o e=>k b o (cu (bq e)) (bx _ e)) v1 v2
theorem Wu {Q:Value->Shared->Prop} (hh:A.handled=none) (hS:fG P w s.heap a xs) (nd:xs.Nodup) (uY:xs.length<=63)
  (hQ:∀D c h' d' tk (vs:List Value) (ys:List Str),(∀b o,s.heap.get? b=some o->h'.get? b=some o)->(∀b o,s.heap.get? b=some o->b≠D)->h'.get? D=some (listOf vs.toArray c)->StrsAre vs ys->ys.Perm xs->sortedS ys=true->Q (.ref D) { s with heap:=h',drawn:=d',toks:=tk }) :
  wpAny (model P w) A (call (.builtin "sorted") [.ref a]) Q E s:=by
 refine amk kind_sorted plain_sorted entry_sorted (args_sorted1 _) ?_
 unfold Builtin.«sorted»
 refine ag (m:=checkCount "sorted" 1 1 _) (au (ag (VZ (by simpa using hh) hS nd fun h1 d1 t1 vs ys k1 v1 p1=>?_)))
 have vl:vs.length=xs.length:=by rw[zx v1,p1.length_eq]
 refine ag (UX ?_ (by rw[ay];omega))
 have ly:(h1.push (seqObj "list" vs.toArray 0)).get? h1.objs.size=some (seqObj "list" vs.toArray 0):=eK _ rfl
 refine ag (fB (sx slot_list_sort ⟨_,ly,rfl⟩ entry_list_sort (list_sort_treeK strKind_oneLt ly v1.keysOf (fun amX amY rest e=>keyKind_strs (by rw[<-e];exact v1)) (by omega) fun iW a1 a2=>⟨_,rfl,?_⟩) (args_list_sort _)))
 obtain⟨xR,b1,b2,b3⟩:=sorted_out_str v1 a1 a2
 obtain⟨c,hc⟩:=sortedHeap_at (n:=0) (vs:=vs) (out:=(arrOf iW).map (·.2)) ly
 refine au ⟨_,rfl,hQ _ c _ d1 t1 _ xR (fun b o e=>?_) (fun b o e=>cu (bq (k1 b o e))) (by rw[hc]) b1 (b2.trans p1) b3⟩
 have e1:=k1 b o e
 have xS:=bq e1
 rw[sortedHeap_old (cu xS) (by rw[size_push'];exact sD xS),Heap.get?_push_ne _ _ _ (cu xS)]
 exact e1
end
end HS
namespace L2
open PySem PySem.Spec PyProof.Rows PySem.W HS
def nL (P:Program) (w:World) (a:Addr) (xs:List Str):HO:= .ext fun h=>xs.Nodup/\fG P w h a xs
theorem YO {P:Program}{w:World}{H:Hp}{h:Heap}{a:Addr}{xs:List Str} (nd:xs.Nodup) (x:fG P w h a xs):bH P w H h a (nL P w a xs):=
 ⟨⟨nd,x⟩,(let ⟨o,_,_,_,e,_⟩:=x;⟨o,e⟩),fun _ _ q k=>⟨q.1,q.2.keep k⟩⟩
theorem Inv.draw {X:Cx}{pins:List (Addr×Obj)}{σ:List (Option V)}{H:Hp}{s:Shared} (I:Inv X pins σ H s) (d:Drawn):Inv X pins σ H { s with drawn:=d }:=⟨I.ok,I.os,I.bare,I.base,I.loc,I.cell,I.free,I.g6,I.pin,I.aA,I.len⟩
theorem Na:∀ {vs:List Value}{ys:List Str},StrsAre vs ys -> ∀ (i:Nat) (v:Value),vs[i]? = some v -> ∃t,v = .str (ys.getD i "") t
 | _,_,.nil,i,v,h=>by simp at h
 | _,_,.cons y t r,0,v,h=>by simp at h;exact⟨t,by rw[<-h];rfl⟩
 | _,_,.cons y t r,i+1,v,h=>by
  obtain⟨t',e⟩:=Na r i v (by simpa using h)
  exact⟨t',by rw[e];rfl⟩
section
variable {X : Cx}
theorem C3 (hc:X.calm=true):eO X (.type "set") (fun vs H Q=>∃ (p:Addr) (ss:List Str),vs = [.ref p]/\(ai X.K H p (ss.map V.str)\/aB X.K H p (ss.map V.str))/\ss.length<=1000 /\ ∀a ds,H a=none->ds.Nodup->(∀y,y∈ds ↔ y∈ss)->Q (.ref a) (upd H a (nL X.prog X.w a ds))):=by
 intro pins s σ H vs us Q I r h
 obtain⟨p,ss,rfl,hq,h1k,q⟩:=h
 obtain⟨u,rfl,rx⟩:=vals1 r
 cases rx
 have fin:∀ (its:List Value) {T:String}{ol:Obj},Vals (ss.map V.str) its->Src X.prog X.w T p ol its.toArray.size (fun i v=>its.toArray[i]? = some v)->s.heap.get? p=some ol->wpAny (model X.prog X.w) X.A (call (.type "set") [.ref p]) (EP X pins σ Q) X.xe s:=fun its {T ol} rv C hp=>by
  have st:=Cv rv
  have hlen:its.length=ss.length:=zx st
  refine W2 (val:=fun i=>ss.getD i "") (I.ok.hd hc) C hp (fun i v hv=>Na st i v (by simpa using hv)) (by rw[cJ,hlen];unfold scanBound;omega) fun h' tk x k=>?_
  have kp:∀b o,s.heap.get? b=some o->h'.get? b=some o:=fun b o e=>k b o (bq e) e
  have nd:=M9 (fun i=>ss.getD i "") its.toArray.size
  refine⟨.ref s.heap.objs.size,_,I.laid (t':=tk) kp (aO _) (YO nd x),rfl,q _ _ (I.aA.fresh (aO _)) nd fun y=>?_⟩
  rw[Mp,cJ,hlen]
  constructor
  ·rintro⟨j,hj,rfl⟩
   rw[show ss.getD j "" = ss[j] by simp[hj]]
   exact jl hj
  ·intro hy
   obtain⟨j,hj,e⟩:=List.mem_iff_getElem.mp hy
   exact⟨j,hj,by simp[hj,e]⟩
 rcases hq with hq | hq
 ·obtain⟨its,r',pl,hz⟩:=I.list hq
  obtain⟨o,ho,iD,n,hd⟩:=pl.isList
  exact fin its r' (src_list iD ⟨n,hd⟩) ho
 ·obtain⟨its,r',pl,hz⟩:=I.tuple hq
  obtain⟨o,ho,iD,n,hd⟩:=pl
  exact fin its r' (YN iD ⟨n,hd⟩) ho
theorem K0:eO X (.builtin "len") (fun vs H Q=>∃ (a:Addr) (ds:List Str),vs = [.ref a]/\H a=some (nL X.prog X.w a ds)/\Q (.int ds.length) H):=by
 intro pins s σ H vs us Q I r h
 obtain⟨a,ds,rfl,hq,q⟩:=h
 obtain⟨u,rfl,rx⟩:=vals1 r
 cases rx
 obtain⟨⟨nd,o,es,ep,t,ho,hex,hd,l4,gv,hb,hf,hn,_⟩,_⟩:=(show bH X.prog X.w H s.heap a (nL X.prog X.w a ds) from I.aA a _ hq)
 refine call_len_set ho hex hd hf (by unfold scanBound at hb;omega) ?_
 rw[<-hn]at q
 exact⟨.int es.size,H,I.tok _,⟨_,rfl⟩,q⟩
theorem Vq (hc:X.calm=true):eO X (.builtin "sorted") (fun vs H Q=>∃ (a:Addr) (ds:List Str),vs = [.ref a]/\H a=some (nL X.prog X.w a ds)/\ds.length<=63 /\ ∀D xR,H D=none->xR.Perm ds->sortedS xR=true->Q (.ref D) (upd H D (.lst (xR.map V.str)))):=by
 intro pins s σ H vs us Q I r h
 obtain⟨a,ds,rfl,hq,uY,q⟩:=h
 obtain⟨u,rfl,rx⟩:=vals1 r
 cases rx
 obtain⟨⟨nd,x⟩,_⟩:=(show bH X.prog X.w H s.heap a (nL X.prog X.w a ds) from I.aA a _ hq)
 obtain⟨m,hm,_⟩:=id I.loc
 refine Wu (I.ok.hd hc) x nd uY fun D c h' d' tk out ys k hD new st p HA=>?_
 obtain⟨hn,I'⟩:=Inv.sorted (t':=tk) (ys:=ys.map V.str) I hm (hm.at' fun o e=>k _ _ e) (fun b o _ e=>k b o e) hD new (LO st) (by rw[ar,p.length_eq,ay];omega)
 exact⟨.ref D,_,I'.draw d',rfl,q _ ys hn p HA⟩
end
end L2
namespace L2
open PySem PySem.W PySem.Calls PyProof.Rows
structure Ord (n:Nat) (lt:Nat->Nat->Bool):Prop where
 tr:∀i j k,lt i j=true->lt j k=true->lt i k=true
 tot:∀i j,i < n->j < n->i≠j->lt i j=false->lt j i=true
def dX {α:Type} (n:Nat) (lt:Nat->Nat->Bool) (φ:α->Prop):KasT α->Prop
 | .ret a=>φ a
 | .ask i j k=>i < n/\j < n/\dX n lt φ (k (lt i j))
section
variable {α β : Type} {n : Nat} {lt : Nat -> Nat -> Bool}
theorem dX.bind {φ:α->Prop}{ψ:β->Prop}{f:α->KasT β} (g:∀a,φ a->dX n lt ψ (f a)):∀ {t:KasT α},dX n lt φ t->dX n lt ψ (t.bind f)
 | .ret a,h=>g a h
 | .ask _ _ _,h=>⟨h.1,h.2.1,dX.bind g h.2.2⟩
theorem dX.wp {φ:α->Prop}{cmp:Nat->Nat->(Bool->Shared->Prop)->Shared->Prop}{Q:α->Shared->Prop}{s:Shared} (hc:∀i j C,i < n->j < n->C (lt i j) s->cmp i j C s):∀ {t:KasT α},dX n lt φ t->(∀a,φ a->Q a s)->t.kasWp cmp Q s
 | .ret a,h,q=>q a h
 | .ask _ _ _,h,q=>hc _ _ _ h.1 h.2.1 (dX.wp hc h.2.2 q)
theorem dX.mono {φ ψ:α->Prop} (g:∀a,φ a->ψ a):∀ {t:KasT α},dX n lt φ t->dX n lt ψ t
 | .ret a,h=>g a h
 | .ask _ _ _,h=>⟨h.1,h.2.1,dX.mono g h.2.2⟩
def ki (lt:Nat->Nat->Bool) (p:Array Nat) (k:Nat):Prop:= ∀i j,i < j->j < k->lt (p.getD i 0) (p.getD j 0)=true
def n6 (lt:Nat->Nat->Bool) (p:Array Nat) (k:Nat):Prop:= ∀i j,i < j->j < k->lt (p.getD j 0) (p.getD i 0)=true
theorem Pm.size {p:Array Nat} (h:Pm n p):p.size=n:=by have:=h.length_eq;simpa using this
theorem Pm.ne {p:Array Nat} (h:Pm n p) {i j:Nat} (hi:i < n) (hj:j < n) (e:i≠j):p.getD i 0≠p.getD j 0:=by
 have hs:=h.size
 have nd:p.toList.Nodup:=h.nodup_iff.mpr List.nodup_range
 intro z
 rw[mx,mx,vx (by omega),vx (by omega)]at z
 have z2:p.toList[i]'(by simp;omega)=p.toList[j]'(by simp;omega):=by simpa using z
 exact e ((List.getElem_inj nd).mp z2)
theorem DQ {p:Array Nat} (O:Ord n lt) (h:Pm n p) {i j:Nat} (hi:i < n) (hj:j < n) (e:i≠j) (f:lt (p.getD i 0) (p.getD j 0)=false):lt (p.getD j 0) (p.getD i 0)=true:=
 O.tot _ _ (h.lt (by omega) i) (h.lt (by omega) j) (h.ne hi hj e) f
theorem ki.step {p:Array Nat} (O:Ord n lt) {m:Nat} (h1:1<=m) (a:ki lt p m) (l:lt (p.getD (m - 1) 0) (p.getD m 0)=true):ki lt p (m+1):=fun i j jh hj=>by
 by_cases e:j < m
 ·exact a i j jh e
 ·obtain rfl:j=m:=by omega
  by_cases e2:i=j - 1
  ·rw[e2];exact l
  ·exact O.tr _ _ _ (a i (j - 1) (by omega) (by omega)) l
theorem n6.step {p:Array Nat} (O:Ord n lt) {m:Nat} (h1:1<=m) (a:n6 lt p m) (l:lt (p.getD m 0) (p.getD (m - 1) 0)=true):n6 lt p (m+1):=fun i j jh hj=>by
 by_cases e:j < m
 ·exact a i j jh e
 ·obtain rfl:j=m:=by omega
  by_cases e2:i=j - 1
  ·rw[e2];exact l
  ·exact O.tr _ _ _ l (a i (j - 1) (by omega) (by omega))
theorem Dg {p:Array Nat} (O:Ord n lt) (h:Pm n p):∀ (f m:Nat),1<=m->m+f<=n->ki lt p m->dX n lt (fun r=>m<=r/\r<=m+f/\ki lt p r/\(r < m+f->lt (p.getD r 0) (p.getD (r - 1) 0)=true)) (kas_asc p f m)
 | 0,m,h1,h2,a=>⟨aO _,aO _,a,fun z=>absurd z (by omega)⟩
 | f+1,m,h1,h2,a=>⟨h.lt (by omega) _,h.lt (by omega) _,by
  cases c:lt (p.getD m 0) (p.getD (m - 1) 0) with
  | true=>exact⟨aO _,by omega,a,fun _=>c⟩
  | false =>
   refine dX.mono (fun r hr=>?_) (Dg O h f (m+1) (by omega) (by omega) (a.step O h1 (DQ O h (by omega) (by omega) (by omega) c)))
   exact⟨by omega,by omega,hr.2.2.1,fun z=>hr.2.2.2 (by omega)⟩⟩
theorem Mt {p:Array Nat} (O:Ord n lt) (h:Pm n p):∀ (f m:Nat),1<=m->m+f<=n->n6 lt p m->dX n lt (fun r:Array Nat×Nat×Nat=>r.1=p/\r.2.2=0/\m<=r.2.1/\r.2.1<=m+f/\n6 lt p r.2.1) (kas_desc f p m 0)
 | 0,m,h1,h2,a=>⟨rfl,rfl,aO _,aO _,a⟩
 | f+1,m,h1,h2,a=>⟨h.lt (by omega) _,h.lt (by omega) _,by
  cases c:lt (p.getD m 0) (p.getD (m - 1) 0) with
  | true =>
   show dX n lt _ (if 0 > 0 then kas_desc f (kas_rev p (m - (0+1)) m) (m+1) 0 else kas_desc f p (m+1) 0)
   rw[aE (by omega)]
   refine dX.mono (fun r hr=>?_) (Mt O h f (m+1) (by omega) (by omega) (a.step O h1 c))
   exact⟨hr.1,hr.2.1,by omega,by omega,hr.2.2.2.2⟩
  | false =>
   refine⟨h.lt (by omega) _,h.lt (by omega) _,?_⟩
   rw[DQ O h (by omega) (by omega) (by omega) c]
   exact⟨rfl,rfl,aO _,yP _ _,a⟩⟩
theorem Mu {p:Array Nat}{m:Nat} (hm:m<=p.size) (k:Nat) (hk:k < m):(kas_rev p 0 m).getD k 0=p.getD (m - 1 - k) 0:=by
 unfold kas_rev
 rw[mx,getElem?_mirror_all hm,aI ⟨bY _,hk⟩,mx,Nat.zero_add]
theorem n6.rev {p:Array Nat}{m:Nat} (hm:m<=p.size) (a:n6 lt p m):ki lt (kas_rev p 0 m) m:=fun i j jh hj=>by
 rw[Mu hm i (by omega),Mu hm j hj]
 exact a _ _ (by omega) (by omega)
def Aa (n:Nat) (lt:Nat->Nat->Bool) (r:Nat×Array Nat):Prop:=Pm n r.2/\ki lt r.2 r.1/\1<=r.1/\r.1<=n
theorem W3 {p:Array Nat} (O:Ord n lt) (h:Pm n p) {m:Nat} (h1:1<=m) (h2:m<=n) (a:n6 lt p m):dX n lt (Aa n lt) (kas_tail3 m n p):=
 dX.bind (ψ:=Aa n lt) (f:=fun k=>.ret (k,kas_rev p 0 m)) (fun r hr=>(show Aa n lt (r,kas_rev p 0 m) from⟨h.rev _ _,hr.2.2.1,c9 h1 hr.1,by have:=hr.2.1;show r<=n;omega⟩)) (Dg O (h.rev 0 m) (n - m) m h1 (by omega) (a.rev (by rw[h.size];exact h2)))
theorem W4 {p:Array Nat} (O:Ord n lt) (hn:2<=n) (h:Pm n p):dX n lt (Aa n lt) (kas_count n p):=
 (Dg O h (n - 1) 1 (aO _) (by omega) (fun i j jh hj=>absurd hj (by omega))).bind fun m hm=>by
  obtain⟨m1,m2,ma,ml⟩:=hm
  show dX n lt _ (if (m==n)=true then _ else if m > 1 then _ else _)
  split
  ·rename_i e
   have:m=n:=by simpa using e
   subst this
   exact⟨h,ma,m1,aO _⟩
  ·rename_i e
   have ne:m≠n:=by simpa using e
   split
   ·rename_i g
    refine⟨h.lt (by omega) _,h.lt (by omega) _,?_⟩
    rw[ma 0 (m - 1) (by omega) (by omega)]
    exact⟨h,ma,m1,by omega⟩
   ·obtain rfl:m=1:=by omega
    have l:=ml (by omega)
    have d2:n6 lt p 2:=fun i j jh hj=>by
     obtain rfl:j=1:=by omega
     obtain rfl:i=0:=by omega
     exact l
    refine dX.bind (fun r hr=>?_) (Mt O h (n - (1+1)) (1+1) (by omega) (by omega) d2)
    obtain⟨r1,r2,r3,r4,r5⟩:=hr
    show dX n lt _ (if r.2.2 > 0 then _ else _)
    rw[aE (by omega),r1]
    exact W3 O h (by omega) (by omega) r5
theorem CN {p:Array Nat} (O:Ord n lt) (h:Pm n p) {k:Nat} (hk:k < n) (a:ki lt p k):∀ (f l r:Nat),r - l<=f->l<=r->r<=k->(∀i,i < l->lt (p.getD i 0) (p.getD k 0)=true)->(∀i,r<=i->i < k->lt (p.getD k 0) (p.getD i 0)=true) ->
  dX n lt (fun m=>m<=k/\(∀i,i < m->lt (p.getD i 0) (p.getD k 0)=true) /\ ∀i,m<=i->i < k->lt (p.getD k 0) (p.getD i 0)=true) (kas_place p k f l r)
 | 0,l,r,hf,hl,hr,lo,hi=>by
  obtain rfl:l=r:=by omega
  exact⟨hr,lo,hi⟩
 | f+1,l,r,hf,hl,hr,lo,hi=>by
  show dX n lt _ (if l ≥ r then _ else _)
  split
  ·obtain rfl:l=r:=by omega
   exact⟨hr,lo,hi⟩
  ·refine⟨h.lt (by omega) _,h.lt (by omega) _,?_⟩
   cases c:lt (p.getD k 0) (p.getD ((l+r) / 2) 0) with
   | true =>
    refine CN O h hk a f l ((l+r) / 2) (by omega) (by omega) (by omega) lo fun i xT hi2=>?_
    by_cases e:i=(l+r) / 2
    ·rw[e];exact c
    ·exact O.tr _ _ _ c (a _ i (by omega) hi2)
   | false =>
    have c2:=DQ O h (i:=k) (j:=(l+r) / 2) hk (by omega) (by omega) c
    refine CN O h hk a f ((l+r) / 2+1) r (by omega) (by omega) hr (fun i xT=>?_) hi
    by_cases e:i=(l+r) / 2
    ·rw[e];exact c2
    ·exact O.tr _ _ _ (a i _ (by omega) (by omega)) c2
theorem Mv {p:Array Nat}{k l:Nat} (hk:k < p.size) (hl:l<=k) (i:Nat):(bubble p k (k - l)).getD i 0=if i=l then p.getD k 0 else if l < i/\i<=k then p.getD (i - 1) 0 else p.getD i 0:=by
 rw[mx,getElem?_bubble hk (k - l) (by omega)]
 have:k - (k - l)=l:=by omega
 rw[this]
 by_cases c1:i=l
 ·rw[aI c1,aI c1];exact(mx ..).symm
 ·rw[aE c1,aE c1]
  by_cases c2:l < i/\i<=k
  ·rw[aI c2,aI c2];exact(mx ..).symm
  ·rw[aE c2,aE c2];exact(mx ..).symm
theorem Nb (O:Ord n lt):∀ (f:Nat) (p:Array Nat) (k:Nat),k+f=n->Pm n p->ki lt p k->dX n lt (fun r=>Pm n r/\ki lt r n) (kas_bin f p k)
 | 0,p,k,e,h,a=>by
  obtain rfl:k=n:=by omega
  exact⟨h,a⟩
 | f+1,p,k,e,h,a=>(CN O h (by omega) a k 0 k (by omega) (bY _) (aO _) (fun i hi=>absurd hi (yM _)) (fun i h1 h2=>absurd h2 (by omega))).bind fun l hl=>by
  obtain⟨l1,l2,l3⟩:=hl
  refine Nb O f _ _ (by omega) (h.bub _ _) fun i j jh hj=>?_
  have hsz:=h.size
  rw[Mv (by omega) l1 i,Mv (by omega) l1 j]
  by_cases i1:i=l
  ·rw[aI i1,aE (by omega),aI (by omega)]
   exact l3 _ (by omega) (by omega)
  ·rw[aE i1]
   by_cases i2:l < i/\i<=k
   ·rw[aI i2,aE (by omega),aI (by omega)]
    exact a _ _ (by omega) (by omega)
   ·rw[aE i2]
    by_cases j1:j=l
    ·rw[aI j1];exact l2 i (by omega)
    ·rw[aE j1]
     by_cases j2:l < j/\j<=k
     ·rw[aI j2]
      exact a _ _ (by omega) (by omega)
     ·rw[aE j2]
      exact a _ _ jh (by omega)
theorem XW (O:Ord n lt) (hn:2<=n):dX n lt (fun r=>Pm n r/\ki lt r n) (kas_sort n):=
 (W4 O hn (qF _)).bind fun r hr=>by
  obtain⟨r1,r2,r3,r4⟩:=hr
  show dX n lt _ (if r.1 < n then _ else _)
  split
  ·refine Nb O _ _ _ (by omega) r1 ?_
   rw[show max r.1 1=r.1 by omega];exact r2
  ·obtain e:r.1=n:=by omega
   rw[e]at r2
   exact⟨r1,r2⟩
end
end L2
namespace L2
open PySem PySem.W PySem.Calls PyProof.Rows
def eT (p q:Str):Bool:=decide (p.cps.toList < q.cps.toList)
theorem Mw (p:Str):eT p p=false:=c8 (List.lt_irrefl _)
theorem Dv {p q r:Str} (h1:eT p q=true) (h2:eT q r=true):eT p r=true:=cF (List.lt_trans (iG h1) (iG h2))
theorem YQ {p q:Str} (h:p≠q) (f:eT p q=false):eT q p=true:=by
 refine cF ?_
 have h1 : ¬ p.cps.toList < q.cps.toList:=of_decide_eq_false f
 have h2:q.cps.toList<=p.cps.toList:=List.not_lt.mp h1
 by_cases z:q.cps.toList < p.cps.toList
 ·exact z
 ·exact absurd (C1 (a:=p) (b:=q) (List.not_lt.mp z) h2) h
theorem W5 {prog:Program}{w:World}{A:Around}{E:Value->Shared->Prop}{s:Shared}{x y:Addr}{p q:Str}{t u:Tok}{v z:Addr}{C:Bool->Shared->Prop} (hx:IsTup s.heap x #[.str p t,.ref v]) (hy:IsTup s.heap y #[.str q u,.ref z]) (hd:p=q->v=z) (h:C (eT p q) s) :
  wpAny (model prog w) A (keyLt' (tuples' true) (.ref x) (.ref y)) C E s:=by
 obtain⟨ox,ex,cx,nx,dx⟩:=hx
 obtain⟨oy,ey,cy,ny,dy⟩:=hy
 refine kat_lt ex dx ey dy (kat_cons (wpAny_eqBool_str ?_))
 by_cases e:p=q
 ·rw[cF e]
  obtain rfl:=hd e
  subst e
  rw[Mw]at h
  exact kat_yes (kat_cons (Wo (kat_yes (kat_nil h))))
 ·rw[c8 e]
  exact kat_no (kas_lt_str h)
theorem W6 {α β:Type}{F:α->β->Prop}{l:List α}{m:List β} (h:Paired F l m) (dl:α) (dm:β) (i:Nat) (hi:i < l.length):F (l.getD i dl) (m.getD i dm):=by
 induction h generalizing i with
 | nil=>exact absurd hi (yM _)
 | cons p _ ih =>
  cases i with
  | zero=>exact p
  | succ i=>exact ih i (Ks hi)
theorem Lg {α β γ:Type}{F:α->β->Prop}{f:γ->α}{g:γ->β}:∀ {l:List γ},(∀x∈l,F (f x) (g x))->Paired F (l.map f) (l.map g)
 | [],_=>.nil
 | x::l,h=>.cons (h x aZ) (Lg fun y hy=>h y (bX _ hy))
theorem ZJ {lt:Nat->Nat->Bool}{p:Array Nat}{n:Nat} (hs:p.size=n) (a:ki lt p n):p.toList.Pairwise fun i j=>lt i j=true:=by
 rw[List.pairwise_iff_getElem]
 intro i j hi hj jh
 have h1:i < p.size:=by simpa using hi
 have h2:j < p.size:=by simpa using hj
 have:=a i j jh (by omega)
 rw[mx,mx,vx h1,vx h2]at this
 simpa using this
section
variable {X : Cx}
theorem Vx:eO X (.builtin "sorted") (fun xs H Q=>∃ (p:Addr) (ys:List V) (kvs:List (Str×V)),xs = [.ref p]/\ai X.K H p ys/\i5 H ys kvs/\(∀q∈kvs,∃z,q.2=V.ref z)/\(kvs.map (·.1)).Nodup/\ys.length<=63 /\
  ∀D kf eQ,H D=none->kf.Perm ys->i5 H kf eQ->eQ.Perm kvs->(eQ.map (·.1)).Pairwise (fun a b=>eT a b=true)->Q (.ref D) (upd H D (.lst kf))):=by
 intro pins s σ H xs us Q I r ⟨p,ys,kvs,ex,hq,pr,pY,nd,uY,q⟩
 subst ex
 obtain⟨u,rfl,rx⟩:=vals1 r
 cases rx
 obtain⟨its,rv,pl,hz⟩:=I.list hq
 have jg:ys.length=kvs.length:=jL pr
 have fh:=rv.length
 have at_:∀ (i:Nat),i < its.length -> ∃k a z t,(kvs.map (·.1))[i]? = some k/\its[i]? = some (.ref a)/\H a=some (.tup [.str k,.ref z])/\IsTup s.heap a #[.str k t,.ref z]:=by
  intro i hi
  have Bn:i < ys.length:=by omega
  obtain⟨p',hZ,a,ey,ha⟩:=gm pr (show ys[i]? = some ys[i] from br Bn)
  obtain⟨z,ez⟩:=pY p' (gj hZ)
  obtain⟨u,hu,ru⟩:=rv.get (show ys[i]? = some (V.ref a) by rw[br Bn,ey])
  cases ru
  obtain⟨i2,r2,t2,_⟩:=I.tuple (aB.of ha)
  obtain⟨x,y,rfl,rx,ry⟩:=r2.two
  rw[ez]at ry ha
  cases ry
  obtain⟨t,rfl⟩:∃t,x = .str p'.1 t:=rx
  exact⟨p'.1,a,z,t,by rw[gX,hZ];rfl,hu,ha,t2⟩
 obtain⟨m,hm,_⟩:=id I.loc
 let lt:Nat->Nat->Bool:=fun i j=>eT ((kvs.map (·.1)).getD i "") ((kvs.map (·.1)).getD j "")
 have kl:(kvs.map (·.1)).length=its.length:=by rw[ar];omega
 have O:Ord its.length lt:=⟨fun i j k h1 h2=>Dv h1 h2,fun i j hi hj jh f=>YQ (fun e=>jh ((List.getElem?_inj (by omega) nd).mp (by
  rw[jM,jM,br (by omega),br (by omega)]at e
  rw[br (by omega),br (by omega)]
  exact gg some e))) f⟩
 have fin:∀ (h':Heap) (D:Addr) (c:Nat) (pa:Array Nat),(∀b o,b≠X.env.locals->s.heap.get? b=some o->h'.get? b=some o)->h'.Ns X.env.locals m->(∀b o,s.heap.get? b=some o->b≠D)->Pm its.length pa->(pa.toList.Pairwise fun i j=>lt i j=true) ->
   h'.get? D=some (listOf (pa.toList.map fun i=>its.getD i Value.none).toArray c) -> ∃v H',Inv X pins σ H' { s with heap:=h' }/\RelV v (.ref D)/\Q v H':=by
  intro h' D c pa k jB hD hp HA new
  have Bj:∀i∈pa.toList,i < its.length:=fun i hi=>oA.mp (hp.mem_iff.mp hi)
  have py:(pa.toList.map fun i=>ys.getD i V.aG).Perm ys:=NO V.aG (by rw[fh];exact hp)
  have QZ:Pm kvs.length pa:=by rw[<-jg,fh];exact hp
  have pk:(pa.toList.map fun i=>kvs.getD i (("", V.aG):Str×V)).Perm kvs:=NO _ QZ
  have pp:i5 H (pa.toList.map fun i=>ys.getD i V.aG) (pa.toList.map fun i=>kvs.getD i ("", V.aG)):=Lg fun i hi=>W6 pr V.aG ("", V.aG) i (by have:=Bj i hi;omega)
  have ek:(pa.toList.map fun i=>kvs.getD i ("", V.aG)).map (·.1)=pa.toList.map fun i=>(kvs.map (·.1)).getD i ("" : Str):=by
   rw[my]
   refine Ce fun i hi=>?_
   have:i < kvs.length:=by have:=Bj i hi;omega
   show(kvs.getD i ("", V.aG)).1=_
   rw[jM,jM,gX,br this];rfl
  have rel:Vals (pa.toList.map fun i=>ys.getD i V.aG) (pa.toList.map fun i=>its.getD i Value.none):=LN (fun i=>by
   by_cases hi:i < ys.length
   ·obtain⟨u,hu,ru⟩:=rv.get (show ys[i]? = some ys[i] from br hi)
    rw[jM,jM,hu,br hi];exact ru
   ·rw[jM,jM,U6 (by omega),U6 (by omega)];trivial) pa.toList
  obtain⟨hn,I'⟩:=Inv.sorted (t':=s.toks) I hm jB k hD new rel (by rw[py.length_eq];exact hz)
  refine⟨.ref D,_,I',rfl,q D _ _ hn py pp pk ?_⟩
  rw[ek,List.pairwise_map];exact HA
 have acb:∀v∈its,∃a k t z,v=Value.ref a/\IsTup s.heap a #[.str k t,.ref z]/\a≠X.env.locals:=fun v hv=>by
  obtain⟨i,hi,rfl⟩:=Kl hv
  obtain⟨k,a,z,t,_,h2,h3,h4⟩:=at_ i hi
  rw[br hi]at h2
  exact⟨a,k,t,z,ie h2,h4,fun e=>by rw[e,I.free]at h3;cases h3⟩
 by_cases h2:its.length < 2
 ·refine VC pl.isList h2 fun D c h' kp hD new=>?_
  obtain⟨o,es,ep,ho,rr⟩:=id hm
  refine fin h' D c (List.range its.length).toArray (fun b o _ e=>kp b o e) ⟨o,es,ep,kp _ _ ho,rr⟩ hD (qF _) ?_ ?_
  ·show(List.range its.length).Pairwise _
   have:its.length=0\/its.length=1:=by omega
   rcases this with z | z <;> rw[z]
   ·exact List.Pairwise.nil
   ·exact amw _ _
  ·have:(List.range its.length).map (fun i=>its.getD i Value.none)=its:=by
    apply UW
    ·simp
    ·intro i h1 h2;simp[List.getD,h2]
   show h'.get? D=some (listOf ((List.range its.length).map fun i=>its.getD i Value.none).toArray c)
   rw[this];exact new
 ·have h2:2<=its.length:=by omega
  obtain⟨g0,hg0,Bo⟩:∃g0:Heap,g0.objs.size=0 /\ ∀b,g0.get? b=none:=⟨{ s.heap with objs:= #[] },rfl,fun b=>B3 (bY _)⟩
  have F:Fr g0 X.env.locals s.heap m:=⟨hm,fun b o e=>(by rw[Bo]at e;cases e),by rw[hg0];exact bY _⟩
  refine kat_sorted F (Xp (g:=g0) (L:=X.env.locals)) pl.isList h2 (by omega) fun D e1 h' F' N' lt'=>?_
  have kp:∀b o,b≠X.env.locals->s.heap.get? b=some o->h'.get? b=some o:=fun b o n e=>(N' (b,o) (bX _ (Cn n (Bo b) e))).1
  have tk:∀ {a:Addr}{k:Str}{t:Tok}{z:Addr},a≠X.env.locals->IsTup s.heap a #[.str k t,.ref z]->IsTup h' a #[.str k t,.ref z]:=fun n ⟨o,ho,r⟩=>⟨o,kp _ o n ho,r⟩
  obtain⟨fs,hf1,xN,lX⟩:=M8 (h:=h') (vs:=its) fun v hv=>by
   obtain⟨a,k,t,z,e,h4,n⟩:=acb v hv
   exact⟨a,k,t,z,e,tk n h4⟩
  refine kat_kind (T:= .type "str") xN (by omega) (fun f hf=>?_) (by decide) ?_
  ·obtain⟨k,t,rfl⟩:=lX f hf
   exact Looks.of_pure rfl
  ·have hD:∀b o,s.heap.get? b=some o->b≠D:=fun b o e=>by
    by_cases hb:b=X.env.locals
    ·rw[hb];exact aT (N' _ aZ).2.1
    ·exact cu (lt' (b,o) (Cn hb (Bo b) e))
   refine(XW O h2).wp (fun i j C hi hj hC=>?_) fun pa hp=>?_
   ·obtain⟨k,a,z,t,g1,g2,g3,g4⟩:=at_ i hi
    obtain⟨k',a',z',t',Q0,HB,Bp,g4'⟩:=at_ j hj
    unfold kas_ask
    rw[jM,jM,g2,HB]
    have el:lt i j=eT k k':=by show eT ((kvs.map (·.1)).getD i "") ((kvs.map (·.1)).getD j "")=_;rw[jM,jM,g1,Q0];rfl
    rw[el]at hC
    refine W5 (tk (fun e=>by rw[e,I.free]at g3;cases g3) g4) (tk (fun e=>by rw[e,I.free]at Bp;cases Bp) g4') (fun e=>?_) hC
    subst e
    have jh:i=j:=(List.getElem?_inj (by rw[ar];omega) nd).mp (g1.trans Q0.symm)
    subst jh
    rw[g2]at HB;cases HB
    rw[g3]at Bp;cases Bp;rfl
   ·refine KasFin.intro F' N' (UpdF.head fun p hp=>?_) fun jd c F'' Q3=>?_
    ·have:=KG hp
     exact hD p.1 p.2 this.2.2
    ·exact fin jd D c pa (fun b o n e=>(Q3 (b,o) (bX _ (Cn n (Bo b) e))).1) F''.ns hD hp.1 (ZJ hp.1.size hp.2) (Q3 _ aZ).1
end
end L2
namespace HS
open PySem PySem.Spec PyProof.Rows PySem.W
end HS
namespace L2
open PySem PySem.Spec PyProof.Rows PySem.W HS
section
variable {X : Cx}
theorem W7:cE X (compareOp .IsNot) (fun x y H Q=>∃a b,x = .bl a/\y = .bl b/\Q (.bl (a != b)) H):=by
 intro pins s σ H x y v u Q I rx ry h
 obtain⟨a,b,rfl,rfl,q⟩:=h
 cases rx;cases ry
 exact isnot_bool (cP I q rfl)
theorem aaG {ss:List Str} (h:ss.Pairwise fun a b=>eT a b=true):ss.Pairwise rY:=h.imp fun {a b} z=>by
 have:a.cps.toList < b.cps.toList:=iG z
 exact List.le_of_lt this
theorem Ab {ss:List Str} (h:ss.Pairwise fun a b=>eT a b=true):ss.Nodup:=h.imp fun {a b} z e=>by
 subst e;rw[Mw]at z;cases z
theorem VI {a b:List Str} (ha:sortedS a=true) (hb:b.Pairwise fun x y=>eT x y=true) (p:a.Perm b):a=b:=List.Perm.eq_of_pairwise (fun _ _ _ _ h1 h2=>C1 h1 h2) (Lf ha) (aaG hb) p
end
end L2
namespace L2
open PySem PySem.Spec PyProof.Rows PySem.W
mutual
inductive Dt (p:Addr) (H:Hp):V->PyData->Prop where
 | aG:Dt p H .aG .none
 | bl (b:Bool):Dt p H (.bl b) (.bool b)
 | int (i:Int):Dt p H (.int i) (.int i)
 | str (x:Str):Dt p H (.str x) (.str x)
 | lst {a:Addr}{xs:List V}{ds:List PyData}:a≠p->H a=some (.lst xs)->bp p H xs ds->Dt p H (.ref a) (.list ds)
 | tup {a:Addr}{xs:List V}{ds:List PyData}:a≠p->H a=some (.tup xs)->bp p H xs ds->Dt p H (.ref a) (.tuple ds)
 | jE {a:Addr}:a≠p->H a=some (.dK [])->Dt p H (.ref a) (.dict [])
inductive bp (p:Addr) (H:Hp):List V->List PyData->Prop where
 | nil:bp p H [] []
 | cons {x:V}{d:PyData}{xs:List V}{ds:List PyData}:Dt p H x d->bp p H xs ds->bp p H (x::xs) (d::ds)
end
section
variable {p : Addr} {H H' : Hp}
mutual
theorem Dt.keep (k:∀b o,H b=some o->b≠p->H' b=some o):∀ {v:V}{d:PyData},Dt p H v d->Dt p H' v d
 | _,_,.aG=>.aG
 | _,_,.bl b=>.bl b
 | _,_,.int i=>.int i
 | _,_,.str x=>.str x
 | _,_,.lst n e rs=>.lst n (k _ _ e n) (bp.keep k rs)
 | _,_,.tup n e rs=>.tup n (k _ _ e n) (bp.keep k rs)
 | _,_,.jE n e=>.jE n (k _ _ e n)
theorem bp.keep (k:∀b o,H b=some o->b≠p->H' b=some o):∀ {vs:List V}{ds:List PyData},bp p H vs ds->bp p H' vs ds
 | _,_,.nil=>.nil
 | _,_,.cons r rs=>.cons (Dt.keep k r) (bp.keep k rs)
end
theorem bp.length:∀ {vs:List V}{ds:List PyData},bp p H vs ds->vs.length=ds.length
 | _,_,.nil=>rfl
 | _,_,.cons _ rs=>by rw[dc,dc,bp.length rs]
theorem bp.get:∀ {vs:List V}{ds:List PyData},bp p H vs ds -> ∀ {i:Nat}{d:PyData},ds[i]? = some d -> ∃v,vs[i]? = some v/\Dt p H v d
 | _,_,.nil,i,v,h=>by cases h
 | _,_,.cons r rs,0,v,h=>by cases h;exact⟨_,rfl,r⟩
 | _,_,.cons r rs,i+1,v,h=>bp.get rs (by simpa using h)
theorem bp.app:∀ {vs ws:List V}{ds es:List PyData},bp p H vs ds->bp p H ws es->bp p H (vs++ws) (ds++es)
 | _,_,_,_,.nil,r=>r
 | _,_,_,_,.cons a as,r=>.cons a (bp.app as r)
theorem bp.take:∀ {vs:List V}{ds:List PyData} (n:Nat),bp p H vs ds->bp p H (vs.take n) (ds.take n)
 | _,_,0,_=>.nil
 | _,_,_+1,.nil=>.nil
 | _,_,n+1,.cons a as=>.cons a (bp.take n as)
theorem bp.drop:∀ {vs:List V}{ds:List PyData} (n:Nat),bp p H vs ds->bp p H (vs.drop n) (ds.drop n)
 | _,_,0,r=>r
 | _,_,_+1,.nil=>.nil
 | _,_,n+1,.cons _ as=>bp.drop n as
end
def p9:PyData->String
 | .none => "NoneType"
 | .bool _ => "bool"
 | .int _ => "int"
 | .str _ => "str"
 | .list _ => "list"
 | .tuple _ => "tuple"
 | .dict _ => "dict"
def gb (T:String) (d:PyData):Bool:=p9 d==T || (p9 d == "bool" && T == "int")
theorem Dt.ty {p:Addr}{H:Hp}{K:Frag}{v:V}{d:PyData} (r:Dt p H v d):i7 K H v (.type (p9 d)):=by
 cases r with
 | aG=>exact .aG
 | bl b=>exact .bl b
 | int i=>exact .int i
 | str x=>exact .str x
 | lst n e _=>exact .lst e
 | tup n e _=>exact .tup e
 | jE n e=>exact .dK e
theorem XX (K:Frag) (d:PyData):kitOne K (.type (p9 d)) (.type "bool")=some (gb "bool" d):=by cases d <;> rfl
theorem Nc (K:Frag) (d:PyData):kitOne K (.type (p9 d)) (.type "str")=some (gb "str" d):=by cases d <;> rfl
theorem kit_tuple (K:Frag) (d:PyData):kitOne K (.type (p9 d)) (.type "tuple")=some (gb "tuple" d):=by cases d <;> rfl
theorem nh {T:String}{p:Addr}{H:Hp}{K:Frag}{v:V}{d:PyData}{Q:VK} (kt:∀ (K:Frag) (d:PyData),kitOne K (.type (p9 d)) (.type T)=some (gb T d)) (r:Dt p H v d) (q:Q (.bl (gb T d)) H) :
  (∃x,(∃C,[v,V.ty T] = [x,.ref C])\/(∃T',[v,V.ty T] = [x,.ty T']))/\OT K [v,.ty T] H Q:=⟨⟨v,.inr ⟨T,rfl⟩⟩,v,.ty T,.type (p9 d),.type T,_,rfl,rfl,.inl r.ty,kt K d,q⟩
end L2
namespace HT
open PySem PyProof.Rows
section
open PySem.SeqAt
open PySem.AutoSeq1 (wpAny_loadPart')
open PySem.MeetsSeq PySem.MeetsSeq2 PySem.MeetsSeq3
variable {A : Around} {s : Shared}
end
end HT
namespace L2
open PySem PySem.Spec PyProof.Rows PySem.W HT
section
variable {X : Cx}
def aaH:R2:=fun x y H Q=>∃a b xs,x = .ref a/\y = .ref b/\H a=some (.tup xs)/\H b=some (.tup [])/\Q (.bl xs.isEmpty) H
theorem YR (hu:X.A.units+64 < cLine):cE X (compareOp .Eq) aaH:=by
 intro pins s σ H x y v u Q I rx ry h
 obtain⟨a,b,xs,rfl,rfl,ha,hb,q⟩:=h
 cases rx;cases ry
 obtain⟨its,rv,pl,_⟩:=I.tuple (aB.of ha)
 obtain⟨lR,l5,uZ,_⟩:=I.tuple (aB.of hb)
 cases l5
 refine SeqAt.eq_tupleAt (e:=fun _=>true) pl uZ (by omega) (fun j h1 h2=>absurd h2 (by simp)) ⟨.bl _,H,I,rfl,?_⟩
 have e:its.length=xs.length:=rv.length.symm
 rw[show((List.range (min its.toArray.size ([]:List Value).toArray.size)).all (fun _=>true) && its.toArray.size==([]:List Value).toArray.size)=xs.isEmpty from by
  cases xs with
  | nil=>simp only[vv,U7]at e;subst e;rfl
  | cons x xs =>
   cases its with
   | nil=>cases e
   | cons i its=>simp]
 exact q
end
end L2
namespace L2
open PySem PySem.Spec PyProof.Rows PySem.W HT
section
variable {X : Cx} {pins : List (Addr × Obj)} {σ : St} {H : Hp} {s : Shared} {p : Addr}
mutual
theorem Dt.reads (I:Inv X pins σ H s):∀ {v:V}{d:PyData}{u:Value},Dt p H v d->RelV v u -> ∃as,Reads s.heap u d as
 | _,_,_,.aG,r=>by cases r;exact⟨_,.none⟩
 | _,_,_,.bl b,r=>by cases r;exact⟨_,.bool b⟩
 | _,_,_,.int i,r=>by obtain⟨t,rfl⟩:=r;exact⟨_,.int i t⟩
 | _,_,_,.str x,r=>by obtain⟨t,rfl⟩:=r;exact⟨_,.str x t⟩
 | _,_,_,.lst (a:=a) (xs:=xs) _ e rs,r=>by
  cases r
  obtain⟨_,its,n,rv,at_⟩:=(show bH X.prog X.w H s.heap a (.lst xs) from I.aA a _ e)
  obtain⟨as,ra⟩:=bp.reads I rs rv
  exact⟨_,.list at_ rfl rfl ra⟩
 | _,_,_,.tup (a:=a) (xs:=xs) _ e rs,r=>by
  cases r
  obtain⟨_,its,rv,ob,at_,hc,n,hd,_⟩:=(show bH X.prog X.w H s.heap a (.tup xs) from I.aA a _ e)
  obtain⟨as,ra⟩:=bp.reads I rs rv
  exact⟨_,.tuple at_ hc hd ra⟩
 | _,_,_,.jE (a:=a) _ e,r=>by
  cases r
  obtain⟨_,_,vs,kv,o,es,ep,g1,g2,g3,_,g4,_⟩:=(show bH X.prog X.w H s.heap a (.dK []) from I.aA a _ e)
  cases kv
  have e0:es.toList = []:=by cases h:es.toList with
   | nil=>rfl
   | cons a b=>rw[h]at g4;cases g4
  exact⟨_,.dict (kvs:= []) g1 g2.1 g3 (by rw[e0];exact .nil) (by rw[e0];exact .nil)⟩
theorem bp.reads (I:Inv X pins σ H s):∀ {vs:List V}{ds:List PyData}{us:List Value},bp p H vs ds->Vals vs us -> ∃as,ReadsAll s.heap us ds as
 | _,_,_,.nil,r=>by cases r;exact⟨_,.nil⟩
 | _,_,_,.cons r rs,rv=>by
  cases rv with
  | cons q qs =>
   obtain⟨as,h1⟩:=Dt.reads I r q
   obtain⟨bs,h2⟩:=bp.reads I rs qs
   exact⟨_,.cons h1 h2⟩
end
mutual
theorem Dt.wB (I:Inv X pins σ H s):∀ {v:V}{d:PyData}{u:Value},Dt p H v d->RelV v u->d.showable=true->d.shown.length<=sizeLine -> ∃bs,ReadAtMost s.heap d.depth bs/\ReprK X.prog X.w bs s.heap d.depth u d.shown
 | _,_,_,.aG,r,_,_=>by cases r;exact⟨[],(fun _ h=>nomatch h),by simp only[PyData.shown];exact .of_is ReprIs.none _ _ _⟩
 | _,_,_,.bl b,r,_,_=>by cases r;exact⟨[],(fun _ h=>nomatch h),by simp only[PyData.shown];exact .of_is (ReprIs.bool b) _ _ _⟩
 | _,_,_,.int i,r,hs,_=>by obtain⟨t,rfl⟩:=r;exact⟨[],(fun _ h=>nomatch h),by simp only[PyData.shown];exact .of_is (ReprIs.int t (by simpa [PyData.showable] using hs)) _ _ _⟩
 | _,_,_,.str x,r,_,hz=>by obtain⟨t,rfl⟩:=r;exact⟨[],(fun _ h=>nomatch h),by simp only[PyData.shown];exact .of_is (ReprIs.str x t (by simpa only [PyData.shown] using hz)) _ _ _⟩
 | _,_,_,.lst (a:=a) (xs:=xs) (ds:=ds) n e rs,r,hs,hz=>by
  cases r
  obtain⟨_,its,n',rv,h1⟩:=(show bH X.prog X.w H s.heap a (.lst xs) from I.aA a _ e)
  have Bq:(listText (PyData.shownAll ds)).length<=sizeLine:=by simpa only [PyData.shown] using hz
  obtain⟨bs,hb,hk⟩:=bp.wB I rs rv (by simpa [PyData.showable] using hs) (fun t ht=>c9 (listText_mem_le ht) Bq)
  obtain⟨as,ra⟩:=bp.reads I rs rv
  have r:Reads s.heap (.ref a) (.list ds) _:= .list h1 rfl rfl ra
  have HC:a ∉ bs:=not_mem_of_deeper r (by simp only[PyData.depth];omega) hb
  refine⟨a::bs,U8 r (by simp only[PyData.depth];omega) hb,?_⟩
  simp only[PyData.depth,PyData.shown]
  cases its with
  | nil =>
   cases ra
   simp only[PyData.shownAll,listText_nil]
   exact ReprK.listEmpty h1 rfl rfl
  | cons x l=>exact ReprK.list h1 rfl rfl HC (by simpa using hk.length_eq) (fun i y e=>hk.item i y (by simpa using e))
 | _,_,_,.tup (a:=a) (xs:=xs) (ds:=ds) n e rs,r,hs,hz=>by
  cases r
  obtain⟨_,its,rv,ob,h1,h2,n',h3,_⟩:=(show bH X.prog X.w H s.heap a (.tup xs) from I.aA a _ e)
  have Bq:(tupleText (PyData.shownAll ds)).length<=sizeLine:=by simpa only [PyData.shown] using hz
  obtain⟨bs,hb,hk⟩:=bp.wB I rs rv (by simpa [PyData.showable] using hs) (fun t ht=>c9 (tupleText_mem_le ht) Bq)
  obtain⟨as,ra⟩:=bp.reads I rs rv
  have r:Reads s.heap (.ref a) (.tuple ds) _:= .tuple h1 h2 h3 ra
  have HC:a ∉ bs:=not_mem_of_deeper r (by simp only[PyData.depth];omega) hb
  refine⟨a::bs,U8 r (by simp only[PyData.depth];omega) hb,?_⟩
  simp only[PyData.depth,PyData.shown]
  exact ReprK.tuple h1 h2 h3 HC hk
 | _,_,_,.jE (a:=a) n e,r,hs,hz=>by
  cases r
  obtain⟨as,rd⟩:=Dt.reads I (.jE n e) (rfl:RelV (.ref a) (.ref a))
  obtain⟨_,ns,vs,kv,o,es,ep,g1,g2,g3,_,g4,_⟩:=(show bH X.prog X.w H s.heap a (.dK []) from I.aA a _ e)
  cases kv
  have e0:es.toList = []:=by cases h:es.toList with
   | nil=>rfl
   | cons a b=>rw[h]at g4;cases g4
  refine⟨a :: [],U8 rd (bY _) (fun _ h=>nomatch h),?_⟩
  exact ReprK.dict (as:= []) (d:=0) (ps:= []) g1 g2.1 g3 ns (by simp) (by rw[e0];exact .nil)
theorem bp.wB (I:Inv X pins σ H s):∀ {vs:List V}{ds:List PyData}{us:List Value},bp p H vs ds->Vals vs us->PyData.showableAll ds=true->(∀t∈PyData.shownAll ds,t.length<=sizeLine) ->
  ∃bs,ReadAtMost s.heap (PyData.depthAll ds) bs/\ReprAllK X.prog X.w bs s.heap (PyData.depthAll ds) us (PyData.shownAll ds)
 | _,_,_,.nil,r,_,_=>by cases r;exact⟨[],(fun _ h=>nomatch h),by simp only[PyData.shownAll];exact .nil⟩
 | _,_,_,.cons (d:=d) (ds:=ds) r rs,rv,hs,hz=>by
  cases rv with
  | cons q qs =>
   have lY:d.showable=true/\PyData.showableAll ds=true:=by simpa [PyData.showableAll] using hs
   obtain⟨b1,fb,k1⟩:=Dt.wB I r q lY.1 (hz _ (by simp only[PyData.shownAll];exact aZ ..))
   obtain⟨b2,pV,k2⟩:=bp.wB I rs qs lY.2 (fun t ht=>hz t (by simp only[PyData.shownAll];exact bX _ ht))
   refine⟨b1++b2,?_,?_⟩
   ·simp only[PyData.depthAll]
    exact(fb.mono (Nat.le_max_left _ _)).append (pV.mono (Nat.le_max_right _ _))
   ·simp only[PyData.depthAll,PyData.shownAll]
    exact .cons ((k1.more fun b hb=>oB _ hb).level_le (Nat.le_max_left _ _)) (k2.more_le (fun b hb=>gW _ hb) (Nat.le_max_right _ _))
end
end
end L2
namespace L2
open PySem PySem.Spec PyProof.Rows PySem.W HT
end L2
namespace L2
open PySem PySem.Spec PyProof.Rows PySem.W HT
section
variable {X : Cx}
theorem Wv (hc:X.calm=true):eO X (.type "dict") (fun xs H Q=>∃t vs kvs,xs = [.ref t]/\H t=some (.tup vs)/\i5 H vs kvs/\(kvs.map (·.1)).Nodup /\ ∀d,H d=none->Q (.ref d) (upd H d (.dK (nc kvs)))):=by
 intro pins s σ H xs us Q I r h
 obtain⟨t,vs,kvs,rfl,ht,pr,nd,q⟩:=h
 obtain⟨u,rfl,ru⟩:=vals1 r
 cases ru
 obtain⟨hz,its,rv,⟨cl,dd,dt,sl⟩,ho,iD,n,Ho,nY⟩:=(show bH X.prog X.w H s.heap t (.tup vs) from I.aA t _ ht)
 obtain rfl:cl = .type "tuple" :=iD
 obtain rfl:dd=none:=nY
 obtain rfl:dt = .seq its.toArray n:=Ho
 have jg:vs.length=kvs.length:=jL pr
 have fh:=rv.length
 have pairs:∀ (i:Nat) p,kvs[i]? = some p -> ∃a x y,its.toArray[i]? = some (.ref a)/\IsTup s.heap a #[x,y]/\RelV (.str p.1) x/\RelV p.2 y:=by
  intro i p hp
  have hi:i < vs.length:=by rw[jg];exact(cq.mp hp).1
  obtain⟨p',hZ,a,ey,ha⟩:=gm pr (show vs[i]? = some vs[i] from br hi)
  rw[hp]at hZ;cases hZ
  obtain⟨u,hu,ru⟩:=rv.get (show vs[i]? = some (V.ref a) by rw[br hi,ey])
  cases ru
  obtain⟨i2,r2,t2,_⟩:=I.tuple (aB.of ha)
  obtain⟨x,y,rfl,rx,ry⟩:=r2.two
  exact⟨a,x,y,by simpa using hu,t2,rx,ry⟩
 have ch:∀i:Fin kvs.length,∃y,∃a x,its.toArray[i.1]? = some (.ref a)/\IsTup s.heap a #[x,y]/\RelV (.str kvs[i].1) x/\RelV kvs[i].2 y:=fun i=>by
  obtain⟨a,x,y,h1,h2,h3,h4⟩:=pairs i.1 kvs[i] (br i.2)
  exact⟨y,a,x,h1,h2,h3,h4⟩
 obtain⟨ys,hyl,Q4⟩:∃ys:List Value,ys.length=kvs.length /\ ∀ (i:Nat) (hi:i < kvs.length),∃y,ys[i]? = some y /\ ∃a x,its.toArray[i]? = some (.ref a)/\IsTup s.heap a #[x,y]/\RelV (.str kvs[i].1) x/\RelV kvs[i].2 y:=
  ⟨List.ofFn fun i=>Classical.choose (ch i),List.length_ofFn,fun i hi=>⟨Classical.choose (ch ⟨i,hi⟩),by simp[List.getElem?_ofFn,hi],U9 (ch ⟨i,hi⟩)⟩⟩
 have kps:((kvs.map fun p=>(Sum.inr p.1:Key)).zip ys).map (·.1)=kvs.map fun p=>(Sum.inr p.1:Key):=by
  rw[List.map_fst_zip];rw[ar];omega
 have Q5:((kvs.map fun p=>(Sum.inr p.1:Key)).zip ys).length=kvs.length:=by rw[List.length_zip,ar];omega
 have inj:(kvs.map fun p=>(Sum.inr p.1:Key)).Nodup:=by
  have:(kvs.map fun p=>(Sum.inr p.1:Key))=(kvs.map (·.1)).map Sum.inr:=by rw[my];rfl
  rw[this,U',List.pairwise_map]
  exact(U'.mp nd).imp fun h z=>h (sk z)
 refine Vt (I.ok.hd hc) ((kvs.map fun p=>(Sum.inr p.1:Key)).zip ys) (by rw[kps];exact inj) (by rw[Q5];omega) (by rw[cJ,Q5];omega) ho (fun i p hp=>?_) fun d h' tk dl dd kp=>?_
 ·obtain⟨h1,h2⟩:=List.getElem?_zip_eq_some.mp hp
  rw[gX]at h1
  obtain⟨kv,hk,ek⟩:=iF.mp h1
  obtain⟨hi,rfl⟩:=cq.mp hk
  obtain⟨y,hy,a,x,g1,g2,g3,g4⟩:=Q4 i hi
  rw[hy]at h2
  cases h2
  exact⟨a,x,g1,g2,by rw[<-ek];exact qV (k:=Sum.inr kvs[i].1) g3⟩
 ·have big:=I.big
  refine⟨.ref d,_,I.laid (a:=d) (o:= .dK (nc kvs)) (t':=tk) kp dl (NK (by unfold nc;rw[ar];omega) (oz.mpr (aT (cu (ig big dl)))) ?_ dd),rfl,q d (I.aA.fresh dl)⟩
  exact M7 kvs ys hyl fun i hi=>by
   obtain⟨y,hy,a,x,_,_,_,g4⟩:=Q4 i hi
   exact⟨y,hy,g4⟩
end
end L2
namespace HT
open PySem PyProof.Rows PySem.W
open PySem.AutoSeq1 (wpAny_loadPart')
end HT
namespace L2
open PySem PySem.Spec PyProof.Rows PySem.W HT
end L2
namespace L2
open PySem PySem.Spec PyProof.Rows PySem.W
def exE (K:Frag) (B:Addr) (th:Addr->TS) (D:Ends):St->XK:=fun aK cls oa H2=>(∃C,cls = .ref C/\mroIn K C (.ref B)=some true) /\ ∃a,oa=some a/\th a D aK H2
section
variable {X : Cx} {C : Addr} {cn : Str} {p5 p6 p7 : Pos} {b0 b1 : Stmt} {body DO : List Stmt} {th : Addr -> TS} {tb : Ends -> TS} {ci : Option Value}
theorem YS (hb:∀pins D,gH (X.kW pins (exE X.K C th D)) (b1::body) (tb D))
  (h0:X.xe=fun _ _=>False) (hc:X.calm=true) (hs:X.stack=X.env::X.outer) (hf:X.env.frame=some X.env.locals)
  (gc:Gl X cn) (mc:X.mg cn=some (.ref C)) (qc:gq X.K C ci=true) (hh:∀a,gH (X.g5 a) (b0::DO) (th a)) (Hi:(cn==("__debug__" : Str))=false:=by decide) :
  PS X (.Try (b1::body) [.ExceptHandler (some (.Name cn p5)) none (b0::DO) p6] [] [] p7) (NM tb):=by
 intro pins s σ H D I h
 refine wpAny_Try_except ?_
 refine lF (hb pins D [] s σ H D I.kW h) (fun fl s1 z=>?_) fun ev s2 z=>?_
 ·have z':=SP.pG I.ok z
  cases fl with
  | next=>exact yD z'
  | brk=>exact z'
  | cont=>exact z'
  | ret u=>exact z'
 ·obtain⟨aK,H0,s1,I1,a,nn,C',a0,dx,H',B,rfl,os,bare,rS,⟨ox,kg,hd,hz⟩,xF,na,new,⟨C2,eC,me⟩,a',ea,xI⟩:=z
  cases ea
  cases eC
  rw[hs]at rS
  refine jO zG (wpAny_looks_onW (Q:=fun _ s'=>∃h',s'={ s2 with heap:=h' }/\Heap.HeldW B (X.env::X.outer) a (.ref C') a0 X.env.locals h'/\s2.heap.UpToSlots h') (by rw[<-hs];exact I1.ok.frames) hf rS fun h3 held rV=>⟨h3,rfl,held,rV⟩) fun _ s3 ⟨h3,e3,held,rV⟩ Hj=>?_
  subst e3
  refine jO qH (wpAny_landsW (Q:=fun _ s'=>∃h',s'={ s2 with heap:=h' }/\Heap.FlyingW B (X.env::X.outer) a (.ref C') a0 h'/\h3.UpToSlots h') held fun h4 lh jD=>⟨h4,rfl,lh,jD⟩) fun _ s4 ⟨h4,e4,lh,jD⟩ Hk=>?_
  subst e4
  have up:s2.heap.UpToSlots h4:=yL rV jD
  have rd:RD s2.heap h4:=Hj.trans Hk
  have lay:∀h5,Heap.FlyingW B (X.env::X.outer) a (.ref C') a0 h5->s2.heap.UpToSlots h5->RD s2.heap h5->Inv X pins aK (upd H' a (gu nn C' dx a)) { s2 with heap:=h5 }:=fun h5 f5 u5 r5=>by
   obtain⟨u,ok⟩:=xF h5 f5.1 u5
   obtain⟨o5,e5,_⟩:=f5.there
   exact I1.zR (s':={ s2 with heap:=h5 }) os (u.add na new) (M6 ok na (M0 f5 ⟨o5,e5,(r5.dict kg e5).1.trans hd,fun y=>(r5.dict kg e5).2.trans (hz y)⟩)) bare (fun b z=>absurd z (by simp))
  have J:=lay h4 lh up rd
  obtain⟨o4,jf,kh⟩:=lh.there
  refine wpAny_handleBy_cons (codeAny_handlers_test ?_) (by intro z;cases z)
  refine oU (J.g5 a) gc mc ?_ Hi
  refine KP (K:=X.K) J.bU qc me jf kh ?_
  refine codeAny_handlers_suite ?_
  refine jO qH (lands_againW (Q:=fun _ s'=>∃h',s'={ s2 with heap:=h' }/\Heap.FlyingW B (X.env::X.outer) a (.ref C') a0 h'/\h4.UpToSlots h') lh fun h5 rm rW=>⟨h5,rfl,rm,rW⟩) fun _ s5 ⟨h5,e5,rm,rW⟩ Hl=>?_
  subst e5
  have J5:=lay h5 rm (yL up rW) (rd.trans Hl)
  refine UC (aJ (hh a pins _ _ _ D (J5.g5 a) xI) fun fl s7 z=>?_)
  exact SP.uncaught J5.ok z
end
end L2
namespace L2
open PySem PySem.Spec PyProof.Rows PySem.W HT
section
variable {X : Cx}
theorem W8:eO X (.builtin "len") (fun xs H Q=>∃a kvs,xs = [.ref a]/\H a=some (.dK kvs)/\Q (.int kvs.length) H):=by
 intro pins s σ H xs us Q I r h
 obtain⟨a,kvs,rfl,e,q⟩:=h
 obtain⟨u,rfl,ru⟩:=vals1 r
 cases ru
 exact aaw I (.inl e) fun t s' I'=>⟨.int _,H,I',⟨_,rfl⟩,q⟩
theorem NP:AU X "dict.get" (fun x xs H Q=>∃a kvs k,x = .ref a/\xs = [kV k]/\H a=some (.dK kvs)/\Q ((cf kvs k).getD .aG) H):=by
 intro pins s σ H x xs v us Q I rx r h
 obtain⟨a,kvs,k,rfl,rfl,e,q⟩:=h
 cases rx
 obtain⟨u,rfl,ru⟩:=vals1 r
 obtain⟨z,hd,vs,rel,dd⟩:=DL I.aA e
 refine call_meetsIn Va dd.typeIs PySem.F.entry_dict_get (PySem.F.args_dict_get_2 _ _) (meets_dict_get (d7 X.prog X.w) a (qV ru) hd) ⟨_,dd.mapOf,?_⟩
 have rv:=rel.val k
 cases hv:cf kvs k with
 | none =>
  rw[hv]at q rv
  have:valueAt vs k=none:=fY.none_of rv
  rw[this]
  exact⟨.aG,H,I.tok _,rfl,q⟩
 | some y =>
  rw[hv]at q rv
  obtain⟨w',hw,eG⟩:=fY.some_of rv
  rw[hw]
  exact⟨y,H,I.tok _,eG,q⟩
end
end L2
namespace L2
open PySem PySem.W
end L2
namespace L2
open PySem PySem.W PySem.Calls PyProof.Rows
end L2
namespace L2
open PySem PySem.W PySem.Calls PyProof.Rows HS
end L2
namespace HS
open PySem PySem.Spec PyProof.Rows PySem.W
end HS
namespace L2
open PySem PySem.Spec PyProof.Rows PySem.W HS
end L2
namespace L2
open PySem PySem.W PySem.Spec PyProof.Rows
section
variable {X : Cx}
theorem Nd (K:Frag) (hK:X.K=K) {o e:Expr}{es:List Expr}{to:TE}{t:TA}{name:Str}{apos ju:Pos}{T id:String}{r:V->List V->Hp->VK->Prop} (pa:PlainAttrs T) (slot:Slot T name id) (G2:typeOf (.builtin id)=pure (.type "method_descriptor")) (hm:AU X id r) (ho:PE X o to) (ha:PA X (e::es) t)
  (DJ:attributeBase o name X.env (eval o X.env)=eval o X.env:=by rfl)
  (Ag:((backTo ju (starEach (e::es) X.env)).all (fun x=>!x.1) && (backToKw ju (keywordEach [] X.env)).all (fun x=>x.1.isSome) && decide ((e::es).length+([]:List Keyword).length+(if ([]:List Keyword).isEmpty then 0 else 1) < 30))=true:=by rfl)
  (DK:(apos.endLine==ju.line)=true:=by rfl) (hs:starEach (e::es) X.env=(false,eval e X.env)::starEach es X.env:=by rfl) (Dq:(backTo ju (starEach es X.env)).any (·.1)=false:=by rfl) :
  PE X (.Call (.Attribute o name apos) (e::es) [] ju) (QC K T r to t):=by subst hK;exact lL pa slot G2 hm ho ha DJ Ag DK hs Dq
end
end L2
namespace L2
open PySem PySem.W
end L2
namespace L2
open PySem PySem.W PySem.Spec PyProof.Rows
end L2
namespace L2
open PySem PySem.W PySem.Spec PyProof.Rows
end L2
namespace L2
open PySem PySem.Spec PyProof.Rows PySem.W HT
theorem y8 {h g:Heap}{it t:Addr}{i:Nat} (x:h.IsListIter it t i) (k:∀o,h.get? it=some o->g.get? it=some o):g.IsListIter it t i:=let ⟨o,e,r⟩:=x;⟨o,k o e,r⟩
def Ed (K:Frag) (l1 l2:Addr):It:=
  ⟨fun i H=>∃xs ys x y,ai K H l1 xs/\ai K H l2 ys/\xs[i]? = some x/\ys[i]? = some y,
   fun i H v H'=>∃t x y,H t=none/\v = .ref t/\(∀xs,ai K H l1 xs->xs[i]? = some x)/\(∀ys,ai K H l2 ys->ys[i]? = some y)/\H'=upd H t (.tup [x,y]),
   fun i H=>∃xs ys,ai K H l1 xs/\ai K H l2 ys/\(xs.length<=i\/ys.length<=i)⟩
theorem W9 {P:Program}{w:World}{K:Frag}{elts:List Expr}{n1:Nat}{tp:Pos}{z TI TO i1 i2 l1 l2:Addr} (D:ZipApart z TI TO i1 i2 l1 l2) :
  Turn P w K (.Tuple elts n1 tp) (Ed K l1 l2) [z,TI,TO,i1,i2] z (fun i h=>IsZip h z TI TO .none/\IsPair h TI (.ref i1) (.ref i2)/\(∃a b,IsPair h TO a b)/\h.IsListIter i1 l1 i/\h.IsListIter i2 l2 i) where
 mem:=by simp
 obj:=fun i h st b hb=>by
  obtain⟨hz,n8,⟨a,b',qa⟩,⟨o1,e1,c1,d1⟩,⟨o2,e2,c2,d2⟩⟩:=st
  simp only[a9,kE,kG]at hb
  rcases hb with rfl | rfl | rfl | rfl | rfl
  ·exact⟨_,hz,fun v q=>by cases q⟩
  ·exact⟨_,n8,fun v q=>by cases q⟩
  ·exact⟨_,qa,fun v q=>by cases q⟩
  ·exact⟨o1,e1,fun v q=>by rw[d1]at q;cases q⟩
  ·exact⟨o2,e2,fun v q=>by rw[d2]at q;cases q⟩
 keep:=fun i h h' st k=>by
  obtain⟨hz,n8,⟨a,b,qa⟩,t1,t2⟩:=st
  exact⟨k z (by simp) _ hz,k TI (by simp) _ n8,⟨a,b,k TO (by simp) _ qa⟩,y8 t1 fun o e=>k i1 (by simp) o e,y8 t2 fun o e=>k i2 (by simp) o e⟩
 item:=by
  intro X hP hw hK hc i pins s σ H E I hf st hg
  subst hP hw hK
  obtain⟨xs,ys,x,y,l6,je,hx,hy⟩:=hg
  obtain⟨O3,Br,p1,_⟩:=I.list l6
  obtain⟨lR,l5,p2,_⟩:=I.list je
  obtain⟨u1,gA,HD⟩:=Br.get hx
  obtain⟨u2,hu2,HE⟩:=l5.get hy
  obtain⟨hz,n8,⟨a,b,qa⟩,t1,t2⟩:=st
  refine wpAny_pyNext_zip_item D hz n8 qa t1 t2 p1.isList p2.isList (by simpa using gA) (by simpa using hu2) fun g gz gTO gt1 gt2 gp _ kp=>⟨_,rfl,?_⟩
  refine wpAny_letOwnedTupleGo_zip (s:={ s with heap:=g }) gz fun jd z2 sb=>?_
  have lt:∀ {c:Addr}{o:Obj},s.heap.get? c=some o->c≠s.heap.objs.size:=fun e=>cu (bq e)
  have k2:∀c o,c≠z->c≠TO->c≠i1->c≠i2->s.heap.get? c=some o->jd.get? c=some o:=fun c o n0 n1 n2 n3 e=>(sb.2 c n0).trans (kp c o n0 n1 n2 n3 e)
  have hn:H s.heap.objs.size=none:=I.aA.fresh (aO _)
  have tz:s.heap.objs.size≠z:=aT (lt hz)
  have t3:jd.get? s.heap.objs.size=some { cls:= .type "tuple", data:= .seq #[u1,u2] }:=(sb.2 _ tz).trans gp
  have fz:=hf z (by simp)
  have fO:=hf TO (by simp)
  have f1:=hf i1 (by simp)
  have f2:=hf i2 (by simp)
  have iV:∀ {c:Addr}{o:HO},H c=some o->c≠z/\c≠TO/\c≠i1/\c≠i2:=fun q=>⟨fun n=>(by rw[n,fz.1]at q;cases q),fun n=>(by rw[n,fO.1]at q;cases q),fun n=>(by rw[n,f1.1]at q;cases q),fun n=>(by rw[n,f2.1]at q;cases q)⟩
  have gy:∀ {c:Addr},c ∉ [z,TO,i1,i2]->c≠z/\c≠TO/\c≠i1/\c≠i2:=fun hc=>by simpa using hc
  have J:Inv X pins σ (upd H s.heap.objs.size (.tup [x,y])) { s with heap:=jd }:=by
   refine I.step (g':=s.gens) (d':=s.drawn) (t':=s.toks) (ch:= [z,TO,i1,i2]) (fun c hc=>?_) (fun c o _ _ hc q _=>let ⟨n0,n1,n2,n3⟩:=gy hc;k2 c o n0 n1 n2 n3 q) (fun c o _ _ hc q _=>let ⟨n0,n1,n2,n3⟩:=gy hc;⟨o.slots,k2 c o n0 n1 n2 n3 q⟩)
    (fun c o _ q n=>by rw[aj (lt q)];exact n) (fun c o hc q=>let ⟨n0,n1,n2,n3⟩:=gy hc;⟨o,k2 c o n0 n1 n2 n3 q⟩) (fun c vs q=>by rw[aj (ax q hn)];exact q) (fun c o v q=>by rw[aj (ax q hn)];exact q)
    (fun c ps q=>⟨#[],by rw[aj (ax q hn),q];simp⟩) (fun m hm=>?_) (fun c o q=>?_) I.bare
   ·have ok:∀ {d:Addr},iR X pins H d->(d∈X.ex\/X.cQ.heap.objs.size<=d)/\d≠X.env.locals/\(∀x c,X.env.cells.lookup x=some c->c≠d) /\ ∀p∈X.pn++pins,p.1≠d:=fun f=>⟨f.2.2.2.1,f.2.1,f.2.2.2.2.1,f.2.2.2.2.2⟩
    simp only[a9,kE,kG]at hc
    rcases hc with rfl | rfl | rfl | rfl
    ·exact ok fz
    ·exact ok fO
    ·exact ok f1
    ·exact ok f2
   ·obtain⟨o,es,ep,ho,r⟩:=hm
    exact⟨o,es,ep,k2 _ o (aT fz.2.1) (aT fO.2.1) (aT f1.2.1) (aT f2.2.1) ho,r⟩
   ·by_cases hb:c=s.heap.objs.size
    ·subst hb
     rw[af]at q;cases q
     exact⟨by rw[ay];show 2<=_;decide,[u1,u2],.cons HD (.cons HE .nil),_,t3,rfl,_,rfl,rfl⟩
    ·rw[aj hb]at q
     refine(I.aA c o q).gF (fun d v hd e=>?_) (fun d e=>by rw[aj (ax e hn)];exact e) fun d vs e=>by rw[aj (ax e hn)];exact e
     rcases hd with hd | hd
     ·subst hd
      obtain⟨n0,n1,n2,n3⟩:=iV q
      exact k2 _ v n0 n1 n2 n3 e
     ·obtain⟨n0,n1,n2,n3⟩:=iV hd
      exact k2 d v n0 n1 n2 n3 e
  refine⟨.ref s.heap.objs.size,_,J,rfl,⟨s.heap.objs.size,x,y,hn,rfl,fun vs h=>by rw[I.zp h l6];exact hx,fun vs h=>by rw[I.zp h je];exact hy,rfl⟩,⟨z2,k2 _ _ D.TIz D.TITO D.TIi1 D.TIi2 n8,⟨u1,u2,sb.extBut _ _ D.TOz gTO⟩,y8 gt1 fun o e=>sb.extBut _ o D.i1z e,y8 gt2 fun o e=>sb.extBut _ o D.i2z e⟩,fun c hc=>?_⟩
  have:c≠s.heap.objs.size:=by
   simp only[a9,kE,kG]at hc
   rcases hc with rfl | rfl | rfl | rfl | rfl
   ·exact lt hz
   ·exact lt n8
   ·exact lt qa
   ·obtain⟨o,e,_⟩:=t1;exact lt e
   ·obtain⟨o,e,_⟩:=t2;exact lt e
  rw[aj this];exact(hf c hc).1
 done:=by
  intro X hP hw hK hc i pins s σ H E I hf st hg
  subst hP hw hK
  obtain⟨xs,ys,l6,je,acd⟩:=hg
  obtain⟨O3,Br,p1,_⟩:=I.list l6
  obtain⟨lR,l5,p2,_⟩:=I.list je
  have e1:=Br.length
  have e2:=l5.length
  obtain⟨hz,n8,⟨a,b,qa⟩,t1,t2⟩:=st
  have fz:=hf z (by simp)
  have fO:=hf TO (by simp)
  have f1:=hf i1 (by simp)
  have f2:=hf i2 (by simp)
  refine wpAny_pyNext_zip_end (I.ok.hd hc) D hz n8 qa t1 t2 p1.isList p2.isList (acd.imp (fun h=>by simp;omega) (fun h=>by simp;omega)) fun g kp=>⟨rfl,?_⟩
  have iV:∀ {c:Addr}{o:HO},H c=some o->c≠z/\c≠TO/\c≠i1/\c≠i2:=fun q=>⟨fun n=>(by rw[n,fz.1]at q;cases q),fun n=>(by rw[n,fO.1]at q;cases q),fun n=>(by rw[n,f1.1]at q;cases q),fun n=>(by rw[n,f2.1]at q;cases q)⟩
  have gy:∀ {c:Addr},c ∉ [z,TO,i1,i2]->c≠z/\c≠TO/\c≠i1/\c≠i2:=fun hc=>by simpa using hc
  refine I.step (g':=s.gens) (d':=s.drawn) (t':=s.toks) (ch:= [z,TO,i1,i2]) (fun c hc=>?_) (fun c o _ _ hc q _=>let ⟨n0,n1,n2,n3⟩:=gy hc;kp c o n0 n1 n2 n3 q) (fun c o _ _ hc q _=>let ⟨n0,n1,n2,n3⟩:=gy hc;⟨o.slots,kp c o n0 n1 n2 n3 q⟩)
   (fun c o _ q n=>n) (fun c o hc q=>let ⟨n0,n1,n2,n3⟩:=gy hc;⟨o,kp c o n0 n1 n2 n3 q⟩) (fun c vs q=>q) (fun c o v q=>q) (fun c ps q=>⟨#[],by rw[q];simp⟩) (fun m hm=>?_) (fun c o q=>?_) I.bare
  ·have ok:∀ {d:Addr},iR X pins H d->(d∈X.ex\/X.cQ.heap.objs.size<=d)/\d≠X.env.locals/\(∀x c,X.env.cells.lookup x=some c->c≠d) /\ ∀p∈X.pn++pins,p.1≠d:=fun f=>⟨f.2.2.2.1,f.2.1,f.2.2.2.2.1,f.2.2.2.2.2⟩
   simp only[a9,kE,kG]at hc
   rcases hc with rfl | rfl | rfl | rfl
   ·exact ok fz
   ·exact ok fO
   ·exact ok f1
   ·exact ok f2
  ·obtain⟨o,es,ep,ho,r⟩:=hm
   exact⟨o,es,ep,kp _ o (aT fz.2.1) (aT fO.2.1) (aT f1.2.1) (aT f2.2.1) ho,r⟩
  ·refine(I.aA c o q).gF (fun d v hd e=>?_) (fun d e=>e) fun d vs e=>e
   rcases hd with hd | hd
   ·subst hd
    obtain⟨n0,n1,n2,n3⟩:=iV q
    exact kp _ v n0 n1 n2 n3 e
   ·obtain⟨n0,n1,n2,n3⟩:=iV hd
    exact kp d v n0 n1 n2 n3 e
 self:=fun _ _ _ _ _ st h=>wpAny_pyIter_zip st.1 h
section
variable {X : Cx}
def aaI (K:Frag) (ta:TA):TI:=fun σ H R=>ta σ H fun vs H1=>∃a b,vs = [.ref a,.ref b]/\(∃xs,ai K H1 a xs)/\(∃ys,ai K H1 b ys)/\R (Ed K a b) H1
theorem YT {a b:Expr}{ta:TA}{p pos tp:Pos}{elts:List Expr}{n1:Nat} (hg:Gl X "zip") (hm:X.mg "zip" = none) (ha:PA X [a,b] ta) (he:starEach [a,b] X.env=(false,eval a X.env)::starEach [b] X.env:=by rfl) (dG:(backTo pos (starEach [b] X.env)).any (·.1)=false:=by rfl) :
  PI X (.Tuple elts n1 tp) (.Call (.Name "zip" p) [a,b] [] pos) (aaI X.K ta):=by
 intro pins s σ H R I h
 refine vm (tO I hg hm (show bootBuiltins "zip" = some (.type "zip") by decide +kernel) ?_)
 refine JW (aJ (ha pos pins s σ H _ I h) fun us s1 ⟨vs,H1,I1,r1,q1⟩=>?_) he dG
 obtain⟨l1,l2,e,⟨xs,l6⟩,⟨ys,je⟩,q⟩:=q1
 subst e
 obtain⟨u1,u2,rfl,HD,HE⟩:=r1.two
 cases HD
 cases HE
 obtain⟨O3,Br,p1,_⟩:=I1.list l6
 obtain⟨lR,l5,p2,_⟩:=I1.list je
 have xS:(l1:Nat) < s1.heap.objs.size:=by obtain⟨o,_,e,_⟩:=p1;exact bq e
 have lt2:(l2:Nat) < s1.heap.objs.size:=by obtain⟨o,_,e,_⟩:=p2;exact bq e
 refine call_zip_2 p1.isList p2.isList fun g gz gi go g1 g2 _ kp=>?_
 refine wpAny_pyIter_zip (s:={ s1 with heap:=g }) gz ?_
 refine⟨s1.heap.objs.size+4,[s1.heap.objs.size+4,s1.heap.objs.size+2,s1.heap.objs.size+3,s1.heap.objs.size,s1.heap.objs.size+1],_,_,H1,rfl,I1.kept (t':=s1.toks) kp,W9 (zipApart_new xS lt2),⟨gz,gi,⟨_,_,go⟩,g1,g2⟩,fun c hc=>?_,q⟩
 have le:s1.heap.objs.size<=c:=by
  simp only[a9,kE,kG]at hc
  rcases hc with rfl | rfl | rfl | rfl | rfl
  ·exact yP _ _
  ·exact yP _ _
  ·exact yP _ _
  ·exact aO _
  ·exact yP _ _
 exact I1.nH le (I1.aA.fresh le)
end
theorem W' {K:Frag}{a b:Addr}{xs ys:List V}{g:TG}{ti:TT}{te:TE}{iC:St}{Q:VK}{p:Addr}{H1:Hp} (n:Nat) (hn:n=min xs.length ys.length) (Pv:Nat->List V->St->Hp->Prop) (h0:Pv 0 [] iC (upd H1 p (.lst []))) (hl:∀i zs τ H,Pv i zs τ H->H p=some (.lst zs)/\ai K H a xs/\ai K H b ys)
  (hs:∀i x y zs τ H t,xs[i]? = some x->ys[i]? = some y->Pv i zs τ H->H t=none->g (.ref t) τ (upd H t (.tup [x,y])) fun d4 H4=>ti d4 H4 fun c H5=>if c=true then te d4 H5 fun v H6=>H6 p=some (.lst zs)/\zs.length < sizeLine /\ ∃m',m' < n - i/\CW Pv n (i+1) m' (zs ++ [v]) d4 (upd H6 p (.lst (zs ++ [v]))) else ∃m',m' < n - i/\CW Pv n (i+1) m' zs d4 H5)
  (hd:∀zs τ H,Pv n zs τ H->Q (.ref p) H):kZ (Ed K a b) g ti te iC Q p H1:=by
 refine⟨CW Pv n,⟨n,by simp,bY _,h0⟩,?_⟩
 rintro i m zs τ H ⟨rfl,hi,pv⟩
 obtain⟨hp,l6,je⟩:=hl i zs τ H pv
 refine⟨hp,?_⟩
 by_cases aM:i < n
 ·have l1:i < xs.length:=by omega
  have l2:i < ys.length:=by omega
  refine .inr ⟨⟨xs,ys,xs[i],ys[i],l6,je,by simp[l1],by simp[l2]⟩,fun v H3 y3=>?_⟩
  obtain⟨t,x,y,ht,rfl,ex,ey,rfl⟩:=y3
  exact hs i x y zs τ H t (ex xs l6) (ey ys je) pv ht
 ·have e:i=n:=by omega
  subst e
  exact .inl ⟨⟨xs,ys,l6,je,by omega⟩,hd zs τ H pv⟩
end L2
namespace L2
open PySem PySem.Spec PyProof.Rows PySem.W HT
section
variable {X : Cx}
def aaJ:R2:=fun x y H Q=>∃a b xs,x = .ref a/\y = .ref b/\H a=some (.lst xs)/\H b=some (.lst [])/\Q (.bl xs.isEmpty) H
theorem YU (hu:X.A.units+64 < cLine):cE X (compareOp .Eq) aaJ:=by
 intro pins s σ H x y v u Q I rx ry h
 obtain⟨a,b,xs,rfl,rfl,ha,hb,q⟩:=h
 cases rx;cases ry
 obtain⟨its,rv,pl,_⟩:=I.list (ai.of ha)
 obtain⟨lR,l5,uZ,_⟩:=I.list (ai.of hb)
 cases l5
 have e:xs.length=its.length:=rv.length
 cases xs with
 | nil =>
  have e0:its = []:=U7.mp e.symm
  subst e0
  exact SeqAt.RcAt.lists (e:=fun _=>true) pl.isList uZ.isList rfl (by omega) (fun j h1 h2=>absurd h2 (by simp)) X.prog X.w X.xe _ ⟨.bl _,H,I,rfl,q⟩
 | cons x xs =>
  refine SeqAt.RcAt.lists_lengths pl.isList uZ.isList ?_ (by omega) X.prog X.w X.xe _ ⟨.bl _,H,I,rfl,q⟩
  cases its with
  | nil=>cases e
  | cons i its=>simp
def aaK:R2:=fun x y H Q=>∃a b xs,x = .ref a/\y = .ref b/\H a=some (.tup xs)/\H b=some (.tup [])/\Q (.bl (!xs.isEmpty)) H
theorem YV (hu:X.A.units+64 < cLine):cE X (compareOp .NotEq) aaK:=by
 intro pins s σ H x y v u Q I rx ry h
 obtain⟨a,b,xs,rfl,rfl,ha,hb,q⟩:=h
 cases rx;cases ry
 obtain⟨its,rv,pl,_⟩:=I.tuple (aB.of ha)
 obtain⟨lR,l5,uZ,_⟩:=I.tuple (aB.of hb)
 cases l5
 have e:its.length=xs.length:=rv.length.symm
 rw[show xs.isEmpty=((List.range (min its.toArray.size ([]:List Value).toArray.size)).all (fun _=>true) && its.toArray.size==([]:List Value).toArray.size) from by
  cases xs with
  | nil=>simp only[vv,U7]at e;subst e;rfl
  | cons x xs =>
   cases its with
   | nil=>cases e
   | cons i its=>simp]at q
 exact SeqAt.RcNeAt.tuples (e:=fun _=>true) pl uZ (by omega) (fun j h1 h2=>absurd h2 (by simp)) X.prog X.w X.xe _ ⟨.bl _,H,I,rfl,q⟩
end
end L2
namespace L2
open PySem PySem.Spec PyProof.Rows PySem.W HS
end L2
namespace L2
open PySem PySem.Spec PyProof.Rows
end L2
namespace L2
open PySem
def cN (k:Nat):List (List Str)->Str->Option (Nat×Str)
 | [],_=>none
 | []::rest,n=>cN (k+1) rest n
 | (x::r)::rest,n=>if n∈x::r/\x≠n then some (k,x) else cN (k+1) rest n
theorem KL {k:Nat}{r:List Str}{rest:List (List Str)}{n:Str} (h : ¬ (n∈r/\r.head? ≠ some n)):cN k (r::rest) n=cN (k+1) rest n:=by
 cases r with
 | nil=>rfl
 | cons x r=>exact aE fun z=>h ⟨z.1,by simpa using z.2⟩
theorem VJ {k:Nat}{x:Str}{r:List Str}{rest:List (List Str)}{n:Str} (h:n∈x::r/\x≠n):cN k ((x::r)::rest) n=some (k,x):=by
 exact aI h
def jm (all:List (List Str)):List (List Str)->Option Str
 | []=>none
 | []::rest=>jm all rest
 | (x::_)::rest=>if (cN 0 all x).isNone then some x else jm all rest
def eY (rest:List (List Str)):Option Str:=jm rest rest
def without (n:Str) (rest:List (List Str)):List (List Str):=rest.map fun r=>r.filter fun y=>!decide (y=n)
def total (rest:List (List Str)):Nat:=(rest.map List.length).sum
def bB:Nat->List (List Str)->Option (List Str)
 | 0,_=>some []
 | k+1,rest=>if (rest.any fun r=>!r.isEmpty)=true then (match eY rest with | none=>none | some n=>(bB k (without n rest)).map (n :: ·)) else some []
theorem yW {all:List (List Str)}{n:Str}:∀ {rest:List (List Str)},jm all rest=some n -> ∃r∈rest,r.head? = some n
 | [],h=>by cases h
 | []::rest,h=>let ⟨r,hr,e⟩:=yW (rest:=rest) h;⟨r,bX _ hr,e⟩
 | (x::t)::rest,h=>by
  have h:(if (cN 0 all x).isNone then some x else jm all rest)=some n:=h
  split at h
  ·cases h;exact⟨n::t,aZ,rfl⟩
  ·obtain⟨r,hr,e⟩:=yW (rest:=rest) h
   exact⟨r,bX _ hr,e⟩
theorem KA (n:Str):∀rest:List (List Str),total (without n rest)<=total rest
 | []=>aO _
 | r::rest=>by
  have h1:=KA n rest
  have h2:=qG (fun y=>!decide (y=n)) r
  simp only[total,without,d5,Ku]at *
  omega
theorem sM {n:Str}:∀ {rest:List (List Str)},(∃r∈rest,n∈r)->total (without n rest) < total rest
 | [],⟨_,h,_⟩=>by simp at h
 | r::rest,⟨q,hq,hn⟩=>by
  have h1:=KA n rest
  have h2:=qG (fun y=>!decide (y=n)) r
  rcases a9.mp hq with rfl | hq
  ·have h3:(q.filter fun y=>!decide (y=n)).length < q.length:=by
    exact List.length_filter_lt_length_iff_exists.mpr ⟨n,hn,by simp⟩
   simp only[total,without,d5,Ku]at *
   omega
  ·have h3:=sM ⟨q,hq,hn⟩
   simp only[total,without,d5,Ku]at *
   omega
theorem le_total {r:List Str}:∀ {rest:List (List Str)},r∈rest->r.length<=total rest
 | [],h=>by simp at h
 | q::rest,h=>by
  have e:total (q::rest)=q.length+total rest:=by simp[total]
  rcases a9.mp h with rfl | h
  ·omega
  ·have:=le_total h
   omega
theorem CO {rest:List (List Str)} (h:(rest.any fun r=>!r.isEmpty)=true):0 < total rest:=by
 obtain⟨r,hr,e⟩:=qD.mp h
 have h1:0 < r.length:=by cases r with
  | nil=>simp at e
  | cons _ _=>simp
 have h2:r.length<=total rest:=le_total hr
 omega
def dY (H:Hp) (vs:List V) (rows:List (List Str)):Prop:=Paired (fun y r=>∃a,y=V.ref a/\H a=some (.tup (r.map V.str))) vs rows
theorem dY.same {H H':Hp}{vs:List V}{rows:List (List Str)} (h:dY H vs rows) (s:aq H H'):dY H' vs rows:=Paired.imp' (fun _ _ ⟨a,e,q⟩=>⟨a,e,s _ _ q⟩) h
theorem dY.length {H:Hp}{vs:List V}{rows:List (List Str)} (h:dY H vs rows):vs.length=rows.length:=jL h
theorem dY.get {H:Hp}:∀ {vs:List V}{rows:List (List Str)}{i:Nat}{v:V},dY H vs rows->vs[i]? = some v -> ∃a r,v=V.ref a/\rows[i]? = some r/\H a=some (.tup (r.map V.str))
 | _,_,i,v,.nil,e=>by simp at e
 | _,_,0,v,.cons p _,e=>by
  obtain⟨a,rfl,q⟩:=p
  simp at e;subst e
  exact⟨a,_,rfl,rfl,q⟩
 | _,_,i+1,v,.cons _ t,e=>by
  obtain⟨a,r,e1,e2,q⟩:=dY.get (i:=i) t (by simpa using e)
  exact⟨a,r,e1,by simpa using e2,q⟩
theorem dY.append {H:Hp}{vs:List V}{rows:List (List Str)}{a:Addr}{r:List Str}:dY H vs rows->H a=some (.tup (r.map V.str))->dY H (vs ++ [.ref a]) (rows ++ [r])
 | .nil,q=>.cons ⟨a,rfl,q⟩ .nil
 | .cons p t,q=>.cons p (dY.append t q)
end L2
namespace bc
open PySem L2 PySem.W
def top (i:Nat):Stmt:=PySem.Challenge.pw_parentlines_k24_whole_families_told_apar.main.body.getD i (.Pass ⟨0,0,0,0⟩)
abbrev lb:Stmt:=inClass (top 2) 0
abbrev oX:Stmt:=top 4
abbrev tZ:Stmt:=top 5
abbrev oY:Stmt:=top 7
abbrev qQ:Stmt:=top 8
abbrev nz:Stmt:=top 9
abbrev nj:Stmt:=top 10
abbrev pq:Stmt:=top 11
abbrev jR:Stmt:=top 14
abbrev tH:Stmt:=top 15
abbrev tI:Stmt:=top 16
abbrev pH:Stmt:=top 17
abbrev nt:Stmt:=top 18
abbrev oP:Stmt:=top 19
abbrev uk:Stmt:=top 21
abbrev pz:Stmt:=top 22
abbrev jS:Stmt:=top 23
abbrev iY:Stmt:=top 24
abbrev nu:Stmt:=top 25
abbrev sV:Stmt:=top 26
abbrev oS:Stmt:=top 27
abbrev t8:Stmt:=top 28
abbrev um:Stmt:=top 29
abbrev tQ:Stmt:=top 30
abbrev pA:Stmt:=top 31
abbrev pB:Stmt:=top 32
abbrev oZ:Stmt:=top 33
abbrev jW:Stmt:=top 34
abbrev pC:Stmt:=top 35
abbrev jr:Stmt:=top 36
abbrev i8:Stmt:=top 37
structure c7 (mg:Str->Option Value):Prop where
 len:mg "len" = none
 max:mg "max" = none
 min:mg "min" = none
 abs:mg "abs" = none
 range:mg "range" = none
 any:mg "any" = none
 all:mg "all" = none
 list:mg "list" = none
 tuple:mg "tuple" = none
 enu:mg "enumerate" = none
theorem jC {y:Str}{r:List Str}:dH ((y::r).map V.str) 0=some (V.str y):=(show dH ((y::r).map V.str) ((0:Nat):Int)=some (V.str y) from dE rfl)
theorem ak {H:Hp}{q:Addr}{o:HO} (hq:H q=none):aq H (upd H q o):=fun b u e=>by rw[aj (ax e hq)];exact e
theorem XY {K:Frag}{a:Addr}{xs:List V}{g:TG}{tb:TS}{D:Ends}{σ:St}{H:Hp} (Pv:Nat->St->Hp->Prop) (h0:Pv 0 σ H) (hl:∀i σ H,i<=xs.length->Pv i σ H->ai K H a xs)
  (hs:∀i x σ H t,xs[i]? = some x->Pv i σ H->H t=none->g (.ref t) σ (upd H t (.tup [.int i,x])) fun hV H2=>tb { D with nx:=Pv (i+1),ct:=Pv (i+1),bk:=D.nx } hV H2) (hd:∀σ H,Pv xs.length σ H->D.nx σ H) :
  ∃W:Nat->Nat->St->Hp->Prop,(∃m,W 0 m σ H) /\ ∀i m σ H,W i m σ H ->
   ((xD K a).stop i H/\D.nx σ H)\/((xD K a).go i H /\ ∃N:St->Hp->Prop,(∀aK H',N aK H' -> ∃m',m' < m/\W (i+1) m' aK H') /\ ∀x H',(xD K a).rJ i H x H'->g x σ H' fun hV H2=>tb { D with nx:=N,ct:=N,bk:=D.nx } hV H2):=by
 refine⟨fun i m σ H=>m=xs.length - i/\i<=xs.length/\Pv i σ H,⟨xs.length,by simp,bY _,h0⟩,?_⟩
 rintro i m σ H ⟨rfl,hi,p⟩
 have q:=hl i σ H hi p
 by_cases aM:i < xs.length
 ·refine .inr ⟨⟨xs,xs[i],q,by simp[aM]⟩,Pv (i+1),fun aK H' p'=>⟨xs.length - (i+1),by omega,rfl,aM,p'⟩,fun x H' y=>?_⟩
  obtain⟨t,v,ht,rfl,hv,rfl⟩:=y
  exact hs i v σ _ t (hv xs q) p ht
 ·have e:i=xs.length:=by omega
  subst e
  exact .inl ⟨⟨xs,q,aO _⟩,hd σ H p⟩
section
variable {P : Program} {w : World} {K : Frag} {mg : Str -> Option Value} {base : Heap} {f : Addr} {fd : FuncData}
@[irreducible] def qR:Sp:=fun vs H Q _=>∃ (l:Addr) (ws:List V) (rows:List (List Str)) (n:Str),vs = [.ref l,.str n]/\H l=some (.lst ws)/\dY H ws rows /\
 (cN 0 rows n=none -> ∀H',aq H H'->Q .aG H')/\(∀i x,cN 0 rows n=some (i,x) -> ∀p H',H p=none->aq H H'->H' p=some (.tup [.int i,.str x,.str n])->Q (.ref p) H')
theorem Dw:cO ["rest", "name", "at", "row"] ["rest", "name"] (aH nz):=⟨rfl,rfl,rfl,by decide +kernel,rfl,by decide +kernel,by decide +kernel⟩
theorem Nf (F:bw K "wish_against" "wish_against" nz f fd) (B:c7 mg):aN P w K mg base aS 1 f fd ["rest", "name"] qR:=by
 refine F.ok Dw (fun vs H Q E h=>?_) (fun aQ A outer s H vs Q E hr h=>?_)
 ·unfold qR at h;obtain⟨l,ws,rows,n,rfl,_⟩:=h;rfl
 ·unfold qR at h
  obtain⟨l,ws,rows,n,rfl,hl,hR,qn,qs⟩:=h
  refine⟨_,aF (iw iH rfl (Yx rfl B.enu (ae (pv 0) ah)) (i4 rfl (cC (aR (i:=2) Dw.nd rfl (Or.inl rfl)) (cC (aR (i:=3) Dw.nd rfl (Or.inl rfl)) gk)))
    (aP (eg (PW.pt (pw_and (cG CH (pv 1) (pv 3) rfl) (pw_and1 (cG wo (bC js (pv 3) aD (fun _ _=>rfl)) (pv 1) (cB _)))))
     (aP (bu (gN (ae (pv 2) (ae (bC js (pv 3) aD (fun _ _=>rfl)) (ae (pv 1) ah)))))) d9)))
   (aP (bu i3)),?_⟩
  refine⟨_,rfl,l,rfl,⟨_,ai.of hl⟩,XY (xs:=ws) (fun i σ H1=>∃v2 v3:Option V,σ = [some (.ref l),some (.str n),v2,v3]/\aq H H1/\cN i (rows.drop i) n=cN 0 rows n) ⟨none,none,rfl,aq.refl _,by simp⟩ (fun i σ H1 _ ⟨_,_,_,z,_⟩=>ai.of (z _ _ hl)) ?_ ?_⟩
  ·rintro i x σ H1 t hx ⟨v2,v3,rfl,S1,hw⟩ ht
   obtain⟨a,r,rfl,gI,gf⟩:=hR.get hx
   have S2:aq H (upd H1 t (.tup [.int i,.ref a])):=S1.trans (ak ht)
   have n9:=S2 _ _ gf
   have HF:rows.drop i=r::rows.drop (i+1):=by
    have hi:=(cq.mp gI)
    obtain⟨xT,rfl⟩:=hi
    exact Cb xT
   rw[HF]at hw
   refine⟨t,_,rfl,aB.of af,rfl,_,_,rfl,_,_,rfl,rfl,?_⟩
   refine⟨_,rfl,_,rfl,a,_,rfl,.inr (aB.of n9),rfl,mU _,_,rfl,?_⟩
   rw[aE dU,tw]
   refine eM (fun kj=>?_) (fun kj=>?_)
   ·have O4:n∈r:=by simpa using kj
    cases r with
    | nil=>simp at O4
    | cons y r =>
     refine⟨_,rfl,a,_,0,.str y,rfl,rfl,aB.of n9,jC,_,rfl,rfl,_,rfl,?_⟩
     refine eM (fun du=>?_) (fun du=>?_)
     ·have uo:y≠n:=fun z=>by subst z;simp at du
      refine⟨_,rfl,_,rfl,a,_,0,.str y,rfl,rfl,aB.of n9,jC,_,rfl,by show 3<=sizeLine;rw[ay];decide,fun p hp=>?_⟩
      rw[VJ ⟨O4,uo⟩]at hw
      exact qs i y hw.symm p _ (S2.free hp) (S2.trans (ak hp)) af
     ·have hy:y=n:=by
       by_cases z:y=n
       ·exact z
       ·exact absurd (by simp[z]) du
      refine⟨_,_,rfl,S2,?_⟩
      rw[<-hw,KL fun z=>z.2 (by rw[hy];rfl)]
   ·refine⟨_,_,rfl,S2,?_⟩
    rw[<-hw,KL fun z=>kj (by simpa using z.1)]
  ·rintro σ H1 ⟨v2,v3,rfl,S1,hw⟩
   rw[hR.length,Kv]at hw
   exact qn hw.symm H1 S1
theorem Ng {l:Addr}{ws:List V}{rows:List (List Str)}{n:Str}{H:Hp}{Q:VK}{E:XK} (hl:H l=some (.lst ws)) (hR:dY H ws rows) (qn:cN 0 rows n=none -> ∀H',aq H H'->Q .aG H')
  (qs:∀i x,cN 0 rows n=some (i,x) -> ∀p H',H p=none->aq H H'->H' p=some (.tup [.int i,.str x,.str n])->Q (.ref p) H'):qR [.ref l,.str n] H Q E:=by
 unfold qR;exact⟨l,ws,rows,n,rfl,hl,hR,qn,qs⟩
end
end bc
namespace bc
open PySem L2 PySem.W
section
variable {P : Program} {w : World} {K : Frag} {mg : Str -> Option Value} {base : Heap} {f : Addr} {fd : FuncData}
def Ee:Option Str->V
 | none=>.aG
 | some n=>.str n
@[irreducible] def tJ:Sp:=fun vs H Q _=>∃ (l:Addr) (ws:List V) (rows:List (List Str)),vs = [.ref l]/\H l=some (.lst ws)/\dY H ws rows /\ ∀H',aq H H'->Q (Ee (eY rows)) H'
theorem Nh:cO ["rest", "row"] ["rest"] (aH qQ):=⟨rfl,rfl,rfl,by decide +kernel,rfl,by decide +kernel,by decide +kernel⟩
theorem XZ {fW:Addr}{l7:FuncData} (F:bw K "least_free" "least_free" qQ f fd) (B:c7 mg) (FW:bw K "wish_against" "wish_against" nz fW l7) (bW:Binds K l7 ["rest", "name"] []) (mW:mg "wish_against" = some (.ref fW)) :
  aN P w K mg base aS 2 f fd ["rest"] tJ:=by
 have GW:aN P w K mg base aS 1 fW l7 ["rest", "name"] qR:=Nf FW B
 refine F.ok Nh (fun vs H Q E h=>?_) (fun aQ A outer s H vs Q E hr h=>?_)
 ·unfold tJ at h;obtain⟨l,ws,rows,rfl,_⟩:=h;rfl
 ·unfold tJ at h
  obtain⟨l,ws,rows,rfl,hl,hR,q⟩:=h
  have cY:bQ 1 _:=hr
  refine⟨_,aF (iw iH rfl (fq (pv 0)) (aR (i:=1) Nh.nd rfl (Or.inl rfl))
    (aP (eg (PW.pt (pw_and (tq (pv 1) (fun _=>rfl)) (pw_and1 (cG vZ (bG GW cY rfl mW FW.kp bW .nil bE (ae (pv 0) (ae (bC js (pv 1) aD (fun _ _=>rfl)) ah))) i3 (cB _)))))
     (aP (bu (bC js (pv 1) aD (fun _ _=>rfl)))) d9)))
   (aP (bu i3)),?_⟩
  refine⟨_,rfl,l,rfl,⟨_,ai.of hl⟩,tf (xs:=ws) (fun i σ H1=>∃v1:Option V,σ = [some (.ref l),v1]/\aq H H1/\jm rows (rows.drop i)=eY rows) ⟨none,rfl,aq.refl _,by simp[eY]⟩ (fun i σ H1 _ ⟨_,_,z,_⟩=>ai.of (z _ _ hl)) ?_ ?_⟩
  ·rintro i x σ H1 hx ⟨v1,rfl,S1,hw⟩
   obtain⟨a,r,rfl,gI,gf⟩:=hR.get hx
   have eI:=S1 _ _ gf
   have HF:rows.drop i=r::rows.drop (i+1):=by
    obtain⟨xT,rfl⟩:=cq.mp gI
    exact Cb xT
   rw[HF]at hw
   refine⟨_,rfl,!(r.map V.str).isEmpty,.inr (.inl ⟨_,aB.of eI,rfl⟩),?_⟩
   cases r with
   | nil=>exact⟨_,rfl,S1,hw⟩
   | cons y r =>
    have hw:(if (cN 0 rows y).isNone then some y else jm rows (rows.drop (i+1)))=eY rows:=hw
    refine⟨_,rfl,_,rfl,a,_,0,.str y,rfl,rfl,aB.of eI,jC,?_⟩
    refine Ng (S1 _ _ hl) (hR.same S1) (fun en H2 S2=>?_) (fun j z es p H2 hp S2 h2=>?_)
    ·refine⟨rfl,_,rfl,?_⟩
     refine⟨_,rfl,a,_,0,.str y,rfl,rfl,aB.of (S2 _ _ eI),jC,?_⟩
     rw[en]at hw
     have e:eY rows=some y:=hw.symm
     have:=q H2 (S1.trans S2)
     rw[e]at this
     exact this
    ·refine⟨rfl,_,rfl,?_⟩
     rw[es]at hw
     exact⟨_,rfl,S1.trans S2,hw⟩
  ·rintro σ H1 ⟨v1,rfl,S1,hw⟩
   rw[hR.length,Kv]at hw
   have e:eY rows=none:=hw.symm
   have:=q H1 S1
   rw[e]at this
   exact this
theorem X0 {l:Addr}{ws:List V}{rows:List (List Str)}{H:Hp}{Q:VK}{E:XK} (hl:H l=some (.lst ws)) (hR:dY H ws rows) (q:∀H',aq H H'->Q (Ee (eY rows)) H'):tJ [.ref l] H Q E:=by
 unfold tJ;exact⟨l,ws,rows,rfl,hl,hR,q⟩
end
end bc
namespace bc
open PySem L2 PySem.W
theorem LS {x:Str} (h:Nm x):(x.cps.toList.all fun c=>decide (c < 16 ^ 8))=true:=by
 rw[fo];intro c hc;have:=(h.az c hc).2;exact cF (by omega)
def pI (H:Hp) (v:V):Prop:= ∃ (a:Addr) (i:Nat) (x n:Str),v = .ref a/\H a=some (.tup [.int i,.str x,.str n])/\i < 10/\Nm x/\Nm n
theorem pI.same {H H':Hp}{v:V} (h:pI H v) (s:aq H H'):pI H' v:=let ⟨a,i,x,n,e,q,r⟩:=h;⟨a,i,x,n,e,s _ _ q,r⟩
theorem Xa:∀i:Nat,i < 10->PyData.leavesShort 13 (.int i)=true/\PyData.showable (.int i)=true:=by decide +kernel
theorem K1 {H:Hp}:∀ {vs:List V},(∀v∈vs,pI H v) -> ∃ds,gO H vs ds/\PyData.showableAll ds=true/\PyData.hasDictAll ds=false/\PyData.depthAll ds<=1/\PyData.leavesShortAll 13 ds=true/\PyData.bulkAll ds<=25 * vs.length
 | [],_=>⟨[],.nil,rfl,rfl,bY _,rfl,bY _⟩
 | v::vs,h=>by
  obtain⟨ds,h1,h2,h3,h4,h5,h6⟩:=K1 (vs:=vs) fun u hu=>h u (bX _ hu)
  obtain⟨a,i,x,n,rfl,ha,hi,hx,hn⟩:=h v aZ
  obtain⟨s1,s2⟩:=Xa i hi
  have s1':PyData.leavesShort 13 (.int (i:Int))=true:=s1
  have s2':PyData.showable (.int (i:Int))=true:=s2
  have z1:x.cps.size<=8:=hx.hi
  have z2:n.cps.size<=8:=hn.hi
  refine⟨.tuple [.int i,.str x,.str n]::ds,.cons (.tup ha (.cons (.int _) (.cons (.str _) (.cons (.str _) .nil)))) h1,?_,?_,?_,?_,?_⟩
  ·simp only[PyData.showableAll,PyData.showable,h2,Kw]
   simpa [PyData.showable] using s2'
  ·simp only[PyData.hasDictAll,PyData.hasDict,h3,Uy]
  ·simp only[PyData.depthAll,PyData.depth];omega
  ·simp only[PyData.leavesShortAll,PyData.leavesShort,h5,LS hx,LS hn,Kw]
   simpa [PyData.leavesShort] using s1'
  ·simp only[PyData.bulkAll,PyData.bulk,dc];omega
theorem Lh {H:Hp}{p:Addr}{vs:List V} (hp:H p=some (.tup vs)) (h:∀v∈vs,pI H v) (bg:vs.length<=100):lM H (.ref p):=by
 obtain⟨ds,h1,h2,h3,h4,h5,h6⟩:=K1 h
 refine .inr (.inr ⟨p,.tuple ds,rfl,.tup hp h1,h2,h3,?_,?_⟩)
 ·simp only[PyData.depth];omega
 ·have:=PyData.shown_le_bulk 13 (by decide) (.tuple ds) h5
  simp only[PyData.bulk]at this
  omega
def heads (rows:List (List Str)):List Str:=rows.filterMap List.head?
theorem sX (rows:List (List Str)):(heads rows).length<=rows.length:=Kg _ _
theorem mV {rows:List (List Str)}{n:Str}:n∈heads rows ↔ ∃r∈rows,r.head? = some n:=by
 unfold heads;rw[qu]
theorem Cq:∀ {rows:List (List Str)}{k:Nat}{n:Str}{i:Nat}{x:Str},cN k rows n=some (i,x)->k<=i/\i < k+rows.length/\x∈heads rows
 | [],k,n,i,x,h=>by cases h
 | []::rest,k,n,i,x,h=>by
  obtain⟨h1,h2,h3⟩:=Cq (rows:=rest) (k:=k+1) (n:=n) h
  refine⟨by omega,by simp only[dc];omega,?_⟩
  obtain⟨r,hr,e⟩:=mV.mp h3
  exact mV.mpr ⟨r,bX _ hr,e⟩
 | (y::r)::rest,k,n,i,x,h=>by
  have h:(if n∈y::r/\y≠n then some (k,y) else cN (k+1) rest n)=some (i,x):=h
  split at h
  ·cases h
   exact⟨aO _,by simp only[dc];omega,mV.mpr ⟨_::r,aZ,rfl⟩⟩
  ·obtain⟨h1,h2,h3⟩:=Cq (rows:=rest) (k:=k+1) (n:=n) h
   refine⟨by omega,by simp only[dc];omega,?_⟩
   obtain⟨r',hr,e⟩:=mV.mp h3
   exact mV.mpr ⟨r',bX _ hr,e⟩
theorem yX {all:List (List Str)}:∀ {rest:List (List Str)},jm all rest=none -> ∀n∈heads rest,cN 0 all n≠none
 | [],_,n,hn=>by simp[heads]at hn
 | []::rest,h,n,hn=>yX (rest:=rest) h n hn
 | (y::r)::rest,h,n,hn=>by
  have h:(if (cN 0 all y).isNone then some y else jm all rest)=none:=h
  split at h
  ·cases h
  next hy =>
   have hn:n∈y::heads rest:=hn
   rcases a9.mp hn with rfl | hn
   ·intro z;rw[z]at hy;exact hy rfl
   ·exact yX h n hn
end bc
namespace bc
open PySem L2 PySem.W
abbrev Wi:=Nat×Str×Str
def lN (rows:List (List Str)):Nat->Str->List Str->List Wi->List Wi
 | 0,_,_,_=>[]
 | k+1,nm,ps,ws=>if nm∈ps then (ws.drop (ps.idxOf nm)).reverse else
  match cN 0 rows nm with
  | some (i,x)=>lN rows k x (ps ++ [nm]) (ws ++ [(i,x,nm)])
  | none=>[]
def pD (rows:List (List Str)):List Wi:=lN rows (rows.length+1) ((heads rows).headD "") [] []
structure qW (At:Wi->Prop) (most:Nat) (W:List Wi):Prop where
 len:2<=W.length
 bg:W.length<=most
 at_:∀w∈W,At w
 turn:(W.map (·.2.1)).drop 1++(W.map (·.2.1)).take 1=W.map (·.2.2)
 nd:(W.map (·.2.1)).Nodup
def wj (rows:List (List Str)) (w:Wi):Prop:= ∃r,rows[w.1]? = some (w.2.1::r)/\w.2.2∈r/\w.2.1≠w.2.2
theorem Cr:∀ {rows:List (List Str)}{k:Nat}{n:Str}{i:Nat}{x:Str},cN k rows n=some (i,x) -> ∃j r,i=k+j/\rows[j]? = some (x::r)/\n∈r/\x≠n
 | [],k,n,i,x,h=>by cases h
 | []::rest,k,n,i,x,h=>by
  obtain⟨j,r,h1,h2,h3⟩:=Cr (rows:=rest) (k:=k+1) (n:=n) h
  exact⟨j+1,r,by omega,by simpa using h2,h3⟩
 | (y::r)::rest,k,n,i,x,h=>by
  have h:(if n∈y::r/\y≠n then some (k,y) else cN (k+1) rest n)=some (i,x):=h
  split at h
  next c =>
   cases h
   refine⟨0,r,rfl,rfl,?_,c.2⟩
   rcases a9.mp c.1 with z | z
   ·exact absurd z.symm c.2
   ·exact z
  ·obtain⟨j,r',h1,h2,h3⟩:=Cr (rows:=rest) (k:=k+1) (n:=n) h
   exact⟨j+1,r',by omega,by simpa using h2,h3⟩
theorem Dx {ps hs:List Str} (nd:ps.Nodup) (h:∀n∈ps,n∈hs):ps.length<=hs.length:=by
 by_cases z:ps.length<=hs.length
 ·exact z
 ·obtain⟨y,hy,hn⟩:=zM (found:=hs) nd (by omega)
  exact absurd (h y hy) hn
theorem LU {rows:List (List Str)} (hF:eY rows=none):∀ {k:Nat}{nm:Str}{ps:List Str}{ws:List Wi},nm∈heads rows->(∀n∈ps,n∈heads rows)->ps.Nodup->(∀w∈ws,wj rows w)->ws.map (·.2.2)=ps->ws.map (·.2.1)=(ps ++ [nm]).tail ->
  k+ps.length=rows.length+1->qW (wj rows) rows.length (lN rows k nm ps ws)
 | 0,nm,ps,ws,hn,hp,nd,hw,e1,e2,hk=>by
  have:=Dx nd hp
  have:=sX rows
  omega
 | k+1,nm,ps,ws,hn,hp,nd,hw,e1,e2,hk=>by
  unfold lN
  by_cases c:nm∈ps
  ·rw[aI c]
   have hj:ps.idxOf nm < ps.length:=List.idxOf_lt_length_iff.mpr c
   obtain⟨j,uX⟩:∃j,ps.idxOf nm=j:=⟨_,rfl⟩
   have Bi:ps[j]? = some nm:=by rw[<-uX];rw[br hj];exact gg some (List.getElem_idxOf hj)
   rw[uX]at hj ⊢
   have d1:ps.drop j=nm::ps.drop (j+1):=by
    rw[Cb hj]
    rw[br hj]at Bi
    rw[ie Bi]
   generalize ht:ps.drop (j+1)=t at d1
   have f2:(ws.drop j).map (·.2.2)=nm::t:=by rw[mz,e1,d1]
   have f1:(ws.drop j).map (·.2.1)=t ++ [nm]:=by
    rw[mz,e2,<-List.drop_one,List.drop_drop,Uz 1 j,List.drop_append_of_le_length (by omega),ht]
   have uT:(nm::t).Nodup:=by rw[<-d1];exact nd.sublist (List.drop_sublist _ _)
   have l1:(ws.drop j).length=t.length+1:=by
    have:=gg List.length f2
    rwa [ar,dc]at this
   have sub:∀w∈ws.drop j,wj rows w:=fun w h=>hw w (mE h)
   generalize ws.drop j=U at f1 f2 l1 sub
   have tne:t ≠ []:=by
    rintro rfl
    match U,f1,f2,sub with
    | [w],f1,f2,sub =>
     obtain⟨r,_,_,ne⟩:=sub w aZ
     have g1:w.2.1=nm:=by simpa using f1
     have g2:w.2.2=nm:=by simpa using f2
     exact ne (g1.trans g2.symm)
   have tl:1<=t.length:=yQ.mpr tne
   refine⟨by rw[Km];omega,?_,fun w h=>sub w (Vb.mp h),?_,?_⟩
   ·have q1:=Dx uT (hs:=heads rows) fun n h=>by
     rw[<-d1]at h;exact hp n (mE h)
    have q2:=sX rows
    rw[dc]at q1
    rw[Km];omega
   ·rw[Vc,Vc,f1,f2];simp
   ·rw[Vc,f1]
    rw[List.reverse_append];exact fV.mpr ⟨fun z=>(fV.mp uT).1 (Vb.mp z),(List.reverse_perm t).nodup_iff.mpr (fV.mp uT).2⟩
  ·rw[aE c]
   have nn:cN 0 rows nm≠none:=yX hF nm hn
   cases e:cN 0 rows nm with
   | none=>exact absurd e nn
   | some w =>
    obtain⟨i,x⟩:=w
    obtain⟨j,r,hi,hr,hnr,ne⟩:=Cr e
    have ij:i=j:=by omega
    subst ij
    refine LU hF (mV.mpr ⟨_,gj hr,rfl⟩) (fun n h=>?_) ?_ (fun w h=>?_) ?_ ?_ ?_
    ·rcases cz.mp h with h | h
     ·exact hp n h
     ·rw[eL.mp h];exact hn
    ·rw[qE]
     exact⟨nd,by simp,fun a ha b hb=>by rw[eL.mp hb];exact fun z=>c (z ▸ ha)⟩
    ·rcases cz.mp h with h | h
     ·exact hw w h
     ·rw[eL.mp h];exact⟨r,hr,hnr,ne⟩
    ·rw[aY,e1];rfl
    ·rw[aY,e2]
     cases ps with
     | nil=>rfl
     | cons y ps=>simp
    ·rw[aW,oH];omega
theorem YW {rows:List (List Str)} (hF:eY rows=none) (hA:(rows.any fun r=>!r.isEmpty)=true):qW (wj rows) rows.length (pD rows):=by
 unfold pD
 have:(heads rows).headD "" ∈ heads rows:=by
  obtain⟨r,hr,e⟩:=qD.mp hA
  cases r with
  | nil=>simp at e
  | cons y r =>
   have:y∈heads rows:=mV.mpr ⟨_,hr,rfl⟩
   cases q:heads rows with
   | nil=>rw[q]at this;simp at this
   | cons a t=>exact aZ
 exact LU hF this (by simp) oJ (by simp) rfl rfl (by simp)
def Dy (rows:List (List Str)) (w:Wi):Prop:= ∃pre post,rows[w.1]? = some (pre++w.2.1::post)/\w.2.2∈post/\w.2.1 ∉ pre/\w.2.2 ∉ pre/\w.2.1≠w.2.2
def Cut (rows rest:List (List Str)):Prop:=rest.length=rows.length /\ ∀ (i:Nat) (r:List Str),rest[i]? = some r -> ∃ (r0:List Str) (p:Str->Bool),rows[i]? = some r0/\r=r0.filter p
theorem Cut.refl (rows:List (List Str)):Cut rows rows:=⟨rfl,fun i r e=>⟨r,fun _=>true,e,(Vd.mpr fun _ _=>rfl).symm⟩⟩
theorem Cut.without {rows rest:List (List Str)} (h:Cut rows rest) (n:Str):Cut rows (L2.without n rest):=by
 refine⟨by unfold L2.without;rw[ar];exact h.1,fun i r e=>?_⟩
 unfold L2.without at e
 rw[gX]at e
 obtain⟨q,hq,rfl⟩:=iF.mp e
 obtain⟨r0,p,h0,rfl⟩:=h.2 i q hq
 exact⟨r0,_,h0,by rw[List.filter_filter]⟩
theorem Cut.jV {rows rest:List (List Str)} (h:Cut rows rest) {w:Wi} (q:wj rest w):Dy rows w:=by
 obtain⟨r,hr,hn,ne⟩:=q
 obtain⟨r0,p,h0,e⟩:=h.2 _ _ hr
 obtain⟨l1,l2,rfl,a1,a2,a3⟩:=List.filter_eq_cons_iff.mp e.symm
 have pU:w.2.2∈l2/\p w.2.2=true:=by rw[<-a3]at hn;exact kB.mp hn
 exact⟨l1,l2,h0,pU.1,fun z=>a1 _ z a2,fun z=>a1 _ z pU.2,ne⟩
theorem qW.imp {At Q6:Wi->Prop}{m:Nat}{W:List Wi} (h:qW At m W) (f:∀w,At w->Q6 w):qW Q6 m W:=⟨h.len,h.bg,fun w q=>f w (h.at_ w q),h.turn,h.nd⟩
def qS:Nat->List (List Str)->List (List Str)
 | 0,rest=>rest
 | k+1,rest=>match eY rest with
  | some n=>qS k (L2.without n rest)
  | none=>rest
theorem Ww {k:Nat}{rest:List (List Str)}{n:Str} (h:eY rest=some n):qS (k+1) rest=qS k (L2.without n rest):=by
 show(match eY rest with | some n=>_ | none=>_)=_
 rw[h]
theorem Wx {k:Nat}{rest:List (List Str)} (h:eY rest=none):qS k rest=rest:=by
 cases k with
 | zero=>rfl
 | succ k=>show(match eY rest with | some n=>_ | none=>_)=_;rw[h]
def t9 (rows:List (List Str)):List Wi:=pD (qS 1000 rows)
theorem YX {rows:List (List Str)}{k:Nat}{nm x:Str}{ps:List Str}{W:List Wi}{j:Nat} (h:nm ∉ ps) (e:cN 0 rows nm=some (j,x)):lN rows (k+1) nm ps W=lN rows k x (ps ++ [nm]) (W ++ [(j,x,nm)]):=by
 rw[lN,aE h,e]
theorem X1 {rows:List (List Str)}{k:Nat}{nm:Str}{ps:List Str}{W:List Wi} (h:nm∈ps):lN rows (k+1) nm ps W=(W.drop (ps.idxOf nm)).reverse:=by
 rw[lN,aI h]
theorem LV:∀ {ps:List Str}{n:Str}{j:Nat},ps[j]? = some n->(∀m:Nat,m < j->ps[m]? ≠ some n)->ps.idxOf n=j
 | [],n,j,h,_=>by simp at h
 | x::ps,n,0,h,_=>by
  have:x=n:=by simpa using h
  rw[this];exact List.idxOf_cons_self
 | x::ps,n,j+1,h,q=>by
  have ne:x≠n:=fun z=>q 0 (by omega) (by simp[z])
  rw[List.idxOf_cons,show(x==n)=false from oz.mpr ne,cond_false,LV (j:=j) (by simpa using h) fun m hm=>by simpa using q (m+1) (by omega)]
def km (H:Hp):List V->List Wi->Prop:=Paired fun v w=>∃a,v=V.ref a/\H a=some (.tup [.int w.1,.str w.2.1,.str w.2.2])
theorem LW {H:Hp}{vs:List V}{W:List Wi}{v:V}{w:Wi} (h:km H vs W) (q:∃a,v=V.ref a/\H a=some (.tup [.int w.1,.str w.2.1,.str w.2.2])):km H (vs ++ [v]) (W ++ [w]):=by
 induction h with
 | nil=>exact .cons q .nil
 | cons p _ ih=>exact .cons p ih
theorem YY {H:Hp}{vs:List V}{W:List Wi}{j:Nat} (h:km H vs W):km H (vs.drop j) (W.drop j):=by
 induction h generalizing j with
 | nil=>simp;exact .nil
 | cons p t ih =>
  cases j with
  | zero=>exact .cons p t
  | succ j=>exact ih
theorem ZK {H:Hp}{vs:List V}{W:List Wi} (h:km H vs W):km H vs.reverse W.reverse:=by
 induction h with
 | nil=>exact .nil
 | cons p t ih=>rw[J0,J0];exact LW ih p
theorem jn (xs:List V) (k:Nat):eP xs (some (k:Int)) none=xs.drop k:=by
 unfold eP;rw[HT.CY,HT.C8]
 by_cases h:k<=xs.length
 ·rw[Cf h,yR (by rw[d6];omega)]
 ·rw[Ve (by omega),Kv,UM (by omega)];simp
theorem kX (xs:List V) (k:Nat):eP xs none (some (k:Int))=xs.take k:=by
 unfold eP;rw[HT.CY,HT.C8]
 by_cases h:k<=xs.length
 ·rw[Cf h];simp
 ·rw[Ve (by omega)];simp;rw[yR (by omega)]
end bc
namespace bc
open PySem L2 PySem.W
theorem Wy {X:Cx}{a:Expr}{ta:TE} (K:Frag) (h:X.K=K) (ha:PE X a ta) (he:∀whole,isTrue a X.env whole=(do let v <- whole;standAt a.pos;holding [v] (truthy v))) :
  PT X a (fun σ H Q=>ta σ H fun x H'=>∃k,D3 K x H' k/\Q k H'):=by subst h;exact tq ha he
def lI (s:Stmt):List Stmt:=match s with | .For _ _ b _ _=>b | _=>[]
def vJ (s:Stmt):List Stmt:=match s with | .While _ b _ _=>b | _=>[]
def cj (l:List Stmt) (i:Nat):Stmt:=l.getD i (.Pass ⟨0,0,0,0⟩)
def eF (s:Stmt):Expr:=match s with | .Assign _ v _=>v | _=>.Constant .none 0 ⟨0,0,0,0⟩
def wO (s:Stmt):Expr:=match s with | .Return (some v) _=>v | _=>.Constant .none 0 ⟨0,0,0,0⟩
def fH (e:Expr):Expr:=match e with | .Call _ (a::_) _ _=>a | _=>.Constant .none 0 ⟨0,0,0,0⟩
def O5 (e:Expr):Expr:=match e with | .Subscript a _ _=>a | _=>.Constant .none 0 ⟨0,0,0,0⟩
def Og (e:Expr):Expr:=match e with | .ListComp x _ _ _=>x | _=>.Constant .none 0 ⟨0,0,0,0⟩
def cD (e:Expr):Scope:=match e with | .ListComp _ _ sc _=>sc | _=>{ kind:= .function,names:= [],isGenerator:=false,isCoroutine:=false }
theorem boot_tuple:bootBuiltins "tuple" = some (.type "tuple"):=by decide +kernel
theorem boot_list:bootBuiltins "list" = some (.type "list"):=by decide +kernel
section
variable {P : Program} {w : World} {K : Frag} {mg : Str -> Option Value} {base : Heap} {f : Addr} {fd : FuncData}
structure Small (rows:List (List Str)):Prop where
 bg:rows.length<=10
 short:∀r∈rows,r.length<=20
 nm:∀r∈rows,∀n∈r,Nm n
theorem Small.head {rows:List (List Str)} (S:Small rows) {n:Str} (h:n∈heads rows):Nm n:=by
 obtain⟨r,hr,e⟩:=mV.mp h
 exact S.nm r hr n (Vf e)
@[irreducible] def tK:Sp:=fun vs H Q _=>∃ (l:Addr) (ws:List V) (rows:List (List Str)),vs = [.ref l]/\H l=some (.lst ws)/\dY H ws rows/\Small rows/\eY rows=none/\(rows.any fun r=>!r.isEmpty)=true /\
 ∀p vs H',aq H H'->H p=none->H' p=some (.tup vs)->km H' vs (pD rows)->lM H' (.ref p)->Q (.ref p) H'
abbrev NQ:List Str:= ["rest", "name", "passed", "wishes", "wish", "around"]
theorem qN:cO NQ ["rest"] (aH nj):=⟨rfl,rfl,rfl,by decide +kernel,rfl,by decide +kernel,by decide +kernel⟩
abbrev ace:Scope:=cD (O5 (eF (cj (aU nj) 0)))
theorem O6:cp NQ (aH nj) ["row"] [none] ace:=⟨rfl,by decide +kernel,by decide +kernel,rfl,cR (by decide +kernel),by decide +kernel⟩
theorem Wz (rows:List (List Str)) (h:(rows.any fun r=>!r.isEmpty)=true):∃x t,heads rows=x::t:=by
 obtain⟨r,hr,e⟩:=qD.mp h
 cases r with
 | nil=>simp at e
 | cons y r =>
  have:y∈heads rows:=mV.mpr ⟨_,hr,rfl⟩
  cases q:heads rows with
  | nil=>rw[q]at this;simp at this
  | cons a t=>exact⟨a,t,rfl⟩
theorem Mx:∀ {ps:List Str}{n:Str},n∈ps -> ∃j:Nat,ps[j]? = some n /\ ∀m:Nat,m < j->ps[m]? ≠ some n
 | [],n,h=>by simp at h
 | x::ps,n,h=>by
  by_cases e:x=n
  ·exact⟨0,by rw[e];rfl,fun m hm=>by omega⟩
  ·have h':n∈ps:=by
    rcases a9.mp h with z | z
    ·exact absurd z.symm e
    ·exact z
   obtain⟨j,h1,h2⟩:=Mx h'
   refine⟨j+1,by simpa using h1,fun m hm=>?_⟩
   cases m with
   | zero=>simpa using e
   | succ m=>simpa using h2 m (by omega)
structure Ni (H:Hp) (rows:List (List Str)) (l pa wa:Addr) (m:Nat) (σ:St) (H1:Hp) (nm:Str) (ps:List Str) (wv:List V) (W:List Wi):Prop where
 st:∃v4:Option V,σ = [some (.ref l),some (.str nm),some (.ref pa),some (.ref wa),v4,none]
 mm:m=rows.length - ps.length
 hn:nm∈heads rows
 hp:∀n∈ps,n∈heads rows
 nd:ps.Nodup
 pa:H1 pa=some (.lst (ps.map V.str))
 wa:H1 wa=some (.lst wv)
 ln:wv.length=ps.length
 Q7:∀v∈wv,pI H1 v
 sm:aq H H1
 pw:km H1 wv W
 eq:lN rows (rows.length+1 - ps.length) nm ps W=pD rows
theorem Dz {ps hs:List Str} (nd:ps.Nodup) (h:∀n∈ps,n∈hs):ps.length<=hs.length:=by
 by_cases z:ps.length<=hs.length
 ·exact z
 ·obtain⟨y,hy,hn⟩:=zM (found:=hs) nd (by omega)
  exact absurd (h y hy) hn
theorem X2 {fW:Addr}{l7:FuncData} (F:bw K "ring_within" "ring_within" nj f fd) (B:c7 mg) (FW:bw K "wish_against" "wish_against" nz fW l7) (bW:Binds K l7 ["rest", "name"] []) (mW:mg "wish_against" = some (.ref fW)) :
  aN P w K mg base aS 2 f fd ["rest"] tK:=by
 have GW:aN P w K mg base aS 1 fW l7 ["rest", "name"] qR:=Nf FW B
 refine F.ok qN (fun vs H Q E h=>?_) (fun aQ A outer s H vs Q E hr h=>?_)
 ·unfold tK at h;obtain⟨l,ws,rows,rfl,_⟩:=h;rfl
 ·unfold tK at h
  obtain⟨l,ws,rows,rfl,hl,hR,hS,hF,hA,q⟩:=h
  have cY:bQ 1 _:=hr
  refine⟨_,aF (ba (i:=1) qN.nd rfl (Or.inl rfl) (bC dW (dg rfl O6 (fq (pv 0)) (fun s H fp=>⟨aR (i:=0) O6.nd rfl (Or.inl rfl),oQ (Wy K rfl (pv 0) (fun _=>rfl)),bC (zu K rfl) (pv 0) aD (fun _ _=>rfl)⟩)) aD (fun _ _=>rfl)))
   (aF (ba (i:=2) qN.nd rfl (Or.inl rfl) (cL ah))
   (aF (ba (i:=3) qN.nd rfl (Or.inl rfl) (cL ah))
   (aF (zq iH (cG KO (pv 1) (pv 2) rfl)
    (aF (oV (lL sG yS yT qL (pv 2) (ae (pv 1) ah)))
    (aF (ba (i:=4) qN.nd rfl (Or.inl rfl) (bG GW cY rfl mW FW.kp bW .nil bE (ae (pv 0) (ae (pv 1) ah))))
    (aF (oV (lL sG yS yT qL (pv 3) (ae (pv 4) ah)))
    (aP (ba (i:=1) qN.nd rfl (Or.inl rfl) (bC js (pv 4) aD (fun _ _=>rfl))))))))
   (aF (ba (i:=5) qN.nd rfl (Or.inl rfl) (dB fu (pv 3) (dj (lL sG PySem.F.slot_list_index PySem.F.type_list_index XC (pv 2) (ae (pv 1) ah))) dC))
   (aP (bu (eX sN rfl B.tuple boot_tuple (ae (ZD (pv 5)) ah)))))))),?_⟩
  refine⟨_,rfl,l,rfl,⟨_,ai.of hl⟩,fun a1 eI=>?_⟩
  refine gK (xs:=ws) (fun i zs τ H1=>∃t0:Option V,zs=(heads (rows.take i)).map V.str/\τ = [t0]/\H1=upd H a1 (.lst zs)) ⟨none,rfl,rfl,rfl⟩ (fun i zs τ H1 ⟨_,_,_,z⟩=>by rw[z];exact⟨af,ai.of (by rw[aj (ax hl eI)];exact hl)⟩) ?_ ?_
  ·rintro i x zs τ H1 hx ⟨t0,rfl,rfl,rfl⟩
   obtain⟨a,r,rfl,gI,gf⟩:=hR.get hx
   have aM:i < ws.length:=(cq.mp hx).1
   have n9:(upd H a1 (.lst ((heads (rows.take i)).map V.str))) a=some (.tup (r.map V.str)):=by rw[aj (ax gf eI)];exact gf
   have tk:rows.take (i+1)=rows.take i ++ [r]:=by rw[de,gI];rfl
   refine⟨_,rfl,!(r.map V.str).isEmpty,.inr (.inl ⟨_,aB.of n9,rfl⟩),?_⟩
   cases r with
   | nil=>exact cw_next aM ⟨_,by rw[tk];simp[heads],rfl,rfl⟩
   | cons y r =>
    refine⟨_,rfl,a,_,0,.str y,rfl,rfl,aB.of n9,jC,af,?_,cw_next aM ⟨_,?_,rfl,by rw[iq]⟩⟩
    ·have h1:=sX (rows.take i)
     have h2:(rows.take i).length<=rows.length:=by rw[aX];omega
     have h3:=hS.bg
     rw[ar,ay];omega
    ·rw[tk];simp[heads]
  ·rintro zs τ H1 ⟨t0,rfl,rfl,rfl⟩
   rw[hR.length,dw]
   obtain⟨x0,ht,qb⟩:=Wz rows hA
   rw[qb]
   refine⟨a1,_,0,.str x0,rfl,rfl,ai.of af,jC,?_⟩
   have S0:=ak (o:= .lst ((x0::ht).map V.str)) eI
   refine⟨bY _,fun pa qd=>⟨bY _,fun wa u7=>?_⟩⟩
   have S1:=S0.trans (ak (o:= .lst []) qd)
   have S2:=S1.trans (ak (o:= .lst []) u7)
   have acf:H pa=none:=S0.free qd
   have acg:H wa=none:=S1.free u7
   have HG:pa≠wa:=ax af u7
   refine⟨fun m σ H1=>∃nm ps wv W,Ni H rows l pa wa m σ H1 nm ps wv W,⟨_,x0,[],[],[],⟨none,rfl⟩,rfl,by rw[qb];exact aZ,(fun n hn=>by simp at hn),oJ,by rw[aj HG];exact af,af,rfl,(fun v hv=>by simp at hv),S2,.nil,by unfold pD;rw[qb];rfl⟩,?_⟩
   rintro m σ H1 ⟨nm,ps,wv,W,R⟩
   obtain⟨v4,rfl⟩:=R.st
   have amZ:ps.length<=10:=by
    have h1:=Dz R.nd R.hp
    have h2:=sX rows
    have h3:=hS.bg
    omega
   refine⟨_,rfl,_,rfl,pa,_,rfl,.inl (ai.of R.pa),rfl,mU _,_,rfl,?_⟩
   rw[aI rfl,tw]
   refine eM (fun hn=>?_) (fun hn=>?_)
   ·have j':nm ∉ ps:=by simpa using hn
    have nd1:(nm::ps).Nodup:=fV.mpr ⟨j',R.nd⟩
    have ach:(nm::ps).length<=rows.length:=c9 (Dz nd1 fun n z=>by
     rcases a9.mp z with rfl | z
     ·exact R.hn
     ·exact R.hp n z) (sX rows)
    refine⟨fun aK H'=>∃m',m' < m /\ ∃nm ps wv W,Ni H rows l pa wa m' aK H' nm ps wv W,fun _ _ z=>z,?_⟩
    refine⟨_,rfl,.inl ⟨rfl,_,ai.of R.pa⟩,_,rfl,pa,_,_,rfl,rfl,R.pa,by rw[ar,ay];omega,?_⟩
    have S3:aq H (upd H1 pa (.lst (ps.map V.str ++ [.str nm]))):=fun b o e=>by rw[aj (ax e acf)];exact R.sm b o e
    refine⟨_,rfl,_,rfl,Ng (S3 _ _ hl) (hR.same S3) (fun en=>absurd en (yX hF nm R.hn)) (fun j x es p H3 hp S4 h3=>?_)⟩
    obtain⟨_,hj,hx⟩:=Cq es
    have Ef:H3 wa=some (.lst wv):=S4 _ _ (by rw[aj (aT HG)];exact R.wa)
    have aci:H3 pa=some (.lst (ps.map V.str ++ [.str nm])):=S4 _ _ af
    refine⟨_,rfl,.inl ⟨rfl,_,ai.of Ef⟩,_,rfl,wa,_,_,rfl,rfl,Ef,by rw[R.ln,ay];omega,?_⟩
    have S5:aq H (upd H3 wa (.lst (wv ++ [.ref p]))):=fun b o e=>by rw[aj (ax e acg)];exact S4 _ _ (S3 b o e)
    have acj:p≠wa:=bZ h3 Ef (by intro z;cases z)
    have HH:(upd H3 wa (.lst (wv ++ [.ref p]))) p=some (.tup [.int j,.str x,.str nm]):=by rw[aj acj];exact h3
    have aaL:∀v,pI H1 v->pI (upd H3 wa (.lst (wv ++ [.ref p]))) v:=fun v ⟨a,i,y,n,e,ha,r⟩=>⟨a,i,y,n,e,by
     have n1:a≠pa:=bZ ha R.pa (by intro z;cases z)
     have n2:a≠wa:=bZ ha R.wa (by intro z;cases z)
     rw[aj n2]
     exact S4 _ _ (by rw[aj n1];exact ha),r⟩
    refine⟨_,rfl,p,_,1,.str x,rfl,rfl,aB.of HH,(show dH [V.int j,.str x,.str nm] ((1:Nat):Int)=some (V.str x) from dE rfl),?_⟩
    have amR:ps.length+1<=rows.length:=by simpa using ach
    have Ag:=hS.bg
    refine⟨rows.length - (ps ++ [nm]).length,by rw[R.mm,aW];simp only[oH];omega,x,ps ++ [nm],wv ++ [.ref p],W ++ [(j,x,nm)],⟨_,rfl⟩,rfl,hx,?_,?_,?_,af,?_,?_,S5,?_,?_⟩
    ·intro n z
     rcases cz.mp z with z | z
     ·exact R.hp n z
     ·have:n=nm:=by simpa using z
      rw[this];exact R.hn
    ·rw[qE]
     exact⟨R.nd,by simp,fun a ha b hb=>by rw[show b=nm by simpa using hb];exact fun h=>j' (h ▸ ha)⟩
    ·rw[aj HG,aci,aY];rfl
    ·rw[aW,aW,R.ln];rfl
    ·intro v z
     rcases cz.mp z with z | z
     ·exact aaL v (R.Q7 v z)
     ·have:v = .ref p:=by simpa using z
      rw[this]
      exact⟨p,j,x,nm,rfl,HH,by omega,hS.head hx,hS.head R.hn⟩
    ·refine LW (Paired.imp' (fun v w' ⟨a,e,ha⟩=>⟨a,e,?_⟩) R.pw) (w:=(j,x,nm)) ⟨p,rfl,HH⟩
     have n1:a≠pa:=bZ ha R.pa (by intro z;cases z)
     have n2:a≠wa:=bZ ha R.wa (by intro z;cases z)
     rw[aj n2]
     exact S4 _ _ (by rw[aj n1];exact ha)
    ·rw[<-R.eq]
     obtain⟨k,hk⟩:∃k,rows.length+1 - ps.length=k+1:=⟨rows.length - ps.length,by omega⟩
     rw[hk,show rows.length+1 - (ps ++ [nm]).length=k by rw[aW,oH];omega]
     exact(YX j' es).symm
   ·have j':nm∈ps:=by simpa using hn
    obtain⟨j,hj,nV⟩:=Mx j'
    refine⟨_,rfl,_,rfl,.inl ⟨rfl,_,ai.of R.pa⟩,_,rfl,pa,ps,nm,j,rfl,rfl,R.pa,hj,nV,_,rfl,wa,wv,rfl,ai.of R.wa,fun p5 AZ=>?_⟩
    refine⟨_,rfl,p5,_,rfl,ai.of af,fun p6 Bs=>?_⟩
    refine⟨p6,_,rfl,.inl ⟨ai.of af,fun p7 Q8=>?_⟩⟩
    have T5:=R.sm.trans (ak (o:= .lst (eP wv (some (j:Int)) none)) AZ)
    have T1:aq H1 _:=(ak (o:= .lst (eP wv (some (j:Int)) none)) AZ).trans ((ak (o:= .lst (eP wv (some (j:Int)) none).reverse) Bs).trans (ak (o:= .tup (eP wv (some (j:Int)) none).reverse) Q8))
    refine q p7 _ _ (R.sm.trans T1) ((R.sm.trans ((ak (o:= .lst (eP wv (some (j:Int)) none)) AZ).trans (ak (o:= .lst (eP wv (some (j:Int)) none).reverse) Bs))).free Q8) af ?_ (Lh af (fun v hv=>?_) ?_)
    ·have ej:ps.idxOf nm=j:=LV hj nV
     obtain⟨k,hk⟩:∃k,rows.length+1 - ps.length=k+1:=⟨rows.length - ps.length,by have:=Dz R.nd R.hp;have:=sX rows;omega⟩
     rw[<-R.eq,hk,X1 j',ej]
     rw[show eP wv (some (j:Int)) none=wv.drop j from jn _ _]at T1 ⊢
     exact ZK (YY (Paired.imp' (fun v w' ⟨a,e,ha⟩=>⟨a,e,T1 _ _ ha⟩) R.pw))
    ·have hv1:v∈eP wv (some (j:Int)) none:=Vb.mp hv
     exact(R.Q7 v (mE (oN hv1))).same T1
    ·have h1:=Co wv (some (j:Int)) none
     rw[Km]
     have:=R.ln
     omega
theorem X3 {l:Addr}{ws:List V}{rows:List (List Str)}{H:Hp}{Q:VK}{E:XK} (hl:H l=some (.lst ws)) (hR:dY H ws rows) (hS:Small rows) (hF:eY rows=none) (hA:(rows.any fun r=>!r.isEmpty)=true)
  (q:∀p vs H',aq H H'->H p=none->H' p=some (.tup vs)->km H' vs (pD rows)->lM H' (.ref p)->Q (.ref p) H'):tK [.ref l] H Q E:=by
 unfold tK;exact⟨l,ws,rows,rfl,hl,hR,hS,hF,hA,q⟩
end
end bc
namespace bc
open PySem L2 PySem.W
theorem Li {rest:List (List Str)} (h:total rest=0):(rest.any fun r=>!r.isEmpty)=false:=by
 cases e:rest.any fun r=>!r.isEmpty with
 | false=>rfl
 | true=>have:=CO e;omega
theorem sY {rest:List (List Str)}{n:Str} (h:eY rest=some n):∃r∈rest,n∈r:=by
 obtain⟨r,hr,e⟩:=yW h
 exact⟨r,hr,Vf e⟩
theorem Lj:∀ (k:Nat) (r:List (List Str)),total r<=k -> ∀j,total r<=j->bB k r=bB j r
 | 0,r,h,j,_=>by
  have z:=Li (show total r=0 by omega)
  cases j with
  | zero=>rfl
  | succ j=>unfold bB;rw[aE (by rw[z];exact dU)]
 | k+1,r,h,0,hj=>by
  have z:=Li (show total r=0 by omega)
  unfold bB;rw[aE (by rw[z];exact dU)]
 | k+1,r,h,j+1,hj=>by
  unfold bB
  split
  ·cases e:eY r with
   | none=>rfl
   | some n =>
    have:=sM (sY e)
    show Option.map _ _=Option.map _ _
    rw[Lj k (without n r) (by omega) j (by omega)]
  ·rfl
theorem Cz {r:List (List Str)} (h:(r.any fun r=>!r.isEmpty)=false):bB (total r) r=some []:=by
 cases total r with
 | zero=>rfl
 | succ k=>unfold bB;rw[aE (by rw[h];exact dU)]
theorem CA {r:List (List Str)} (h:(r.any fun r=>!r.isEmpty)=true) (e:eY r=none):bB (total r) r=none:=by
 have:=CO h
 cases q:total r with
 | zero=>omega
 | succ k=>unfold bB;rw[aI h,e]
theorem CB {r:List (List Str)}{n:Str} (h:(r.any fun r=>!r.isEmpty)=true) (e:eY r=some n):bB (total r) r=(bB (total (without n r)) (without n r)).map (n :: ·):=by
 have:=sM (sY e)
 cases q:total r with
 | zero=>omega
 | succ k =>
  show(if (r.any fun r=>!r.isEmpty)=true then _ else _)=_
  rw[aI h,e]
  show Option.map _ _=_
  rw[Lj k (without n r) (by omega) _ (aO _)]
theorem KR {env:Env}:∀ {names:List (Str×NameKind)}{x:Str},names.lookup x=some .cell ->
  (names.map fun(n,k)=>if (k==NameKind.free && env.scope.kind == .function && env.kindOf n==some .cell) then (n,NameKind.cell) else (n,k)).lookup x=some .cell
 | [],_,h=>by simp at h
 | (n,k0)::r,x,h=>by
  have ih:=@KR env r x
  show List.lookup x ((if (k0==NameKind.free && env.scope.kind == .function && env.kindOf n==some .cell)=true then (n,NameKind.cell) else (n,k0))::_)=_
  rw[iE]at h
  cases hx:x==n with
  | true =>
   rw[hx]at h
   cases h
   rw[aE (by simp),iE,hx]
  | false =>
   rw[hx]at h
   by_cases hc:(k0==NameKind.free && env.scope.kind == .function && env.kindOf n==some .cell)=true
   ·rw[aI hc,iE,hx];exact ih h
   ·rw[aE hc,iE,hx];exact ih h
theorem nest {N N':List Str}{cW:List (Option Nat)}{u9 sc:Scope}{env:Env} (kind:sc.kind = .function) (keys:(sc.names.map (·.1)).Nodup) (nd:N'.Nodup) (len:cW.length=N'.length) (fv:OU N N' cW sc=true)
  (free:∀p∈sc.names,p.2 = .free->u9.names.lookup p.1=some .cell\/u9.names.lookup p.1=some .free):cp N (relabel u9 env) N' cW sc:=
 ⟨kind,keys,nd,len,cR fv,fun p hp e=>by
  rcases free p hp e with z | z
  ·exact .inl (KR z)
  ·exact Ci z⟩
theorem Cm {X:Cx} (K:Frag) (h:X.K=K):eO X (.type "tuple") (fun xs H Q=>∃p ys,xs = [.ref p]/\((ai K H p ys /\ ∀l,H l=none->Q (.ref l) (upd H l (.tup ys)))\/(aB K H p ys/\Q (.ref p) H))):=by subst h;exact sN
theorem boot_any:bootBuiltins "any" = some (.builtin "any"):=by decide +kernel
def DA (K:Frag) (C:Addr):Bool:=
 findIn K (.ref C) "__getattribute__" == some (some (.builtin "BaseException.__getattribute__")) && (findIn K (.ref C) "__getattr__" == some none && (findIn K (.ref C) "__setattr__" == some (some (.builtin "object.__setattr__")) && (hasDictIn K C &&
 (((clsIn K C).any fun cd=>tX cd.mro) && (mroIn K C (.type "BaseException")==some true && (mroIn K C (.type "ValueError")==some true && (mroIn K C (.type "object")==some true && (findIn K (.ref C) "__class__" == some (some (.builtin "object.__class__")) &&
 (specialIn K (.builtin "object.__class__") "__get__" == some (some (.builtin "getset_descriptor.__get__")) && takesIn K (.builtin "object.__class__")==some true)))))))))
theorem YZ {K:Frag}{C:Addr} (h:DA K C=true):fw K C:=by
 unfold DA at h
 simp only[gY,eN]at h
 obtain⟨a,b,c,d,e,f,g,i,j,k,l⟩:=h
 exact⟨a,b,c,d,e,f,g,i,j,k,l⟩
def Eg (a:Addr) (H H':Hp):Prop:= ∀b o,H b=some o->b≠a->H' b=some o
@[irreducible] def lO (K:Frag) (f g:Str):Sp:=fun vs H Q _=>∃ (a C:Addr) (k r:V) (i:Option Value),vs = [.ref a,k,r]/\H a=some (cw C none a)/\fw K C/\gq K C i=true/\lM H k/\lM H r/\findIn K (.ref C) f=some none/\findIn K (.ref C) g=some none /\
 ∀d H',H d=none->d≠a->H' a=some (cw C (some d) a)->H' d=some (fg d [(f,k),(g,r)])->Eg a H H'->Q .aG H'
theorem My {a d C:Addr}{fs:List (Str×V)}{H:Hp} (hd:H d=none):Eg a H (upd (upd H d (fg d fs)) a (cw C (some d) a)):=fun b o e n=>by
 rw[aj n,aj (ax e hd)];exact e
section
variable {P : Program} {w : World} {K : Frag} {mg : Str -> Option Value} {base : Heap} {B : Addr} {f : Addr} {fd : FuncData}
theorem NR:cO ["self", "kind", "ring"] ["self", "kind", "ring"] (aH lb):=⟨rfl,rfl,rfl,by decide +kernel,rfl,by decide +kernel,by decide +kernel⟩
theorem Y0 (F:bw K "__init__" "Ring.__init__" lb f fd) (b:wc K B) (mB:mg "LineError" = some (.ref B)):aN P w K mg base aS 1 f fd ["self", "kind", "ring"] (lO K "kind" "ring"):=by
 refine F.ok NR (fun vs H Q E h=>?_) (fun aQ A outer s H vs Q E hr h=>?_)
 ·unfold lO at h;obtain⟨a,C,k,r,i,rfl,_⟩:=h;rfl
 ·unfold lO at h
  obtain⟨a,C,k,r,i,rfl,ha,c,qi,fk,fr,nk,nr,q⟩:=h
  have hu:=hr.units
  have hg:=hr.gd
  refine⟨_,aF (oV (KY b rfl mB (ae (pv 0) (ae (MV (oW iJ (oW (zL hu hg (pv 1)) (oW iJ (oW (zL hu hg (pv 2)) NJ))))) ah))))
   (aF (MW (pv 0) (pv 1)) (aP (Md (pv 0) (pv 2)))),?_⟩
  refine⟨_,rfl,⟨_,rfl,by decide +kernel⟩,_,rfl,fk,fun y1 xy=>⟨⟨_,rfl,xy⟩,⟨_,rfl,by decide +kernel⟩,_,rfl,fr,fun y2 xA=>⟨⟨_,rfl,xA⟩,fun y hy=>?_⟩⟩⟩
  refine⟨a,C,none,_,i,rfl,ha,c,qi,?_⟩
  refine⟨_,rfl,_,rfl,a,C,rfl,ha,c,nk,fun d hd l8=>?_⟩
  refine⟨_,rfl,_,rfl,a,C,d,_,rfl,af,(by rw[aj l8];exact af),c,nr,(by show 1 < 100;decide),?_⟩
  refine q d _ hd l8 ?_ af fun b o e n=>?_
  ·rw[aj (aT l8)];exact af
  ·rw[aj (ax e hd)];exact My hd b o e n
end
end bc
namespace bc
open PySem L2 PySem.W
abbrev Nj:List Str:= ["rows", "order", "rest", "name"]
theorem vN:cO Nj ["rows"] (aH oY):=⟨rfl,rfl,rfl,by decide +kernel,rfl,by decide +kernel,by decide +kernel⟩
abbrev O7:Expr:=eF (cj (vJ (cj (aU oY) 2)) 3)
abbrev u9:Scope:=cD O7
abbrev scI:Scope:=cD (fH (Og O7))
theorem Q9:cp Nj (aH oY) ["row", "name"] [none,some 3] u9:=⟨rfl,by decide +kernel,by decide +kernel,rfl,cR (by decide +kernel),by decide +kernel⟩
theorem csI {env:Env}:cp ["row", "name"] (relabel u9 env) ["other", "name"] [none,some 1] scI:=nest rfl (by decide +kernel) (by decide +kernel) rfl (by decide +kernel) (by decide +kernel)
theorem ndI:(["other", "name"]:List Str).Nodup:=by decide +kernel
structure DR (K:Frag) (mg:Str->Option Value) (B C fI:Addr) (qe:FuncData):Prop where
 mC:mg "Ring" = some (.ref C)
 q:gq K C (some (.ref fI))=true
 fn:isFn K (.ref fI)=true
 kp:keepIn K (.ref C)=true
 F:bw K "__init__" "Ring.__init__" lb fI qe
 b:wc K B
 mB:mg "LineError" = some (.ref B)
 bi:Binds K qe ["self", "kind", "ring"] []
 x:fw K C
 nk:findIn K (.ref C) "kind" = some none
 nr:findIn K (.ref C) "ring" = some none
theorem X4 {H H':Hp}{x:V} (h:lM H x) (s:aq H H'):lM H' x:=by
 rcases h with h | h | ⟨a,d,e,r,q⟩
 ·exact .inl h
 ·exact .inr (.inl h)
 ·exact .inr (.inr ⟨a,d,e,r.same s,q⟩)
theorem two_sp {K:Frag}{f g:Str}{a C:Addr}{k r:V}{i:Option Value}{H:Hp}{Q:VK}{E:XK} (ha:H a=some (cw C none a)) (x:fw K C) (q:gq K C i=true) (fk:lM H k) (fr:lM H r) (nk:findIn K (.ref C) f=some none) (nr:findIn K (.ref C) g=some none)
  (h:∀d H',H d=none->d≠a->H' a=some (cw C (some d) a)->H' d=some (fg d [(f,k),(g,r)])->Eg a H H'->Q .aG H'):lO K f g [.ref a,k,r] H Q E:=by
 unfold lO;exact⟨a,C,k,r,i,rfl,ha,x,q,fk,fr,nk,nr,h⟩
theorem LX {H H':Hp}{vs:List V}{rows:List (List Str)} (h:dY H vs rows) (s:∀b xs,H b=some (.tup xs)->H' b=some (.tup xs)):dY H' vs rows:=Paired.imp' (fun _ _ ⟨a,e,q⟩=>⟨a,e,s _ _ q⟩) h
theorem KN {rest:List (List Str)}{n:Str} (S:Small rest):Small (without n rest):=by
 refine⟨by unfold L2.without;rw[ar];exact S.bg,fun r hr=>?_,fun r hr y hy=>?_⟩
 ·obtain⟨q,hq,rfl⟩:=bj.mp hr
  exact c9 (qG _ _) (S.short q hq)
 ·obtain⟨q,hq,rfl⟩:=bj.mp hr
  exact S.nm q hq y (kB.mp hy).1
structure O8 (H:Hp) (rows:List (List Str)) (t oa:Addr) (m:Nat) (σ:St) (H1:Hp) (rest:List (List Str)) (ws:List V) (acc:List Str) (rl:Addr):Prop where
 st:∃v3:Option V,σ = [some (.ref t),some (.ref oa),some (.ref rl),v3]
 mm:m=total rest
 og:H1 oa=some (.lst (acc.map V.str))
 gV:H1 rl=some (.lst ws)
 rr:dY H1 ws rest
 sm:Small rest
 ne:rl≠oa
 same:aq H H1
 lim:acc.length+total rest<=1000
 eq:bB (total rows) rows=(bB (total rest) rest).map (acc ++ ·)
 ll:qS 1000 rows=qS (1000 - acc.length) rest
 cut:Cut rows rest
theorem sR:∀ {rows:List (List Str)},(∀r∈rows,r.length<=20)->total rows<=20 * rows.length
 | [],_=>bY _
 | r::rows,h=>by
  have h1:=sR fun q hq=>h q (bX _ hq)
  have h2:=h r aZ
  have e:total (r::rows)=r.length+total rows:=by simp[total]
  rw[e,dc];omega
theorem X5 {K:Frag}{H:Hp}{ws:List V}{rows:List (List Str)} (h:dY H ws rows):Paired (fun y r=>∃a,y=V.ref a/\aB K H a r) ws (rows.map fun r=>r.map V.str):=by
 induction h with
 | nil=>exact .nil
 | cons p _ ih=>obtain⟨a,e,q⟩:=p;exact .cons ⟨a,e,aB.of q⟩ ih
theorem any_map (rows:List (List Str)):((rows.map fun r=>r.map V.str).any fun r=>!r.isEmpty)=rows.any fun r=>!r.isEmpty:=by
 rw[Kj];congr 1;funext r;cases r <;> rfl
section
variable {P : Program} {w : World} {K : Frag} {mg : Str -> Option Value} {base : Heap} {f : Addr} {fd : FuncData}
@[irreducible] def tF (C:Addr):Sp:=fun vs H Q E=>∃ (t:Addr) (ws:List V) (rows:List (List Str)),vs = [.ref t]/\H t=some (.tup ws)/\dY H ws rows/\Small rows /\
 (bB (total rows) rows=none -> ∀a d p vs H',H a=none->H d=none->H p=none->qW (Dy rows) 10 (t9 rows)->aq H H'->H' a=some (gu true C (some d) a)->H' d=some (fg d [("kind", .aG),("ring", .ref p)])->H' p=some (.tup vs)->km H' vs (t9 rows)->E (.ref C) (some a) H')/\(∀o,bB (total rows) rows=some o -> ∀p H',H p=none->aq H H'->H' p=some (.tup (o.map V.str))->Q (.ref p) H')
theorem Xb {B C fI fL fW fR:Addr}{qe HI l7 HJ:FuncData} (F:bw K "merged" "merged" oY f fd) (Bl:c7 mg) (T:DR K mg B C fI qe)
  (FW:bw K "wish_against" "wish_against" nz fW l7) (bW:Binds K l7 ["rest", "name"] []) (mW:mg "wish_against" = some (.ref fW))
  (FL:bw K "least_free" "least_free" qQ fL HI) (bL:Binds K HI ["rest"] []) (mL:mg "least_free" = some (.ref fL))
  (FR:bw K "ring_within" "ring_within" nj fR HJ) (bR:Binds K HJ ["rest"] []) (mR:mg "ring_within" = some (.ref fR)) :
  aN P w K mg base (gU P w) 3 f fd ["rows"] (tF C):=by
 have GL:aN P w K mg base aS 2 fL HI ["rest"] tJ:=XZ FL Bl FW bW mW
 have GR:aN P w K mg base aS 2 fR HJ ["rest"] tK:=X2 FR Bl FW bW mW
 have GI:aN P w K mg base aS 1 fI qe ["self", "kind", "ring"] (lO K "kind" "ring"):=Y0 T.F T.b T.mB
 refine F.Hg vN (fun vs H Q E h=>?_) (fun aQ A outer s H vs Q E hr h=>?_)
 ·unfold tF at h;obtain⟨t,ws,rows,rfl,_⟩:=h;rfl
 ·unfold tF at h
  obtain⟨t,ws,rows,rfl,ht,hR,hS,qn,qs⟩:=h
  have ia:bQ 2 _:=hr
  refine⟨_,aF (ba (i:=1) vN.nd rfl (Or.inl rfl) (cL ah))
   (aF (ba (i:=2) vN.nd rfl (Or.inl rfl) (eX oO rfl Bl.list boot_list (ae (pv 0) ah)))
   (aF (zq Vg (tq (aV (WT rfl) rfl Bl.any boot_any (ae (pv 2) ah)) (fun _=>rfl))
    (aF (ba (i:=3) vN.nd rfl (Or.inr rfl) (bG GL ia rfl mL FL.kp bL .nil bE (ae (pv 2) ah)))
    (aF (eg (cG vZ (pv 3) i3 (cB _)) (aP (WY (Yw T.q T.fn T.kp GI ia T.bi bE rfl T.mC (ae i3 (ae (bG GR ia rfl mR FR.kp bR .nil bE (ae (pv 2) ah)) ah))))) d9)
    (aF (oV (lL sG yS yT qL (pv 1) (ae (pv 3) ah)))
    (aP (qJ (i:=2) rfl Q9 vN.nd rfl rfl (fq (pv 2)) (fun s H fp=>⟨aR (i:=0) Q9.nd rfl (Or.inl rfl),dh,
     eX (Cm K rfl) rfl Bl.tuple boot_tuple (ae (dg rfl csI (Me K rfl (pv 0)) (fun s H fp=>⟨aR (i:=0) ndI rfl (Or.inl rfl),oQ (cG wo (pv 0) (pv 1) rfl),pv 0⟩)) ah)⟩)))))))
   (aP (bu (eX sN rfl Bl.tuple boot_tuple (ae (pv 1) ah)))))),?_⟩
  refine⟨bY _,fun oa og=>⟨_,rfl,t,ws,rfl,.inr (aB.of (by rw[aj (ax ht og)];exact ht)),fun rl gV=>?_⟩⟩
  have ack:(upd (upd H oa (.lst [])) rl (.lst ws)) oa=some (.lst []):=by rw[aj (ax af gV)];exact af
  have S1:aq H (upd (upd H oa (.lst [])) rl (.lst ws)):=(ak og).trans (ak gV)
  refine⟨fun m σ H1=>∃rest lB acc rl,O8 H rows t oa m σ H1 rest lB acc rl,⟨_,rows,ws,[],rl,⟨none,rfl⟩,rfl,ack,af,hR.same S1,hS,aT (ax af gV),S1,by have:=sR hS.short;have:=hS.bg;simp only[vv];omega,by cases bB (total rows) rows <;> rfl,rfl,.refl _⟩,?_⟩
  rintro m σ H1 ⟨rest,lB,acc,rl,R⟩
  obtain⟨v3,rfl⟩:=R.st
  refine⟨_,rfl,rl,lB,_,rfl,ai.of R.gV,X5 R.rr,_,rfl,?_⟩
  rw[any_map]
  refine eM (fun hA=>?_) (fun hA=>?_)
  ·refine⟨fun aK H'=>∃m',m' < m /\ ∃rest lB acc rl,O8 H rows t oa m' aK H' rest lB acc rl,fun _ _ z=>z,?_⟩
   refine⟨_,rfl,X0 R.gV R.rr fun H2 S2=>?_⟩
   have wQ:=CO hA
   cases e:eY rest with
   | none =>
    refine⟨_,rfl,rfl,_,rfl,?_⟩
    refine⟨_,rfl,X3 (S2 _ _ R.gV) (R.rr.same S2) R.sm e hA fun p vs H3 S3 pZ Ra hws hf=>?_⟩
    have S4:aq H H3:=R.same.trans (S2.trans S3)
    refine⟨by show 2<=100;decide,fun a ha=>?_⟩
    have Rb:H a=none:=S4.free ha
    have hpH:H p=none:=(R.same.trans S2).free pZ
    have npa:p≠a:=ax Ra ha
    have eR:t9 rows=pD rest:=by unfold t9;rw[R.ll,Wx e]
    refine two_sp af T.x T.q (.inr (.inl rfl)) (X4 hf (ak ha)) T.nk T.nr fun d H4 hd l8 h1 h2 kp=>⟨rfl,a,C,some d,_,rfl,h1,fun d' ed=>by cases ed;exact⟨_,h2⟩,T.x,T.q,Rb,?_⟩
    have qg:H3 d=none:=by rw[aj l8]at hd;exact hd
    have ko:∀b o,H3 b=some o->upd H4 a (gu true C (some d) a) b=some o:=fun b o hb=>by
     have nb:b≠a:=ax hb ha
     rw[aj nb];exact kp b o (by rw[aj nb];exact hb) nb
    refine qn (by rw[R.eq,CA hA e];rfl) a d p vs _ Rb (S4.free qg) hpH ?_ (fun b o hb=>ko b o (S4 b o hb)) af (by rw[aj l8];exact h2) (ko _ _ Ra) ?_
    ·rw[eR]
     have q:=(YW e hA).imp fun w=>R.cut.jV
     exact⟨q.len,c9 q.bg R.sm.bg,q.at_,q.turn,q.nd⟩
    ·rw[eR];exact Paired.imp' (fun v w ⟨b,eb,hb⟩=>⟨b,eb,ko _ _ hb⟩) hws
   | some n =>
    refine⟨_,rfl,rfl,_,rfl,?_⟩
    have Eh:H2 oa=some (.lst (acc.map V.str)):=S2 _ _ R.og
    refine⟨_,rfl,.inl ⟨rfl,_,ai.of Eh⟩,_,rfl,oa,_,_,rfl,rfl,Eh,by have:=R.lim;rw[ar,ay];omega,?_⟩
    generalize Bt:upd H2 oa (.lst (acc.map V.str ++ [Ee (some n)]))=H3
    have S3:aq H H3:=fun b o eb=>by rw[<-Bt,aj (ax eb og)];exact S2 _ _ (R.same b o eb)
    have nro:rl≠oa:=R.ne
    have O9:H3 rl=some (.lst lB):=by rw[<-Bt,aj nro];exact S2 _ _ R.gV
    have Rc:dY H3 lB rest:=LX R.rr fun b xs hb=>by rw[<-Bt,aj (bZ (S2 _ _ hb) Eh (by intro z;cases z))];exact S2 _ _ hb
    have O':H3 oa=some (.lst ((acc ++ [n]).map V.str)):=by rw[<-Bt,af,aY];rfl
    refine⟨_,rfl,rl,rfl,⟨_,ai.of O9⟩,fun a1 eI=>?_⟩
    have n1o:a1≠oa:=fun z=>by rw[z,O']at eI;cases eI
    refine gK (xs:=lB) (fun i ys τ H4=>∃t0:Option V,τ = [t0,some (.str n)]/\H4 a1=some (.lst ys)/\aq H3 H4/\dY H4 ys (L2.without n (rest.take i))) ⟨none,rfl,af,ak eI,.nil⟩ (fun i ys τ H4 ⟨_,_,h1,h2,_⟩=>⟨h1,ai.of (h2 _ _ O9)⟩) ?_ ?_
    ·rintro i x ys τ H4 hx ⟨t0,rfl,va,S4,xU⟩
     obtain⟨a,r,rfl,gI,gf⟩:=Rc.get hx
     have aM:i < lB.length:=(cq.mp hx).1
     have tk:rest.take (i+1)=rest.take i ++ [r]:=by rw[de,gI];rfl
     refine⟨_,rfl,a,rfl,⟨_,aB.of (S4 _ _ gf)⟩,fun b1 fb=>?_⟩
     have Rf:(upd H4 b1 (.lst [])) a=some (.tup (r.map V.str)):=by rw[aj (ax (S4 _ _ gf) fb)];exact S4 _ _ gf
     have HK:a≠b1:=ax (S4 _ _ gf) fb
     refine oR (xs:=r.map V.str) (fun j zs jb H5=>∃t1:Option V,jb = [t1,some (.str n)]/\zs=((r.take j).filter fun y=>!decide (y=n)).map V.str/\H5=upd H4 b1 (.lst zs)) ⟨none,rfl,rfl,rfl⟩ (fun j zs jb H5 ⟨_,_,_,z⟩=>by rw[z];exact⟨af,aB.of (by rw[aj HK];exact S4 _ _ gf)⟩) ?_ ?_
     ·rintro j x zs jb H5 eZ ⟨t1,rfl,rfl,rfl⟩
      have cZ:j < (r.map V.str).length:=(cq.mp eZ).1
      have gJ:j < r.length:=by simpa using cZ
      obtain rfl:V.str r[j]=x:=by simpa [gJ] using eZ
      have jF:r.take (j+1)=r.take j ++ [r[j]]:=by rw[de,br gJ];rfl
      refine⟨_,rfl,_,rfl,rfl,_,rfl,?_⟩
      refine eM (fun du=>?_) (fun du=>?_)
      ·have uo:r[j]≠n:=fun z=>by rw[z]at du;simp at du
       refine⟨_,rfl,af,?_,cw_next cZ ⟨_,rfl,?_,by rw[iq]⟩⟩
       ·have h1:=qG (fun y=>!decide (y=n)) (r.take j)
        have h2:(r.take j).length<=r.length:=by rw[aX];omega
        have h3:=R.sm.short r (gj gI)
        rw[ar,ay];omega
       ·rw[jF,sH,aY,Cg (by simpa using uo)];rfl
      ·have hy:r[j]=n:=by
        by_cases z:r[j]=n
        ·exact z
        ·exact absurd (by simp[z]) du
       refine cw_next cZ ⟨_,rfl,?_,rfl⟩
       rw[jF];simp[hy]
     ·rintro zs jb H5 ⟨t1,rfl,rfl,rfl⟩
      rw[ar,dw]
      refine⟨b1,_,rfl,.inl ⟨ai.of af,fun l hl=>?_⟩⟩
      have n1b:a1≠b1:=ax va fb
      have Sb:aq H4 (upd (upd H4 b1 (.lst ((r.filter fun y=>!decide (y=n)).map V.str))) l (.tup ((r.filter fun y=>!decide (y=n)).map V.str))):=(ak fb).trans (ak hl)
      have n1l:a1≠l:=ax (by rw[aj n1b];exact va) hl
      refine⟨Sb _ _ va,?_,cw_next aM ⟨_,rfl,af,fun b o hb=>?_,?_⟩⟩
      ·have h1:=xU.length
       have h2:(L2.without n (rest.take i)).length<=rest.length:=by unfold L2.without;rw[ar,aX];omega
       have h3:=R.sm.bg
       rw[ay];omega
      ·rw[aj (ax hb eI)];exact Sb _ _ (S4 b o hb)
      ·have e1:L2.without n (rest.take (i+1))=L2.without n (rest.take i) ++ [r.filter fun y=>!decide (y=n)]:=by rw[tk];unfold L2.without;rw[aY];rfl
       rw[e1]
       refine dY.append (LX xU fun b xs hb=>?_) ?_
       ·rw[aj (bZ hb va (by intro z;cases z))];exact Sb _ _ hb
       ·rw[aj (aT n1l)];exact af
    ·rintro ys τ H4 ⟨t0,rfl,va,S4,xU⟩
     rw[Rc.length,dw]at xU
     have lt:=sM (sY e)
     refine⟨_,by rw[R.mm];exact lt,L2.without n rest,ys,acc ++ [n],a1,⟨_,rfl⟩,rfl,S4 _ _ O',va,xU,KN R.sm,n1o,S3.trans S4,?_,?_,?_,R.cut.without n⟩
     ·have:=R.lim;rw[aW,oH];omega
     ·rw[R.eq,CB hA e,Option.map_map]
      congr 1
      funext z
      simp
     ·have OL:=R.lim
      rw[R.ll,aW,oH]
      obtain⟨k,hk⟩:∃k,1000 - acc.length=k+1:=⟨1000 - acc.length - 1,by omega⟩
      rw[hk,Ww e,show 1000 - (acc.length+1)=k by omega]
  ·refine⟨_,rfl,oa,_,rfl,.inl ⟨ai.of R.og,fun p hp=>?_⟩⟩
   refine qs acc ?_ p _ (R.same.free hp) (R.same.trans (ak hp)) af
   rw[R.eq,Cz (by simpa using hA)]
   show some (acc ++ [])=some acc
   rw[ik]
end
end bc
namespace bc
open PySem L2
theorem boot_max:bootBuiltins "max" = some (.builtin "max"):=by decide +kernel
theorem boot_abs:bootBuiltins "abs" = some (.builtin "abs"):=by decide +kernel
section
variable {P : Program} {w : World} {K : PySem.W.Frag} {mg : Str -> Option Value} {base : Heap}
@[irreducible] def ua (K:PySem.W.Frag):Sp:=fun vs H Q _=>∃ (a:Addr) (ns:List Int) (k:Int),vs = [.ref a,.int k]/\ai K H a (ns.map V.int)/\0<=k/\k<=100/\ns.length<=63 /\
 ∀ (p:Addr) (x y:Int),H p=none->0<=x->0<=y->y < 4294967296->Q (.ref p) (upd H p (.lst [.int x,.int y]))
theorem DS:cO ["_law_script", "_law_k", "_law_cell"] ["_law_script", "_law_k"] (aH uk):=⟨rfl,rfl,rfl,by decide +kernel,rfl,by decide +kernel,by decide +kernel⟩
theorem Y1 {ns:List Int}{i:Nat} (h:i < ns.length):∃z,(ns.map V.int)[i]? = some (V.int z):=⟨ns[i],by rw[gX,br h];rfl⟩
theorem ZL {f:Addr}{fd:FuncData} (F:bw K "_law_pot" "_law_pot" uk f fd) (B:c7 mg):aN P w K mg base aS 1 f fd ["_law_script", "_law_k"] (ua K):=by
 refine F.ok DS (fun vs H Q E h=>?_) (fun aQ A outer s H vs Q E hr h=>?_)
 ·unfold ua at h;obtain⟨a,ns,k,rfl,_⟩:=h;rfl
 ·unfold ua at h
  obtain⟨a,ns,k,rfl,hS,k0,k1,hl,q⟩:=h
  refine⟨_,aF (ba (i:=2) DS.nd rfl (Or.inl rfl) aD)
   (aF (eg (cG wq (pv 1) (aV eW (by rfl) B.len dz (ae (pv 0) ah)) (cB _))
     (aP (ba (i:=2) DS.nd rfl (Or.inl rfl) (bC dW (pv 0) (pv 1) (fun _ _=>rfl)))) d9)
   (aP (bu (cL (ae (aV (vG rfl) (by rfl) B.max boot_max (ae aD (ae (aL ND (aV Ma (by rfl) B.abs boot_abs (ae (pv 2) ah)) (aL Dn aD aD)) ah)))
    (ae (aL gM (aL gM (aL fE (aV Ma (by rfl) B.abs boot_abs (ae (pv 2) ah)) aD) (aL Dm aD (pv 1))) aD) ah)))))),?_⟩
  refine⟨_,rfl,_,rfl,a,_,rfl,.inl hS,_,_,rfl,rfl,_,rfl,?_⟩
  have am0:∀c:Int,0<=(if c < 0 then -c else c):=fun c=>by split <;> omega
  have fin:∀c:Int,∀p,H p=none->Q (.ref p) (upd H p (.lst [.int (if (if c < 0 then -c else c) - 10 ^ (18:Int).toNat > 0 then (if c < 0 then -c else c) - 10 ^ (18:Int).toNat else 0),.int ((if c < 0 then -c else c) % 2147483587+101 * k+3)])):=fun c p hp=>by
   have h1:=sI (if c < 0 then -c else c) (show(2147483587:Int)≠0 by decide)
   have h2:=sJ (if c < 0 then -c else c) (show(0:Int) < 2147483587 by decide)
   refine q p _ _ hp ?_ (by omega) (by omega)
   generalize (if c < 0 then -c else c) - 10 ^ (18:Int).toNat=d
   split <;> omega
  have tail:∀c:Int,∃ (x:V),([some (.ref a),some (.int k),some (.int c)]:St)[2]? = some (some x):=fun c=>⟨_,rfl⟩
  refine eM (fun hk=>?_) (fun hk=>?_)
  ·have xt:k < ((ns.map V.int).length:Int):=iG hk
   rw[ar]at xt
   obtain⟨z,hz⟩:=Y1 (ns:=ns) (i:=k.toNat) (by omega)
   refine⟨_,rfl,_,rfl,a,_,_,_,rfl,rfl,hS,(by rw[show k=((k.toNat:Nat):Int) by omega];exact dE hz),?_⟩
   refine⟨_,rfl,z,rfl,_,_,rfl,rfl,⟨by decide,by decide,by decide⟩,_,_,rfl,rfl,_,_,rfl,?_⟩
   refine⟨_,rfl,z,rfl,_,_,rfl,rfl,(by show(0:Int) < 2147483587;decide),_,rfl,_,_,rfl,rfl,.inl ⟨by decide,by decide⟩,_,_,rfl,rfl,_,_,rfl,rfl,(by show 2<=sizeLine;rw[ay];decide),fun p hp=>fin z p hp⟩
  ·refine⟨_,rfl,0,rfl,_,_,rfl,rfl,⟨by decide,by decide,by decide⟩,_,_,rfl,rfl,_,_,rfl,?_⟩
   refine⟨_,rfl,0,rfl,_,_,rfl,rfl,(by show(0:Int) < 2147483587;decide),_,rfl,_,_,rfl,rfl,.inl ⟨by decide,by decide⟩,_,_,rfl,rfl,_,_,rfl,rfl,(by show 2<=sizeLine;rw[ay];decide),fun p hp=>fin 0 p hp⟩
@[irreducible] def o3:Sp:=fun vs H Q _=>∃ (p:Addr) (m x y:Int),vs = [.ref p,.int m]/\H p=some (.lst [.int x,.int y])/\0<=x/\0<=y/\y < 4294967296/\0 < m/\m<=1000000 /\
 ∀ (d x' y':Int),0<=d->d < m->0<=x'->0<=y'->y' < 4294967296->Q (.int d) (upd H p (.lst [.int x',.int y']))
theorem Nk:cO ["_law_pot_here", "_law_many", "_law_digit_here"] ["_law_pot_here", "_law_many"] (aH pz):=⟨rfl,rfl,rfl,by decide +kernel,rfl,by decide +kernel,by decide +kernel⟩
theorem C4 {f:Addr}{fd:FuncData} (F:bw K "_law_digit" "_law_digit" pz f fd):aN P w K mg base aS 1 f fd ["_law_pot_here", "_law_many"] o3:=by
 refine F.ok Nk (fun vs H Q E h=>?_) (fun aQ A outer s H vs Q E hr h=>?_)
 ·unfold o3 at h;obtain⟨p,m,x,y,rfl,_⟩:=h;rfl
 ·unfold o3 at h
  obtain⟨p,m,x,y,rfl,hp,x0,y0,y1,m0,m1,q⟩:=h
  refine⟨_,aF (eg (cG zU (bC dW (pv 0) aD (fun _ _=>rfl)) aD (cB _))
    (aF (ba (i:=2) Nk.nd rfl (Or.inl rfl) (aL fE (bC dW (pv 0) aD (fun _ _=>rfl)) (pv 1)))
    (aF (pj (aL kU (bC dW (pv 0) aD (fun _ _=>rfl)) (pv 1)) (zI (pv 0) aD set_list))
    (aP (bu (pv 2))))) d9)
   (aF (pj (aL fE (aL gM (aL Dm (bC dW (pv 0) aD (fun _ _=>rfl)) aD) aD) aD) (zI (pv 0) aD set_list))
   (aP (bu (aL fE (aL kU (aL fE (aL Dm (bC dW (pv 0) aD (fun _ _=>rfl)) (bC dW (pv 0) aD (fun _ _=>rfl))) aD) aD) (pv 1))))),?_⟩
  have hl:ai K H p [.int x,.int y]:=ai.of hp
  refine⟨_,rfl,p,_,0,_,rfl,rfl,hl,rfl,_,_,rfl,rfl,_,rfl,?_⟩
  refine eM (fun hx=>?_) (fun hx=>?_)
  ·refine⟨_,rfl,p,_,0,_,rfl,rfl,hl,rfl,_,rfl,_,_,rfl,rfl,m0,?_⟩
   refine⟨_,rfl,p,_,0,_,rfl,rfl,hl,rfl,_,rfl,_,_,rfl,rfl,⟨m0,by omega⟩,_,rfl,p,_,0,0,rfl,rfl,hp,rfl,?_⟩
   refine⟨_,rfl,?_⟩
   exact q _ _ _ (sI _ (by omega)) (sJ _ m0) (Kx x0 (by omega)) y0 y1
  ·refine⟨_,rfl,p,_,1,_,rfl,rfl,hl,rfl,_,_,rfl,rfl,.inr ⟨by decide,by decide⟩,_,_,rfl,rfl,_,_,rfl,rfl,(by show(0:Int) < 2147483647;decide),_,rfl,p,_,1,1,rfl,rfl,hp,rfl,?_⟩
   have h1:=sI (y * 39373+20011) (show(2147483647:Int)≠0 by decide)
   have h2:=sJ (y * 39373+20011) (show(0:Int) < 2147483647 by decide)
   refine⟨_,rfl,p,_,1,_,rfl,rfl,ai.of af,rfl,_,rfl,p,_,1,_,rfl,rfl,ai.of af,rfl,_,_,rfl,rfl,.inl ⟨Int.lt_of_lt_of_le (by decide) h1,Int.lt_of_lt_of_le h2 (by decide)⟩,_,_,rfl,rfl,(by show(0:Int) < 2147483563;decide),_,_,rfl,rfl,⟨by decide,by decide⟩,_,rfl,_,_,rfl,rfl,m0,?_⟩
   exact q _ x _ (sI _ (by omega)) (sJ _ m0) x0 h1 (by omega)
end
end bc
namespace bc
open PySem L2
def gr (p:Addr) (H:Hp):Prop:= ∃x y:Int,H p=some (.lst [.int x,.int y])/\0<=x/\0<=y/\y < 4294967296
structure cg (p:Addr) (H H':Hp):Prop where
 ok:gr p H'
 kp:∀b o,H b=some o->b≠p->H' b=some o
section
variable {p q : Addr} {H H1 H2 : Hp} {o : HO}
theorem cg.refl (h:gr p H):cg p H H:=⟨h,fun _ _ e _=>e⟩
theorem cg.trans (a:cg p H H1) (b:cg p H1 H2):cg p H H2:=⟨b.ok,fun c o e n=>b.kp c o (a.kp c o e n) n⟩
theorem gr.ne (h:gr p H) (hq:H q=none):p≠q:=let ⟨_,_,e,_⟩:=h;ax e hq
theorem cg.new (a:cg p H H1) (hq:H1 q=none):cg p H (upd H1 q o):=by
 refine⟨?_,fun b u e n=>?_⟩
 ·obtain⟨x,y,e,r⟩:=id a.ok
  exact⟨x,y,by rw[aj (a.ok.ne hq)];exact e,r⟩
 ·rw[aj (ax (a.kp b u e n) hq)];exact a.kp b u e n
theorem cg.free (a:cg p H H1) (hq:H1 q=none):H q=none:=by
 cases e:H q with
 | none=>rfl
 | some u =>
  by_cases h:q=p
  ·subst h;obtain⟨_,_,z,_⟩:=a.ok;rw[z]at hq;cases hq
  ·rw[a.kp q u e h]at hq;cases hq
theorem cg.write (a:cg p H H1) (hq:H q=none) (hp:p≠q):cg p H (upd H1 q o):=by
 refine⟨?_,fun b u e n=>?_⟩
 ·obtain⟨x,y,e,r⟩:=id a.ok
  exact⟨x,y,by rw[aj hp];exact e,r⟩
 ·rw[aj (ax e hq)];exact a.kp b u e n
theorem jo {m:Int}{Q:VK}{E:XK} (h:gr p H) (m0:0 < m) (m1:m<=1000000) (k:∀d H',0<=d->d < m->cg p H H'->Q (.int d) H'):o3 [.ref p,.int m] H Q E:=by
 obtain⟨x,y,e,x0,y0,y1⟩:=h
 unfold o3
 exact⟨p,m,x,y,rfl,e,x0,y0,y1,m0,m1,fun d x' y' d0 d1 h1 h2 h3=>k d _ d0 d1 ⟨⟨x',y',af,h1,h2,h3⟩,fun b o z n=>by rw[aj n];exact z⟩⟩
end
theorem LY:∀cs:List Nat,((cs.map sign).map (·.length)).sum=cs.length
 | []=>rfl
 | c::cs=>by
  have e:(sign c).length=1:=rfl
  simp only[d5,Ku,LY cs,dc,e];omega
abbrev qO:Str:= "abcdefghijklmnopqrstuvwxyz"
theorem LZ {d:Int} (h0:0<=d) (h1:d < 26):∃c:Nat,dH qO.cps.toList d=some c/\97<=c/\c<=122/\c=97+d.toNat:=by
 have all:∀i:Nat,i < 26->qO.cps.toList[i]? = some (97+i):=by decide +kernel
 refine⟨97+d.toNat,?_,by omega,by omega,rfl⟩
 rw[show d=((d.toNat:Nat):Int) by omega]
 exact dE (all d.toNat (by omega))
section
variable {P : Program} {w : World} {K : PySem.W.Frag} {mg : Str -> Option Value} {base : Heap}
@[irreducible] def tL:Sp:=fun vs H Q _=>∃ (p:Addr) (m:Nat),vs = [.ref p,.int m]/\gr p H/\m<=20 /\
 ∀ (l:Addr) (ys:List Str) (H':Hp),H l=none->ys.length=m->(∀y∈ys,Nm y)->ys.Nodup->cg p H H'->H' l=some (.lst (ys.map V.str))->Q (.ref l) H'
abbrev zO:List Str:= ["_law_pot_here", "_law_many", "_law_letters", "_law_found", "_law_k", "_law_size", "_law_name", "_law_some"]
theorem o6:cO zO ["_law_pot_here", "_law_many"] (aH jS):=⟨rfl,rfl,rfl,by decide +kernel,rfl,by decide +kernel,by decide +kernel⟩
def NS (s:Stmt):List Stmt:=match s with | .If _ b _ _=>b | _=>[]
abbrev acm:Scope:=cD (fH (eF (cj (lI (cj (aU jS) 2)) 1)))
abbrev acn:Scope:=cD (eF (cj (NS (cj (lI (cj (aU jS) 2)) 2)) 0))
abbrev aco:Scope:=cD (O5 (eF (cj (NS (cj (lI (cj (aU jS) 2)) 2)) 1)))
theorem Rg:cp zO (aH jS) ["_law_turn", "_law_letters", "_law_pot_here"] [none,some 2,some 0] acm:=⟨rfl,by decide +kernel,by decide +kernel,rfl,cR (by decide +kernel),by decide +kernel⟩
theorem Rh:cp zO (aH jS) ["_law_turn", "_law_letters", "_law_name"] [none,some 2,some 6] acn:=⟨rfl,by decide +kernel,by decide +kernel,rfl,cR (by decide +kernel),by decide +kernel⟩
theorem Ri:cp zO (aH jS) ["_law_one", "_law_found"] [none,some 3] aco:=⟨rfl,by decide +kernel,by decide +kernel,rfl,cR (by decide +kernel),by decide +kernel⟩
theorem X6 {f fD:Addr}{fd rZ:FuncData} (F:bw K "_law_names" "_law_names" jS f fd) (B:c7 mg) (FD:bw K "_law_digit" "_law_digit" pz fD rZ) (bD:Binds K rZ ["_law_pot_here", "_law_many"] []) (mD:mg "_law_digit" = some (.ref fD)) :
  aN P w K mg base aS 3 f fd ["_law_pot_here", "_law_many"] tL:=by
 have GD:aN P w K mg base aS 1 fD rZ ["_law_pot_here", "_law_many"] o3:=C4 FD
 refine F.ok o6 (fun vs H Q E h=>?_) (fun aQ A outer s H vs Q E hr h=>?_)
 ·unfold tL at h;obtain⟨p,m,rfl,_⟩:=h;rfl
 ·unfold tL at h
  obtain⟨p,m,rfl,hp,m1,q⟩:=h
  have cY:bQ 1 _:=hr.mono (by decide)
  refine⟨_,aF (ba (i:=2) o6.nd rfl (Or.inr rfl) iJ)
   (aF (ba (i:=3) o6.nd rfl (Or.inr rfl) (cL ah))
   (aF (iw iH rfl (lG rfl B.range (ae (pv 1) ah)) (aR (i:=4) o6.nd rfl (Or.inl rfl))
    (aF (ba (i:=5) o6.nd rfl (Or.inl rfl) (aL gM aD (bG GD cY rfl mD FD.kp bD .nil bE (ae (pv 0) (ae (bC dW (cL (ae aD (ae aD (ae aD ah))))
      (bG GD cY rfl mD FD.kp bD .nil bE (ae (pv 0) (ae aD ah))) (fun _ _=>rfl)) ah)))))
    (aF (ba (i:=6) o6.nd rfl (Or.inr rfl) (lL PySem.F.plainAttrs_str PySem.F.slot_str_join PySem.F.type_str_join Yy iJ
      (ae (dg rfl Rg (lG rfl B.range (ae (pv 5) ah)) (fun s H fp=>⟨aR (i:=0) Rg.nd rfl (Or.inl rfl),dh,bC Dp (pv 1) (bG GD cY rfl mD FD.kp bD .nil bE (ae (pv 2) (ae aD ah))) (fun _ _=>rfl)⟩)) ah)))
    (aF (eg (cG CH (pv 6) (pv 3) rfl)
      (aF (qJ (i:=7) rfl Rh o6.nd rfl rfl (lG rfl B.range (ae (aL gM (pv 1) aD) ah)) (fun s H fp=>⟨aR (i:=0) Rh.nd rfl (Or.inl rfl),dh,
        aL vE (aL vE (dB Ds (pv 2) dC (dj aD)) (bC Dp (pv 1) (pv 0) (fun _ _=>rfl))) iJ⟩))
      (aP (ba (i:=6) o6.nd rfl (Or.inr rfl) (bC dW (dg rfl Ri (fq (pv 7)) (fun s H fp=>⟨aR (i:=0) Ri.nd rfl (Or.inl rfl),oQ (cG (Lb K rfl) (pv 0) (pv 1) rfl),pv 0⟩)) aD (fun _ _=>rfl)))))
      d9)
    (aP (oV (lL sG yS yT qL (pv 3) (ae (pv 6) ah))))))))
   (aP (bu (pv 3))))),?_⟩
  refine⟨bY _,fun l hl=>?_⟩
  have dG:p≠l:=hp.ne hl
  have em:((m:Int)).toNat=m:=qx m
  refine⟨_,rfl,(m:Int),rfl,by omega,by omega,sT (fun i σ H1=>∃ (ys:List Str) (v4 v5 v6 v7:Option V),σ = [some (.ref p),some (.int m),some (.str qO),some (.ref l),v4,v5,v6,v7]/\ys.length=i/\(∀y∈ys,Nm y)/\ys.Nodup/\cg p H H1/\H1 l=some (.lst (ys.map V.str)))
   ⟨[],none,none,none,none,rfl,rfl,(fun y hy=>by simp at hy),oJ,(cg.refl hp).new hl,af⟩ ?_ ?_⟩
  ·rintro i σ H1 hi ⟨ys,v4,v5,v6,v7,rfl,hlen,Bu,dv,pa,jg⟩
   rw[em]at hi
   refine⟨_,rfl,by show 3<=sizeLine;rw[ay];decide,fun a hq=>⟨_,rfl,?_⟩⟩
   have nqp:a≠p:=aT (pa.ok.ne hq)
   refine jo (p:=p) (m:=3) ((cg.refl pa.ok).new hq).ok (by decide) (by decide) fun d H2 d0 d1 pb=>?_
   obtain⟨mv,xV,mv0,mv1⟩:∃mv:Int,dH [V.int 1,V.int 2,V.int 8] d=some (V.int mv)/\0 < mv/\mv<=8:=by
    have:d=0\/d=1\/d=2:=by omega
    rcases this with rfl | rfl | rfl
    ·exact⟨1,rfl,by decide,by decide⟩
    ·exact⟨2,rfl,by decide,by decide⟩
    ·exact⟨8,rfl,by decide,by decide⟩
   refine⟨a,_,d,_,rfl,rfl,ai.of (pb.kp a _ af nqp),xV,?_⟩
   refine jo (p:=p) (m:=mv) pb.ok mv0 (by omega) fun e H3 e0 e1 pc=>⟨_,_,rfl,rfl,?_⟩
   have pd:cg p H1 H3:=(((cg.refl pa.ok).new hq).trans pb).trans pc
   have l9:H3 l=some (.lst (ys.map V.str)):=pd.kp l _ jg (aT dG)
   refine⟨rfl,_,rfl,1+e,rfl,by omega,by omega,fun a1 eI=>?_⟩
   have Bg:p≠a1:=pc.ok.ne eI
   refine zb (fun i zs τ H4=>∃ (cs:List Nat) (t0:Option V),zs=(cs.map sign).map V.str/\cs.length=i/\(∀c∈cs,97<=c/\c<=122)/\τ = [t0,some (.str qO),some (.ref p)]/\cg p H3 H4/\H4 a1=some (.lst zs))
    ⟨[],none,rfl,rfl,(fun c hc=>by simp at hc),rfl,(cg.refl pc.ok).new eI,af⟩ (fun i zs τ H4 ⟨_,_,_,_,_,_,_,z⟩=>z) ?_ ?_
   ·rintro j zs τ H4 hj ⟨cs,t0,rfl,iD,HL,rfl,pe,hz⟩
    refine⟨_,rfl,_,rfl,jo (p:=p) (m:=26) pe.ok (by decide) (by decide) fun d H5 d0 d1 pf=>?_⟩
    obtain⟨c,hc,c0,c1,_⟩:=LZ d0 d1
    have hz5:H5 a1=_:=pf.kp a1 _ hz (aT Bg)
    refine⟨qO,d,c,rfl,rfl,(by rw[ay];decide +kernel),hc,hz5,?_,cw_next hj ⟨cs ++ [c],_,?_,?_,?_,rfl,?_,af⟩⟩
    ·rw[ar,ar,iD,ay];omega
    ·rw[aY,aY];rfl
    ·rw[aW,iD];rfl
    ·intro x hx
     rcases cz.mp hx with h | h
     ·exact HL x h
     ·have:x=c:=by simpa using h
      rw[this];exact⟨c0,c1⟩
    ·exact(pe.trans pf).write ((cg.refl pc.ok).free eI) Bg
   ·rintro zs τ H4 ⟨cs,t0,rfl,iD,HL,rfl,pe,hz⟩
    have hsl:((cs.map sign).map (·.length)).sum=cs.length:=by
     exact LY cs
    refine⟨("" : Str),a1,cs.map sign,rfl,rfl,.inl (ai.of hz),?_,?_⟩
    ·have:(Str.length ("" : Str))=0:=rfl
     rw[hsl,this,iD];omega
    rw[Wg]
    generalize Pa:(⟨cs.toArray⟩:Str)=nm
    have Ei:Nm nm:=by
     have el:nm.length=cs.length:=by rw[<-Pa];show cs.toArray.size=_;simp
     refine⟨by omega,by omega,fun c hc=>HL c ?_⟩
     rw[<-Pa]at hc;simpa using hc
    have pg:cg p H1 H4:=pd.trans pe
    have jG:H4 l=some (.lst (ys.map V.str)):=pe.kp l _ l9 (aT dG)
    refine⟨_,rfl,_,rfl,l,_,rfl,.inl (ai.of jG),rfl,mU _,_,rfl,?_⟩
    rw[aE dU,tw]
    refine eM (fun kj=>?_) (fun kj=>?_)
    ·
     refine⟨_,rfl,_,_,rfl,rfl,(m:Int)+1,rfl,by omega,by omega,fun a2 n9=>?_⟩
     refine zb (fun i zs τ H5=>∃t0:Option V,zs=((List.range i).map fun j=>Txt.slice nm none (some 6)++sign (97+j)++("q" : Str)).map V.str/\τ = [t0,some (.str qO),some (.str nm)]/\H5=upd H4 a2 (.lst zs))
      ⟨none,rfl,rfl,rfl⟩ (fun i zs τ H5 ⟨_,_,_,z⟩=>by rw[z];exact af) ?_ ?_
     ·rintro j zs τ H5 hj ⟨t0,rfl,rfl,rfl⟩
      have uX:j < m+1:=by omega
      obtain⟨c,hc,c0,c1,hce⟩:=LZ (d:=0+(j:Int)) (by omega) (by omega)
      have acp:c=97+j:=by rw[hce];omega
      have l1:(Txt.slice nm none (some 6)).length<=6:=La nm
      refine⟨_,rfl,_,rfl,nm,rfl,by have:=Ei.hi;omega,_,rfl,_,rfl,qO,_,c,rfl,rfl,(by rw[ay];decide +kernel),hc,_,_,rfl,rfl,?_,_,_,rfl,rfl,?_,af,?_,cw_next hj ⟨_,?_,rfl,?_⟩⟩
      ·show _+1<=sizeLine;rw[ay];omega
      ·have e1:(Txt.slice nm none (some 6)++(⟨#[c]⟩:Str)).length=(Txt.slice nm none (some 6)).length+1:=by
        show(_ ++ #[c]:Array Nat).size=_;rw[Kh];rfl
       have e2:(("q" : Str)).length=1:=by decide +kernel
       show(Txt.slice nm none (some 6)++(⟨#[c]⟩:Str)).length+_<=sizeLine
       rw[e1,e2,ay];omega
      ·rw[ar,ar,B',ay];omega
      ·rw[List.range_succ,aY,aY,acp];rfl
      ·rw[iq]
     ·rintro zs τ H5 ⟨t0,rfl,rfl,rfl⟩
      have em1:((m:Int)+1).toNat=m+1:=by omega
      generalize f9:(List.range ((m:Int)+1).toNat).map (fun j=>Txt.slice nm none (some 6)++sign (97+j)++("q" : Str))=cands
      have cnd:cands.Nodup:=by
       rw[<-f9]
       refine List.Pairwise.map _ (fun a b Rf h=>Rf ?_) List.nodup_range
       have:=XA h
       omega
      have cnm:∀y∈cands,Nm y:=by
       intro y hy
       rw[<-f9]at hy
       obtain⟨j,hj,rfl⟩:=bj.mp hy
       have:=oA.mp hj
       exact Yz Ei.az ⟨by omega,by omega⟩
      have am1:cands.length=m+1:=by rw[<-f9,ar,B',em1]
      have vb:upd H4 a2 (.lst (cands.map V.str)) l=some (.lst (ys.map V.str)):=by rw[aj (ax jG n9)];exact jG
      refine⟨_,rfl,a2,rfl,⟨_,ai.of af⟩,fun a3 kq=>?_⟩
      refine gK (xs:=cands.map V.str) (fun i zs τ H6=>∃t0:Option V,zs=((cands.take i).filter (fun y=>!decide (y∈ys))).map V.str/\τ = [t0,some (.ref l)]/\H6=upd (upd H4 a2 (.lst (cands.map V.str))) a3 (.lst zs))
       ⟨none,rfl,rfl,rfl⟩ (fun i zs τ H6 ⟨_,_,_,z⟩=>by rw[z];exact⟨af,ai.of (by rw[aj (ax af kq)];exact af)⟩) ?_ ?_
      ·rintro j x zs τ H6 hx ⟨t0,rfl,rfl,rfl⟩
       rw[gX]at hx
       obtain⟨y,hy,rfl⟩:=iF.mp hx
       have cZ:j < (cands.map V.str).length:=by rw[ar];exact(cq.mp hy).1
       have tk:cands.take (j+1)=cands.take j ++ [y]:=by rw[de,hy];rfl
       have Bv:(upd (upd H4 a2 (.lst (cands.map V.str))) a3 (.lst (((cands.take j).filter (fun y=>!decide (y∈ys))).map V.str))) l=some (.lst (ys.map V.str)):=by rw[aj (ax vb kq)];exact vb
       refine⟨_,rfl,_,rfl,l,_,rfl,.inl (ai.of Bv),rfl,mU _,_,rfl,?_⟩
       rw[aI rfl,tw]
       refine eM (fun hn=>?_) (fun hn=>?_)
       ·refine⟨_,rfl,af,?_,cw_next cZ ⟨_,?_,rfl,?_⟩⟩
        ·have h1:=qG (fun y=>!decide (y∈ys)) (cands.take j)
         have h2:(cands.take j).length<=cands.length:=by rw[aX];omega
         rw[ar,ay];omega
        ·rw[tk,sH,aY,Vh,aI hn];rfl
        ·rw[iq]
       ·refine cw_next cZ ⟨_,?_,rfl,rfl⟩
        rw[tk,sH,Vh,aE hn,List.filter_nil,ik]
      ·rintro zs τ H6 ⟨t0,rfl,rfl,rfl⟩
       rw[ar,dw]
       obtain⟨y0,HM,hyn⟩:=zM (found:=ys) cnd (by omega)
       have gv:y0∈cands.filter (fun y=>!decide (y∈ys)):=kB.mpr ⟨HM,by simpa using hyn⟩
       cases hf:cands.filter (fun y=>!decide (y∈ys)) with
       | nil=>rw[hf]at gv;simp at gv
       | cons z1 zr =>
        have hz1:z1∈cands.filter (fun y=>!decide (y∈ys)):=by rw[hf];exact aZ
        obtain⟨zc,zn⟩:=kB.mp hz1
        have zn':z1 ∉ ys:=by simpa using zn
        have Bv:(upd (upd H4 a2 (.lst (cands.map V.str))) a3 (.lst ((z1::zr).map V.str))) l=some (.lst (ys.map V.str)):=by rw[aj (ax vb kq)];exact vb
        have ph:cg p H (upd (upd H4 a2 (.lst (cands.map V.str))) a3 (.lst ((z1::zr).map V.str))):=((pa.trans pg).new n9).new kq
        refine⟨a3,_,0,V.str z1,rfl,rfl,ai.of af,(show dH ((z1::zr).map V.str) ((0:Nat):Int)=some (V.str z1) from dE rfl),?_⟩
        refine⟨_,rfl,.inl ⟨rfl,_,ai.of Bv⟩,_,rfl,l,_,_,rfl,rfl,Bv,?_,?_⟩
        ·rw[ar,ay];omega
        ·refine⟨ys ++ [z1],_,_,_,_,rfl,by rw[aW,hlen];rfl,?_,?_,?_,?_⟩
         ·intro y hy
          rcases cz.mp hy with h | h
          ·exact Bu y h
          ·have:y=z1:=by simpa using h
           rw[this];exact cnm z1 zc
         ·rw[qE]
          exact⟨dv,by simp,fun a ha b hb=>by rw[show b=z1 by simpa using hb];exact fun h=>zn' (h ▸ ha)⟩
         ·exact ph.write hl dG
         ·rw[af,aY];rfl
    ·have j':nm ∉ ys:=by simpa using kj
     have ph:cg p H H4:=pa.trans pg
     refine⟨_,rfl,.inl ⟨rfl,_,ai.of jG⟩,_,rfl,l,_,_,rfl,rfl,jG,?_,?_⟩
     ·rw[ar,ay];omega
     ·refine⟨ys ++ [nm],_,_,_,_,rfl,by rw[aW,hlen];rfl,?_,?_,?_,?_⟩
      ·intro y hy
       rcases cz.mp hy with h | h
       ·exact Bu y h
       ·have:y=nm:=by simpa using h
        rw[this];exact Ei
      ·rw[qE]
       exact⟨dv,by simp,fun a ha b hb=>by rw[show b=nm by simpa using hb];exact fun h=>j' (h ▸ ha)⟩
      ·exact ph.write hl dG
      ·rw[af,aY];rfl
  ·rintro σ H1 ⟨ys,v4,v5,v6,v7,rfl,hlen,Bu,dv,pa,jg⟩
   rw[em]at hlen
   exact⟨_,rfl,q l ys H1 hl hlen Bu dv pa jg⟩
end
end bc
namespace bc
open PySem L2 PySem.W HT
theorem Cs {X:Cx} (K:Frag) (h:X.K=K):eO X (.type "list") (fun xs H Q=>∃p ys,xs = [.ref p]/\(ai K H p ys\/aB K H p ys) /\ ∀l,H l=none->Q (.ref l) (upd H l (.lst ys))):=by subst h;exact oO
theorem V0 {X:Cx} (K:Frag) (h:X.K=K) (hc:X.calm=true):eO X (.builtin "any") (fun xs H Q=>∃ (p:Addr) (bs:List Bool),xs = [.ref p]/\ai K H p (bs.map V.bl)/\Q (.bl (bs.any id)) H):=by subst h;exact CM hc
theorem Xc {X:Cx} (K:Frag) (h:X.K=K):uK X (OJ K):=by subst h;exact fu
def iP (av:Addr->Prop) (H:Hp) (vs:List V) (rows:List (List Str)):Prop:=Paired (fun y r=>∃a,y=V.ref a/\av a/\H a=some (.lst (r.map V.str))) vs rows
theorem sZ {av:Addr->Prop}{H:Hp}:∀ {vs:List V}{rows:List (List Str)}{i:Nat}{v:V},iP av H vs rows->vs[i]? = some v -> ∃a r,v=V.ref a/\rows[i]? = some r/\av a/\H a=some (.lst (r.map V.str))
 | _,_,i,v,.nil,e=>by simp at e
 | _,_,0,v,.cons p _,e=>by
  obtain⟨a,rfl,n,q⟩:=p
  simp at e;subst e
  exact⟨a,_,rfl,rfl,n,q⟩
 | _,_,i+1,v,.cons _ t,e=>by
  obtain⟨a,r,e1,e2,n,q⟩:=sZ (i:=i) t (by simpa using e)
  exact⟨a,r,e1,by simpa using e2,n,q⟩
theorem mQ {av Rj:Addr->Prop}{H H':Hp}{vs:List V}{rows:List (List Str)} (h:iP av H vs rows) (f:∀a xs,av a->H a=some (.lst xs)->Rj a/\H' a=some (.lst xs)):iP Rj H' vs rows:=
 Paired.imp' (fun _ _ ⟨a,e,n,q⟩=>⟨a,e,(f a _ n q).1,(f a _ n q).2⟩) h
theorem vC {av:Addr->Prop}{H:Hp}{vs:List V}{rows:List (List Str)}{a:Addr}{r:List Str}:iP av H vs rows->av a->H a=some (.lst (r.map V.str))->iP av H (vs ++ [.ref a]) (rows ++ [r])
 | .nil,n,q=>.cons ⟨a,rfl,n,q⟩ .nil
 | .cons p t,n,q=>.cons p (vC t n q)
theorem qI {av:Addr->Prop}{H:Hp}{vs:List V}{rows:List (List Str)} (h:iP av H vs rows):vs.length=rows.length:=jL h
theorem aaM {x:Str} (h:Nm x):PyData.strOk x=true:=by
 unfold PyData.strOk
 rw[<-Array.all_toList,fo];intro c hc;have:=(h.az c hc).2;exact cF (by omega)
theorem vO (H:Hp):∀xs:List Str,gO H (xs.map V.str) (xs.map PyData.str)
 | []=>.nil
 | x::xs=>.cons (.str x) (vO H xs)
theorem vP:∀ {xs:List Str},(∀x∈xs,Nm x)->PyData.canLayAll0 (xs.map PyData.str)=true
 | [],_=>rfl
 | x::xs,h=>by
  show(PyData.strOk x && PyData.canLayAll0 (xs.map PyData.str))=true
  rw[aaM (h x aZ),vP fun y hy=>h y (bX _ hy)];rfl
theorem zd:∀xs:List Str,PyData.depthAll (xs.map PyData.str)=0
 | []=>rfl
 | x::xs=>by rw[d5];simp only[PyData.depthAll,PyData.depth,zd xs,Nat.max_self]
theorem ne_nil {H:Hp}{a b:Addr}{xs:List Str}{Q:VK} (ha:H a=some (.lst (xs.map V.str))) (hb:H b=some (.lst [])) (hn:∀x∈xs,Nm x) (q:Q (.bl (!xs.isEmpty)) H):OS (.ref a) (.ref b) H Q:=by
 refine⟨.list (xs.map PyData.str),.list [],.lst ha (vO _ _),.lst hb .nil,vP hn,rfl,by show PyData.depthAll _+1<=60;rw[zd];decide,?_⟩
 cases xs with
 | nil=>exact q
 | cons x xs=>exact q
theorem eq_nil {H:Hp}{a b:Addr}{xs:List Str}{Q:VK} (ha:H a=some (.lst (xs.map V.str))) (hb:H b=some (.lst [])) (hn:∀x∈xs,Nm x) (q:Q (.bl xs.isEmpty) H):OR (.ref a) (.ref b) H Q:=by
 refine⟨.list (xs.map PyData.str),.list [],.lst ha (vO _ _),.lst hb .nil,vP hn,rfl,by show PyData.depthAll _+1<=60;rw[zd];decide,?_⟩
 cases xs with
 | nil=>exact q
 | cons x xs=>exact q
theorem Xd (xs:List V) (k:Nat):eP xs (some (k:Int)) none=xs.drop k:=by
 unfold eP;rw[HT.CY,HT.C8]
 by_cases h:k<=xs.length
 ·rw[Cf h,yR (by rw[d6];omega)]
 ·rw[Ve (by omega),Kv,UM (by omega)];simp
def busy (rest:List (List Str)) (x:Str):Bool:=rest.any fun o=>decide (x∈o.drop 1)
def dZ (all:List (List Str)):List (List Str)->List Str
 | []=>[]
 | []::rest=>dZ all rest
 | (x::_)::rest=>if busy all x then dZ all rest else x::dZ all rest
theorem zi {n:Str}:∀ {k:Nat}{rest:List (List Str)},cN k rest n=none ↔ ∀r∈rest,n∈r->r.head? = some n
 | k,[]=>by simp[cN]
 | k,[]::rest=>by
  show cN (k+1) rest n=none ↔ _
  rw[zi (k:=k+1) (rest:=rest)];simp
 | k,(x::r)::rest=>by
  show(if n∈x::r/\x≠n then some (k,x) else cN (k+1) rest n)=none ↔ _
  by_cases h:n∈x::r/\x≠n
  ·rw[aI h]
   constructor
   ·intro z;cases z
   ·intro z
    have:=z _ aZ h.1
    exact absurd (by simpa using this) h.2
  ·rw[aE h,zi (k:=k+1) (rest:=rest)]
   constructor
   ·intro z q hq hn
    rcases a9.mp hq with rfl | hq
    ·by_cases e:x=n
     ·rw[e];rfl
     ·exact absurd ⟨hn,e⟩ h
    ·exact z q hq hn
   ·exact fun z q hq=>z q (bX _ hq)
theorem Mz {all:List (List Str)} (dv:∀r∈all,r.Nodup) (x:Str):busy all x=false ↔ cN 0 all x=none:=by
 rw[zi]
 unfold busy
 rw[Uk]
 constructor
 ·intro h q hq hx
  have h1:=h q hq
  cases q with
  | nil=>simp at hx
  | cons y t =>
   rcases a9.mp hx with rfl | hx
   ·rfl
   ·exact absurd (by simpa using hx) h1
 ·intro h r hr
  cases r with
  | nil=>simp
  | cons y t =>
   intro hx
   have hx:x∈t:=by simpa using hx
   obtain rfl:y=x:=by simpa using h _ hr (bX _ hx)
   exact(fV.mp (dv _ hr)).1 hx
theorem CC {all:List (List Str)} (dv:∀r∈all,r.Nodup):∀rest:List (List Str),(dZ all rest).head? = jm all rest
 | []=>rfl
 | []::rest=>CC dv rest
 | (x::t)::rest=>by
  show(if busy all x then dZ all rest else x::dZ all rest).head? = if (cN 0 all x).isNone then some x else jm all rest
  cases hb:busy all x with
  | false=>rw[(Mz dv x).mp hb];rfl
  | true =>
   have hn:(cN 0 all x).isNone=false:=by
    cases z:cN 0 all x with
    | none=>rw[(Mz dv x).mpr z]at hb;cases hb
    | some _=>rfl
   rw[hn]
   exact CC dv rest
theorem vF (all:List (List Str)) (r:List Str):∀rest:List (List Str),dZ all (rest ++ [r])=dZ all rest++dZ all [r]
 | []=>rfl
 | []::rest=>vF all r rest
 | (x::t)::rest=>by
  show(if busy all x then dZ all (rest ++ [r]) else x::dZ all (rest ++ [r]))=(if busy all x then dZ all rest else x::dZ all rest)++dZ all [r]
  rw[vF all r rest]
  split <;> rfl
theorem CP (all:List (List Str)):∀rest:List (List Str),(dZ all rest).length<=rest.length
 | []=>aO _
 | []::rest=>jN (CP all rest)
 | (x::t)::rest=>by
  have:=CP all rest
  show(if busy all x then dZ all rest else x::dZ all rest).length<=rest.length+1
  split
  ·omega
  ·rw[dc];omega
theorem zj {all:List (List Str)}{n:Str}:∀ {rest:List (List Str)},n∈dZ all rest -> ∃r∈rest,n∈r
 | [],h=>by simp[dZ]at h
 | []::rest,h=>let ⟨r,hr,e⟩:=zj (rest:=rest) h;⟨r,bX _ hr,e⟩
 | (x::t)::rest,h=>by
  have h:n∈(if busy all x then dZ all rest else x::dZ all rest):=h
  split at h
  ·obtain⟨r,hr,e⟩:=zj (rest:=rest) h
   exact⟨r,bX _ hr,e⟩
  ·rcases a9.mp h with rfl | h
   ·exact⟨_,aZ,aZ⟩
   ·obtain⟨r,hr,e⟩:=zj (rest:=rest) h
    exact⟨r,bX _ hr,e⟩
theorem Lk {n:Str}{rest:List (List Str)} (h:∀r∈rest,r.Nodup):∀r∈L2.without n rest,r.Nodup:=by
 intro r hr
 obtain⟨q,hq,rfl⟩:=bj.mp hr
 exact(h q hq).filter _
structure Pb (H:Hp) (rows:List (List Str)) (l fa:Addr) (m:Nat) (σ:St) (H1:Hp) (rest:List (List Str)) (lv:List V) (acc:List Str) (la:Addr):Prop where
 st:∃v3:Option V,σ = [some (.ref l),some (.ref la),some (.ref fa),v3]
 mm:m=total rest
 qh:H1 la=some (.lst lv)
 rr:iP (fun a=>a≠fa) H1 lv rest
 ne:la≠fa
 kr:H1 fa=some (.lst (acc.map V.str))
 sm:Small rest
 nd:∀r∈rest,r.Nodup
 same:aq H H1
 lim:acc.length+total rest<=1000
 eq:bB (total rows) rows=(bB (total rest) rest).map (acc ++ ·)
abbrev xW:List Str:= ["_law_rows", "_law_left", "_law_found", "_law_free"]
theorem wR:cO xW ["_law_rows"] (aH iY):=⟨rfl,rfl,rfl,by decide +kernel,rfl,by decide +kernel,by decide +kernel⟩
def Xe (s:Stmt):Expr:=match s with | .While t _ _ _=>t | _=>.Constant .none 0 ⟨0,0,0,0⟩
def NT (e:Expr):Expr:=match e with | .ListComp _ (⟨_,_,i::_,_⟩::_) _ _=>i | _=>.Constant .none 0 ⟨0,0,0,0⟩
def ZM (e:Expr) (i:Nat):Expr:=match e with | .BoolOp _ es _=>es.getD i (.Constant .none 0 ⟨0,0,0,0⟩)|_=>.Constant .none 0 ⟨0,0,0,0⟩
def rn (e:Expr):Expr:=match e with | .UnaryOp _ x _=>x | _=>.Constant .none 0 ⟨0,0,0,0⟩
abbrev sW:Stmt:=cj (aU iY) 2
abbrev eA:Expr:=eF (cj (aU iY) 0)
abbrev eB:Expr:=fH (Xe sW)
abbrev eC:Expr:=eF (cj (vJ sW) 0)
abbrev eD:Expr:=fH (rn (ZM (NT eC) 1))
abbrev eE:Expr:=eF (cj (vJ sW) 3)
theorem Rk:cp xW (aH iY) ["_law_row"] [none] (cD eA):=⟨rfl,by decide +kernel,by decide +kernel,rfl,cR (by decide +kernel),by decide +kernel⟩
theorem Rl:cp xW (aH iY) ["_law_row"] [none] (cD eB):=⟨rfl,by decide +kernel,by decide +kernel,rfl,cR (by decide +kernel),by decide +kernel⟩
theorem Rm:cp xW (aH iY) ["_law_row", "_law_left"] [none,some 1] (cD eC):=⟨rfl,by decide +kernel,by decide +kernel,rfl,cR (by decide +kernel),by decide +kernel⟩
theorem csD {env:Env}:cp ["_law_row", "_law_left"] (relabel (cD eC) env) ["_law_other", "_law_row"] [none,some 0] (cD eD):=nest rfl (by decide +kernel) (by decide +kernel) rfl (by decide +kernel) (by decide +kernel)
theorem ndD:(["_law_other", "_law_row"]:List Str).Nodup:=by decide +kernel
theorem Rn:cp xW (aH iY) ["_law_row", "_law_free"] [none,some 3] (cD eE):=⟨rfl,by decide +kernel,by decide +kernel,rfl,cR (by decide +kernel),by decide +kernel⟩
theorem csG {env:Env}:cp ["_law_row", "_law_free"] (relabel (cD eE) env) ["_law_name", "_law_free"] [none,some 1] (cD (Og eE)):=nest rfl (by decide +kernel) (by decide +kernel) rfl (by decide +kernel) (by decide +kernel)
theorem ndG:(["_law_name", "_law_free"]:List Str).Nodup:=by decide +kernel
section
variable {P : Program} {w : World} {K : Frag} {mg : Str -> Option Value} {base : Heap} {f : Addr} {fd : FuncData}
@[irreducible] def rz:Sp:=fun vs H Q _=>∃ (l:Addr) (ws:List V) (rows:List (List Str)),vs = [.ref l]/\H l=some (.lst ws)/\iP (fun _=>True) H ws rows/\Small rows/\(∀r∈rows,r.Nodup) /\
 (bB (total rows) rows=none -> ∀H',aq H H'->Q .aG H')/\(∀o,bB (total rows) rows=some o -> ∀p H',H p=none->aq H H'->H' p=some (.lst (o.map V.str))->Q (.ref p) H')
theorem Oh (F:bw K "_law_merged" "_law_merged" iY f fd) (B:c7 mg):aN P w K mg base aS 1 f fd ["_law_rows"] rz:=by
 refine F.ok wR (fun vs H Q E h=>?_) (fun aQ A outer s H vs Q E hr h=>?_)
 ·unfold rz at h;obtain⟨l,ws,rows,rfl,_⟩:=h;rfl
 ·unfold rz at h
  obtain⟨l,ws,rows,rfl,hl,hR,hS,dv,qn,qs⟩:=h
  have hu:=hr.units
  refine⟨_,aF (ba (i:=1) wR.nd rfl (Or.inr rfl) (dg rfl Rk (fq (pv 0)) (fun s H fp=>⟨aR (i:=0) Rk.nd rfl (Or.inl rfl),dh,eX (Cs K rfl) rfl B.list boot_list (ae (pv 0) ah)⟩)))
   (aF (ba (i:=2) wR.nd rfl (Or.inl rfl) (cL ah))
   (aF (zq iH (tq (aV (CM rfl) rfl B.any boot_any (ae (dg rfl Rl (fq (pv 1)) (fun s H fp=>⟨aR (i:=0) Rl.nd rfl (Or.inl rfl),dh,jq (NI hu) (pv 0) (cL ah) (cB _)⟩)) ah)) (fun _=>rfl))
    (aF (ba (i:=3) wR.nd rfl (Or.inr rfl) (dg rfl Rm (fq (pv 1)) (fun s H fp=>⟨aR (i:=0) Rm.nd rfl (Or.inr rfl),
      oQ (PW.pt (pw_and (cG (NI hu) (pv 0) (cL ah) (cB _)) (pw_and1 (gL (gE (aV (V0 K rfl rfl) rfl B.any boot_any (ae (dg rfl csD (LG K rfl (pv 1)) (fun s H fp=>⟨aR (i:=0) ndD rfl (Or.inl rfl),dh,jq (De K rfl) (bC (CL K rfl) (pv 1) aD (fun _ _=>rfl)) (dB (Xc K rfl) (pv 0) (dj aD) dC) rfl⟩)) ah))))))),
      bC (CL K rfl) (pv 0) aD (fun _ _=>rfl)⟩)))
    (aF (eg (cG (NH hu) (pv 3) (cL ah) (cB _)) (aP (bu i3)) d9)
    (aF (oV (lL sG yS yT qL (pv 2) (ae (bC dW (pv 3) aD (fun _ _=>rfl)) ah)))
    (aP (ba (i:=1) wR.nd rfl (Or.inr rfl) (dg rfl Rn (fq (pv 1)) (fun s H fp=>⟨aR (i:=0) Rn.nd rfl (Or.inl rfl),dh,
      dg rfl csG (LG K rfl (pv 0)) (fun s H fp=>⟨aR (i:=0) ndG rfl (Or.inl rfl),oQ (cG wo (pv 0) (bC (CL K rfl) (pv 1) aD (fun _ _=>rfl)) (cB _)),pv 0⟩)⟩))))))))
   (aP (bu (pv 2))))),?_⟩
  refine⟨_,rfl,l,rfl,⟨_,ai.of hl⟩,fun Bw rA=>?_⟩
  refine gK (xs:=ws) (fun i ys τ H1=>∃t0:Option V,τ = [t0]/\H1 Bw=some (.lst ys)/\aq H H1/\iP (fun a=>a≠Bw) H1 ys (rows.take i)) ⟨none,rfl,af,ak rA,.nil⟩ (fun i ys τ H1 ⟨_,_,z1,z2,_⟩=>⟨z1,ai.of (z2 _ _ hl)⟩) ?_ ?_
  ·rintro i x ys τ H1 hx ⟨t0,rfl,h1,S1,xX⟩
   obtain⟨a,r,rfl,gI,_,gf⟩:=sZ hR hx
   have aM:i < ws.length:=(cq.mp hx).1
   have tk:rows.take (i+1)=rows.take i ++ [r]:=by rw[de,gI];rfl
   refine⟨_,rfl,a,_,rfl,.inl (ai.of (S1 _ _ gf)),fun c hc=>?_⟩
   have Sc:=ak (o:= .lst (r.map V.str)) hc
   have xY:c≠Bw:=aT (ax h1 hc)
   refine⟨Sc _ _ h1,?_,cw_next aM ⟨_,rfl,af,fun b o hb=>?_,?_⟩⟩
   ·have h2:=qI xX
    have h3:=hS.bg
    rw[aX]at h2
    rw[ay];omega
   ·rw[aj (ax hb rA)];exact Sc _ _ (S1 b o hb)
   ·rw[tk]
    refine vC (mQ xX fun b xs nb hb=>⟨nb,by rw[aj nb];exact Sc _ _ hb⟩) xY ?_
    rw[aj xY];exact af
  ·rintro lv0 τ H1 ⟨t0,rfl,h1,S1,xX⟩
   rw[qI hR,dw]at xX
   refine⟨bY _,fun fa kr=>?_⟩
   have Sf:=ak (o:= .lst []) kr
   have uq:H fa=none:=S1.free kr
   refine⟨fun m σ H2=>∃rest lv acc la,Pb H rows l fa m σ H2 rest lv acc la,⟨_,rows,lv0,[],Bw,⟨none,rfl⟩,rfl,Sf _ _ h1,mQ xX fun b xs nb hb=>⟨ax hb kr,Sf _ _ hb⟩,ax h1 kr,af,hS,dv,S1.trans Sf,by have:=sR hS.short;have:=hS.bg;simp only[vv];omega,by cases bB (total rows) rows <;> rfl⟩,?_⟩
   rintro m σ H2 ⟨rest,lv,acc,la,R⟩
   obtain⟨v3,rfl⟩:=R.st
   refine⟨_,rfl,la,rfl,⟨_,ai.of R.qh⟩,fun pb Ro=>?_⟩
   refine gK (xs:=lv) (fun i ys τ H3=>∃t0:Option V,τ = [t0]/\ys=((rest.take i).map fun r=>!r.isEmpty).map V.bl/\H3 pb=some (.lst ys)/\aq H2 H3) ⟨none,rfl,rfl,af,ak Ro⟩ (fun i ys τ H3 ⟨_,_,_,z1,z2⟩=>⟨z1,ai.of (z2 _ _ R.qh)⟩) ?_ ?_
   ·rintro i x ys τ H3 hx ⟨t0,rfl,rfl,h3,S3⟩
    obtain⟨a,r,rfl,gI,_,gf⟩:=sZ R.rr hx
    have aM:i < lv.length:=(cq.mp hx).1
    have tk:rest.take (i+1)=rest.take i ++ [r]:=by rw[de,gI];rfl
    have xZ:=gj gI
    refine⟨_,rfl,bY _,fun z hz=>?_⟩
    have Sz:=ak (o:= .lst []) hz
    refine ne_nil (Sz _ _ (S3 _ _ gf)) af (R.sm.nm r xZ) ?_
    refine⟨Sz _ _ h3,?_,cw_next aM ⟨_,rfl,by rw[tk,aY,aY];rfl,af,fun b o hb=>by rw[aj (ax hb Ro)];exact Sz _ _ (S3 b o hb)⟩⟩
    have h4:=R.sm.bg
    rw[ar,ar,aX,ay];omega
   ·rintro bs τ H3 ⟨t0,rfl,rfl,h3,S3⟩
    rw[qI R.rr,dw]at h3
    refine⟨pb,_,rfl,ai.of h3,_,rfl,?_⟩
    have ean:((rest.map fun r=>!r.isEmpty).any id)=rest.any fun r=>!r.isEmpty:=by rw[Kj];rfl
    rw[ean]
    have pN:=S3 _ _ R.qh
    have ur:=S3 _ _ R.kr
    have ya:iP (fun a=>a≠fa) H3 lv rest:=mQ R.rr fun b xs nb hb=>⟨nb,S3 _ _ hb⟩
    have Rp:=R.same.trans S3
    refine eM (fun hA=>?_) (fun hA=>?_)
    ·refine⟨fun aK H'=>∃m',m' < m /\ ∃rest lv acc la,Pb H rows l fa m' aK H' rest lv acc la,fun _ _ z=>z,?_⟩
     refine⟨_,rfl,la,rfl,⟨_,ai.of pN⟩,fun pc HN=>?_⟩
     refine gK (xs:=lv) (fun i ys τ H4=>∃t0:Option V,τ = [t0,some (.ref la)]/\ys=(dZ rest (rest.take i)).map V.str/\H4 pc=some (.lst ys)/\aq H3 H4) ⟨none,rfl,rfl,af,ak HN⟩ (fun i ys τ H4 ⟨_,_,_,z1,z2⟩=>⟨z1,ai.of (z2 _ _ pN)⟩) ?_ ?_
     ·rintro i x ys τ H4 hx ⟨t0,rfl,rfl,h4,S4⟩
      obtain⟨a,r,rfl,gI,_,gf⟩:=sZ ya hx
      have aM:i < lv.length:=(cq.mp hx).1
      have tk:rest.take (i+1)=rest.take i ++ [r]:=by rw[de,gI];rfl
      have xZ:=gj gI
      have Pd:=S4 _ _ gf
      refine⟨_,rfl,bY _,fun z hz=>?_⟩
      have Sz:=ak (o:= .lst []) hz
      refine ne_nil (Sz _ _ Pd) af (R.sm.nm r xZ) ⟨_,rfl,?_⟩
      have h5:=Sz _ _ h4
      cases r with
      | nil=>exact cw_next aM ⟨_,rfl,by rw[tk,vF];show _=(_ ++ []).map _;rw[ik],h5,S4.trans Sz⟩
      | cons y t =>
       refine⟨_,rfl,la,rfl,⟨_,ai.of (Sz _ _ (S4 _ _ pN))⟩,fun pd vd=>?_⟩
       have npd:pc≠pd:=ax h5 vd
       refine gK (xs:=lv) (fun j ys τ H6=>∃t1:Option V,τ = [t1,some (.ref a)]/\ys=((rest.take j).map fun o=>decide (y∈o.drop 1)).map V.bl/\H6 pd=some (.lst ys)/\aq (upd H4 z (.lst [])) H6) ⟨none,rfl,rfl,af,ak vd⟩ (fun j ys τ H6 ⟨_,_,_,z1,z2⟩=>⟨z1,ai.of (z2 _ _ (Sz _ _ (S4 _ _ pN)))⟩) ?_ ?_
       ·rintro j x ys τ H6 Rq ⟨t1,rfl,rfl,h6,S6⟩
        obtain⟨b,o,rfl,hoj,_,hob⟩:=sZ ya Rq
        have cZ:j < lv.length:=(cq.mp Rq).1
        have jF:rest.take (j+1)=rest.take j ++ [o]:=by rw[de,hoj];rfl
        have Rr:=S4.trans (Sz.trans S6)
        refine⟨_,rfl,a,_,0,.str y,rfl,rfl,ai.of (Rr _ _ gf),jC,?_⟩
        refine⟨_,rfl,_,rfl,b,_,rfl,ai.of (Rr _ _ hob),fun p2 pZ=>?_⟩
        have ec:eP (o.map V.str) (some 1) none=(o.drop 1).map V.str:=by
         rw[show(1:Int)=((1:Nat):Int) from rfl,Xd,mz]
        rw[ec]
        have S7:=ak (o:= .lst ((o.drop 1).map V.str)) pZ
        refine⟨p2,_,rfl,.inl (ai.of af),rfl,mU _,?_⟩
        rw[aE dU,tw]
        refine⟨S7 _ _ h6,?_,cw_next cZ ⟨_,rfl,by rw[jF,aY,aY];rfl,af,fun c u hc=>by rw[aj (ax hc vd)];exact S7 _ _ (S6 c u hc)⟩⟩
        have h8:=R.sm.bg
        rw[ar,ar,aX,ay];omega
       ·rintro bs2 τ H6 ⟨t1,rfl,rfl,h6,S6⟩
        rw[qI ya,dw]at h6
        refine⟨pd,_,rfl,ai.of h6,_,rfl,?_⟩
        have eb:((rest.map fun o=>decide (y∈o.drop 1)).any id)=busy rest y:=by unfold busy;rw[Kj];rfl
        rw[eb]
        have HP:=Sz.trans S6
        cases hb:busy rest y with
        | true =>
         refine cw_next aM ⟨_,rfl,?_,S6 _ _ h5,S4.trans HP⟩
         rw[tk,vF]
         show _=(_++(if busy rest y then dZ rest [] else y::dZ rest [])).map _
         rw[hb];show _=(_ ++ []).map _;rw[ik]
        | false =>
         refine⟨_,rfl,a,_,0,.str y,rfl,rfl,ai.of (HP _ _ Pd),jC,S6 _ _ h5,?_,cw_next aM ⟨_,rfl,?_,af,fun c u hc=>by rw[aj (ax hc HN)];exact HP _ _ (S4 c u hc)⟩⟩
         ·have h8:=CP rest (rest.take i)
          have h9:=R.sm.bg
          rw[aX]at h8
          rw[ar,ay];omega
         ·rw[tk,vF]
          show _=(_++(if busy rest y then dZ rest [] else y::dZ rest [])).map _
          rw[hb,aY];rfl
     ·rintro fr τ H4 ⟨t0,rfl,rfl,h4,S4⟩
      rw[qI ya,dw]at h4
      have Rt:∀x∈dZ rest rest,Nm x:=fun x hx=>by
       obtain⟨r,hr,e⟩:=zj hx
       exact R.sm.nm r hr x e
      have hfh:=CC R.nd rest
      refine⟨_,rfl,bY _,fun z hz=>?_⟩
      have Sz:=ak (o:= .lst []) hz
      refine eq_nil (Sz _ _ h4) af Rt ⟨_,rfl,?_⟩
      have Bx:eY rest=(dZ rest rest).head?:=hfh.symm
      have HQ:=Rp.trans (S4.trans Sz)
      have h5:=Sz _ _ h4
      have Pe:=Sz _ _ (S4 _ _ pN)
      have Ej:=Sz _ _ (S4 _ _ ur)
      generalize dZ rest rest=fr at Bx h5 Rt ⊢
      cases fr with
      | nil =>
       refine qn ?_ _ HQ
       rw[R.eq,CA hA Bx];rfl
      | cons n ft =>
       have e:eY rest=some n:=Bx
       have lt:=sM (sY e)
       generalize hG:upd H4 z (.lst [])=G at HQ h5 Pe Ej Sz ⊢
       have rrG:iP (fun a=>a≠fa) G lv rest:=mQ ya fun b xs nb hb=>⟨nb,Sz _ _ (S4 _ _ hb)⟩
       refine⟨_,rfl,.inl ⟨rfl,_,ai.of Ej⟩,_,rfl,pc,_,0,.str n,rfl,rfl,ai.of h5,jC,fa,_,_,rfl,rfl,Ej,by have:=R.lim;rw[ar,ay];omega,?_⟩
       have vf:pc≠fa:=aT (ax ur HN)
       have h6:(upd G fa (.lst (acc.map V.str ++ [.str n]))) pc=some (.lst ((n::ft).map V.str)):=by rw[aj vf];exact h5
       have Ek:(upd G fa (.lst (acc.map V.str ++ [.str n]))) la=some (.lst lv):=by rw[aj R.ne];exact Pe
       have Aj:(upd G fa (.lst (acc.map V.str ++ [.str n]))) fa=some (.lst ((acc ++ [n]).map V.str)):=by rw[af,aY];rfl
       have Ru:aq H (upd G fa (.lst (acc.map V.str ++ [.str n]))):=fun b o hb=>by rw[aj (ax hb uq)];exact HQ b o hb
       have HR:iP (fun a=>a≠fa) (upd G fa (.lst (acc.map V.str ++ [.str n]))) lv rest:=mQ rrG fun b xs nb hb=>⟨nb,by rw[aj nb];exact hb⟩
       generalize upd G fa (.lst (acc.map V.str ++ [.str n]))=G6 at h6 Ek Aj Ru HR ⊢
       refine⟨_,rfl,la,rfl,⟨_,ai.of Ek⟩,fun le hle=>?_⟩
       have nle:le≠fa:=aT (ax Aj hle)
       refine gK (xs:=lv) (fun i ys τ H7=>∃t0:Option V,τ = [t0,some (.ref pc)]/\H7 le=some (.lst ys)/\aq G6 H7/\iP (fun a=>a≠fa/\a≠le) H7 ys (L2.without n (rest.take i))) ⟨none,rfl,af,ak hle,.nil⟩ (fun i ys τ H7 ⟨_,_,z1,z2,_⟩=>⟨z1,ai.of (z2 _ _ Ek)⟩) ?_ ?_
       ·rintro i x ys τ H7 hx ⟨t0,rfl,h7,S7,yb⟩
        obtain⟨a,r,rfl,gI,_,gf⟩:=sZ HR hx
        have aM:i < lv.length:=(cq.mp hx).1
        have tk:rest.take (i+1)=rest.take i ++ [r]:=by rw[de,gI];rfl
        have xZ:=gj gI
        have El:=S7 _ _ gf
        have Pf:=S7 _ _ h6
        refine⟨_,rfl,a,rfl,⟨_,ai.of El⟩,fun b1 fb=>?_⟩
        have HK:a≠b1:=ax El fb
        have npb:pc≠b1:=ax Pf fb
        have Bf:b1≠le:=aT (ax h7 fb)
        have nbf:b1≠fa:=aT (ax (S7 _ _ Aj) fb)
        refine gK (xs:=r.map V.str) (fun j zs jb H8=>∃t1:Option V,jb = [t1,some (.ref pc)]/\zs=((r.take j).filter fun y=>!decide (y=n)).map V.str/\H8=upd H7 b1 (.lst zs)) ⟨none,rfl,rfl,rfl⟩ (fun j zs jb H8 ⟨_,_,_,z⟩=>by rw[z];exact⟨af,ai.of (by rw[aj HK];exact El)⟩) ?_ ?_
        ·rintro j x zs jb H8 eZ ⟨t1,rfl,rfl,rfl⟩
         have cZ:j < (r.map V.str).length:=(cq.mp eZ).1
         have gJ:j < r.length:=by simpa using cZ
         obtain rfl:V.str r[j]=x:=by simpa [gJ] using eZ
         have jF:r.take (j+1)=r.take j ++ [r[j]]:=by rw[de,br gJ];rfl
         refine⟨_,rfl,_,rfl,pc,_,0,.str n,rfl,rfl,ai.of (by rw[aj npb];exact Pf),jC,rfl,_,rfl,?_⟩
         refine eM (fun du=>?_) (fun du=>?_)
         ·have uo:r[j]≠n:=fun z=>by rw[z]at du;simp at du
          refine⟨_,rfl,af,?_,cw_next cZ ⟨_,rfl,?_,by rw[iq]⟩⟩
          ·have h1:=qG (fun y=>!decide (y=n)) (r.take j)
           have h2:(r.take j).length<=r.length:=by rw[aX];omega
           have h3:=R.sm.short r xZ
           rw[ar,ay];omega
          ·rw[jF,sH,aY,Cg (by simpa using uo)];rfl
         ·have hy:r[j]=n:=by
           by_cases z:r[j]=n
           ·exact z
           ·exact absurd (by simp[z]) du
          refine cw_next cZ ⟨_,rfl,?_,rfl⟩
          rw[jF];simp[hy]
        ·rintro zs jb H8 ⟨t1,rfl,rfl,rfl⟩
         rw[ar,dw]
         have Sb:=ak (o:= .lst ((r.filter fun y=>!decide (y=n)).map V.str)) fb
         refine⟨Sb _ _ h7,?_,cw_next aM ⟨_,rfl,af,fun b o hb=>?_,?_⟩⟩
         ·have h1:=qI yb
          have h2:(L2.without n (rest.take i)).length<=rest.length:=by unfold L2.without;rw[ar,aX];omega
          have h3:=R.sm.bg
          rw[ay];omega
         ·rw[aj (ax hb hle)];exact Sb _ _ (S7 b o hb)
         ·have e1:L2.without n (rest.take (i+1))=L2.without n (rest.take i) ++ [r.filter fun y=>!decide (y=n)]:=by rw[tk];unfold L2.without;rw[aY];rfl
          rw[e1]
          refine vC (mQ yb fun b xs nb hb=>⟨nb,by rw[aj nb.2];exact Sb _ _ hb⟩) ⟨nbf,Bf⟩ ?_
          rw[aj Bf];exact af
       ·rintro ys τ H7 ⟨t0,rfl,h7,S7,yb⟩
        rw[qI HR,dw]at yb
        refine⟨_,by rw[R.mm];exact lt,L2.without n rest,ys,acc ++ [n],le,⟨_,rfl⟩,rfl,h7,mQ yb fun b xs nb hb=>⟨nb.1,hb⟩,nle,S7 _ _ Aj,KN R.sm,Lk R.nd,Ru.trans S7,?_,?_⟩
        ·have:=R.lim;rw[aW,oH];omega
        ·rw[R.eq,CB hA e,Option.map_map]
         congr 1
         funext z
         simp
    ·refine⟨_,rfl,qs acc ?_ fa H3 uq Rp ur⟩
     rw[R.eq,Cz (by simpa using hA)]
     show some (acc ++ [])=some acc
     rw[ik]
end
end bc
namespace bc
open PySem L2 PySem.W HT
theorem L3 {K:Frag}{a d p:Addr}{ps:List Str}{kvs:List (Key×V)}{g:Str->V}{H:Hp}{Q:VK} (ha:H a=some (.tup (ps.map V.str))) (hd:H d=some (.dK kvs)) (hg:∀x∈ps,cf kvs (Sum.inr x)=some (g x)) (hp:H p=none) (hs:ps.length<=100)
  (q:Q (.ref p) (upd H p (.lst (ps.map g)))):kZ (nT K a) (pF 0) wt (DM (eu 1) (eu 0)) [none,some (.ref d)] Q p H:=by
 have yc:a≠p:=ax ha hp
 have yd:d≠p:=ax hd hp
 refine oR (xs:=ps.map V.str) (fun j zs τ H2=>∃t1:Option V,τ = [t1,some (.ref d)]/\zs=(ps.take j).map g/\H2=upd H p (.lst zs)) ⟨none,rfl,rfl,rfl⟩ (fun j zs τ H2 ⟨_,_,_,z⟩=>by rw[z];exact⟨af,aB.of (by rw[aj yc];exact ha)⟩) ?_ ?_
 ·rintro j x zs τ H2 hx ⟨t1,rfl,rfl,rfl⟩
  have cZ:j < (ps.map V.str).length:=(cq.mp hx).1
  have gJ:j < ps.length:=by simpa using cZ
  obtain rfl:V.str ps[j]=x:=by simpa [gJ] using hx
  have jF:ps.take (j+1)=ps.take j ++ [ps[j]]:=by rw[de,br gJ];rfl
  refine⟨_,rfl,_,rfl,d,g ps[j],rfl,?_,af,?_,cw_next cZ ⟨_,rfl,?_,by rw[iq]⟩⟩
  ·rw[<-hg _ (jl gJ)];exact iz.k (k:=Sum.inr ps[j]) (by rw[aj yd];exact hd)
  ·rw[ar,aX,ay];omega
  ·rw[jF,aY];rfl
 ·rintro zs τ H2 ⟨t1,rfl,rfl,rfl⟩
  rw[ar,dw]
  exact q
theorem Xf {K:Frag}{a d p:Addr}{ps:List Str}{kvs:List (Key×V)}{g:Str->V}{H:Hp}{Q:VK} (ha:H a=some (.lst (ps.map V.str))) (hd:H d=some (.dK kvs)) (hg:∀x∈ps,cf kvs (Sum.inr x)=some (g x)) (hp:H p=none) (hs:ps.length<=100)
  (q:Q (.ref p) (upd H p (.lst (ps.map g)))):kZ (rK K a) (pF 0) wt (DM (eu 1) (eu 0)) [none,some (.ref d)] Q p H:=by
 have yc:a≠p:=ax ha hp
 have yd:d≠p:=ax hd hp
 refine gK (xs:=ps.map V.str) (fun j zs τ H2=>∃t1:Option V,τ = [t1,some (.ref d)]/\zs=(ps.take j).map g/\H2=upd H p (.lst zs)) ⟨none,rfl,rfl,rfl⟩ (fun j zs τ H2 ⟨_,_,_,z⟩=>by rw[z];exact⟨af,ai.of (by rw[aj yc];exact ha)⟩) ?_ ?_
 ·rintro j x zs τ H2 hx ⟨t1,rfl,rfl,rfl⟩
  have cZ:j < (ps.map V.str).length:=(cq.mp hx).1
  have gJ:j < ps.length:=by simpa using cZ
  obtain rfl:V.str ps[j]=x:=by simpa [gJ] using hx
  have jF:ps.take (j+1)=ps.take j ++ [ps[j]]:=by rw[de,br gJ];rfl
  refine⟨_,rfl,_,rfl,d,g ps[j],rfl,?_,af,?_,cw_next cZ ⟨_,rfl,?_,by rw[iq]⟩⟩
  ·rw[<-hg _ (jl gJ)];exact iz.k (k:=Sum.inr ps[j]) (by rw[aj yd];exact hd)
  ·rw[ar,aX,ay];omega
  ·rw[jF,aY];rfl
 ·rintro zs τ H2 ⟨t1,rfl,rfl,rfl⟩
  rw[ar,dw]
  exact q
def rowsOf (L:Str->List Str) (ps:List Str):List (List Str):=ps.map L ++ [ps]
def oh (H:Hp) (kvs:List (Key×V)) (L:Str->List Str) (x:Str):Prop:= ∃a,cf kvs (Sum.inr x)=some (.ref a)/\H a=some (.tup ((L x).map V.str))
theorem oh.same {H H':Hp}{kvs:List (Key×V)}{L:Str->List Str}{x:Str} (h:oh H kvs L x) (s:aq H H'):oh H' kvs L x:=let ⟨a,e,q⟩:=h;⟨a,e,s _ _ q⟩
theorem Y2 {H:Hp}{kvs:List (Key×V)}{L:Str->List Str}{ps:List Str} (h:∀x∈ps,oh H kvs L x):∃g:Str->V,(∀x∈ps,cf kvs (Sum.inr x)=some (g x))/\dY H (ps.map g) (ps.map L):=by
 refine⟨fun x=>(cf kvs (Sum.inr x)).getD .aG,fun x hx=>?_,?_⟩
 ·obtain⟨a,e,_⟩:=h x hx;show _=some ((cf kvs (Sum.inr x)).getD V.aG);rw[e];rfl
 ·induction ps with
  | nil=>exact .nil
  | cons x ps ih =>
   obtain⟨a,e,q⟩:=h x aZ
   exact .cons ⟨a,by show(cf kvs (Sum.inr x)).getD V.aG=_;rw[e];rfl,q⟩ (ih fun y hy=>h y (bX _ hy))
section
variable {P : Program} {w : World} {K : Frag} {mg : Str -> Option Value} {base : Heap} {f : Addr} {fd : FuncData}
theorem zk:∀ {k:Nat}{rows:List (List Str)}{o:List Str},bB k rows=some o->o.length<=k
 | 0,_,_,h=>by cases h;exact aO _
 | k+1,rows,o,h=>by
  unfold bB at h
  split at h
  ·split at h
   ·cases h
   ·obtain⟨o',h',rfl⟩:=iF.mp h
    have:=zk h'
    rw[dc];omega
  ·cases h;exact bY _
theorem Xg {C t:Addr}{ws:List V}{rows:List (List Str)}{H:Hp}{Q:VK}{E:XK} (ht:H t=some (.tup ws)) (hR:dY H ws rows) (hS:Small rows)
  (qn:bB (total rows) rows=none -> ∀a d p vs H',H a=none->H d=none->H p=none->qW (Dy rows) 10 (t9 rows)->aq H H'->H' a=some (gu true C (some d) a)->H' d=some (fg d [("kind", .aG),("ring", .ref p)])->H' p=some (.tup vs)->km H' vs (t9 rows)->E (.ref C) (some a) H')
  (qs:∀o,bB (total rows) rows=some o -> ∀p H',H p=none->aq H H'->H' p=some (.tup (o.map V.str))->Q (.ref p) H'):tF C [.ref t] H Q E:=by
 unfold tF;exact⟨t,ws,rows,rfl,ht,hR,hS,qn,qs⟩
theorem X7 {B:Addr} (F:bw K "__init__" "Ring.__init__" lb f fd) (b:wc K B) (mB:mg "LineError" = some (.ref B)):wA P w K mg base 1 f fd ["self", "kind", "ring"] (lO K "kind" "ring"):=by
 refine F.okH NR (fun vs H Q E h=>?_) (fun aQ A outer s H vs Q E hr h=>?_)
 ·unfold lO at h;obtain⟨a,C,k,r,i,rfl,_⟩:=h;rfl
 ·unfold lO at h
  obtain⟨a,C,k,r,i,rfl,ha,c,qi,fk,fr,nk,nr,q⟩:=h
  have hu:=hr.units
  have hg:=hr.gd
  refine⟨_,aF (oV (KY b rfl mB (ae (pv 0) (ae (MV (oW iJ (oW (zL hu hg (pv 1)) (oW iJ (oW (zL hu hg (pv 2)) NJ))))) ah))))
   (aF (MW (pv 0) (pv 1)) (aP (Md (pv 0) (pv 2)))),?_⟩
  refine⟨_,rfl,⟨_,rfl,by decide +kernel⟩,_,rfl,fk,fun y1 xy=>⟨⟨_,rfl,xy⟩,⟨_,rfl,by decide +kernel⟩,_,rfl,fr,fun y2 xA=>⟨⟨_,rfl,xA⟩,fun y hy=>?_⟩⟩⟩
  refine⟨a,C,none,_,i,rfl,ha,c,qi,?_⟩
  refine⟨_,rfl,_,rfl,a,C,rfl,ha,c,nk,fun d hd l8=>?_⟩
  refine⟨_,rfl,_,rfl,a,C,d,_,rfl,af,(by rw[aj l8];exact af),c,nr,(by show 1 < 100;decide),?_⟩
  refine q d _ hd l8 ?_ af fun b o e n=>?_
  ·rw[aj (aT l8)];exact af
  ·rw[aj (ax e hd)];exact My hd b o e n
theorem NU {H:Hp}:∀ {vs:List V}{W:List Wi}{v:V},km H vs W->v∈vs -> ∃w∈W,∃a,v=V.ref a/\H a=some (.tup [.int w.1,.str w.2.1,.str w.2.2])
 | _,_,_,.nil,h=>by cases h
 | _,w::_,_,.cons a b,h=>by
  rcases a9.mp h with rfl | z
  ·exact⟨w,aZ,a⟩
  ·obtain⟨w2,h2,r⟩:=NU b z
   exact⟨w2,bX _ h2,r⟩
@[irreducible] def uu (C:Addr):Sp:=fun vs H Q E=>∃ (d pa:Addr) (kvs:List (Key×V)) (L:Str->List Str) (k:Str) (ps:List Str),vs = [.ref d,.str k,.ref pa]/\H d=some (.dK kvs)/\H pa=some (.tup (ps.map V.str))/\(∀x∈ps,oh H kvs L x)/\Small (rowsOf L ps)/\Nm k /\
 (bB (total (rowsOf L ps)) (rowsOf L ps)=none -> ∀a dx H',H a=none->aq H H'->H' a=some (gu false C dx a)->E (.ref C) (some a) H') /\ ∀o,bB (total (rowsOf L ps)) (rowsOf L ps)=some o -> ∀p H',aq H H'->H' p=some (.tup ((k::o).map V.str))->Q (.ref p) H'
theorem aaN {C d pa:Addr}{kvs:List (Key×V)}{L:Str->List Str}{k:Str}{ps:List Str}{H:Hp}{Q:VK}{E:XK} (hd:H d=some (.dK kvs)) (qd:H pa=some (.tup (ps.map V.str))) (hl:∀x∈ps,oh H kvs L x) (hS:Small (rowsOf L ps)) (hk:Nm k)
  (qn:bB (total (rowsOf L ps)) (rowsOf L ps)=none -> ∀a dx H',H a=none->aq H H'->H' a=some (gu false C dx a)->E (.ref C) (some a) H')
  (q:∀o,bB (total (rowsOf L ps)) (rowsOf L ps)=some o -> ∀p H',aq H H'->H' p=some (.tup ((k::o).map V.str))->Q (.ref p) H'):uu C [.ref d,.str k,.ref pa] H Q E:=by
 unfold uu;exact⟨d,pa,kvs,L,k,ps,rfl,hd,qd,hl,hS,hk,qn,q⟩
abbrev Rv:List Str:= ["lines", "kind", "parents", "rows", "refusal"]
theorem Em:cO Rv ["lines", "kind", "parents"] (aH oP):=⟨rfl,rfl,rfl,by decide +kernel,rfl,by decide +kernel,by decide +kernel⟩
def En (e:Expr):Expr:=match e with | .BinOp a _ _ _=>a | _=>.Constant .none 0 ⟨0,0,0,0⟩
abbrev eLF:Expr:=En (fH (eF (cj (aU oP) 0)))
theorem Pg:cp Rv (aH oP) ["parent", "lines"] [none,some 0] (cD eLF):=⟨rfl,by decide +kernel,by decide +kernel,rfl,cR (by decide +kernel),by decide +kernel⟩
theorem aaO {B C fI fM:Addr}{qe md:FuncData} (F:bw K "line_from" "line_from" oP f fd) (Bl:c7 mg) (T:DR K mg B C fI qe) (me:mroIn K C (.ref C)=some true) (GM:aN P w K mg base (gU P w) 3 fM md ["rows"] (tF C)) (kM:keepIn K (.ref fM)=true) (bM:Binds K md ["rows"] []) (mM:mg "merged" = some (.ref fM)) :
  aN P w K mg base (gU P w) 4 f fd ["lines", "kind", "parents"] (uu C):=by
 have GI:wA P w K mg base 1 fI qe ["self", "kind", "ring"] (lO K "kind" "ring"):=X7 T.F T.b T.mB
 refine F.Hg Em (fun vs H Q E h=>?_) (fun aQ A outer s H vs Q E hr h=>?_)
 ·unfold uu at h;obtain⟨d,pa,kvs,L,k,ps,rfl,_⟩:=h;rfl
 ·unfold uu at h
  obtain⟨d,pa,kvs,L,k,ps,rfl,hd,qd,hl,hS,hk,qn,q⟩:=h
  have hu:=hr.units
  have gA:=vy (vz (show 1<=64 by decide) _) hu
  refine⟨_,aF (ba (i:=3) Em.nd rfl (Or.inl rfl) (eX sN rfl Bl.tuple boot_tuple (ae (aL ff (dg rfl Pg (iu (pv 2)) (fun s H fp=>⟨aR (i:=0) Pg.nd rfl (Or.inl rfl),dh,zD gA (pv 1) (pv 0) (fun _ _=>rfl)⟩)) (cL (ae (pv 2) ah))) ah)))
   (aP (XG (j:=4) rfl (fun pins D=>aP (bu (aL vV (gN (ae (pv 1) ah)) (Mj GM hr rfl mM kM bM (ae (pv 3) ah))))) Em.nd rfl rfl rfl T.mC T.q
    (fun a=>YK T.q T.fn T.kp GI ((hr.mono (by decide:2<=3)).marked _) T.bi bE rfl T.mC (ae (pv 1) (ae (YG (pv 4)) ah))))),?_⟩
  obtain⟨g,hg,hR⟩:=Y2 hl
  have dG:ps.length<=20:=hS.short ps (gW _ aZ)
  refine⟨_,rfl,pa,rfl,⟨_,aB.of qd⟩,fun c hc=>L3 qd hd hg hc (by omega) ?_⟩
  have S1:=ak (o:= .lst (ps.map g)) hc
  refine⟨_,rfl,by show 1<=sizeLine;rw[ay];decide,fun c2 cU=>?_⟩
  have S2:=S1.trans (ak (o:= .lst [V.ref pa]) cU)
  refine⟨c,c2,_,_,rfl,rfl,by rw[aj (ax af cU)];exact af,af,by rw[ar,ay];show _+1<=_;omega,fun c3 ku=>?_⟩
  have S3:=S2.trans (ak (o:= .lst (ps.map g ++ [V.ref pa])) ku)
  refine⟨c3,_,rfl,.inl ⟨ai.of af,fun r hr=>?_⟩⟩
  have S4:=S3.trans (ak (o:= .tup (ps.map g ++ [V.ref pa])) hr)
  refine⟨_,rfl,by show 1<=sizeLine;rw[ay];decide,fun c4 kh=>?_⟩
  have S5:=S4.trans (ak (o:= .tup [V.str k]) kh)
  refine⟨_,rfl,Xg (rows:=rowsOf L ps) (by rw[aj (ax af kh)];exact af) (dY.append (hR.same S5) (S5 _ _ qd)) hS (fun hm a dd p vs H6 ha0 A5 hp0 rp S6 HU hd6 Bs Rw=>?_) (fun o hm m H6 hm6 S6 h6=>?_)⟩
  ·have By:=S5.trans S6
   refine⟨⟨C,rfl,me⟩,a,rfl,?_⟩
   refine⟨_,rfl,_,rfl,a,true,C,dd,_,.ref p,rfl,HU,hd6,T.x,T.nr,rfl,by show 2<=100;decide,fun e he=>?_⟩
   have S7:=ak (o:=cw C none e) he
   refine two_sp af T.x T.q (.inl ⟨k,rfl,c9 hk.hi (by decide)⟩) (Lh (S7 _ _ Bs) (fun v hv=>?_) ?_) T.nk T.nr fun d2 H7 hd2 nd2 h7a h7d kp=>⟨rfl,?_⟩
   ·obtain⟨w',hw',aw,ew,hw⟩:=NU Rw hv
    obtain⟨pre,post,er,mp,_⟩:=rp.at_ w' hw'
    have ye:=gj er
    refine⟨aw,w'.1,_,_,ew,S7 _ _ hw,ig (cq.mp er).1 hS.bg,hS.nm _ ye _ (gW _ aZ),hS.nm _ ye _ (gW _ (bX _ mp))⟩
   ·rw[jL Rw];exact c9 rp.bg (by decide)
   ·have Rx:e≠a:=fun z=>by rw[z,HU]at he;cases he
    refine⟨e,C,some d2,some (.ref fI),C,some dd,rfl,h7a,fun d' ed=>by cases ed;exact⟨_,h7d⟩,T.x,T.q,kp a _ (S7 _ _ HU) (aT Rx),Rx,By.free he,?_⟩
    refine qn hm e (some d2) _ (By.free he) (fun b o hb=>?_) af
    have Ry:b≠e:=ax (By _ _ hb) he
    rw[aj Ry]
    exact kp b o (S7 _ _ (By _ _ hb)) Ry
  ·have ol:o.length<=200:=c9 (zk hm) (c9 (sR hS.short) (by have:=hS.bg;omega))
   refine⟨c4,m,_,_,rfl,rfl,S6 _ _ af,h6,by rw[ar,ay];show 1+_<=_;omega,fun p H7 S7 h7=>?_⟩
   exact q o hm p H7 (S5.trans (S6.trans S7)) h7
end
end bc
namespace bc
open PySem L2 PySem.W HT
abbrev bV:=List (Str×List Str)
inductive eJ (aa:bV):Str->List Str->Prop where
 | mk {k:Str}{ps:List Str}{L:Str->List Str}{o:List Str}:(k,ps)∈aa->(∀x∈ps,eJ aa x (L x))->bB (total (rowsOf L ps)) (rowsOf L ps)=some o->eJ aa k (k::o)
structure gP (aa:bV):Prop where
 nd:(aa.map (·.1)).Nodup
 bg:aa.length<=15
 nm:∀p∈aa,Nm p.1
 up:∀p∈aa,∀x∈p.2,∃q∈aa,q.1=x
 four:∀p∈aa,p.2.length<=4
 Rz:∀p∈aa,p.2.Nodup
theorem gP.key {aa:bV} (s:gP aa) {k:Str}{ps qs:List Str} (h:(k,ps)∈aa) (h':(k,qs)∈aa):ps=qs:=by
 have nd:=s.nd
 clear s
 induction aa with
 | nil=>cases h
 | cons p aa ih =>
  rw[d5,fV]at nd
  have no:∀ {rs},(k,rs)∈aa->p.1≠k:=fun hm e=>nd.1 (e ▸ bj.mpr ⟨_,hm,rfl⟩)
  rcases a9.mp h with z | z
  ·rcases a9.mp h' with z' | z'
   ·rw[<-z']at z;exact(Prod.mk.inj z).2
   ·exact absurd (by rw[<-z]) (no z')
  ·rcases a9.mp h' with z' | z'
   ·exact absurd (by rw[<-z']) (no z)
   ·exact ih z z' nd.2
theorem Ll {L L':Str->List Str}{ps:List Str} (h:∀x∈ps,L x=L' x):rowsOf L ps=rowsOf L' ps:=by
 unfold rowsOf;rw[Ce h]
theorem eJ.uniq {aa:bV} (s:gP aa) {k:Str}{l:List Str} (h:eJ aa k l):∀ {l'},eJ aa k l'->l=l':=by
 induction h with
 | mk hm hx hg ih =>
  intro l' h'
  cases h' with
  | mk jB eZ HV =>
   have e:=s.key hm jB
   subst e
   have e:=Ll fun x qb=>ih x qb (eZ x qb)
   rw[e,HV]at hg
   rw[ie hg]
theorem L4:∀ {k:Nat}{rows:List (List Str)}{o:List Str},bB k rows=some o->o.Nodup /\ ∀x∈o,∃r∈rows,x∈r
 | 0,_,_,h=>by cases h;exact⟨oJ,fun x hx=>by cases hx⟩
 | k+1,rows,o,h=>by
  unfold bB at h
  split at h
  ·split at h
   ·cases h
   ·rename_i n hn
    obtain⟨o',h',rfl⟩:=iF.mp h
    obtain⟨nd,mem⟩:=L4 h'
    have Ph:∀x∈o',x≠n /\ ∃r∈rows,x∈r:=fun x hx=>by
     obtain⟨r,hr,r6⟩:=mem x hx
     obtain⟨r0,yf,rfl⟩:=bj.mp hr
     obtain⟨h1,h2⟩:=kB.mp r6
     exact⟨by simpa using h2,r0,yf,h1⟩
    refine⟨fV.mpr ⟨fun z=>(Ph n z).1 rfl,nd⟩,fun x hx=>?_⟩
    rcases a9.mp hx with rfl | z
    ·obtain⟨r,hr,e⟩:=yW hn
     exact⟨r,hr,Vf e⟩
    ·exact(Ph x z).2
  ·cases h;exact⟨oJ,fun x hx=>by cases hx⟩
theorem Y3 {a b:List Str} (nd:a.Nodup) (h:∀x∈a,x∈b):a.length<=b.length:=Dx nd h
theorem eJ.mem {aa:bV} (s:gP aa) {k:Str}{l:List Str} (h:eJ aa k l):(∀x∈l,x∈aa.map (·.1))/\l.length<=16:=by
 induction h with
 | mk hm hx hg ih =>
  rename_i k ps L o
  obtain⟨nd,mem⟩:=L4 hg
  have jx:∀x∈o,x∈aa.map (·.1):=fun x hxo=>by
   obtain⟨r,hr,r6⟩:=mem x hxo
   unfold rowsOf at hr
   rcases cz.mp hr with z | z
   ·obtain⟨y,hy,rfl⟩:=bj.mp z
    exact(ih y hy).1 x r6
   ·rw[eL.mp z]at r6
    obtain⟨q,hq,e⟩:=s.up _ hm x r6
    exact bj.mpr ⟨q,hq,e⟩
  have fl:=Y3 nd jx
  have:=s.bg
  rw[ar]at fl
  refine⟨fun x hx=>?_,by rw[dc];omega⟩
  rcases a9.mp hx with rfl | z
  ·exact bj.mpr ⟨_,hm,rfl⟩
  ·exact jx x z
open Classical in
noncomputable def fX (aa:bV) (k:Str):List Str:=if h:∃l,eJ aa k l then Classical.choose h else []
theorem eJ.line {aa:bV} (s:gP aa) {k:Str}{l:List Str} (h:eJ aa k l):fX aa k=l:=by
 unfold fX
 rw[dif_pos ⟨l,h⟩]
 exact eJ.uniq s (U9 (⟨l,h⟩:∃l,eJ aa k l)) h
def Ln (aa:bV) (k:Str):Prop:=eJ aa k (fX aa k)
theorem eJ.ln {aa:bV} (s:gP aa) {k:Str}{l:List Str} (h:eJ aa k l):Ln aa k:=by unfold Ln;rw[h.line s];exact h
def uc (aa:bV) (k:Str):Prop:= ∃ps,(k,ps)∈aa/\(∀x∈ps,Ln aa x)/\bB (total (rowsOf (fX aa) ps)) (rowsOf (fX aa) ps)=none
theorem uc.no {aa:bV} (s:gP aa) {k:Str} (h:uc aa k) : ¬ Ln aa k:=by
 obtain⟨ps,hm,hx,hg⟩:=h
 intro hl
 unfold Ln at hl
 cases e:fX aa k with
 | nil=>rw[e]at hl;cases hl
 | cons a b =>
  rw[e]at hl
  cases hl with
  | mk jB eZ HV =>
   have e2:=s.key hm jB
   subst e2
   rw[Ll (fun x qb=>(eZ x qb).line s),HV]at hg
   cases hg
theorem Oi {aa:bV} (s:gP aa) {k:Str}{ps o:List Str} (hm:(k,ps)∈aa) (hx:∀x∈ps,Ln aa x) (hg:bB (total (rowsOf (fX aa) ps)) (rowsOf (fX aa) ps)=some o):Ln aa k/\fX aa k=k::o:=by
 have h:eJ aa k (k::o):= .mk hm hx hg
 exact⟨h.ln s,h.line s⟩
def iA (aa:bV):Prop:= ∀p∈aa,Ln aa p.1
theorem Lm {aa:bV} (s:gP aa) {k:Str}{ps:List Str} (hm:(k,ps)∈aa) (hx:∀x∈ps,Ln aa x):Small (rowsOf (fX aa) ps):=by
 have f4:=s.four _ hm
 have jx:∀r∈rowsOf (fX aa) ps,(∀x∈r,x∈aa.map (·.1))/\r.length<=20:=fun r hr=>by
  unfold rowsOf at hr
  rcases cz.mp hr with z | z
  ·obtain⟨y,hy,rfl⟩:=bj.mp z
   obtain⟨h1,h2⟩:=eJ.mem s (hx y hy)
   exact⟨h1,by omega⟩
  ·rw[eL.mp z]
   refine⟨fun x r6=>?_,by show ps.length<=20;have:ps.length<=4:=f4;omega⟩
   obtain⟨q,hq,e⟩:=s.up _ hm x r6
   exact bj.mpr ⟨q,hq,e⟩
 refine⟨?_,fun r hr=>(jx r hr).2,fun r hr x hx=>?_⟩
 ·unfold rowsOf;rw[aW,ar];show _+1<=10
  have:ps.length<=4:=f4
  omega
 ·obtain⟨q,hq,rfl⟩:=bj.mp ((jx r hr).1 x hx)
  exact s.nm q hq
theorem closed {aa:bV} (s:gP aa) {D:Str->Prop}{B:Str->Prop} (hB:∀k,B k -> ¬ Ln aa k) (hc:∀p∈aa,(∀x∈p.2,D x)->D p.1\/B p.1):∀ {k:Str}{l:List Str},eJ aa k l->D k:=by
 intro k l h
 induction h with
 | mk hm hx hg ih =>
  rcases hc _ hm ih with z | z
  ·exact z
  ·exact absurd ((eJ.mk hm hx hg).ln s) (hB _ z)
end bc
namespace bc
open PySem L2 PySem.W HT
theorem boot_all:bootBuiltins "all" = some (.builtin "all"):=by decide +kernel
theorem V5 {X:Cx} (K:Frag) (h:X.K=K) (hc:X.calm=true):eO X (.builtin "all") (fun xs H Q=>∃ (p:Addr) (bs:List Bool),xs = [.ref p]/\ai K H p (bs.map V.bl)/\Q (.bl (bs.all id)) H):=by subst h;exact kH hc
def cM (H:Hp) (vs:List V) (aa:List (Str×List Str)):Prop:=Paired (fun y p=>∃a b,y=V.ref a/\H a=some (.tup [.str p.1,.ref b])/\H b=some (.tup (p.2.map V.str))) vs aa
theorem cM.keep {H H':Hp}{vs:List V}{aa:List (Str×List Str)} (h:cM H vs aa) (s:∀b xs,H b=some (.tup xs)->H' b=some (.tup xs)):cM H' vs aa:=Paired.imp' (fun _ _ ⟨a,b,e,q,r⟩=>⟨a,b,e,s _ _ q,s _ _ r⟩) h
theorem cM.same {H H':Hp}{vs:List V}{aa:List (Str×List Str)} (h:cM H vs aa) (s:aq H H'):cM H' vs aa:=h.keep fun _ _ e=>s _ _ e
theorem cM.length {H:Hp}{vs:List V}{aa:List (Str×List Str)} (h:cM H vs aa):vs.length=aa.length:=jL h
theorem cM.append {H:Hp}{vs:List V}{aa:List (Str×List Str)}{a b:Addr}{p:Str×List Str}:cM H vs aa->H a=some (.tup [.str p.1,.ref b])->H b=some (.tup (p.2.map V.str))->cM H (vs ++ [.ref a]) (aa ++ [p])
 | .nil,q,r=>.cons ⟨a,b,rfl,q,r⟩ .nil
 | .cons x t,q,r=>.cons x (cM.append t q r)
theorem cM.pairs {H:Hp}{vs:List V}{aa:List (Str×List Str)} (h:cM H vs aa):∃kvs,i5 H vs kvs/\kvs.map (·.1)=aa.map (·.1):=by
 induction h with
 | nil=>exact⟨[],.nil,rfl⟩
 | cons p _ ih =>
  obtain⟨a,b,e,q,r⟩:=p
  obtain⟨kvs,h1,h2⟩:=ih
  exact⟨(_,.ref b)::kvs,.cons ⟨a,e,q⟩ h1,by rw[d5,d5,h2]⟩
def isDone (kvs:List (Key×V)) (x:Str):Bool:=(cf kvs (Sum.inr x)).isSome
def ir (dn:Str->Bool) (rest:List (Str×List Str)):List (Str×List Str):=rest.filter fun p=>(p.2.map dn).all id
theorem L5 {dn:Str->Bool}{rest:List (Str×List Str)}{p:Str×List Str}:p∈ir dn rest ↔ p∈rest /\ ∀x∈p.2,dn x=true:=by
 unfold ir
 rw[kB,mG,fo];rfl
theorem Lo {α:Type} (f:α->Bool):∀l:List α,(l.filter f).length+(l.filter fun x=>!f x).length=l.length
 | []=>rfl
 | x::l=>by
  have ih:=Lo f l
  cases h:f x <;> simp[Vh,h] <;> omega
theorem Xh {dn Bz:Str->Bool}{rest:List (Str×List Str)} (h:∀p∈ir dn rest,Bz p.1=true):(rest.filter fun p=>!Bz p.1).length+(ir dn rest).length<=rest.length:=by
 have e:rest.length=(rest.filter fun p=>(p.2.map dn).all id).length+(rest.filter fun p=>!(p.2.map dn).all id).length:=by
  exact(Lo (fun p:Str×List Str=>(p.2.map dn).all id) rest).symm
 have le:(rest.filter fun p=>!Bz p.1).length<=(rest.filter fun p=>!(p.2.map dn).all id).length:=by
  rw[<-amB,<-amB]
  refine List.countP_mono_left fun p hp h1=>?_
  cases z:(p.2.map dn).all id with
  | false=>rfl
  | true =>
   have:=h p (kB.mpr ⟨hp,z⟩)
   rw[this]at h1;cases h1
 unfold ir
 omega
theorem X8 {K:Frag}{a d p:Addr}{ps:List Str}{kvs:List (Key×V)}{H:Hp}{Q:VK} (ha:H a=some (.tup (ps.map V.str))) (hd:H d=some (.dK kvs)) (hp:H p=none) (hs:ps.length<=100)
  (q:Q (.ref p) (upd H p (.lst ((ps.map (isDone kvs)).map V.bl)))):kZ (nT K a) (pF 0) wt (OX (eu 0) (eu 1)) [none,some (.ref d)] Q p H:=by
 have yc:a≠p:=ax ha hp
 have yd:d≠p:=ax hd hp
 refine oR (xs:=ps.map V.str) (fun j zs τ H2=>∃t1:Option V,τ = [t1,some (.ref d)]/\zs=((ps.take j).map (isDone kvs)).map V.bl/\H2=upd H p (.lst zs)) ⟨none,rfl,rfl,rfl⟩ (fun j zs τ H2 ⟨_,_,_,z⟩=>by rw[z];exact⟨af,aB.of (by rw[aj yc];exact ha)⟩) ?_ ?_
 ·rintro j x zs τ H2 hx ⟨t1,rfl,rfl,rfl⟩
  have cZ:j < (ps.map V.str).length:=(cq.mp hx).1
  have gJ:j < ps.length:=by simpa using cZ
  obtain rfl:V.str ps[j]=x:=by simpa [gJ] using hx
  have jF:ps.take (j+1)=ps.take j ++ [ps[j]]:=by rw[de,br gJ];rfl
  refine⟨_,rfl,_,rfl,d,_,rfl,iz.k (k:=Sum.inr ps[j]) (by rw[aj yd];exact hd),af,?_,cw_next cZ ⟨_,rfl,?_,by rw[iq]⟩⟩
  ·rw[ar,ar,aX,ay];omega
  ·rw[jF,aY,aY];rfl
 ·rintro zs τ H2 ⟨t1,rfl,rfl,rfl⟩
  rw[ar,dw]
  exact q
def ud (aa:List (Str×List Str)) (kvs:List (Key×V)):Prop:=(kvs.map (·.1)).Nodup /\ ∀k∈kvs.map (·.1),∃p∈aa,k=Sum.inr p.1
theorem L6 (kvs:List (Key×V)) (k:Key) (v:V):(k∈kvs.map (·.1)/\(putK kvs k v).map (·.1)=kvs.map (·.1))\/(k ∉ kvs.map (·.1)/\(putK kvs k v).map (·.1)=kvs.map (·.1) ++ [k]):=by
 have e:(kvs.any fun kv=>decide (kv.1=k))=true ↔ k∈kvs.map (·.1):=by
  rw[qD,bj]
  exact⟨fun⟨x,h,d⟩=>⟨x,h,iG d⟩,fun⟨x,h,d⟩=>⟨x,h,cF d⟩⟩
 unfold putK
 by_cases h:k∈kvs.map (·.1)
 ·refine .inl ⟨h,?_⟩
  rw[aI (e.mpr h),my]
  refine Ce fun kv _=>?_
  show(if kv.1=k then (kv.1,v) else kv).1=kv.1
  split <;> rfl
 ·refine .inr ⟨h,?_⟩
  rw[aE fun z=>h (e.mp z),aY];rfl
theorem X9 {kvs:List (Key×V)}{k j:Key}{v:V}:j∈(putK kvs k v).map (·.1) ↔ j=k\/j∈kvs.map (·.1):=by
 rcases L6 kvs k v with⟨h,e⟩|⟨h,e⟩
 ·rw[e];exact⟨.inr,fun z=>z.elim (fun e=>e ▸ h) id⟩
 ·rw[e,cz,eL];exact Or.comm
theorem Y4 {kvs:List (Key×V)}{k:Key}{v:V} (h:(kvs.map (·.1)).Nodup):((putK kvs k v).map (·.1)).Nodup:=by
 rcases L6 kvs k v with⟨_,e⟩|⟨hn,e⟩
 ·rw[e];exact h
 ·rw[e,qE]
  exact⟨h,by simp,fun a ha b hb e=>hn (by rw[<-(eL.mp hb),<-e];exact ha)⟩
theorem ud.put {aa:List (Str×List Str)}{kvs:List (Key×V)}{p:Str×List Str}{v:V} (h:ud aa kvs) (hp:p∈aa):ud aa (putK kvs (Sum.inr p.1) v):=by
 refine⟨Y4 h.1,fun k hk=>?_⟩
 rcases X9.mp hk with z | z
 ·exact⟨p,hp,z⟩
 ·exact h.2 k z
theorem MA:∀ {kvs:List (Key×V)}{x:Str},isDone kvs x=true->Sum.inr x∈kvs.map (·.1)
 | [],x,h=>by cases h
 | (a,b)::kvs,x,h=>by
  by_cases e:a=Sum.inr x
  ·rw[e];exact aZ
  ·unfold isDone at h;rw[ip e]at h
   exact bX _ (MA h)
theorem ZN {l:List Str} (h:l.Nodup):(l.map (Sum.inr:Str->Key)).Nodup:=by
 induction l with
 | nil=>exact oJ
 | cons x l ih =>
  rw[fV]at h
  rw[d5,fV]
  refine⟨fun z=>?_,ih h.2⟩
  obtain⟨y,hy,e⟩:=bj.mp z
  exact h.1 (sk e ▸ hy)
theorem nB {α:Type} [DecidableEq α]:∀ {a b:List α},a.Nodup->(∀x∈a,x∈b)->a.length<=b.length
 | [],b,_,_=>bY _
 | x::a,b,nd,h=>by
  rw[fV]at nd
  have hx:=h x aZ
  have:=nB (b:=b.erase x) nd.2 fun y hy=>(Ki (fun e=>nd.1 (by rw[<-e];exact hy))).mpr (h y (bX _ hy))
  rw[UJ hx]at this
  have:=UK hx
  rw[dc];omega
theorem NV {α:Type} [DecidableEq α]:∀ {a b:List α},a.Nodup->(∀x∈a,x∈b)->b.length<=a.length -> ∀ {y:α},y∈b->y∈a:=by
 intro a b nd h hl y hy
 refine amC fun hn=>?_
 have:=nB (a:=y::a) (b:=b) (fV.mpr ⟨hn,nd⟩) fun x hx=>by
  rcases a9.mp hx with rfl | z
  ·exact hy
  ·exact h x z
 rw[dc]at this
 omega
theorem vQ:∀ {kvs:List (Key×V)}{x:Str},Sum.inr x∈kvs.map (·.1)->isDone kvs x=true
 | [],x,h=>by cases h
 | (a,b)::kvs,x,h=>by
  by_cases e:a=Sum.inr x
  ·unfold isDone;rw[iI e];rfl
  ·unfold isDone;rw[ip e]
   rcases a9.mp h with z | z
   ·exact absurd z.symm e
   ·exact vQ z
structure Eo (H:Hp) (aa:List (Str×List Str)) (t d:Addr) (m:Nat) (σ:St) (H1:Hp) (kvs:List (Key×V)) (rest:List (Str×List Str)) (wv:List V) (wa:Addr):Prop where
 st:∃v3 v4 v5:Option V,σ = [some (.ref t),some (.ref d),some (.ref wa),v3,v4,v5]
 mm:m=rest.length
 hd:H1 d=some (.dK kvs)
 hw:H1 wa=some (.lst wv)
 fv:cM H1 wv rest
 sub:∀p∈rest,p∈aa
 all:∀p∈aa,isDone kvs p.1=true\/p∈rest
 ln:∀x,isDone kvs x=true->oh H1 kvs (fX aa) x/\Ln aa x
 same:aq H H1
 lim:kvs.length+rest.length<=15
 ky:ud aa kvs
section
variable {P : Program} {w : World} {K : Frag} {mg : Str -> Option Value} {base : Heap} {f : Addr} {fd : FuncData}
@[irreducible] def tM (C:Addr):Sp:=fun vs H Q E=>∃ (t:Addr) (ws:List V) (aa:List (Str×List Str)),vs = [.ref t]/\H t=some (.tup ws)/\cM H ws aa/\gP aa /\
 (¬ iA aa -> ∀a dx H',aq H H'->H' a=some (gu false C dx a)->E (.ref C) (some a) H') /\ ∀d kvs H',H d=none->aq H H'->H' d=some (.dK kvs)->(kvs.length=aa.length ↔ iA aa)->Q (.ref d) H'
theorem X' {C t:Addr}{ws:List V}{aa:List (Str×List Str)}{H:Hp}{Q:VK}{E:XK} (ht:H t=some (.tup ws)) (hf:cM H ws aa) (ok:gP aa)
  (qn : ¬ iA aa -> ∀a dx H',aq H H'->H' a=some (gu false C dx a)->E (.ref C) (some a) H')
  (q:∀d kvs H',H d=none->aq H H'->H' d=some (.dK kvs)->(kvs.length=aa.length ↔ iA aa)->Q (.ref d) H'):tM C [.ref t] H Q E:=by unfold tM;exact⟨t,ws,aa,rfl,ht,hf,ok,qn,q⟩
theorem Nl {H:Hp}{aa:List (Str×List Str)}{t d:Addr}{m:Nat}{σ:St}{H1:Hp}{kvs:List (Key×V)}{rest:List (Str×List Str)}{wv:List V}{wa:Addr} (R:Eo H aa t d m σ H1 kvs rest wv wa) (ok:gP aa) (no:∀p∈rest,¬ ∀x∈p.2,isDone kvs x=true):kvs.length=aa.length ↔ iA aa:=by
 have sub:(kvs.map (·.1)).length<=((aa.map (·.1)).map (Sum.inr:Str->Key)).length:=nB R.ky.1 fun k hk=>by
  obtain⟨p,hp,rfl⟩:=R.ky.2 k hk
  exact bj.mpr ⟨p.1,bj.mpr ⟨p,hp,rfl⟩,rfl⟩
 have done:(∀p∈aa,isDone kvs p.1=true)->kvs.length=aa.length:=fun all=>by
  have le:((aa.map (·.1)).map (Sum.inr:Str->Key)).length<=(kvs.map (·.1)).length:=nB (ZN ok.nd) fun k hk=>by
   obtain⟨y,hy,rfl⟩:=bj.mp hk
   obtain⟨p,hp,rfl⟩:=bj.mp hy
   exact MA (all p hp)
  simp only[ar]at le sub
  omega
 constructor
 ·intro e p hp
  have kj:Sum.inr p.1∈kvs.map (·.1):=by
   refine NV R.ky.1 (fun k hk=>?_) (by simp only[ar];omega) (bj.mpr ⟨p.1,bj.mpr ⟨p,hp,rfl⟩,rfl⟩:(Sum.inr p.1:Key)∈(aa.map (·.1)).map (Sum.inr:Str->Key))
   obtain⟨p,hp,rfl⟩:=R.ky.2 k hk
   exact bj.mpr ⟨p.1,bj.mpr ⟨p,hp,rfl⟩,rfl⟩
  exact(R.ln p.1 (vQ kj)).2
 ·intro all
  refine done fun p hp=>?_
  refine closed ok (D:=fun x=>isDone kvs x=true) (B:=fun _=>False) (fun _ z=>z.elim) (fun p hp hx=>?_) (all p hp)
  rcases R.all p hp with z | z
  ·exact .inl z
  ·exact absurd hx (no p z)
abbrev HW:List Str:= ["family", "lines", "waiting", "ready", "kind", "parents"]
theorem rB:cO HW ["family"] (aH nt):=⟨rfl,rfl,rfl,by decide +kernel,rfl,by decide +kernel,by decide +kernel⟩
abbrev Pj:Stmt:=cj (aU nt) 2
abbrev Ep:Expr:=eF (cj (vJ Pj) 0)
abbrev acq:Expr:=fH (NT Ep)
abbrev acr:Expr:=eF (cj (vJ Pj) 3)
theorem Oj:cp HW (aH nt) ["pair", "lines"] [none,some 1] (cD Ep):=⟨rfl,by decide +kernel,by decide +kernel,rfl,cR (by decide +kernel),by decide +kernel⟩
theorem aaP {env:Env}:cp ["pair", "lines"] (relabel (cD Ep) env) ["parent", "lines"] [none,some 1] (cD acq):=nest rfl (by decide +kernel) (by decide +kernel) rfl (by decide +kernel) (by decide +kernel)
theorem aaQ:(["parent", "lines"]:List Str).Nodup:=by decide +kernel
theorem Ol:cp HW (aH nt) ["pair", "lines"] [none,some 1] (cD acr):=⟨rfl,by decide +kernel,by decide +kernel,rfl,cR (by decide +kernel),by decide +kernel⟩
theorem Ya {C fF:Addr}{RA:FuncData} (F:bw K "lines_of" "lines_of" nt f fd) (B:c7 mg) (GF:aN P w K mg base (gU P w) 4 fF RA ["lines", "kind", "parents"] (uu C)) (kF:keepIn K (.ref fF)=true) (bF:Binds K RA ["lines", "kind", "parents"] []) (mF:mg "line_from" = some (.ref fF)) :
  aN P w K mg base (gU P w) 5 f fd ["family"] (tM C):=by
 refine F.Hg rB (fun vs H Q E h=>?_) (fun aQ A outer s H vs Q E hr h=>?_)
 ·unfold tM at h;obtain⟨t,ws,aa,rfl,_⟩:=h;rfl
 ·unfold tM at h
  obtain⟨t,ws,aa,rfl,ht,acs,ok,qn,q⟩:=h
  have hu:=hr.units
  have gA:=vy (vz (show 1<=64 by decide) _) hu
  refine⟨_,aF (ba (i:=1) rB.nd rfl (Or.inr rfl) vM)
   (aF (ba (i:=2) rB.nd rfl (Or.inl rfl) (eX oO rfl B.list boot_list (ae (pv 0) ah)))
   (aF (zq Vg (tq (pv 2) (fun _=>rfl))
    (aF (qJ rfl Oj rB.nd (i:=3) rfl rfl (fq (pv 2)) (fun s H fp=>⟨aR (i:=0) Oj.nd rfl (Or.inl rfl),
      oQ (gE (aV (V5 K rfl rfl) rfl B.all boot_all (ae (dg rfl aaP (Me K rfl (bC (zu K rfl) (pv 0) aD (fun _ _=>rfl))) (fun s H fp=>⟨aR (i:=0) aaQ rfl (Or.inl rfl),dh,NB (NL gA (pv 0) (pv 1))⟩)) ah))),
      pv 0⟩))
    (aF (eg (gL (tq (pv 3) (fun _=>rfl))) (aP (bu (pv 1))) d9)
    (aF (iw Vg rfl (fq (pv 3)) (i4 rfl (cC (aR (i:=4) rB.nd rfl (Or.inl rfl)) (cC (aR (i:=5) rB.nd rfl (Or.inl rfl)) gk)))
     (aP (zE gA (pv 1) (pv 4) (bG GF hr rfl mF kF bF .nil aaB (ae (pv 1) (ae (pv 4) (ae (pv 5) ah)))) rfl)))
    (aP (qJ rfl Ol rB.nd (i:=2) rfl rfl (fq (pv 2)) (fun s H fp=>⟨aR (i:=0) Ol.nd rfl (Or.inl rfl),
      oQ (NC (LJ gA (bC (zu K rfl) (pv 0) aD (fun _ _=>rfl)) (pv 1))),pv 0⟩)))))))
   (aP (bu (pv 1))))),?_⟩
  intro d hd
  have Sd:=ak (o:= .dK []) hd
  refine⟨_,rfl,t,ws,rfl,.inr (aB.of (Sd _ _ ht)),fun wa u7=>?_⟩
  have Sw:=Sd.trans (ak (o:= .lst ws) u7)
  have nwd:d≠wa:=ax af u7
  refine⟨fun m σ H1=>∃kvs rest wv wa,Eo H aa t d m σ H1 kvs rest wv wa,⟨_,[],aa,ws,wa,⟨none,none,none,rfl⟩,rfl,by rw[aj nwd];exact af,af,acs.same Sw,fun _ h=>h,fun _ h=>.inr h,fun x h=>(by cases h),Sw,by have:=ok.bg;rw[vv];omega,⟨oJ,fun _ h=>(by cases h)⟩⟩,?_⟩
  rintro m σ H1 ⟨kvs,rest,wv,wa,R⟩
  obtain⟨v3,v4,v5,rfl⟩:=R.st
  have yg:=R.fv.length
  refine⟨_,rfl,_,.inl ⟨_,ai.of R.hw,rfl⟩,?_⟩
  refine eM (fun du=>?_) (fun du=>?_)
  ·refine⟨fun aK H'=>∃m',m' < m /\ ∃kvs rest wv wa,Eo H aa t d m' aK H' kvs rest wv wa,fun _ _ z=>z,?_⟩
   refine⟨_,rfl,wa,rfl,⟨_,ai.of R.hw⟩,fun ra HX=>?_⟩
   have RB:∀ {b:Addr}{u:HO},H b=some u->b≠d:=fun e=>ax e hd
   have ndr:d≠ra:=ax R.hd HX
   refine gK (xs:=wv) (fun i ys τ H3=>∃t0:Option V,τ = [t0,some (.ref d)]/\H3 ra=some (.lst ys)/\aq H1 H3/\cM H3 ys (ir (isDone kvs) (rest.take i))) ⟨none,rfl,af,ak HX,.nil⟩ (fun i ys τ H3 ⟨_,_,z1,z2,_⟩=>⟨z1,ai.of (z2 _ _ R.hw)⟩) ?_ ?_
   ·rintro i x ys τ H3 hx ⟨t0,rfl,h3,S3,F3⟩
    have aM:i < wv.length:=(cq.mp hx).1
    obtain⟨p,hp,a,b,rfl,ha,hb⟩:=gm R.fv hx
    have tk:rest.take (i+1)=rest.take i ++ [p]:=by rw[de,hp];rfl
    have BA:=R.sub p (gj hp)
    have dG:p.2.length<=20:=c9 (ok.four p BA) (by decide)
    have kq:=S3 _ _ ha
    have oi:=S3 _ _ hb
    refine⟨_,rfl,a,_,1,.ref b,rfl,rfl,aB.of kq,(show dH [V.str p.1,V.ref b] ((1:Nat):Int)=some (.ref b) from dE rfl),?_⟩
    refine⟨b,rfl,⟨_,aB.of oi⟩,fun c hc=>X8 oi (S3 _ _ R.hd) hc (by omega) ?_⟩
    have Sc:=ak (o:= .lst ((p.2.map (isDone kvs)).map V.bl)) hc
    refine⟨c,_,rfl,ai.of af,_,rfl,?_⟩
    refine eM (fun jc=>?_) (fun jc=>?_)
    ·refine⟨_,rfl,Sc _ _ h3,?_,cw_next aM ⟨_,rfl,af,fun b o hb=>by rw[aj (ax hb HX)];exact Sc _ _ (S3 b o hb),?_⟩⟩
     ·have h1:=F3.length
      have h2:(ir (isDone kvs) (rest.take i)).length<=(rest.take i).length:=qG _ _
      have h3:=R.lim
      rw[aX]at h2
      rw[ay];omega
     ·have e1:ir (isDone kvs) (rest.take (i+1))=ir (isDone kvs) (rest.take i) ++ [p]:=by
       rw[tk];unfold ir;rw[sH,Cg (by exact jc)];rfl
      rw[e1]
      refine cM.append (F3.keep fun b xs hb=>?_) ?_ ?_ (b:=b)
      ·rw[aj (bZ hb h3 (by intro z;cases z))];exact Sc _ _ hb
      ·rw[aj (bZ kq h3 (by intro z;cases z))];exact Sc _ _ kq
      ·rw[aj (bZ oi h3 (by intro z;cases z))];exact Sc _ _ oi
    ·refine cw_next aM ⟨_,rfl,Sc _ _ h3,S3.trans Sc,?_⟩
     have e1:ir (isDone kvs) (rest.take (i+1))=ir (isDone kvs) (rest.take i):=by
      rw[tk];unfold ir;rw[sH,Ky (by exact jc)];simp
     rw[e1]
     exact F3.same Sc
   ·rintro rv τ H3 ⟨t0,rfl,h3,S3,F3⟩
    rw[yg,dw]at F3
    have gV:=F3.length
    have qg:=S3 _ _ R.hd
    have RC:=S3 _ _ R.hw
    have lX:cM H3 wv rest:=R.fv.same S3
    have uo:rest ≠ []:=fun z=>by
     rw[z]at yg
     have:wv = []:=sF yg
     rw[this]at du;cases du
    generalize uM:ir (isDone kvs) rest=ready at F3 gV
    refine⟨_,rfl,_,.inl ⟨_,ai.of h3,rfl⟩,?_⟩
    by_cases qj:ready = []
    ·have e:rv = []:=sF (by rw[gV,qj];rfl)
     rw[e]
     refine⟨_,rfl,q d kvs H3 hd (R.same.trans S3) qg (Nl R ok fun p hp hx=>?_)⟩
     have:p∈ir (isDone kvs) rest:=L5.mpr ⟨hp,hx⟩
     rw[uM,qj]at this;cases this
    obtain⟨p0,yf⟩:=List.exists_mem_of_ne_nil _ qj
    have acu:(!rv.isEmpty)=true:=by
     cases rv with
     | nil =>
      have:ready = []:=sF gV.symm
      rw[this]at yf;cases yf
     | cons _ _=>rfl
    rw[acu]
    refine⟨_,rfl,ra,rfl,⟨_,ai.of h3⟩,tf (xs:=rv) (fun i σ H4=>∃ (eQ:List (Key×V)) (v4 v5:Option V),σ = [some (.ref t),some (.ref d),some (.ref wa),some (.ref ra),v4,v5]/\H4 d=some (.dK eQ)/\eQ.length<=kvs.length+i /\
     (∀b u,b≠d->H3 b=some u->H4 b=some u)/\(∀x,isDone eQ x=true->oh H4 eQ (fX aa) x/\Ln aa x)/\(∀x,isDone kvs x=true->isDone eQ x=true)/\(∀p∈ready.take i,isDone eQ p.1=true)/\ud aa eQ)
     ⟨kvs,v4,v5,rfl,qg,aO _,fun _ _ _ e=>e,fun x hx=>⟨(R.ln x hx).1.same S3,(R.ln x hx).2⟩,fun _ h=>h,fun p hp=>(by cases hp),R.ky⟩ (fun i σ H4 _ ⟨_,_,_,_,_,_,z,_⟩=>ai.of (z _ _ (aT ndr) h3)) ?_ ?_⟩
    ·rintro i x σ H4 hx ⟨eQ,v4,v5,rfl,qk,jG,ko,vg,jD,BB,HY⟩
     have aM:i < rv.length:=(cq.mp hx).1
     obtain⟨p,hp,a,b,rfl,ha,hb⟩:=gm F3 hx
     have tk:ready.take (i+1)=ready.take i ++ [p]:=by rw[de,hp];rfl
     have hpr:p∈ir (isDone kvs) rest:=by rw[uM];exact gj hp
     obtain⟨BA,vd⟩:=L5.mp hpr
     have r9:=R.sub p BA
     have HZ:∀x∈p.2,Ln aa x:=fun x hx=>(vg x (jD x (vd x hx))).2
     have yh:=Lm ok (k:=p.1) (ps:=p.2) r9 HZ
     have acv:aq H H4:=fun b u e=>ko b u (RB e) (S3 _ _ (R.same b u e))
     have ql:=ko _ _ (bZ ha qg (by intro z;cases z)) ha
     have ji:=ko _ _ (bZ hb qg (by intro z;cases z)) hb
     refine⟨a,_,rfl,aB.of ql,rfl,_,_,rfl,_,_,rfl,rfl,?_⟩
     refine⟨_,rfl,_,rfl,_,rfl,aaN (L:=fX aa) qk ji (fun x hx=>(vg x (jD x (vd x hx))).1) yh (ok.nm p r9) (fun hg a dx H5 ha0 S5 h5=>qn (fun al=>uc.no ok ⟨p.2,r9,HZ,hg⟩ (al p r9)) a dx H5 (acv.trans S5) h5) fun oo rQ q5 H5 S5 h5=>?_⟩
     obtain⟨vh,hL⟩:=Oi ok (k:=p.1) (ps:=p.2) r9 HZ rQ
     refine⟨_,rfl,_,rfl,d,_,rfl,nJ.k (k:=Sum.inr p.1) (S5 _ _ qk) ?_,?_⟩
     ·have h1:=R.lim
      have h2:ready.length<=rest.length:=by rw[<-uM];exact qG _ _
      rw[ay];omega
     ·have nq:q5≠d:=bZ h5 (S5 _ _ qk) (by intro z;cases z)
      refine⟨_,_,_,rfl,af,?_,fun b u nb e=>?_,fun x hx=>?_,fun x hx=>?_,fun y hy=>?_,HY.put (R.sub p BA)⟩
      ·have:=Cp eQ (Sum.inr p.1) (V.ref q5);omega
      ·rw[aj nb];exact S5 _ _ (ko b u nb e)
      ·unfold oh
       rw[tD]
       by_cases e:x=p.1
       ·subst e
        refine⟨⟨q5,by rw[aI rfl],?_⟩,vh⟩
        rw[aj nq,hL];exact h5
       ·have e2 : ¬ ((Sum.inr x:Key)=Sum.inr p.1):=fun z=>e (sk z)
        have eZ:isDone eQ x=true:=by unfold isDone at hx ⊢;rw[tD,aE e2]at hx;exact hx
        obtain⟨⟨a',ea,gB⟩,pX⟩:=vg x eZ
        refine⟨⟨a',by rw[aE e2];exact ea,?_⟩,pX⟩
        rw[aj (bZ gB qk (by intro z;cases z))];exact S5 _ _ gB
      ·unfold isDone;rw[tD]
       split
       ·rfl
       ·exact jD x hx
      ·unfold isDone;rw[tD]
       split
       ·rfl
       ·rename_i hn
        rw[tk]at hy
        rcases cz.mp hy with z | z
        ·exact BB _ z
        ·have:y=p:=by simpa using z
         exact absurd (by rw[this]) hn
    ·rintro σ H4 ⟨eQ,v4,v5,rfl,qk,jG,ko,vg,jD,BB,HY⟩
     rw[gV,dw]at BB
     have hf4:cM H4 wv rest:=lX.keep fun b xs e=>ko _ _ (bZ e qg (by intro z;cases z)) e
     have RE:=ko _ _ (bZ RC qg (by intro z;cases z)) RC
     have SH4:aq H H4:=fun b u e=>ko b u (RB e) (S3 _ _ (R.same b u e))
     refine⟨_,rfl,wa,rfl,⟨_,ai.of RE⟩,fun wb Ia=>?_⟩
     have nwb:d≠wb:=ax qk Ia
     refine gK (xs:=wv) (fun i ys τ H5=>∃t0:Option V,τ = [t0,some (.ref d)]/\H5 wb=some (.lst ys)/\aq H4 H5/\cM H5 ys ((rest.take i).filter fun p=>!isDone eQ p.1)) ⟨none,rfl,af,ak Ia,.nil⟩ (fun i ys τ H5 ⟨_,_,z1,z2,_⟩=>⟨z1,ai.of (z2 _ _ RE)⟩) ?_ ?_
     ·rintro i x ys τ H5 hx ⟨t0,rfl,h5,S5,F5⟩
      have aM:i < wv.length:=(cq.mp hx).1
      obtain⟨p,hp,a,b,rfl,ha,hb⟩:=gm hf4 hx
      have tk:rest.take (i+1)=rest.take i ++ [p]:=by rw[de,hp];rfl
      have se:=S5 _ _ ha
      have RF:=S5 _ _ hb
      refine⟨_,rfl,a,_,0,.str p.1,rfl,rfl,aB.of se,(show dH [V.str p.1,V.ref b] ((0:Nat):Int)=some (.str p.1) from dE rfl),?_⟩
      refine⟨_,rfl,d,_,rfl,iz.k (k:=Sum.inr p.1) (S5 _ _ qk),_,rfl,?_⟩
      refine eM (fun kj=>?_) (fun kj=>?_)
      ·refine⟨_,rfl,h5,?_,cw_next aM ⟨_,rfl,af,fun b o hb=>by rw[aj (ax hb Ia)];exact S5 b o hb,?_⟩⟩
       ·have h1:=F5.length
        have h2:=qG (fun p:Str×List Str=>!isDone eQ p.1) (rest.take i)
        have h3:=R.lim
        rw[aX]at h2
        rw[ay];omega
       ·rw[tk,sH,Cg (by exact kj)]
        refine cM.append (F5.keep fun b xs hb=>?_) ?_ ?_ (b:=b)
        ·rw[aj (bZ hb h5 (by intro z;cases z))];exact hb
        ·rw[aj (bZ se h5 (by intro z;cases z))];exact se
        ·rw[aj (bZ RF h5 (by intro z;cases z))];exact RF
      ·refine cw_next aM ⟨_,rfl,h5,S5,?_⟩
       rw[tk,sH,Ky (by exact kj),List.filter_nil,ik]
       exact F5
     ·rintro ys τ H5 ⟨t0,rfl,h5,S5,F5⟩
      rw[yg,dw]at F5
      have less:=Xh (dn:=isDone kvs) (Bz:=isDone eQ) (rest:=rest) (by rw[uM];exact BB)
      rw[uM]at less
      have hrp:0 < ready.length:=UK yf
      refine⟨_,by rw[R.mm];omega,eQ,rest.filter fun p=>!isDone eQ p.1,ys,wb,⟨_,_,_,rfl⟩,rfl,S5 _ _ qk,h5,F5,fun p hp=>R.sub p (kB.mp hp).1,fun p hp=>?_,fun x hx=>⟨(vg x hx).1.same S5,(vg x hx).2⟩,SH4.trans S5,?_,?_⟩
      ·cases e:isDone eQ p.1 with
       | true=>exact .inl rfl
       | false =>
        refine .inr ?_
        rcases R.all p hp with z | z
        ·rw[jD _ z]at e;cases e
        ·exact kB.mpr ⟨z,by rw[e];rfl⟩
      ·have h1:=R.lim
       omega
      ·exact HY
  ·have hn:rest = []:=by
    cases wv with
    | nil=>exact sF yg.symm
    | cons _ _=>exact absurd rfl du
   exact⟨_,rfl,q d kvs H1 hd R.same R.hd (Nl R ok fun p hp=>by rw[hn]at hp;cases hp)⟩
end
end bc
namespace bc
open PySem L2 PySem.W HT
structure lj (mg:Str->Option Value):Prop where
 oj:mg "isinstance" = none
 str:mg "str" = none
 dict:mg "dict" = none
 sorted:mg "sorted" = none
theorem mY:bootBuiltins "isinstance" = some (.builtin "isinstance"):=by decide +kernel
theorem boot_str:bootBuiltins "str" = some (.type "str"):=by decide +kernel
theorem boot_dict:bootBuiltins "dict" = some (.type "dict"):=by decide +kernel
theorem boot_sorted:bootBuiltins "sorted" = some (.builtin "sorted"):=by decide +kernel
theorem ite_ff {A B:Prop}{k:Bool} (hk:k=false) (h:B):if k=true then A else B:=by subst hk;exact h
theorem ite_tt {A B:Prop}{k:Bool} (hk:k=true) (h:A):if k=true then A else B:=by subst hk;exact h
def d3 (x:Str):Bool:=decide (1<=x.length) && (decide (x.length<=8) && x.cps.toList.all fun c=>decide (97<=c) && decide (c<=122))
def cb:PyData->Bool | .str x=>d3 x | _=>false
theorem ZO:cO ["thing"] ["thing"] (aH oX):=⟨rfl,rfl,rfl,by decide +kernel,rfl,by decide +kernel,by decide +kernel⟩
abbrev acw:Expr:=fH (wO (cj (aU oX) 1))
theorem Om:cp ["thing"] (aH oX) ["sign"] [none] (cD acw):=⟨rfl,by decide +kernel,by decide +kernel,rfl,cR (by decide +kernel),by decide +kernel⟩
section
variable {P : Program} {w : World} {K : Frag} {mg : Str -> Option Value} {base : Heap} {f : Addr} {fd : FuncData}
@[irreducible] def jP:Sp:=fun vs H Q _=>∃ (p:Addr) (v:V) (d:PyData),vs = [v]/\Dt p H v d/\(∀x,d = .str x->x.length<=100000) /\ ∀H',aq H H'->Q (.bl (cb d)) H'
theorem vR {p:Addr}{v:V}{d:PyData}{H:Hp}{Q:VK}{E:XK} (r:Dt p H v d) (hl:∀x,d = .str x->x.length<=100000) (q:∀H',aq H H'->Q (.bl (cb d)) H'):jP [v] H Q E:=by unfold jP;exact⟨p,v,d,rfl,r,hl,q⟩
theorem ZP (c:Nat):(!decide ((⟨#[c]⟩:Str).cps.toList < (Str.ofString "a").cps.toList))=decide (97<=c):=by
 have hA:(Str.ofString "a").cps.toList = [97]:=by decide +kernel
 rw[hA,<-decide_not]
 refine vA.mpr ?_
 simp[amD]
theorem ZQ (c:Nat):(!decide ((Str.ofString "z").cps.toList < (⟨#[c]⟩:Str).cps.toList))=decide (c<=122):=by
 have hA:(Str.ofString "z").cps.toList = [122]:=by decide +kernel
 rw[hA,<-decide_not]
 refine vA.mpr ?_
 simp[amD]
theorem Nn {d:PyData} (h:gb "str" d=false):cb d=false:=by cases d <;> first | rfl | cases h
theorem Yb (F:bw K "is_name" "is_name" oX f fd) (B:c7 mg) (B2:lj mg):aN P w K mg base aS 1 f fd ["thing"] jP:=by
 refine F.ok ZO (fun vs H Q E h=>?_) (fun aQ A outer s H vs Q E hr h=>?_)
 ·unfold jP at h;obtain⟨p,v,d,rfl,_⟩:=h;rfl
 ·unfold jP at h
  obtain⟨p0,v,d,rfl,r,hlen,q⟩:=h
  have hu:=hr.units
  refine⟨_,aF (eg (PW.pt (pw_or (gL (gE (aV mX rfl B2.oj mY (ae (pv 0) (ae (m9 (v:= .ty "str") rfl B2.str boot_str rfl) ah)))))
     (pw_or1 (gL (Xs N6 N6 aD (aV yY rfl B.len dz (ae (pv 0) ah)) aD))))) (aP (bu g7)) d9)
   (aP (bu (aV (kH rfl) rfl B.all boot_all (ae (dg rfl Om (NN (pv 0)) (fun s H fp=>⟨aR (i:=0) Om.nd rfl (Or.inl rfl),dh,L9 LM LM iJ (pv 0) iJ⟩)) ah)))),?_⟩
  refine⟨_,rfl,nh Nc r ⟨_,rfl,?_⟩⟩
  cases hb:gb "str" d with
  | false=>have q':=q _ (aq.refl _);rw[Nn hb]at q';exact q'
  | true =>
   obtain⟨x,rfl⟩:∃x,d = .str x:=by cases d with
    | str x=>exact⟨x,rfl⟩
    | _=>cases hb
   obtain rfl:v = .str x:=by cases r;rfl
   have hlx:=hlen x rfl
   refine⟨_,rfl,x,rfl,by rw[ay];omega,1,x.length,rfl,rfl,_,rfl,?_⟩
   by_cases h1:1<=x.length
   ·refine ite_tt (cF (by omega)) ?_
    refine⟨x.length,8,rfl,rfl,_,rfl,?_⟩
    by_cases h8:x.length<=8
    ·have e8:decide ((x.length:Int)<=8)=true:=cF (by omega)
     have hlc:x.cps.size<=8:=h8
     rw[e8]
     refine⟨_,rfl,x,rfl,fun p hp=>?_⟩
     refine Mm (fun i ys τ H1=>∃t0:Option V,τ = [t0]/\ys=((x.cps.toList.take i).map fun c=>decide (97<=c) && decide (c<=122)).map V.bl/\H1=upd H p (.lst ys)) ⟨none,rfl,rfl,rfl⟩ (fun i ys τ H1 ⟨_,_,_,z⟩=>by rw[z];exact af) ?_ ?_
     ·rintro i c ys τ H1 hc ⟨t0,rfl,rfl,rfl⟩
      have jH:i < x.cps.size:=(vw.mp hc).1
      have rN:x.cps.toList.take (i+1)=x.cps.toList.take i ++ [c]:=by rw[de,vo,hc];rfl
      refine⟨_,rfl,_,_,rfl,rfl,_,rfl,?_⟩
      rw[ZP]
      have len:((((x.cps.toList.take i).map fun c=>decide (97<=c) && decide (c<=122)).map V.bl).length) < sizeLine:=by rw[ar,ar,aX,gD,ay];omega
      cases G4:decide (97<=c) with
      | false =>
       refine ite_ff rfl ⟨af,len,cw_next jH ⟨_,rfl,?_,by rw[iq]⟩⟩
       rw[rN,aY,aY,d5,G4];rfl
      | true =>
       refine ite_tt rfl ⟨_,_,rfl,rfl,af,len,cw_next jH ⟨_,rfl,?_,by rw[iq]⟩⟩
       rw[ZQ,rN,aY,aY,d5,G4];rfl
     ·rintro ys τ H1 ⟨t0,rfl,rfl,rfl⟩
      refine⟨p,_,rfl,ai.of af,?_⟩
      have q':=q _ (ak (o:= .lst (((x.cps.toList.take x.cps.size).map fun c=>decide (97<=c) && decide (c<=122)).map V.bl)) hp)
      rw[show cb (.str x)=((x.cps.toList.take x.cps.size).map fun c=>decide (97<=c) && decide (c<=122)).all id by
       show d3 x=_
       unfold d3
       rw[cF h1,cF h8,mG,yR (by rw[gD];exact aO _)];rfl]at q'
      exact q'
    ·have e8:decide ((x.length:Int)<=8)=false:=c8 (by omega)
     rw[e8]
     have q':=q _ (aq.refl _)
     rw[show cb (.str x)=false by show d3 x=_;unfold d3;rw[c8 h8];simp]at q'
     exact q'
   ·refine ite_ff (c8 (by omega)) ?_
    have q':=q _ (aq.refl _)
    rw[show cb (.str x)=false by show d3 x=_;unfold d3;rw[c8 h1];simp]at q'
    exact⟨_,rfl,q'⟩
end
theorem lJ {p:Addr}{H:Hp}{v:V}{ds:List PyData} (r:Dt p H v (.tuple ds)):∃a vs,v = .ref a/\a≠p/\H a=some (.tup vs)/\bp p H vs ds:=by
 cases r with
 | tup n e rs=>exact⟨_,_,rfl,n,e,rs⟩
theorem mZ {p:Addr}{H:Hp}{vs:List V}{d:PyData}{ds:List PyData} (r:bp p H vs (d::ds)):∃v ws,vs=v::ws/\Dt p H v d/\bp p H ws ds:=by
 cases r with
 | cons a b=>exact⟨_,_,rfl,a,b⟩
theorem vW {p:Addr}{H:Hp}{vs:List V} (r:bp p H vs []):vs = []:=by cases r;rfl
theorem qT {p:Addr}{H:Hp}{v:V}{x:Str} (r:Dt p H v (.str x)):v = .str x:=by cases r;rfl
theorem is_tup {d:PyData} (h:gb "tuple" d=true):∃ds,d = .tuple ds:=by
 cases d with
 | tuple ds=>exact⟨ds,rfl⟩
 | _=>cases h
theorem ZR {d:PyData} (h:gb "str" d=true):∃x,d = .str x:=by
 cases d with
 | str x=>exact⟨x,rfl⟩
 | _=>cases h
theorem Er {x:V}{xs:List V}:dH (x::xs) 0=some x:=(show dH (x::xs) ((0:Nat):Int)=some x from dE rfl)
theorem Ak {x y:V}{xs:List V}:dH (x::y::xs) 1=some y:=(show dH (x::y::xs) ((1:Nat):Int)=some y from dE rfl)
theorem MB:∀ {ds:List PyData}{d:PyData},d∈ds->d.bulk+1<=PyData.bulkAll ds
 | e::ds,d,h=>by
  rcases a9.mp h with rfl | h
  ·simp only[PyData.bulkAll];omega
  ·have:=MB h;simp only[PyData.bulkAll];omega
def Sm (d:PyData):Prop:=d.bulk<=100000
theorem Sm.str {d:PyData} (h:Sm d):∀x,d = .str x->x.length<=100000:=fun x e=>by subst e;exact h
theorem MC:∀ds:List PyData,ds.length<=PyData.bulkAll ds
 | []=>aO _
 | d::ds=>by have:=MC ds;simp only[PyData.bulkAll,dc];omega
theorem Dt.same {p:Addr}{H H':Hp}{v:V}{d:PyData} (r:Dt p H v d) (S:aq H H'):Dt p H' v d:=r.keep fun b o e _=>S b o e
theorem boot_set:bootBuiltins "set" = some (.type "set"):=by decide +kernel
theorem Np {xs ys:List Str} (hx:xs.Nodup) (hy:ys.Nodup) (h:∀a,a∈xs ↔ a∈ys):xs.Perm ys:=(List.perm_ext_iff_of_nodup hx hy).mpr h
def ue (e:Expr) (i:Nat):Expr:=match e with | .BoolOp _ es _=>es.getD i (.Constant .none 0 ⟨0,0,0,0⟩)|_=>.Constant .none 0 ⟨0,0,0,0⟩
def pE (s:Stmt):Expr:=match s with | .If c _ _ _=>c | _=>.Constant .none 0 ⟨0,0,0,0⟩
def strOf:PyData->Str | .str x=>x | _ => ""
def jw:PyData->Bool | .tuple ds=>ds.all cb && decide (ds.map strOf).Nodup | _=>false
theorem ZS {d:PyData} (h:gb "tuple" d=false):jw d=false:=by cases d <;> first | rfl | cases h
theorem zy {d:PyData} (h:cb d=true):d = .str (strOf d):=by cases d <;> first | rfl | cases h
theorem ze:∀ {ds:List PyData},ds.all cb=true->ds=(ds.map strOf).map PyData.str
 | [],_=>rfl
 | d::ds,h=>by
  rw[vn,gY]at h
  rw[d5,d5,<-zy h.1,<-ze h.2]
theorem zz {p:Addr}{H:Hp}:∀ {vs:List V}{xs:List Str},bp p H vs (xs.map PyData.str)->vs=xs.map V.str
 | _,[],r=>by rw[vW r];rfl
 | _,x::xs,r=>by
  obtain⟨v,ws,rfl,r1,rs⟩:=mZ r
  rw[qT r1,zz rs];rfl
theorem MD:∀ {ds xs:List Str},ds.Nodup->(∀y∈ds,y∈xs)->xs.length<=ds.length->xs.Perm ds
 | [],xs,_,_,h=>by rw[sF (by simpa using h:xs.length=0)]
 | d::ds,xs,nd,hs,h=>by
  obtain⟨n1,n2⟩:=fV.mp nd
  have hd:=hs d aZ
  have p1:=amq hd
  have l1:=p1.length_eq
  rw[dc]at l1 h
  exact p1.trans ((MD n2 (fun y hy=>(Ki (a:=y) (b:=d) (fun e=>n1 (by rw[<-e];exact hy))).mpr (hs y (bX _ hy))) (by omega)).cons d)
theorem NW {ds xs:List Str} (h:ds.Nodup) (m:∀y,y∈ds ↔ y∈xs):decide (ds.length=xs.length)=decide xs.Nodup:=by
 refine vA.mpr ⟨fun e=>?_,fun n=>(Np h n m).length_eq⟩
 exact(MD h (fun y hy=>(m y).mp hy) (by omega)).nodup_iff.mpr h
section
variable {P : Program} {w : World} {K : Frag} {mg : Str -> Option Value} {base : Heap} {f : Addr} {fd : FuncData}
theorem tG {p a c:Addr}{vs:List V}{ds:List PyData}{H:Hp}{g:PyData->Bool}{te:TE}{tl:St}{Q:VK} (ha:H a=some (.tup vs)) (rs:bp p H vs ds) (hc:H c=none) (h4:ds.length<=1000)
  (hte:∀ (v:V) (d:PyData) (H1:Hp) (Q1:VK),d∈ds->aq H H1->Dt p H1 v d->(∀H2,aq H1 H2->Q1 (.bl (g d)) H2)->te (some v::tl) H1 Q1)
  (q:∀H1,aq H H1->H1 c=some (.lst ((ds.map g).map V.bl))->Q (.ref c) H1):kZ (nT K a) (pF 0) wt te (none::tl) Q c H:=by
 have hl:=rs.length
 refine oR (xs:=vs) (fun i ys τ H2=>∃t0:Option V,τ=t0::tl/\ys=((ds.take i).map g).map V.bl/\aq H H2/\H2 c=some (.lst ys)) ⟨none,rfl,rfl,ak hc,af⟩ (fun i ys τ H2 ⟨_,_,_,z,z2⟩=>⟨z2,aB.of (z _ _ ha)⟩) ?_ ?_
 ·rintro i x ys τ H2 hx ⟨t0,rfl,rfl,S2,h2⟩
  have cZ:i < vs.length:=(cq.mp hx).1
  have Ib:i < ds.length:=by omega
  obtain⟨v',xQ,rd⟩:=rs.get (br Ib)
  rw[hx]at xQ;cases xQ
  refine hte x ds[i] H2 _ (jl Ib) S2 (rd.keep fun b o e _=>S2 b o e) fun H3 S3=>⟨S3 _ _ h2,by rw[ar,ar,aX,ay];omega,cw_next cZ ⟨_,rfl,?_,fun b u e=>?_,af⟩⟩
  ·rw[de,br Ib,aY,aY];rfl
  ·rw[aj (ax e hc)];exact S3 _ _ (S2 _ _ e)
 ·rintro ys τ H2 ⟨t0,rfl,rfl,S2,h2⟩
  rw[hl,dw]at h2
  exact q H2 S2 h2
def Bk (d:PyData):Prop:=d.bulk<=1000
theorem Bk.sm {d:PyData} (h:Bk d):Sm d:=c9 h (by decide)
theorem Bk.tup {ds:List PyData} (h:Bk (.tuple ds)):(∀d∈ds,Bk d)/\ds.length<=1000:=⟨fun d hd=>by
 have:=MB hd
 have h':PyData.bulkAll ds<=1000:=h
 unfold Bk;omega,c9 (MC ds) h⟩
@[irreducible] def qX:Sp:=fun vs H Q _=>∃ (p:Addr) (v:V) (d:PyData),vs = [v]/\Dt p H v d/\Bk d /\ ∀H',aq H H'->Q (.bl (jw d)) H'
theorem NX {p:Addr}{v:V}{d:PyData}{H:Hp}{Q:VK}{E:XK} (r:Dt p H v d) (h:Bk d) (q:∀H',aq H H'->Q (.bl (jw d)) H'):qX [v] H Q E:=by unfold qX;exact⟨p,v,d,rfl,r,h,q⟩
theorem aaR:cO ["thing"] ["thing"] (aH pq):=⟨rfl,rfl,rfl,by decide +kernel,rfl,by decide +kernel,by decide +kernel⟩
abbrev acx:Expr:=fH (rn (ue (pE (cj (aU pq) 0)) 1))
theorem Oo:cp ["thing"] (aH pq) ["name"] [none] (cD acx):=⟨rfl,by decide +kernel,by decide +kernel,rfl,cR (by decide +kernel),by decide +kernel⟩
theorem ZT {fN:Addr}{dN:FuncData} (F:bw K "is_row" "is_row" pq f fd) (B:c7 mg) (B2:lj mg) (bs:mg "set" = none) (GN:aN P w K mg base aS 1 fN dN ["thing"] jP) (kN:keepIn K (.ref fN)=true) (bN:Binds K dN ["thing"] []) (mN:mg "is_name" = some (.ref fN)):aN P w K mg base aS 2 f fd ["thing"] qX:=by
 refine F.ok aaR (fun vs H Q E h=>?_) (fun aQ A outer s H vs Q E hr h=>?_)
 ·unfold qX at h;obtain⟨p,v,d,rfl,_⟩:=h;rfl
 ·unfold qX at h
  obtain⟨p,v,d,rfl,r,hb,q⟩:=h
  have cY:bQ 1 _:=hr
  refine⟨_,aF (eg (PW.pt (pw_or (gL (gE (aV mX rfl B2.oj mY (ae (pv 0) (ae (m9 (v:= .ty "tuple") rfl B.tuple boot_tuple rfl) ah)))))
    (pw_or1 (gL (gE (aV (kH rfl) rfl B.all boot_all (ae (dg rfl Oo (iu (pv 0)) (fun s H fp=>⟨aR (i:=0) Oo.nd rfl (Or.inl rfl),dh,bG GN cY rfl mN kN bN .nil bE (ae (pv 0) ah)⟩)) ah))))))) (aP (bu g7)) d9)
   (aP (bu (jq iL (aV K0 rfl B.len dz (ae (eX (C3 rfl) rfl bs boot_set (ae (pv 0) ah)) ah)) (aV eW rfl B.len dz (ae (pv 0) ah)) (cB _)))),?_⟩
  refine⟨_,rfl,nh kit_tuple r ⟨_,rfl,?_⟩⟩
  cases ht:gb "tuple" d with
  | false=>have q':=q _ (aq.refl _);rw[ZS ht]at q';exact q'
  | true =>
   obtain⟨ds,rfl⟩:=is_tup ht
   obtain⟨a,vs,rfl,na,ha,rs⟩:=lJ r
   obtain⟨om,bln⟩:=hb.tup
   refine⟨_,rfl,a,rfl,⟨_,aB.of ha⟩,fun c hc=>tG (g:=cb) ha rs hc bln (fun v' d' H1 Q1 rH S1 rd' k=>⟨_,rfl,vR rd' ((om d' rH).sm.str) k⟩) fun H1 S1 h1=>⟨c,_,rfl,ai.of h1,_,rfl,?_⟩⟩
   have er:jw (.tuple ds)=(ds.all cb && decide (ds.map strOf).Nodup):=rfl
   rw[mG,show(id ∘ cb)=cb from rfl]
   cases jc:ds.all cb with
   | false=>have q':=q _ S1;rw[er,jc]at q';exact q'
   | true =>
    have es:=ze jc
    have ev:vs=(ds.map strOf).map V.str:=zz (by rw[<-es];exact rs)
    rw[er,jc]at q
    have eI:=S1 _ _ ha
    rw[ev]at eI
    have el:(ds.map strOf).length=ds.length:=ar ..
    generalize ds.map strOf=xs at eI el q
    refine⟨_,rfl,a,xs,rfl,.inr (aB.of eI),by omega,fun b zs cX nds mem=>?_⟩
    have S2:=ak (o:=nL P w b zs) cX
    refine⟨b,zs,rfl,af,_,rfl,a,_,rfl,.inr (aB.of (S2 _ _ eI)),rfl,?_⟩
    rw[ar]
    have e2:decide (V.int (zs.length:Int)=V.int (xs.length:Int))=decide xs.Nodup:=by
     rw[<-NW nds mem]
     exact vA.mpr ⟨fun z=>by injection z with z;exact Int.ofNat.inj z,fun z=>by rw[z]⟩
    rw[e2]
    exact q _ (S1.trans S2)
end
end bc
namespace bc
open PySem L2 PySem.W HT
theorem ME:∀xs ys:List Str,PyData.eqvAll (xs.map PyData.str) (ys.map PyData.str)=decide (xs=ys)
 | [],[]=>rfl
 | [],y::ys=>rfl
 | x::xs,[]=>rfl
 | x::xs,y::ys=>by
  show((x==y) && PyData.eqvAll (xs.map PyData.str) (ys.map PyData.str))=_
  rw[ME xs ys]
  by_cases e:x=y
  ·by_cases f:xs=ys <;> simp[e,f]
  ·simp[e]
theorem lH {p:Addr}{H:Hp}:∀xs:List Str,bp p H (xs.map V.str) (xs.map PyData.str)
 | []=>.nil
 | x::xs=>.cons (.str x) (lH xs)
def pairD:PyData->Bool | .tuple [a,b]=>cb a && jw b | _=>false
theorem Y5 {d:PyData} (h:gb "tuple" d=false):pairD d=false:=by cases d <;> first | rfl | cases h
theorem Yc {ds:List PyData} (h:ds.length≠2):pairD (.tuple ds)=false:=by
 match ds,h with
 | [],_=>rfl
 | [_],_=>rfl
 | [_,_],h=>exact absurd rfl h
 | _::_::_::_,_=>rfl
def g9 (xs:List Str):Bool:=decide (xs.Pairwise fun a b=>eT a b=true)
theorem Y6 {xs ds ss:List Str} (nd:ds.Nodup) (mem:∀y,y∈ds ↔ y∈xs) (hp:ss.Perm ds) (hs:PyProof.Rows.sortedS ss=true):decide (xs=ss)=g9 xs:=by
 unfold g9
 refine vA.mpr ⟨fun e=>?_,fun so=>?_⟩
 ·subst e
  have n:xs.Nodup:=hp.nodup_iff.mpr nd
  refine((Lf hs).and (U'.mp n)).imp fun {a b} h=>?_
  refine cF (amC fun z=>?_)
  exact h.2 (C1 h.1 z)
 ·exact(VI hs so (hp.trans (Np nd (Ab so) mem))).symm
def hU (ks ps:List Str):Bool:=decide (ps.length<=4) && ps.all fun x=>decide (x∈ks)
section
variable {P : Program} {w : World} {K : Frag} {mg : Str -> Option Value} {base : Heap} {f : Addr} {fd : FuncData}
@[irreducible] def tR:Sp:=fun vs H Q _=>∃ (p:Addr) (v:V) (d:PyData),vs = [v]/\Dt p H v d/\Bk d /\ ∀H',aq H H'->Q (.bl (pairD d)) H'
theorem Y7 {p:Addr}{v:V}{d:PyData}{H:Hp}{Q:VK}{E:XK} (r:Dt p H v d) (h:Bk d) (q:∀H',aq H H'->Q (.bl (pairD d)) H'):tR [v] H Q E:=by unfold tR;exact⟨p,v,d,rfl,r,h,q⟩
theorem ZU:cO ["thing"] ["thing"] (aH tH):=⟨rfl,rfl,rfl,by decide +kernel,rfl,by decide +kernel,by decide +kernel⟩
theorem Y8 {fN fR:Addr}{dN dR:FuncData} (F:bw K "is_pair" "is_pair" tH f fd) (B:c7 mg) (B2:lj mg) (GN:aN P w K mg base aS 1 fN dN ["thing"] jP) (kN:keepIn K (.ref fN)=true) (bN:Binds K dN ["thing"] []) (mN:mg "is_name" = some (.ref fN))
  (GR:aN P w K mg base aS 2 fR dR ["thing"] qX) (kR:keepIn K (.ref fR)=true) (bR:Binds K dR ["thing"] []) (mR:mg "is_row" = some (.ref fR)):aN P w K mg base aS 3 f fd ["thing"] tR:=by
 refine F.ok ZU (fun vs H Q E h=>?_) (fun aQ A outer s H vs Q E hr h=>?_)
 ·unfold tR at h;obtain⟨p,v,d,rfl,_⟩:=h;rfl
 ·unfold tR at h
  obtain⟨p,v,d,rfl,r,hb,q⟩:=h
  have ia:bQ 2 _:=hr
  have cY:bQ 1 _:=ia.mono (by decide)
  refine⟨_,aP (bu (tP (aV mX rfl B2.oj mY (ae (pv 0) (ae (m9 (v:= .ty "tuple") rfl B.tuple boot_tuple rfl) ah)))
   (tP (jq iL (aV eW rfl B.len dz (ae (pv 0) ah)) aD (cB _))
   (tP (bG GN cY rfl mN kN bN .nil bE (ae (bC js (pv 0) aD (fun _ _=>rfl)) ah))
   (Dl (bG GR ia rfl mR kR bR .nil bE (ae (bC js (pv 0) aD (fun _ _=>rfl)) ah))))))),?_⟩
  have q0:=q _ (aq.refl _)
  refine⟨_,rfl,nh kit_tuple r ⟨_,rfl,?_⟩⟩
  cases ht:gb "tuple" d with
  | false=>rw[Y5 ht]at q0;exact q0
  | true =>
  obtain⟨ds,rfl⟩:=is_tup ht
  obtain⟨a,vs,rfl,na,ha,rs⟩:=lJ r
  have hl:=rs.length
  obtain⟨om,_⟩:=hb.tup
  refine⟨_,rfl,a,_,rfl,.inr (aB.of ha),rfl,_,rfl,?_⟩
  by_cases h2:ds.length=2
  case neg =>
   have e:decide (V.int (vs.length:Int)=V.int 2)=false:=c8 fun z=>h2 (by injection z with z;omega)
   rw[Yc h2]at q0
   rw[e];exact q0
  have e:decide (V.int (vs.length:Int)=V.int 2)=true:=cF (by rw[hl,h2];rfl)
  rw[e]
  obtain⟨d0,d1,rfl⟩:∃d0 d1,ds = [d0,d1]:=by
   match ds,h2 with
   | [d0,d1],_=>exact⟨d0,d1,rfl⟩
  obtain⟨v0,vs1,rfl,r0,rs⟩:=mZ rs
  obtain⟨v1,vs2,rfl,r1,rs⟩:=mZ rs
  obtain rfl:=vW rs
  refine⟨_,rfl,a,_,0,v0,rfl,rfl,aB.of ha,Er,vR r0 (om d0 aZ).sm.str fun H1 S1=>⟨_,rfl,?_⟩⟩
  have q1:∀H',aq H H'->Q (.bl (cb d0 && jw d1)) H':=q
  cases hn:cb d0 with
  | false=>have q2:=q1 _ S1;rw[hn]at q2;exact q2
  | true =>
   rw[hn]at q1
   exact⟨_,rfl,a,_,1,v1,rfl,rfl,aB.of (S1 _ _ ha),Ak,NX (Dt.same r1 S1) (om d1 (bX _ aZ)) fun H2 S2=>q1 _ (S1.trans S2)⟩
theorem MF:∀ (kvs:List (Str×V)) (x:Str),(cf (nc kvs) (Sum.inr x)).isSome=decide (x∈kvs.map (·.1))
 | [],x=>rfl
 | p::kvs,x=>by
  by_cases e:p.1=x
  ·rw[show nc (p::kvs)=(Sum.inr p.1,p.2)::nc kvs from rfl,iI (by rw[e])]
   exact(cF (by rw[d5,e];exact aZ)).symm
  ·rw[show nc (p::kvs)=(Sum.inr p.1,p.2)::nc kvs from rfl,ip (fun z=>e (sk z)),MF kvs x]
   refine vA.mpr ⟨fun h=>bX _ h,fun h=>?_⟩
   rcases a9.mp h with z | z
   ·exact absurd z.symm e
   ·exact z
@[irreducible] def uv:Sp:=fun vs H Q _=>∃ (t:Addr) (ws:List V) (kvs:List (Str×V)) (x:Str),vs = [.ref t,.str x]/\H t=some (.tup ws)/\i5 H ws kvs/\(kvs.map (·.1)).Nodup/\d3 x=true /\ ∀H',aq H H'->Q (.bl (decide (x∈kvs.map (·.1)))) H'
theorem aaS {t:Addr}{ws:List V}{kvs:List (Str×V)}{x:Str}{H:Hp}{Q:VK}{E:XK} (ht:H t=some (.tup ws)) (hp:i5 H ws kvs) (nd:(kvs.map (·.1)).Nodup) (hx:d3 x=true)
  (q:∀H',aq H H'->Q (.bl (decide (x∈kvs.map (·.1)))) H'):uv [.ref t,.str x] H Q E:=by unfold uv;exact⟨t,ws,kvs,x,rfl,ht,hp,nd,hx,q⟩
theorem ZV:cO ["family", "thing"] ["family", "thing"] (aH tI):=⟨rfl,rfl,rfl,by decide +kernel,rfl,by decide +kernel,by decide +kernel⟩
theorem Xi {x:Str} (h:d3 x=true):x.length<=8:=by
 unfold d3 at h
 simp only[gY,oM]at h
 exact h.2.1
theorem aaT {fN:Addr}{dN:FuncData} (F:bw K "is_kind" "is_kind" tI f fd) (B2:lj mg) (GN:aN P w K mg base aS 1 fN dN ["thing"] jP) (kN:keepIn K (.ref fN)=true) (bN:Binds K dN ["thing"] []) (mN:mg "is_name" = some (.ref fN)) :
  aN P w K mg base aS 2 f fd ["family", "thing"] uv:=by
 refine F.ok ZV (fun vs H Q E h=>?_) (fun aQ A outer s H vs Q E hr h=>?_)
 ·unfold uv at h;obtain⟨t,ws,kvs,x,rfl,_⟩:=h;rfl
 ·unfold uv at h
  obtain⟨t,ws,kvs,x,rfl,ht,hp,nd,hx,q⟩:=h
  have hu:=hr.units
  have gA:=vy (vz (show 1<=64 by decide) _) hu
  refine⟨_,aP (bu (tP (bG GN hr rfl mN kN bN .nil bE (ae (pv 1) ah)) (Dl (NB (NL gA (pv 1) (eX (Wv rfl) rfl B2.dict boot_dict (ae (pv 0) ah))))))),?_⟩
  refine⟨_,rfl,vR (p:=0) (.str x) (fun y e=>by cases e;exact c9 (Xi hx) (by decide)) fun H1 S1=>⟨_,rfl,?_⟩⟩
  rw[show cb (.str x)=true from hx]
  refine⟨_,rfl,_,rfl,t,ws,kvs,rfl,S1 _ _ ht,hp.same S1,nd,fun d hd=>⟨d,_,rfl,iz.k (k:=Sum.inr x) af,?_⟩⟩
  rw[MF]
  exact q _ (S1.trans (ak hd))
@[irreducible] def uw:Sp:=fun vs H Q _=>∃ (t b:Addr) (ws:List V) (kvs:List (Str×V)) (ps:List Str),vs = [.ref t,.ref b]/\H t=some (.tup ws)/\i5 H ws kvs/\(kvs.map (·.1)).Nodup/\H b=some (.tup (ps.map V.str))/\jw (.tuple (ps.map PyData.str))=true/\Bk (.tuple (ps.map PyData.str)) /\ ∀H',aq H H'->Q (.bl (hU (kvs.map (·.1)) ps)) H'
theorem aaU {t b:Addr}{ws:List V}{kvs:List (Str×V)}{ps:List Str}{H:Hp}{Q:VK}{E:XK} (ht:H t=some (.tup ws)) (hp:i5 H ws kvs) (nd:(kvs.map (·.1)).Nodup) (hb:H b=some (.tup (ps.map V.str))) (hr:jw (.tuple (ps.map PyData.str))=true) (hk:Bk (.tuple (ps.map PyData.str)))
  (q:∀H',aq H H'->Q (.bl (hU (kvs.map (·.1)) ps)) H'):uw [.ref t,.ref b] H Q E:=by unfold uw;exact⟨t,b,ws,kvs,ps,rfl,ht,hp,nd,hb,hr,hk,q⟩
theorem acy:cO ["family", "thing"] ["family", "thing"] (aH pH):=⟨rfl,rfl,rfl,by decide +kernel,rfl,by decide +kernel,by decide +kernel⟩
abbrev eAP:Expr:=fH (wO (cj (aU pH) 1))
theorem Pk:cp ["family", "thing"] (aH pH) ["parent", "family"] [none,some 0] (cD eAP):=⟨rfl,by decide +kernel,by decide +kernel,rfl,cR (by decide +kernel),by decide +kernel⟩
theorem Xj {ps:List Str} (h:jw (.tuple (ps.map PyData.str))=true):∀x∈ps,d3 x=true:=fun x hx=>by
 have h1:=(eV.mp h).1
 exact fo.mp h1 (.str x) (bj.mpr ⟨x,hx,rfl⟩)
theorem aaV {tk:Tok}{fR fK:Addr}{dR dK:FuncData} (F:bw K "are_parents" "are_parents" pH f fd) (B:c7 mg) (mM:mg "MOST_PARENTS" = some (.int 4 tk))
  (GR:aN P w K mg base aS 2 fR dR ["thing"] qX) (kR:keepIn K (.ref fR)=true) (bR:Binds K dR ["thing"] []) (mR:mg "is_row" = some (.ref fR))
  (GK:aN P w K mg base aS 2 fK dK ["family", "thing"] uv) (kK:keepIn K (.ref fK)=true) (bK:Binds K dK ["family", "thing"] []) (mK:mg "is_kind" = some (.ref fK)):aN P w K mg base aS 3 f fd ["family", "thing"] uw:=by
 refine F.ok acy (fun vs H Q E h=>?_) (fun aQ A outer s H vs Q E hr h=>?_)
 ·unfold uw at h;obtain⟨t,b,ws,kvs,ps,rfl,_⟩:=h;rfl
 ·unfold uw at h
  obtain⟨t,b,ws,kvs,ps,rfl,ht,hp,nd,hb,oq,hk,q⟩:=h
  have ia:bQ 2 _:=hr
  refine⟨_,aF (eg (PW.pt (pw_or (gL (gE (bG GR ia rfl mR kR bR .nil bE (ae (pv 1) ah)))) (pw_or1 (cG zU (aV eW rfl B.len dz (ae (pv 1) ah)) (Yn (v:= .int 4) rfl mM ⟨tk,rfl⟩) (cB _))))) (aP (bu g7)) d9)
   (aP (bu (aV (kH rfl) rfl B.all boot_all (ae (dg rfl Pk (iu (pv 1)) (fun s H fp=>⟨aR (i:=0) Pk.nd rfl (Or.inl rfl),dh,bG GK ia rfl mK kK bK .nil bE (ae (pv 1) (ae (pv 0) ah))⟩)) ah)))),?_⟩
  have pl:ps.length<=1000:=by have:=hk.tup.2;simpa using this
  refine⟨_,rfl,NX (p:=b+1) (.tup (cu (yN _)) hb (lH ps)) hk fun H1 S1=>⟨_,rfl,?_⟩⟩
  rw[oq]
  refine⟨_,rfl,b,_,rfl,.inr (aB.of (S1 _ _ hb)),_,_,rfl,rfl,_,rfl,?_⟩
  by_cases h4:ps.length<=4
  case neg =>
   have e:decide (((ps.map V.str).length:Int) > 4)=true:=cF (by rw[ar];omega)
   have q1:=q _ S1
   rw[show hU (kvs.map (·.1)) ps=false by unfold hU;rw[c8 h4];rfl]at q1
   rw[e];exact q1
  have e:decide (((ps.map V.str).length:Int) > 4)=false:=c8 (by rw[ar];omega)
  rw[e]
  refine⟨_,rfl,b,rfl,⟨_,aB.of (S1 _ _ hb)⟩,fun c hc=>?_⟩
  refine tG (p:=b+1) (g:=fun d=>decide (strOf d∈kvs.map (·.1))) (S1 _ _ hb) (lH ps) hc (by rw[ar];omega) (fun v d H2 Q1 hd S2 rd q1=>?_) fun H2 S2 h2=>?_
  ·obtain⟨x,hx,rfl⟩:=bj.mp hd
   rw[qT rd]
   exact⟨_,rfl,_,rfl,aaS (S2 _ _ (S1 _ _ ht)) (hp.same (S1.trans S2)) nd (Xj oq x hx) fun H3 S3=>q1 H3 S3⟩
  ·refine⟨c,_,rfl,ai.of h2,?_⟩
   have q1:=q _ (S1.trans S2)
   rw[show hU (kvs.map (·.1)) ps=(((ps.map PyData.str).map fun d=>decide (strOf d∈kvs.map (·.1))).all id) by unfold hU;rw[cF h4,my,mG];rfl]at q1
   exact q1
@[irreducible] def tT:Sp:=fun vs H Q _=>∃ (l:Addr) (xs:List Str),vs = [.ref l]/\H l=some (.lst (xs.map V.str))/\(∀x∈xs,Nm x)/\xs.length<=63 /\ ∀H',aq H H'->Q (.bl (g9 xs)) H'
theorem Y9 {l:Addr}{xs:List Str}{H:Hp}{Q:VK}{E:XK} (hl:H l=some (.lst (xs.map V.str))) (nm:∀x∈xs,Nm x) (uY:xs.length<=63) (q:∀H',aq H H'->Q (.bl (g9 xs)) H'):tT [.ref l] H Q E:=by unfold tT;exact⟨l,xs,rfl,hl,nm,uY,q⟩
theorem ZW:cO ["names"] ["names"] (aH tZ):=⟨rfl,rfl,rfl,by decide +kernel,rfl,by decide +kernel,by decide +kernel⟩
theorem Y' (F:bw K "are_rising" "are_rising" tZ f fd) (B2:lj mg) (bs:mg "set" = none):aN P w K mg base aS 1 f fd ["names"] tT:=by
 refine F.ok ZW (fun vs H Q E h=>?_) (fun aQ A outer s H vs Q E hr h=>?_)
 ·unfold tT at h;obtain⟨l,ss,rfl,_⟩:=h;rfl
 ·unfold tT at h
  obtain⟨l,xs,rfl,hl,nm,uY,q⟩:=h
  have hu:=hr.units
  refine⟨_,aP (bu (jq (NH hu) (pv 0) (aV (Vq rfl) rfl B2.sorted boot_sorted (ae (eX (C3 rfl) rfl bs boot_set (ae (pv 0) ah)) ah)) (cB _))),?_⟩
  refine⟨_,rfl,_,rfl,l,xs,rfl,.inl (ai.of hl),by omega,fun a ds ha nd mem=>?_⟩
  have dl:ds.length<=xs.length:=nB nd fun y hy=>(mem y).mp hy
  refine⟨a,ds,rfl,af,by omega,fun D ss hD hp hs=>?_⟩
  have S1:=(ak (o:=nL P w a ds) ha).trans (ak (o:= .lst (ss.map V.str)) hD)
  have nms:∀x∈ss,Nm x:=fun x hx=>nm x ((mem x).mp (hp.mem_iff.mp hx))
  refine⟨.list (xs.map PyData.str),.list (ss.map PyData.str),.lst (S1 _ _ hl) (vO _ xs),.lst af (vO _ ss),vP nm,vP nms,by show PyData.depthAll _+1<=60;rw[zd];decide,?_⟩
  rw[show PyData.eqv (.list (xs.map PyData.str)) (.list (ss.map PyData.str))=decide (xs=ss) by show PyData.eqvAll _ _=_;rw[ME],Y6 nd mem hp hs]
  exact q _ S1
end
end bc
namespace bc
open PySem L2 PySem.W HT
theorem qM {X:Cx}{pos:Pos} (K:Frag) (h:X.K=K) {es:List Expr}{k:Nat}{t:pP}{n:Nat} (hc:X.calm=true) (hh:xk X es t)
  (hn:(assignEach es X.env).length=n:=by rfl) (xl:(assignEach es X.env).findIdx? (·.1)=none:=by rfl):PG X (.Tuple es k pos) (OC K n t):=by subst h;exact i4 hc hh hn xl
theorem Dh {x:Str} (h:d3 x=true):Nm x:=by
 simp only[d3,gY,oM,fo]at h
 exact⟨h.1,h.2.1,fun c hc=>h.2.2 c hc⟩
def keyOf:PyData->Str | .tuple [.str k,_]=>k | _ => ""
def rowOf:PyData->List Str | .tuple [_,.tuple es]=>es.map strOf | _=>[]
def cH (ds:List PyData):bV:=ds.map fun d=>(keyOf d,rowOf d)
def keysOf (aa:bV):List Str:=aa.map (·.1)
open Classical in
noncomputable def jX:PyData->Bool
 | .tuple ds=>ds.all pairD && (g9 (keysOf (cH ds)) && ((cH ds).all (fun p=>hU (keysOf (cH ds)) p.2) && decide (iA (cH ds))))
 | _=>false
theorem zH (ds:List PyData):jX (.tuple ds)=(ds.all pairD && (g9 (keysOf (cH ds)) && ((cH ds).all (fun p=>hU (keysOf (cH ds)) p.2) && @decide (iA (cH ds)) (Classical.propDecidable _)))):=by unfold jX;rfl
theorem NY {d:PyData} (h:gb "tuple" d=false):jX d=false:=by cases d <;> first | rfl | cases h
theorem Za {d:PyData} (h:pairD d=true):∃ (k:Str) (ps:List Str),d = .tuple [.str k,.tuple (ps.map PyData.str)]/\d3 k=true/\jw (.tuple (ps.map PyData.str))=true:=by
 match d,h with
 | .tuple [a,b],h =>
  obtain⟨h1,h2⟩:=eV.mp (show(cb a && jw b)=true from h)
  cases b with
  | tuple es =>
   have hn:=(eV.mp (show(es.all cb && decide (es.map strOf).Nodup)=true from h2)).1
   have e:=ze hn
   have ea:=zy h1
   refine⟨strOf a,es.map strOf,by rw[<-e,<-ea],by rw[ea]at h1;exact h1,by rw[<-e];exact h2⟩
  | _=>cases h2
theorem zm (ps:List Str):(ps.map PyData.str).map strOf=ps:=by rw[my];exact List.map_id'' (fun _=>rfl) _
theorem NZ {p:Addr}{H:Hp}:∀ {vs:List V}{ds:List PyData},bp p H vs ds->ds.all pairD=true->(∀d∈ds,Bk d)->cM H vs (cH ds) /\ ∀q∈cH ds,d3 q.1=true/\jw (.tuple (q.2.map PyData.str))=true/\Bk (.tuple (q.2.map PyData.str))
 | _,_,.nil,_,_=>⟨.nil,fun q hq=>by cases hq⟩
 | _,_,.cons (d:=d) r rs,h,hb=>by
  rw[vn,gY]at h
  obtain⟨F,all⟩:=NZ rs h.2 fun e he=>hb e (bX _ he)
  obtain⟨k,ps,rfl,hk,hr⟩:=Za h.1
  obtain⟨a,ws,rfl,_,ha,eG⟩:=lJ r
  obtain⟨v0,ws1,rfl,r0,eG⟩:=mZ eG
  obtain⟨v1,ws2,rfl,r1,eG⟩:=mZ eG
  obtain rfl:=vW eG
  rw[qT r0]at ha
  obtain⟨b,us,rfl,_,fb,ru⟩:=lJ r1
  rw[zz ru]at fb
  have e:∀rest,cH (.tuple [.str k,.tuple (ps.map PyData.str)]::rest)=(k,ps)::cH rest:=fun rest=>by
   show(k,(ps.map PyData.str).map strOf)::_=_
   rw[zm];rfl
  rw[e]
  refine⟨.cons ⟨a,b,rfl,ha,fb⟩ F,fun q hq=>?_⟩
  rcases a9.mp hq with rfl | z
  ·refine⟨hk,hr,?_⟩
   have:=(hb _ aZ).tup.1 (.tuple (ps.map PyData.str)) (bX _ aZ)
   exact this
  ·exact all q z
theorem ZX {ps:List Str} (h:jw (.tuple (ps.map PyData.str))=true):ps.Nodup:=by
 have h2:=iG (eV.mp (show((ps.map PyData.str).all cb && decide ((ps.map PyData.str).map strOf).Nodup)=true from h)).2
 rw[zm]at h2;exact h2
theorem ZY {aa:bV} (bg:aa.length<=15) (nm:∀q∈aa,d3 q.1=true) (pn:∀q∈aa,q.2.Nodup) (so:g9 (keysOf aa)=true) (pa:aa.all (fun p=>hU (keysOf aa) p.2)=true):gP aa:=by
 have RG:∀p∈aa,p.2.length<=4 /\ ∀x∈p.2,x∈keysOf aa:=fun p hp=>by
  have:=fo.mp pa p hp
  unfold hU at this
  simp only[gY,oM,fo]at this
  exact this
 refine⟨Ab (iG so),bg,fun p hp=>Dh (nm p hp),fun p hp x hx=>?_,fun p hp=>(RG p hp).1,pn⟩
 obtain⟨q,hq,e⟩:=bj.mp ((RG p hp).2 x hx)
 exact⟨q,hq,e⟩
section
variable {P : Program} {w : World} {K : Frag} {mg : Str -> Option Value} {base : Heap} {f : Addr} {fd : FuncData}
@[irreducible] def lP:Sp:=fun vs H Q _=>∃ (p:Addr) (v:V) (d:PyData),vs = [v]/\Dt p H v d/\Bk d/\(∀ds,d = .tuple ds->ds.length<=15) /\ ∀H',aq H H'->Q (.bl (jX d)) H'
theorem DB {p:Addr}{v:V}{d:PyData}{H:Hp}{Q:VK}{E:XK} (r:Dt p H v d) (h:Bk d) (hl:∀ds,d = .tuple ds->ds.length<=15) (q:∀H',aq H H'->Q (.bl (jX d)) H'):lP [v] H Q E:=by unfold lP;exact⟨p,v,d,rfl,r,h,hl,q⟩
theorem aaW:cO ["thing"] ["thing"] (aH jR):=⟨rfl,rfl,rfl,by decide +kernel,rfl,by decide +kernel,by decide +kernel⟩
abbrev eF1:Expr:=fH (rn (ue (pE (cj (aU jR) 0)) 1))
abbrev eF2:Expr:=fH (rn (pE (cj (aU jR) 1)))
abbrev eF3:Expr:=fH (rn (pE (cj (aU jR) 2)))
theorem Pn:cp ["thing"] (aH jR) ["pair"] [none] (cD eF1):=⟨rfl,by decide +kernel,by decide +kernel,rfl,cR (by decide +kernel),by decide +kernel⟩
theorem Es:cp ["thing"] (aH jR) ["kind", "parents"] [none,none] (cD eF2):=⟨rfl,by decide +kernel,by decide +kernel,rfl,cR (by decide +kernel),by decide +kernel⟩
theorem Et:cp ["thing"] (aH jR) ["kind", "parents", "thing"] [none,none,some 0] (cD eF3):=⟨rfl,by decide +kernel,by decide +kernel,rfl,cR (by decide +kernel),by decide +kernel⟩
theorem ZZ {C fP fR fA fL:Addr}{dP dR dA dL:FuncData}{ci:Option Value} (F:bw K "is_family" "is_family" jR f fd) (B:c7 mg) (B2:lj mg) (mC:mg "Ring" = some (.ref C)) (qC:gq K C ci=true) (me:mroIn K C (.ref C)=some true)
  (GP:aN P w K mg base aS 3 fP dP ["thing"] tR) (kP:keepIn K (.ref fP)=true) (bP:Binds K dP ["thing"] []) (mP:mg "is_pair" = some (.ref fP))
  (GR:aN P w K mg base aS 1 fR dR ["names"] tT) (kR:keepIn K (.ref fR)=true) (bR:Binds K dR ["names"] []) (mR:mg "are_rising" = some (.ref fR))
  (GA:aN P w K mg base aS 3 fA dA ["family", "thing"] uw) (kA:keepIn K (.ref fA)=true) (bA:Binds K dA ["family", "thing"] []) (mA:mg "are_parents" = some (.ref fA))
  (GL:aN P w K mg base (gU P w) 5 fL dL ["family"] (tM C)) (kL:keepIn K (.ref fL)=true) (bL:Binds K dL ["family"] []) (mL:mg "lines_of" = some (.ref fL)):aN P w K mg base aS 6 f fd ["thing"] lP:=by
 refine F.ok aaW (fun vs H Q E h=>?_) (fun aQ A outer s H vs Q E hr h=>?_)
 ·unfold lP at h;obtain⟨p,v,d,rfl,_⟩:=h;rfl
 ·unfold lP at h
  obtain⟨p,v,d,rfl,rd,hb,Ic,q⟩:=h
  have Ie:bQ 5 _:=hr
  have mf:bQ 3 _:=Ie.mono (by decide)
  have cY:bQ 1 _:=Ie.mono (by decide)
  refine⟨_,aF (eg (PW.pt (pw_or (gL (gE (aV mX rfl B2.oj mY (ae (pv 0) (ae (m9 (v:= .ty "tuple") rfl B.tuple boot_tuple rfl) ah)))))
    (pw_or1 (gL (gE (aV (kH rfl) rfl B.all boot_all (ae (dg rfl Pn (iu (pv 0)) (fun s H fp=>⟨aR (i:=0) Pn.nd rfl (Or.inl rfl),dh,bG GP mf rfl mP kP bP .nil bE (ae (pv 0) ah)⟩)) ah))))))) (aP (bu g7)) d9)
   (aF (eg (gL (gE (bG GR cY rfl mR kR bR .nil bE (ae (dg rfl Es (iu (pv 0)) (fun s H fp=>⟨qM (n:=2) K rfl rfl (cC (aR (i:=0) Es.nd rfl (Or.inl rfl)) (cC (aR (i:=1) Es.nd rfl (Or.inl rfl)) gk)),dh,pv 0⟩)) ah)))) (aP (bu g7)) d9)
   (aF (eg (gL (gE (aV (kH rfl) rfl B.all boot_all (ae (dg rfl Et (iu (pv 0)) (fun s H fp=>⟨qM (n:=2) K rfl rfl (cC (aR (i:=0) Et.nd rfl (Or.inl rfl)) (cC (aR (i:=1) Et.nd rfl (Or.inl rfl)) gk)),dh,bG GA mf rfl mA kA bA .nil bE (ae (pv 2) (ae (pv 1) ah))⟩)) ah)))) (aP (bu g7)) d9)
   (aP (YS (fun pins D=>aP (bu (jq iL (aV W8 rfl B.len dz (ae (Mj GL Ie rfl mL kL bL (ae (pv 0) ah)) ah)) (aV (Wj K rfl) rfl B.len dz (ae (pv 0) ah)) (cB _)))) rfl rfl rfl rfl rfl mC qC (fun a=>aP (bu g7)))))),?_⟩
  have q0:=q _ (aq.refl _)
  refine⟨_,rfl,nh kit_tuple rd ⟨_,rfl,?_⟩⟩
  cases ht:gb "tuple" d with
  | false=>rw[NY ht]at q0;exact q0
  | true =>
  obtain⟨ds,rfl⟩:=is_tup ht
  obtain⟨a,vs,rfl,na,ha,rs⟩:=lJ rd
  have hl:=rs.length
  have acz:=Ic ds rfl
  obtain⟨om,_⟩:=hb.tup
  refine⟨_,rfl,a,rfl,⟨_,aB.of ha⟩,fun c hc=>?_⟩
  refine tG (p:=p) (g:=pairD) ha rs hc (by omega) (fun v d H2 Q1 hd S2 r2 q1=>⟨_,rfl,Y7 r2 (om d hd) q1⟩) fun H1 S1 h1=>⟨c,_,rfl,ai.of h1,_,rfl,?_⟩
  rw[show((ds.map pairD).all id)=ds.all pairD by rw[mG];rfl]
  cases wI:ds.all pairD with
  | false =>
   have q1:=q _ S1
   rw[show jX (.tuple ds)=false by rw[zH,wI];rfl]at q1
   exact q1
  | true =>
  obtain⟨FV,all⟩:=NZ rs wI om
  have fl:(cH ds).length=ds.length:=by unfold cH;rw[ar]
  have q2:∀H',aq H H'->Q (.bl (g9 (keysOf (cH ds)) && ((cH ds).all (fun p=>hU (keysOf (cH ds)) p.2) && @decide (iA (cH ds)) (Classical.propDecidable _)))) H':=fun H' S=>by
   have:=q H' S
   rw[show jX (.tuple ds)=(g9 (keysOf (cH ds)) && ((cH ds).all (fun p=>hU (keysOf (cH ds)) p.2) && @decide (iA (cH ds)) (Classical.propDecidable _))) by rw[zH,wI];rfl]at this
   exact this
  clear q q0
  generalize cH ds=aa at FV all fl q2
  have BC:=FV.same S1
  have eI:=S1 _ _ ha
  refine⟨_,rfl,a,rfl,⟨_,aB.of eI⟩,fun c2 cU=>?_⟩
  refine oR (xs:=vs) (fun i ys τ H2=>∃t0 t1:Option V,τ = [t0,t1]/\ys=(keysOf (aa.take i)).map V.str/\H2=upd H1 c2 (.lst ys)) ⟨none,none,rfl,rfl,rfl⟩ (fun i ys τ H2 ⟨_,_,_,_,z⟩=>by rw[z];exact⟨af,aB.of (ak cU _ _ eI)⟩) ?_ ?_
  ·rintro i x ys τ H2 hx ⟨t0,t1,rfl,rfl,rfl⟩
   have aM:i < vs.length:=(cq.mp hx).1
   obtain⟨pp,fc,a',b',rfl,gB,cX⟩:=gm BC hx
   have tk:aa.take (i+1)=aa.take i ++ [pp]:=by rw[de,fc];rfl
   refine⟨a',_,rfl,aB.of (ak cU _ _ gB),rfl,_,_,rfl,_,_,rfl,rfl,_,rfl,af,?_,cw_next aM ⟨_,_,rfl,?_,by rw[iq]⟩⟩
   ·unfold keysOf;rw[ar,ar,aX,ay];omega
   ·rw[tk];unfold keysOf;rw[aY,aY];rfl
  rintro ys τ H2 ⟨t0,t1,rfl,rfl,rfl⟩
  rw[hl,<-fl,dw]
  have S2:=S1.trans (ak (o:= .lst ((keysOf aa).map V.str)) cU)
  refine Y9 af (fun x hx=>?_) (by unfold keysOf;rw[ar];omega) fun H3 S3=>⟨_,rfl,?_⟩
  ·obtain⟨pp,hp,rfl⟩:=bj.mp hx
   exact Dh (all pp hp).1
  have yi:=S2.trans S3
  cases qY:g9 (keysOf aa) with
  | false =>
   have q3:=q2 _ yi
   rw[qY]at q3
   exact q3
  | true =>
  rw[qY]at q2
  have FV3:=FV.same yi
  have kq:=yi _ _ ha
  obtain⟨kvs,PV,ek⟩:=FV.pairs
  have ndk:(kvs.map (·.1)).Nodup:=by rw[ek];exact Ab (iG qY)
  refine⟨_,rfl,a,rfl,⟨_,aB.of kq⟩,fun c4 kh=>?_⟩
  refine oR (xs:=vs) (fun i ys τ H4=>∃t0 t1:Option V,τ = [t0,t1,some (.ref a)]/\ys=((aa.take i).map fun p=>hU (keysOf aa) p.2).map V.bl/\aq H3 H4/\H4 c4=some (.lst ys)) ⟨none,none,rfl,rfl,ak kh,af⟩ (fun i ys τ H4 ⟨_,_,_,_,z,z2⟩=>⟨z2,aB.of (z _ _ kq)⟩) ?_ ?_
  ·rintro i x ys τ H4 hx ⟨t0,t1,rfl,rfl,S4,h4⟩
   have aM:i < vs.length:=(cq.mp hx).1
   obtain⟨pp,fc,a',b',rfl,gB,cX⟩:=gm FV3 hx
   have tk:aa.take (i+1)=aa.take i ++ [pp]:=by rw[de,fc];rfl
   obtain⟨_,oq,hbk⟩:=all pp (gj fc)
   refine⟨a',_,rfl,aB.of (S4 _ _ gB),rfl,_,_,rfl,_,_,rfl,rfl,_,rfl,_,rfl,aaU (S4 _ _ kq) (PV.same (yi.trans S4)) ndk (S4 _ _ cX) oq hbk fun H5 S5=>⟨S5 _ _ h4,?_,cw_next aM ⟨_,_,rfl,?_,fun b o e=>?_,af⟩⟩⟩
   ·rw[ar,ar,aX,ay];omega
   ·rw[tk,aY,aY,ek];rfl
   ·rw[aj (ax e kh)];exact S5 _ _ (S4 _ _ e)
  rintro ys τ H4 ⟨t0,t1,rfl,rfl,S4,h4⟩
  rw[hl,<-fl,dw]at h4
  have kz:=yi.trans S4
  refine⟨c4,_,rfl,ai.of h4,_,rfl,?_⟩
  rw[show((aa.map fun p=>hU (keysOf aa) p.2).all id)=aa.all fun p=>hU (keysOf aa) p.2 by rw[mG];rfl]
  cases ux:aa.all fun p=>hU (keysOf aa) p.2 with
  | false =>
   have q3:=q2 _ kz
   rw[ux]at q3
   exact q3
  | true =>
  rw[ux]at q2
  have st:=ZY (by omega) (fun q hq=>(all q hq).1) (fun q hq=>ZX (all q hq).2.1) qY ux
  have ql:=kz _ _ ha
  refine⟨_,rfl,X' ql (FV.same kz) st (fun no a2 dx H5 S5 h5=>?_) fun dd kv H5 hdd S5 h5 iff=>?_⟩
  ·refine⟨⟨C,rfl,me⟩,a2,rfl,?_⟩
   have q3:=q2 _ (kz.trans S5)
   rw[@c8 _ (Classical.propDecidable _) no]at q3
   exact q3
  ·refine⟨dd,kv,rfl,h5,_,rfl,a,_,rfl,.inr (aB.of (S5 _ _ ql)),rfl,?_⟩
   have q3:=q2 _ (kz.trans S5)
   rw[show @decide (iA aa) (Classical.propDecidable _)=decide (V.int (kv.length:Int)=V.int (vs.length:Int)) from ?_]at q3
   ·exact q3
   ·by_cases e:kv.length=aa.length
    ·rw[@cF _ (Classical.propDecidable _) (iff.mp e),cF (by rw[e,fl,hl])]
    ·rw[@c8 _ (Classical.propDecidable _) (fun z=>e (iff.mpr z)),c8 (fun z=>e (by injection z with z;omega))]
end
end bc
namespace bc
open PySem L2 PySem.W HT
def fj (H:Hp) (kvs:List (Key×V)) (L:Str->List Str) (x:Str):Prop:= ∃a,cf kvs (Sum.inr x)=some (.ref a)/\H a=some (.lst ((L x).map V.str))
theorem fj.same {H H':Hp}{kvs:List (Key×V)}{L:Str->List Str}{x:Str} (h:fj H kvs L x) (s:aq H H'):fj H' kvs L x:=let ⟨a,e,q⟩:=h;⟨a,e,s _ _ q⟩
theorem Nq {H:Hp}{kvs:List (Key×V)}{L:Str->List Str}{ps:List Str} (h:∀x∈ps,fj H kvs L x):∃g:Str->V,(∀x∈ps,cf kvs (Sum.inr x)=some (g x))/\iP (fun _=>True) H (ps.map g) (ps.map L):=by
 refine⟨fun x=>(cf kvs (Sum.inr x)).getD .aG,fun x hx=>?_,?_⟩
 ·obtain⟨a,e,_⟩:=h x hx;show _=some ((cf kvs (Sum.inr x)).getD V.aG);rw[e];rfl
 ·induction ps with
  | nil=>exact .nil
  | cons x ps ih =>
   obtain⟨a,e,q⟩:=h x aZ
   exact .cons ⟨a,by show(cf kvs (Sum.inr x)).getD V.aG=_;rw[e];rfl,trivial,q⟩ (ih fun y hy=>h y (bX _ hy))
section
variable {P : Program} {w : World} {K : Frag} {mg : Str -> Option Value} {base : Heap} {f : Addr} {fd : FuncData}
theorem Oq {l:Addr}{ws:List V}{rows:List (List Str)}{H:Hp}{Q:VK}{E:XK} (hl:H l=some (.lst ws)) (hR:iP (fun _=>True) H ws rows) (hS:Small rows) (dv:∀r∈rows,r.Nodup) (qn:bB (total rows) rows=none -> ∀H',aq H H'->Q .aG H')
  (qs:∀o,bB (total rows) rows=some o -> ∀p H',H p=none->aq H H'->H' p=some (.lst (o.map V.str))->Q (.ref p) H'):rz [.ref l] H Q E:=by unfold rz;exact⟨l,ws,rows,rfl,hl,hR,hS,dv,qn,qs⟩
@[irreducible] def uy:Sp:=fun vs H Q _=>∃ (d oa:Addr) (kvs:List (Key×V)) (L:Str->List Str) (k:Str) (own:List Str),vs = [.ref d,.str k,.ref oa]/\H d=some (.dK kvs)/\H oa=some (.lst (own.map V.str))/\(∀x∈own,fj H kvs L x)/\Small (rowsOf L own)/\(∀r∈rowsOf L own,r.Nodup) /\
 (bB (total (rowsOf L own)) (rowsOf L own)=none -> ∀H',aq H H'->Q .aG H')/\(∀o,bB (total (rowsOf L own)) (rowsOf L own)=some o -> ∀p H',H p=none->aq H H'->H' p=some (.lst ((k::o).map V.str))->Q (.ref p) H')
theorem Ot {d oa:Addr}{kvs:List (Key×V)}{L:Str->List Str}{k:Str}{own:List Str}{H:Hp}{Q:VK}{E:XK} (hd:H d=some (.dK kvs)) (ho:H oa=some (.lst (own.map V.str))) (hl:∀x∈own,fj H kvs L x) (hS:Small (rowsOf L own)) (dv:∀r∈rowsOf L own,r.Nodup)
  (qn:bB (total (rowsOf L own)) (rowsOf L own)=none -> ∀H',aq H H'->Q .aG H') (qs:∀o,bB (total (rowsOf L own)) (rowsOf L own)=some o -> ∀p H',H p=none->aq H H'->H' p=some (.lst ((k::o).map V.str))->Q (.ref p) H') :
  uy [.ref d,.str k,.ref oa] H Q E:=by unfold uy;exact⟨d,oa,kvs,L,k,own,rfl,hd,ho,hl,hS,dv,qn,qs⟩
abbrev RH:List Str:= ["_law_lines", "_law_kind", "_law_own", "_law_found"]
theorem Al:cO RH ["_law_lines", "_law_kind", "_law_own"] (aH nu):=⟨rfl,rfl,rfl,by decide +kernel,rfl,by decide +kernel,by decide +kernel⟩
abbrev eLL:Expr:=En (fH (eF (cj (aU nu) 0)))
theorem Am:cp RH (aH nu) ["_law_one", "_law_lines"] [none,some 0] (cD eLL):=⟨rfl,by decide +kernel,by decide +kernel,rfl,cR (by decide +kernel),by decide +kernel⟩
theorem aaX {fM:Addr}{md:FuncData} (F:bw K "_law_line" "_law_line" nu f fd) (B:c7 mg) (FM:bw K "_law_merged" "_law_merged" iY fM md) (bM:Binds K md ["_law_rows"] []) (mM:mg "_law_merged" = some (.ref fM)) :
  aN P w K mg base aS 2 f fd ["_law_lines", "_law_kind", "_law_own"] uy:=by
 have GM:aN P w K mg base aS 1 fM md ["_law_rows"] rz:=Oh FM B
 refine F.ok Al (fun vs H Q E h=>?_) (fun aQ A outer s H vs Q E hr h=>?_)
 ·unfold uy at h;obtain⟨d,oa,kvs,L,k,own,rfl,_⟩:=h;rfl
 ·unfold uy at h
  obtain⟨d,oa,kvs,L,k,own,rfl,hd,ho,hl,hS,dv,qn,qs⟩:=h
  have hu:=hr.units
  have gA:=vy (vz (show 1<=64 by decide) _) hu
  refine⟨_,aF (ba (i:=3) Al.nd rfl (Or.inl rfl) (bG GM hr rfl mM FM.kp bM .nil bE (ae (aL ff (dg rfl Am (fq (pv 2)) (fun s H fp=>⟨aR (i:=0) Am.nd rfl (Or.inl rfl),dh,zD gA (pv 1) (pv 0) (fun _ _=>rfl)⟩)) (cL (ae (eX oO rfl B.list boot_list (ae (pv 2) ah)) ah))) ah)))
   (aF (eg (cG vZ (pv 3) i3 (cB _)) (aP (bu i3)) d9)
   (aP (bu (aL ff (cL (ae (pv 1) ah)) (pv 3))))),?_⟩
  obtain⟨g,hg,hR⟩:=Nq hl
  have dG:own.length<=20:=hS.short own (gW _ aZ)
  refine⟨_,rfl,oa,rfl,⟨_,ai.of ho⟩,fun c hc=>Xf ho hd hg hc (by omega) ?_⟩
  have S1:=ak (o:= .lst (own.map g)) hc
  refine⟨_,rfl,oa,_,rfl,.inl (ai.of (S1 _ _ ho)),fun c1 jI=>?_⟩
  have S2:=S1.trans (ak (o:= .lst (own.map V.str)) jI)
  refine⟨by show 1<=sizeLine;rw[ay];decide,fun c2 cU=>?_⟩
  have S3:=S2.trans (ak (o:= .lst [V.ref c1]) cU)
  have k1:upd (upd H c (.lst (own.map g))) c1 (.lst (own.map V.str)) c=some (.lst (own.map g)):=by rw[aj (ax af jI)];exact af
  refine⟨c,c2,_,_,rfl,rfl,by rw[aj (ax k1 cU)];exact k1,af,by rw[ar,ay];show _+1<=_;omega,fun c3 ku=>?_⟩
  have S4:=S3.trans (ak (o:= .lst (own.map g ++ [V.ref c1])) ku)
  have k4:upd (upd (upd (upd H c (.lst (own.map g))) c1 (.lst (own.map V.str))) c2 (.lst [V.ref c1])) c3 (.lst (own.map g ++ [V.ref c1])) c1=some (.lst (own.map V.str)):=by
   have k2:upd (upd (upd H c (.lst (own.map g))) c1 (.lst (own.map V.str))) c2 (.lst [V.ref c1]) c1=some (.lst (own.map V.str)):=by rw[aj (ax af cU)];exact af
   rw[aj (ax k2 ku)];exact k2
  refine Oq (rows:=rowsOf L own) af (vC (mQ hR fun a xs _ e=>⟨trivial,S4 _ _ e⟩) trivial k4) hS dv (fun e H5 S5=>?_) (fun o e p H5 hp S5 h5=>?_)
  ·exact⟨_,rfl,rfl,_,rfl,qn e H5 (S4.trans S5)⟩
  ·refine⟨_,rfl,rfl,_,rfl,?_⟩
   refine⟨_,rfl,by show 1<=sizeLine;rw[ay];decide,fun c5 yj=>?_⟩
   have S6:=S5.trans (ak (o:= .lst [V.str k]) yj)
   have hz:=(zk e)
   have ht:=sR hS.short
   have hfw:=hS.bg
   refine⟨_,rfl,c5,p,_,_,rfl,rfl,af,by rw[aj (ax h5 yj)];exact h5,by rw[ar,ay];show 1+_<=_;omega,fun c6 yk=>?_⟩
   exact qs o e c6 _ (S4.free (S6.free yk)) (S4.trans (S6.trans (ak yk))) af
end
end bc
namespace bc
open PySem L2 PySem.W HT
theorem Lp {α:Type}:∀ (l:List α) (k:Nat) (h:k < l.length),(l[k]::l.eraseIdx k).Perm l
 | [],k,h=>absurd h (yM _)
 | x::l,0,_=>qF _
 | x::l,k+1,h=>(List.Perm.swap _ _ _).trans ((Lp l k (Ks h)).cons x)
theorem L7 {α β:Type} (f:α->β):∀ (l:List α) (k:Nat),(l.map f).eraseIdx k=(l.eraseIdx k).map f
 | [],_=>rfl
 | _::_,0=>rfl
 | x::l,k+1=>gg (f x :: ·) (L7 f l k)
theorem boot_min:bootBuiltins "min" = some (.builtin "min"):=by decide +kernel
theorem aaY {d:Int} (h0:0<=d) (h1:d < 7):∃v:Int,dH [V.int 0,.int 1,.int 1,.int 2,.int 2,.int 3,.int 4] d=some (.int v)/\0<=v/\v<=4:=by
 obtain⟨n,rfl⟩:=yU h0
 match n,(show n < 7 by omega) with
 | 0,_=>exact⟨0,dE rfl,by decide,by decide⟩
 | 1,_=>exact⟨1,dE rfl,by decide,by decide⟩
 | 2,_=>exact⟨1,dE rfl,by decide,by decide⟩
 | 3,_=>exact⟨2,dE rfl,by decide,by decide⟩
 | 4,_=>exact⟨2,dE rfl,by decide,by decide⟩
 | 5,_=>exact⟨3,dE rfl,by decide,by decide⟩
 | 6,_=>exact⟨4,dE rfl,by decide,by decide⟩
theorem two_at {d a b m:Int} (h0:0<=d) (h1:d < 2) (ha:0<=a/\a < m) (hb:0<=b/\b < m):∃v:Int,dH [V.int a,.int b] d=some (.int v)/\0<=v/\v < m:=by
 obtain⟨n,rfl⟩:=yU h0
 match n,(show n < 2 by omega) with
 | 0,_=>exact⟨a,dE rfl,ha⟩
 | 1,_=>exact⟨b,dE rfl,hb⟩
section
variable {P : Program} {w : World} {K : Frag} {mg : Str -> Option Value} {base : Heap} {f : Addr} {fd : FuncData}
@[irreducible] def uf:Sp:=fun vs H Q _=>∃ (p n:Addr) (ys:List Str),vs = [.ref p,.ref n]/\gr p H/\p≠n/\H n=some (.lst (ys.map V.str))/\ys.length<=20 /\
 ∀ (l:Addr) (own rest:List Str) (H':Hp),H l=none->(own++rest).Perm ys->own.length<=4->cg p H H'->H' l=some (.lst (own.map V.str))->Q (.ref l) H'
theorem Z0 {p n:Addr}{ys:List Str}{H:Hp}{Q:VK}{E:XK} (hp:gr p H) (RI:p≠n) (hn:H n=some (.lst (ys.map V.str))) (hl:ys.length<=20)
  (q:∀ (l:Addr) (own rest:List Str) (H':Hp),H l=none->(own++rest).Perm ys->own.length<=4->cg p H H'->H' l=some (.lst (own.map V.str))->Q (.ref l) H'):uf [.ref p,.ref n] H Q E:=by
 unfold uf;exact⟨p,n,ys,rfl,hp,RI,hn,hl,q⟩
abbrev acA:List Str:= ["_law_pot_here", "_law_made", "_law_left", "_law_own", "_law_turn", "_law_at"]
theorem wC:cO acA ["_law_pot_here", "_law_made"] (aH sV):=⟨rfl,rfl,rfl,by decide +kernel,rfl,by decide +kernel,by decide +kernel⟩
theorem Z1 {fD:Addr}{rZ:FuncData} (F:bw K "_law_parents" "_law_parents" sV f fd) (B:c7 mg) (FD:bw K "_law_digit" "_law_digit" pz fD rZ) (bD:Binds K rZ ["_law_pot_here", "_law_many"] []) (mD:mg "_law_digit" = some (.ref fD)) :
  aN P w K mg base aS 2 f fd ["_law_pot_here", "_law_made"] uf:=by
 have GD:aN P w K mg base aS 1 fD rZ ["_law_pot_here", "_law_many"] o3:=C4 FD
 refine F.ok wC (fun vs H Q E h=>?_) (fun aQ A outer s H vs Q E hr h=>?_)
 ·unfold uf at h;obtain⟨p,n,ys,rfl,_⟩:=h;rfl
 ·unfold uf at h
  obtain⟨p,n,ys,rfl,hp,RI,hn,hlen,q⟩:=h
  have cY:bQ 1 _:=hr
  refine⟨_,aF (ba (i:=2) wC.nd rfl (Or.inl rfl) (eX oO rfl B.list boot_list (ae (pv 1) ah)))
   (aF (ba (i:=3) wC.nd rfl (Or.inl rfl) (cL ah))
   (aF (iw iH rfl (lG rfl B.range (ae (aV (Ls rfl) rfl B.min boot_min (ae (aV eW rfl B.len dz (ae (pv 2) ah))
     (ae (bC dW (cL (ae aD (ae aD (ae aD (ae aD (ae aD (ae aD (ae aD ah)))))))) (bG GD cY rfl mD FD.kp bD .nil bE (ae (pv 0) (ae aD ah))) (fun _ _=>rfl)) ah))) ah)) (aR (i:=4) wC.nd rfl (Or.inl rfl))
    (aF (ba (i:=5) wC.nd rfl (Or.inl rfl) (bC dW (cL (ae (bG GD cY rfl mD FD.kp bD .nil bE (ae (pv 0) (ae (aV eW rfl B.len dz (ae (pv 2) ah)) ah)))
      (ae (aL ND (aV eW rfl B.len dz (ae (pv 2) ah)) aD) ah))) (bG GD cY rfl mD FD.kp bD .nil bE (ae (pv 0) (ae aD ah))) (fun _ _=>rfl)))
    (aP (oV (lL sG yS yT qL (pv 3)
     (ae (lL sG PySem.F.slot_list_pop PySem.F.type_list_pop Xv (pv 2) (ae (pv 5) ah)) ah))))))
   (aP (bu (pv 3))))),?_⟩
  refine⟨_,rfl,n,_,rfl,.inl (ai.of hn),fun la qh=>?_⟩
  refine⟨bY _,fun fa kr=>?_⟩
  have BD:p≠la:=hp.ne qh
  have Ig:la≠fa:=ax af kr
  have uq:H fa=none:=(ak qh).free kr
  have vf:p≠fa:=hp.ne uq
  have P0:cg p H (upd (upd H la (.lst (ys.map V.str))) fa (.lst [])):=((cg.refl hp).new qh).new kr
  have rA:(upd (upd H la (.lst (ys.map V.str))) fa (.lst [])) la=some (.lst (ys.map V.str)):=by rw[aj Ig];exact af
  have Eu:(upd (upd H la (.lst (ys.map V.str))) fa (.lst [])) fa=some (.lst []):=af
  generalize upd (upd H la (.lst (ys.map V.str))) fa (.lst [])=H0 at P0 rA Eu ⊢
  refine⟨_,rfl,la,_,rfl,.inl (ai.of rA),?_⟩
  refine⟨by show 7<=sizeLine;rw[ay];decide,fun c hc=>?_⟩
  have Pc:=P0.new (o:= .lst [V.int 0,.int 1,.int 1,.int 2,.int 2,.int 3,.int 4]) hc
  refine⟨_,rfl,jo (p:=p) (m:=7) Pc.ok (by decide) (by decide) fun d H1 d0 d1 BE=>?_⟩
  have npc:p≠c:=P0.ok.ne hc
  obtain⟨v,hv,v0,v4⟩:=aaY d0 d1
  refine⟨c,_,d,.int v,rfl,rfl,ai.of (BE.kp _ _ af (aT npc)),hv,?_⟩
  have P1:=Pc.trans BE
  have wU:H1 la=some (.lst (ys.map V.str)):=BE.kp _ _ (by rw[aj (ax rA hc)];exact rA) (aT BD)
  have wV:H1 fa=some (.lst []):=BE.kp _ _ (by rw[aj (ax Eu hc)];exact Eu) (aT vf)
  refine⟨_,v,rfl,?_⟩
  rw[ar]
  obtain⟨N,hN,hN4,hNl⟩:∃N:Nat,(if v < (ys.length:Int) then v else (ys.length:Int))=N/\N<=4/\N<=ys.length:=by
   split
   ·exact⟨v.toNat,by omega,by omega,by omega⟩
   ·exact⟨ys.length,rfl,by omega,aO _⟩
  rw[hN]
  refine⟨(N:Int),rfl,by omega,by omega,sT (fun i σ H1=>∃ (zs ls:List Str) (v4 v5:Option V),σ = [some (.ref p),some (.ref n),some (.ref la),some (.ref fa),v4,v5]/\zs.length=i/\(zs++ls).Perm ys/\cg p H H1/\H1 la=some (.lst (ls.map V.str))/\H1 fa=some (.lst (zs.map V.str)))
   ⟨[],ys,none,none,rfl,rfl,qF _,P1,wU,wV⟩ ?_ ?_⟩
  ·rintro i σ H1 hi ⟨zs,ls,v4,v5,rfl,hz,hP,pa,wU,wV⟩
   have aaZ:=hP.length_eq
   rw[aW]at aaZ
   have Bn:i < N:=by simpa using hi
   have wQ:0 < ls.length:=by omega
   refine⟨_,rfl,_,rfl,la,_,rfl,.inl (ai.of wU),?_⟩
   refine jo (p:=p) pa.ok (by rw[ar];omega) (by rw[ar];omega) fun d H2 d0 d1 pb=>?_
   have Ew:=pb.kp _ _ wU (aT BD)
   have Po:=pb.kp _ _ wV (aT vf)
   rw[ar]at d1
   refine⟨_,rfl,la,_,rfl,.inl (ai.of Ew),_,1,rfl,rfl,?_⟩
   rw[ar]
   refine⟨by show 2<=sizeLine;rw[ay];decide,fun c2 cU=>?_⟩
   have RJ:=(pa.trans pb).new (o:= .lst [V.int d,.int ((ls.length:Int) - 1)]) cU
   have acB:p≠c2:=pb.ok.ne cU
   refine⟨_,rfl,jo (p:=p) (m:=2) RJ.ok (by decide) (by decide) fun e H3 e0 e1 pe=>?_⟩
   obtain⟨v,hv,v0,v1⟩:=two_at (a:=d) (b:=(ls.length:Int) - 1) (m:=(ls.length:Int)) e0 e1 ⟨d0,d1⟩ ⟨by omega,by omega⟩
   have pN:H3 la=some (.lst (ls.map V.str)):=pe.kp _ _ (by rw[aj (ax Ew cU)];exact Ew) (aT BD)
   have ur:H3 fa=some (.lst (zs.map V.str)):=pe.kp _ _ (by rw[aj (ax Po cU)];exact Po) (aT vf)
   have P3:=RJ.trans pe
   refine⟨c2,_,e,.int v,rfl,rfl,ai.of (pe.kp _ _ af (aT acB)),hv,?_⟩
   have hd:v.toNat < ls.length:=by omega
   refine⟨_,rfl,.inl ⟨rfl,_,ai.of ur⟩,_,rfl,.inl ⟨rfl,_,ai.of pN⟩,_,rfl,?_⟩
   refine⟨la,_,v,v.toNat,.str ls[v.toNat],rfl,rfl,pN,by omega,by omega,JZ v0 (by rw[ar];exact v1),by rw[gX,br hd];rfl,?_⟩
   have acC:(upd H3 la (.lst ((ls.map V.str).eraseIdx v.toNat))) fa=some (.lst (zs.map V.str)):=by rw[aj (aT Ig)];exact ur
   refine⟨fa,_,_,rfl,rfl,acC,by rw[ar,ay];omega,?_⟩
   refine⟨zs ++ [ls[v.toNat]],ls.eraseIdx v.toNat,_,_,rfl,by rw[aW];simp[hz],?_,(P3.write qh BD).write uq vf,?_,?_⟩
   ·refine List.Perm.trans ?_ hP
    rw[B6]
    exact amo zs (Lp ls _ hd)
   ·rw[aj Ig,af,L7]
   ·rw[af,aY];rfl
  ·rintro σ H1 ⟨zs,ls,v4,v5,rfl,hz,hP,pa,wU,wV⟩
   have Bq:zs.length=N:=by simpa using hz
   exact⟨_,rfl,q fa zs ls H1 uq hP (by omega) pa wV⟩
end
end bc
namespace bc
open PySem L2 HT
def kept (rows:List (List Str)) (o:List Str):Bool:=rows.all fun r=>decide ((o.filter fun n=>decide (n∈r))=r)
theorem CD {all:List (List Str)}{n:Str}:∀ {rest:List (List Str)},jm all rest=some n->cN 0 all n=none /\ ∃ (i:Nat) (r:List Str),rest[i]? = some r/\r.head? = some n /\ ∀ (j:Nat) (q:List Str) (y:Str),rest[j]? = some q->q.head? = some y->cN 0 all y=none->i<=j
 | [],h=>by cases h
 | []::rest,h=>by
  obtain⟨h1,i,r,e1,e2,e3⟩:=CD (rest:=rest) h
  refine⟨h1,i+1,r,by simpa using e1,e2,fun j q y hj hq hy=>?_⟩
  cases j with
  | zero =>
   obtain rfl : []=q:=by simpa using hj
   simp at hq
  | succ j=>have:=e3 j q y (by simpa using hj) hq hy;omega
 | (x::t)::rest,h=>by
  have h:(if (cN 0 all x).isNone then some x else jm all rest)=some n:=h
  by_cases c:(cN 0 all x).isNone=true
  ·rw[aI c]at h
   cases h
   exact⟨by simpa using c,0,_,rfl,rfl,fun _ _ _ _ _ _=>bY _⟩
  ·rw[aE c]at h
   obtain⟨h1,i,r,e1,e2,e3⟩:=CD (rest:=rest) h
   refine⟨h1,i+1,r,by simpa using e1,e2,fun j q y hj hq hy=>?_⟩
   cases j with
   | zero =>
    obtain rfl:x::t=q:=by simpa using hj
    obtain rfl:x=y:=by simpa using hq
    exact absurd (by rw[hy];rfl) c
   | succ j=>have:=e3 j q y (by simpa using hj) hq hy;omega
def Zb (rest:List (List Str)) (q:List Str):Prop:=q.Nodup /\ ∀x,x∈q ↔ ∃r∈rest,x∈r
theorem C5 {rest:List (List Str)}{q:List Str}:kept rest q=true ↔ ∀r∈rest,(q.filter fun n=>decide (n∈r))=r:=by
 unfold kept;rw[fo];simp
theorem K6 {n x:Str}{rest:List (List Str)}:(∃r∈L2.without n rest,x∈r) ↔ x≠n /\ ∃r∈rest,x∈r:=by
 constructor
 ·rintro⟨r,hr,hx⟩
  obtain⟨q,hq,rfl⟩:=bj.mp hr
  have:=kB.mp hx
  exact⟨by simpa using this.2,q,hq,this.1⟩
 ·rintro⟨h,q,hq,hx⟩
  exact⟨_,bj.mpr ⟨q,hq,rfl⟩,kB.mpr ⟨hx,by simpa using h⟩⟩
theorem Zc {rest:List (List Str)}:(rest.any fun r=>!r.isEmpty)=true ↔ ∃r∈rest,∃x,x∈r:=by
 rw[qD]
 constructor
 ·rintro⟨r,hr,e⟩
  cases r with
  | nil=>simp at e
  | cons x t=>exact⟨_,hr,x,aZ⟩
 ·rintro⟨r,hr,x,hx⟩
  refine⟨r,hr,?_⟩
  cases r with
  | nil=>simp at hx
  | cons y t=>rfl
theorem sound:∀ (m:Nat) (rest:List (List Str)),total rest=m->(∀r∈rest,r.Nodup) -> ∀o,bB (total rest) rest=some o->Zb rest o/\kept rest o=true:=by
 intro m
 induction m using Nat.strongRecOn with
 | _ m ih =>
  intro rest hm dv o ho
  cases hA:rest.any fun r=>!r.isEmpty with
  | false =>
   rw[Cz hA]at ho
   cases ho
   have emp:∀r∈rest,∀x,x ∉ r:=fun r hr x hx=>by
    have:=Zc.mpr ⟨r,hr,x,hx⟩
    rw[hA]at this;cases this
   refine⟨⟨oJ,fun x=>⟨fun h=>by simp at h,fun⟨r,hr,hx⟩=>absurd hx (emp r hr x)⟩⟩,C5.mpr fun r hr=>?_⟩
   cases r with
   | nil=>rfl
   | cons y t=>exact absurd aZ (emp _ hr y)
  | true =>
   cases e:eY rest with
   | none=>rw[CA hA e]at ho;cases ho
   | some n =>
    rw[CB hA e]at ho
    obtain⟨o',gG,rfl⟩:=iF.mp ho
    have lt:=sM (sY e)
    obtain⟨⟨h1,h2⟩,h3⟩:=ih _ (by omega) (L2.without n rest) rfl (Lk dv) o' gG
    rw[C5]at h3
    have nV:n ∉ o':=fun z=>((K6.mp ((h2 n).mp z)).1 rfl)
    obtain⟨wm,_⟩:=CD e
    rw[zi]at wm
    refine⟨⟨fV.mpr ⟨nV,h1⟩,fun x=>?_⟩,C5.mpr fun r hr=>?_⟩
    ·rw[a9,h2,K6]
     constructor
     ·rintro(rfl | h)
      ·exact sY e
      ·exact h.2
     ·intro h
      by_cases z:x=n
      ·exact .inl z
      ·exact .inr ⟨z,h⟩
    ·have rR:=h3 _ (bj.mpr ⟨r,hr,rfl⟩)
     have same:(o'.filter fun y=>decide (y∈r))=o'.filter fun y=>decide (y∈r.filter fun y=>!decide (y=n)):=by
      apply List.filter_congr
      intro y hy
      have:y≠n:=fun z=>nV (z ▸ hy)
      simp[this]
     by_cases hn:n∈r
     ·have hh:=wm r hr hn
      cases r with
      | nil=>simp at hn
      | cons z t =>
       obtain rfl:z=n:=by simpa using hh
       have ht:z ∉ t:=(fV.mp (dv _ hr)).1
       have et:((z::t).filter fun y=>!decide (y=z))=t:=by
        rw[Ky (by simp)]
        exact Vd.mpr fun y hy=>by
         have:y≠z:=fun w=>ht (w ▸ hy)
         simpa using this
       rw[Cg (by simp),same,rR,et]
     ·have er:(r.filter fun y=>!decide (y=n))=r:=Vd.mpr fun y hy=>by
       have:y≠n:=fun w=>hn (w ▸ hy)
       simpa using this
      rw[Ky (by simpa using hn),same,rR,er]
end bc
namespace bc
open PySem L2 PySem.W HT
theorem len_sub {a b:List Str} (nd:a.Nodup) (h:∀x∈a,x∈b):a.length<=b.length:=nB nd h
structure Fm (done:List Str) (L Ps:Str->List Str):Prop where
 ps:∀x∈done,(Ps x).Nodup/\(Ps x).length<=4 /\ ∀y∈Ps x,y∈done
 ln:∀x∈done,∃o,bB (total (rowsOf L (Ps x))) (rowsOf L (Ps x))=some o/\L x=x::o
 ld:∀x∈done,(L x).Nodup /\ ∀y∈L x,y∈done
theorem sS {L:Str->List Str}{own r:List Str}:r∈rowsOf L own ↔ (∃y∈own,r=L y)\/r=own:=by
 unfold rowsOf
 rw[cz,bj,eL]
 constructor
 ·rintro(⟨y,h,rfl⟩|h)
  ·exact .inl ⟨y,h,rfl⟩
  ·exact .inr h
 ·rintro(⟨y,h,rfl⟩|h)
  ·exact .inl ⟨y,h,rfl⟩
  ·exact .inr h
theorem Fm.tU {done:List Str}{L Ps:Str->List Str} (F:Fm done L Ps) {own:List Str} (nd:own.Nodup) (sub:∀y∈own,y∈done):∀r∈rowsOf L own,r.Nodup /\ ∀y∈r,y∈done:=fun r hr=>by
 rcases sS.mp hr with⟨y,hy,rfl⟩|rfl
 ·exact F.ld y (sub y hy)
 ·exact⟨nd,sub⟩
theorem Fm.small {done:List Str}{L Ps:Str->List Str} (F:Fm done L Ps) (hk:∀x∈done,Nm x) (h8:done.length<=8) {own:List Str} (nd:own.Nodup) (h4:own.length<=4) (sub:∀y∈own,y∈done):Small (rowsOf L own):=by
 refine⟨?_,fun r hr=>?_,fun r hr y hy=>?_⟩
 ·unfold rowsOf;rw[aW,ar,oH];omega
 ·obtain⟨h1,h2⟩:=F.tU nd sub r hr
  have:=len_sub h1 h2
  omega
 ·exact hk y ((F.tU nd sub r hr).2 y hy)
theorem Fm.order {done:List Str}{L Ps:Str->List Str} (F:Fm done L Ps) {own o:List Str} (nd:own.Nodup) (sub:∀y∈own,y∈done) (hm:bB (total (rowsOf L own)) (rowsOf L own)=some o):o.Nodup/\(∀y∈o,y∈done) /\ ∀r∈rowsOf L own,∀y∈r,y∈o:=by
 obtain⟨⟨h1,h2⟩,_⟩:=sound _ _ rfl (fun r hr=>(F.tU nd sub r hr).1) o hm
 refine⟨h1,fun y hy=>?_,fun r hr y hy=>(h2 y).mpr ⟨r,hr,hy⟩⟩
 obtain⟨r,hr,h⟩:=(h2 y).mp hy
 exact(F.tU nd sub r hr).2 y h
theorem WA {L L':Str->List Str}{own:List Str} (h:∀y∈own,L' y=L y):rowsOf L' own=rowsOf L own:=by
 unfold rowsOf;rw[Ce h]
theorem Fm.add {done:List Str}{L Ps:Str->List Str} (F:Fm done L Ps) {k:Str}{own o:List Str} (hk:k ∉ done) (nd:own.Nodup) (h4:own.length<=4) (sub:∀y∈own,y∈done) (hm:bB (total (rowsOf L own)) (rowsOf L own)=some o) :
  Fm (done ++ [k]) (fun x=>if x=k then k::o else L x) (fun x=>if x=k then own else Ps x):=by
 have nk:∀ {y},y∈done->y≠k:=fun h z=>hk (z ▸ h)
 have ext:∀ {ps:List Str},(∀y∈ps,y∈done)->rowsOf (fun x=>if x=k then k::o else L x) ps=rowsOf L ps:=fun h=>WA fun y hy=>aE (nk (h y hy))
 obtain⟨o1,o2,_⟩:=F.order nd sub hm
 refine⟨fun x hx=>?_,fun x hx=>?_,fun x hx=>?_⟩
 ·by_cases e:x=k
  ·rw[aI e];exact⟨nd,h4,fun y hy=>oB _ (sub y hy)⟩
  ·rw[aE e]
   obtain⟨a,b,c⟩:=F.ps x (by rcases cz.mp hx with z | z;exact z;exact absurd (by simpa using z) e)
   exact⟨a,b,fun y hy=>oB _ (c y hy)⟩
 ·by_cases e:x=k
  ·refine⟨o,?_,by rw[aI e,e]⟩
   rw[aI e,ext sub];exact hm
  ·have eZ:x∈done:=by rcases cz.mp hx with z | z;exact z;exact absurd (by simpa using z) e
   obtain⟨o',h1,h2⟩:=F.ln x eZ
   refine⟨o',?_,by rw[aE e];exact h2⟩
   rw[aE e,ext (F.ps x eZ).2.2];exact h1
 ·by_cases e:x=k
  ·rw[aI e]
   refine⟨fV.mpr ⟨fun z=>hk (o2 k z),o1⟩,fun y hy=>?_⟩
   rcases a9.mp hy with z | z
   ·rw[z];exact gW _ aZ
   ·exact oB _ (o2 y z)
  ·rw[aE e]
   have eZ:x∈done:=by rcases cz.mp hx with z | z;exact z;exact absurd (by simpa using z) e
   obtain⟨a,b⟩:=F.ld x eZ
   exact⟨a,fun y hy=>oB _ (b y hy)⟩
def i6 (Ps:Str->List Str) (ks:List Str):List (Str×List Str):=ks.map fun x=>(x,Ps x)
theorem WB (Ps:Str->List Str) (ks:List Str):(i6 Ps ks).map (·.1)=ks:=by
 unfold i6;rw[my];exact List.map_id' _
theorem MG (xs:List Str):eP (xs.map V.str) none (some (-1))=xs.dropLast.map V.str:=by
 unfold eP
 have e1:HT.bf (xs.map V.str).length 0 none=0:=rfl
 have e2:HT.bf (xs.map V.str).length (xs.map V.str).length (some (-1))=xs.length - 1:=by
  rw[ar]
  unfold HT.bf
  simp
  omega
 rw[e1,e2,UN,Nat.sub_zero,<-sL,List.dropLast_eq_take]
theorem MH {p a:Addr}{H:Hp}{xs:List Str} (h:gr p H) (e:H a=some (.lst (xs.map V.str))):a≠p:=by
 rintro rfl
 obtain⟨x,y,e2,_⟩:=h
 rw[e]at e2
 have e3:xs.map V.str = [.int x,.int y]:=HO.lst.inj (ie e2)
 cases xs with
 | nil=>cases e3
 | cons z t=>cases e3
theorem fj.yl {p:Addr}{H H':Hp}{kvs:List (Key×V)}{L:Str->List Str}{x:Str} (h:fj H kvs L x) (ok:gr p H) (s:cg p H H'):fj H' kvs L x:=let ⟨a,e,q⟩:=h;⟨a,e,s.kp _ _ q (MH ok q)⟩
theorem fj.write {H H':Hp}{d:Addr}{kvs nM:List (Key×V)}{L:Str->List Str}{x:Str}{u:HO} (h:fj H kvs L x) (hd:H d=some (.dK nM)) (e:H'=upd H d u):fj H' kvs L x:=let ⟨a,e1,q⟩:=h;⟨a,e1,by rw[e,aj (bZ q hd (by intro z;cases z))];exact q⟩
theorem Nr {p d:Addr}{H H':Hp}{kvs:List (Key×V)} (ok:gr p H) (s:cg p H H') (e:H d=some (.dK kvs)):H' d=some (.dK kvs):=by
 obtain⟨x,y,ep,_⟩:=ok
 exact s.kp _ _ e (bZ e ep (by intro z;cases z))
theorem vS {p:Addr}{H H':Hp} (h:gr p H) (s:aq H H'):cg p H H':=by
 obtain⟨x,y,e,r⟩:=h
 exact⟨⟨x,y,s _ _ e,r⟩,fun b o e _=>s b o e⟩
theorem Nt {H:Hp}{kvs:List (Key×V)}{L:Str->List Str}{k:Str}{a d:Addr}{l:List Str} (hd:H d=some (.dK kvs)) (hl:H a=some (.lst (l.map V.str))) {x:Str} (h:x≠k->fj H kvs L x) :
  fj (upd H d (.dK (putK kvs (Sum.inr k) (.ref a)))) (putK kvs (Sum.inr k) (.ref a)) (fun x=>if x=k then l else L x) x:=by
 unfold fj
 rw[tD]
 by_cases e:x=k
 ·subst e
  refine⟨a,by rw[aI rfl],?_⟩
  rw[aj (bZ hl hd (by intro z;cases z))];show H a=some (.lst ((if x=x then l else L x).map V.str));rw[aI rfl];exact hl
 ·obtain⟨b,e1,e2⟩:=h e
  refine⟨b,by rw[aE (fun z=>e (sk z))];exact e1,?_⟩
  rw[aj (bZ e2 hd (by intro z;cases z))];show H b=some (.lst ((if x=k then l else L x).map V.str));rw[aE e];exact e2
theorem MI {kvs:List (Key×V)}{done:List Str}{k:Str}{v:V} (h:kvs.map (·.1)=done.map Sum.inr) (hk:k ∉ done):(putK kvs (Sum.inr k) v).map (·.1)=(done ++ [k]).map Sum.inr:=by
 have hv:cf kvs (Sum.inr k)=none:=by
  have:(cf kvs (Sum.inr k)).isSome=false:=by
   rw[<-tx,Uk]
   intro kv uQ hd
   have e:kv.1=Sum.inr k:=iG hd
   have:kv.1∈kvs.map (·.1):=bj.mpr ⟨kv,uQ,rfl⟩
   rw[h,e]at this
   obtain⟨y,hy,ey⟩:=bj.mp this
   exact hk (sk ey ▸ hy)
  cases e:cf kvs (Sum.inr k) with
  | none=>rfl
  | some _=>rw[e]at this;cases this
 rw[vL _ hv,aY,aY,h];rfl
theorem cM.Z2 {H:Hp}{vs:List V}{aa:List (Str×List Str)} (h:cM H vs aa):∃kvs,i5 H vs kvs/\kvs.map (·.1)=aa.map (·.1) /\ ∀q∈kvs,∃z,q.2=V.ref z:=by
 induction h with
 | nil=>exact⟨[],.nil,rfl,by simp⟩
 | cons p _ ih =>
  obtain⟨a,b,e,q,r⟩:=p
  obtain⟨kvs,h1,h2,h3⟩:=ih
  refine⟨(_,.ref b)::kvs,.cons ⟨a,e,q⟩ h1,by rw[d5,d5,h2],fun z hz=>?_⟩
  rcases a9.mp hz with rfl | hz
  ·exact⟨b,rfl⟩
  ·exact h3 z hz
theorem Lq {H:Hp}:∀ {vs:List V}{aa:List (Str×List Str)}{kvs:List (Str×V)},cM H vs aa->i5 H vs kvs->kvs.map (·.1)=aa.map (·.1)
 | _,_,_,.nil,.nil=>rfl
 | _,_,_,.cons ⟨a,b,e,q,r⟩ t,.cons ⟨a',e',q'⟩ t'=>by
  have ea:a=a':=by rw[e]at e';cases e';rfl
  subst ea
  rw[q]at q'
  rw[d5,d5,Lq t t']
  injection (ie q') with z
  injection z with z1 z2
  injection z1 with z3
  rw[z3]
section
variable {P : Program} {w : World} {K : Frag} {mg : Str -> Option Value} {base : Heap} {f : Addr} {fd : FuncData}
structure N0 (p:Addr) (H:Hp) (ks:List Str) (r t d1 d2:Addr) (ws:List V) (gQ:List (Key×V)) (L Ps:Str->List Str) (aa:List (Str×List Str)) (H':Hp):Prop where
 hr:H' r=some (.tup [.ref t,.ref d1,.ref d2])
 ht:H' t=some (.tup ws)
 fv:cM H' ws aa
 pm:aa.Perm (i6 Ps ks)
 fm:Fm ks L Ps
 hd:H' d2=some (.dK gQ)
 hk:gQ.map (·.1)=ks.map Sum.inr
 pl:∀x∈ks,fj H' gQ Ps x
 pa:cg p H H'
 n2:H d2=none
 so:(aa.map (·.1)).Pairwise fun a b=>eT a b=true
@[irreducible] def ug:Sp:=fun vs H Q _=>∃ (p n:Addr) (ks:List Str),vs = [.ref p,.ref n]/\gr p H/\H n=some (.lst (ks.map V.str))/\ks.Nodup/\(∀x∈ks,Nm x)/\ks.length<=8 /\
 ∀r t d1 d2 ws gQ L Ps aa H',N0 p H ks r t d1 d2 ws gQ L Ps aa H'->Q (.ref r) H'
theorem Z3 {p n:Addr}{ks:List Str}{H:Hp}{Q:VK}{E:XK} (hp:gr p H) (hn:H n=some (.lst (ks.map V.str))) (nd:ks.Nodup) (nm:∀x∈ks,Nm x) (h8:ks.length<=8)
  (q:∀r t d1 d2 ws gQ L Ps aa H',N0 p H ks r t d1 d2 ws gQ L Ps aa H'->Q (.ref r) H'):ug [.ref p,.ref n] H Q E:=by unfold ug;exact⟨p,n,ks,rfl,hp,hn,nd,nm,h8,q⟩
abbrev Pp:List Str:= ["_law_pot_here", "_law_kinds", "_law_lines", "_law_parents_here", "_law_kind", "_law_own", "_law_turn", "_law_family_here"]
theorem pK:cO Pp ["_law_pot_here", "_law_kinds"] (aH oS):=⟨rfl,rfl,rfl,by decide +kernel,rfl,by decide +kernel,by decide +kernel⟩
abbrev acD:Expr:=fH (fH (eF (cj (aU oS) 2)))
theorem Ou:cp Pp (aH oS) ["_law_kind", "_law_parents_here"] [none,some 3] (cD acD):=⟨rfl,by decide +kernel,by decide +kernel,rfl,cR (by decide +kernel),by decide +kernel⟩
theorem Z4 {fP fL:Addr}{dP dL:FuncData} (F:bw K "_law_family" "_law_family" oS f fd) (B:c7 mg) (B2:lj mg)
  (GP:aN P w K mg base aS 2 fP dP ["_law_pot_here", "_law_made"] uf) (kP:keepIn K (.ref fP)=true) (bP:Binds K dP ["_law_pot_here", "_law_made"] []) (mP:mg "_law_parents" = some (.ref fP))
  (GL:aN P w K mg base aS 2 fL dL ["_law_lines", "_law_kind", "_law_own"] uy) (kL:keepIn K (.ref fL)=true) (bL:Binds K dL ["_law_lines", "_law_kind", "_law_own"] []) (mL:mg "_law_line" = some (.ref fL)) :
  aN P w K mg base aS 3 f fd ["_law_pot_here", "_law_kinds"] ug:=by
 refine F.ok pK (fun vs H Q E h=>?_) (fun aQ A outer s H vs Q E hr h=>?_)
 ·unfold ug at h;obtain⟨p,n,ks,rfl,_⟩:=h;rfl
 ·unfold ug at h
  obtain⟨p,n,ks,rfl,hp,hn,knd,ym,k8,q⟩:=h
  have hu:=hr.units
  have gA:=vy (vz (show 1<=64 by decide) _) hu
  refine⟨_,aF (pj (gN (ae vM (ae vM ah))) (i4 rfl (cC (aR (i:=2) pK.nd rfl (Or.inl rfl)) (cC (aR (i:=3) pK.nd rfl (Or.inr rfl)) gk))))
   (aF (iw iH rfl (fq (pv 1)) (aR (i:=4) pK.nd rfl (Or.inl rfl))
    (aF (ba (i:=5) pK.nd rfl (Or.inl rfl) (bG GP hr rfl mP kP bP .nil bE (ae (pv 0) (ae (eX (Wl rfl) rfl B.list boot_list (ae (pv 2) ah)) ah))))
    (aF (iw iH rfl (lG rfl B.range (ae aD ah)) (aR (i:=6) pK.nd rfl (Or.inl rfl))
     (aP (eg (cG vZ (bG GL hr rfl mL kL bL .nil bE (ae (pv 2) (ae (pv 4) (ae (pv 5) ah)))) i3 (cB _))
      (aP (ba (i:=5) pK.nd rfl (Or.inl rfl) (dB fu (pv 5) dC (dj (zT zJ aD))))) d9)))
    (aF (zE gA (pv 2) (pv 4) (bG GL hr rfl mL kL bL .nil bE (ae (pv 2) (ae (pv 4) (ae (pv 5) ah)))) rfl)
    (aP (zE gA (pv 3) (pv 4) (pv 5) rfl))))))
   (aF (ba (i:=7) pK.nd rfl (Or.inl rfl) (eX sN rfl B.tuple boot_tuple (ae (aV Vx rfl B2.sorted boot_sorted (ae (dg rfl Ou (fq (pv 1)) (fun s H fp=>⟨aR (i:=0) Ou.nd rfl (Or.inl rfl),dh,
     gN (ae (pv 0) (ae (eX (Cm K rfl) rfl B.tuple boot_tuple (ae (zD gA (pv 1) (pv 0) (fun _ _=>rfl)) ah)) ah))⟩)) ah)) ah)))
   (aP (bu (gN (ae (pv 7) (ae (pv 2) (ae (pv 3) ah)))))))),?_⟩
  intro d1 uS d2 hd2
  have S2:aq H (upd (upd H d1 (.dK [])) d2 (.dK [])):=(ak uS).trans (ak hd2)
  have Ih:d1≠d2:=ax af hd2
  have Ex:H d2=none:=(ak uS).free hd2
  refine⟨by show 2<=sizeLine;rw[ay];decide,fun tp Ii=>?_⟩
  have k2:(upd (upd H d1 (.dK [])) d2 (.dK [])) d1=some (.dK []):=by rw[aj Ih];exact af
  have S3:=S2.trans (ak (o:= .tup [V.ref d1,.ref d2]) Ii)
  have Pq:upd (upd (upd H d1 (.dK [])) d2 (.dK [])) tp (.tup [V.ref d1,.ref d2]) d1=some (.dK []):=by rw[aj (ax k2 Ii)];exact k2
  have Pr:upd (upd (upd H d1 (.dK [])) d2 (.dK [])) tp (.tup [V.ref d1,.ref d2]) d2=some (.dK []):=by rw[aj (ax af Ii)];exact af
  refine⟨tp,_,rfl,aB.of af,rfl,_,_,rfl,_,_,rfl,rfl,?_⟩
  generalize upd (upd (upd H d1 (.dK [])) d2 (.dK [])) tp (.tup [V.ref d1,.ref d2])=H0 at S3 Pq Pr ⊢
  have P0:cg p H H0:=vS hp S3
  have np1:p≠d1:=hp.ne uS
  have np2:p≠d2:=hp.ne Ex
  have Ij:n≠p:=MH hp hn
  refine⟨_,rfl,n,rfl,⟨_,ai.of (P0.kp _ _ hn Ij)⟩,tf (xs:=ks.map V.str) (fun i σ H1=>∃ (iU gQ:List (Key×V)) (L Ps:Str->List Str) (v4 v5 v6:Option V),σ = [some (.ref p),some (.ref n),some (.ref d1),some (.ref d2),v4,v5,v6,none]/\cg p H H1 /\
   H1 d1=some (.dK iU)/\H1 d2=some (.dK gQ)/\iU.map (·.1)=(ks.take i).map Sum.inr/\gQ.map (·.1)=(ks.take i).map Sum.inr/\(∀x∈ks.take i,fj H1 iU L x)/\(∀x∈ks.take i,fj H1 gQ Ps x)/\Fm (ks.take i) L Ps)
   ⟨[],[],fun _=>[],fun _=>[],none,none,none,rfl,P0,Pq,Pr,rfl,rfl,fun x hx=>(by cases hx),fun x hx=>(by cases hx),⟨fun x hx=>(by cases hx),fun x hx=>(by cases hx),fun x hx=>(by cases hx)⟩⟩ (fun i σ H1 _ ⟨_,_,_,_,_,_,_,_,z,_⟩=>ai.of (z.kp _ _ hn Ij)) ?_ ?_⟩
  ·rintro i x σ H1 hx ⟨iU,gQ,L,Ps,v4,v5,v6,rfl,P1,n5,xK,e1,e2,l1,l2,fm⟩
   have jH:i < ks.length:=by simpa using (cq.mp hx).1
   obtain rfl:V.str ks[i]=x:=by simpa [jH] using hx
   have qm:ks.take (i+1)=ks.take i ++ [ks[i]]:=by rw[de,br jH];rfl
   have Ey:ks[i] ∉ ks.take i:=by
    have:(ks.take (i+1)).Nodup:=knd.sublist (Um _ _)
    rw[qm]at this
    exact fun z=>(qE.mp this).2.2 _ z _ aZ rfl
   have dnd:(ks.take i).Nodup:=knd.sublist (Um _ _)
   have RK:∀x∈ks.take i,Nm x:=fun x hx=>ym x (oN hx)
   have d8:(ks.take i).length<=8:=by rw[aX];omega
   have lk1:iU.length=(ks.take i).length:=by have:=gg List.length e1;simpa using this
   have lk2:gQ.length=(ks.take i).length:=by have:=gg List.length e2;simpa using this
   refine⟨_,rfl,_,rfl,d1,iU,rfl,n5,fun l hl=>?_⟩
   have ek:iU.map (fun kv=>kV kv.1)=(ks.take i).map V.str:=by
    have:iU.map (fun kv=>kV kv.1)=(iU.map (·.1)).map kV:=by rw[my];rfl
    rw[this,e1,my];rfl
   rw[ek]
   have Pl:=P1.new (o:= .lst ((ks.take i).map V.str)) hl
   have Sl:=ak (o:= .lst ((ks.take i).map V.str)) hl
   refine Z0 Pl.ok (P1.ok.ne hl) af (by omega) fun oa own rest H3 og iO jf pb h3=>?_
   have P3:=Pl.trans pb
   have jk:own.Nodup:=(qE.mp (iO.nodup_iff.mpr dnd)).1
   have i9:∀y∈own,y∈ks.take i:=fun y hy=>iO.mem_iff.mp (oB _ hy)
   have Ik:=Nr Pl.ok pb (Sl _ _ n5)
   have h32:=Nr Pl.ok pb (Sl _ _ xK)
   have Il:∀x∈ks.take i,fj H3 iU L x:=fun x hx=>((l1 x hx).same Sl).yl Pl.ok pb
   have l32:∀x∈ks.take i,fj H3 gQ Ps x:=fun x hx=>((l2 x hx).same Sl).yl Pl.ok pb
   refine⟨5,rfl,by decide,by decide,sT (fun j σ H4=>∃ (oa:Addr) (own:List Str) (v6:Option V),σ = [some (.ref p),some (.ref n),some (.ref d1),some (.ref d2),some (.str ks[i]),some (.ref oa),v6,none]/\aq H3 H4/\H4 oa=some (.lst (own.map V.str))/\own.Nodup/\(∀y∈own,y∈ks.take i)/\own.length<=4/\(bB (total (rowsOf L own)) (rowsOf L own)≠none\/own.length+j<=4))
    ⟨oa,own,_,rfl,aq.refl _,h3,jk,i9,jf,.inr jf⟩ ?_ ?_⟩
   ·clear iO jf jk i9 h3 og
    rintro j σ H4 hj ⟨oa,own,v6,rfl,S4,h4,jk,i9,jf,Im⟩
    have yh:=fm.small RK d8 jk jf i9
    have Io:=fun r hr=>(fm.tU jk i9 r hr).1
    refine⟨_,rfl,_,rfl,_,rfl,Ot (S4 _ _ Ik) h4 (fun x hx=>(Il x (i9 x hx)).same S4) yh Io (fun e H5 S5=>?_) (fun o e lp H5 hlp S5 h5=>?_)⟩
    ·refine⟨rfl,_,rfl,?_⟩
     refine⟨_,rfl,?_⟩
     have du:own ≠ []:=fun z=>by rw[z]at e;cases e
     have wQ:0 < own.length:=yQ.mpr du
     refine⟨1,rfl,_,rfl,oa,_,rfl,ai.of (S5 _ _ h4),fun c hc=>?_⟩
     refine⟨c,own.dropLast,_,rfl,(S4.trans S5).trans (ak hc),?_,jk.sublist (amE _),fun y hy=>i9 y (List.dropLast_subset _ hy),by rw[Vi];omega,.inr ?_⟩
     ·have:=MG own
      rw[af];exact gg some (gg HO.lst this)
     ·rcases Im with z | z
      ·exact absurd e z
      ·rw[Vi];omega
    ·refine⟨rfl,_,rfl,?_⟩
     exact⟨oa,own,_,rfl,S4.trans S5,S5 _ _ h4,jk,i9,jf,.inl (by rw[e];exact Option.some_ne_none _)⟩
   ·clear iO jf jk i9 h3 og
    rintro σ H4 ⟨oa,own,v6,rfl,S4,h4,jk,i9,jf,Im⟩
    have yh:=fm.small RK d8 jk jf i9
    have Io:=fun r hr=>(fm.tU jk i9 r hr).1
    have hn0:bB (total (rowsOf L own)) (rowsOf L own)≠none:=by
     rcases Im with z | z
     ·exact z
     ·exact absurd z (by show ¬ (own.length+Int.toNat 5<=4);have:Int.toNat 5=5:=rfl;omega)
    refine⟨_,rfl,_,rfl,_,rfl,Ot (S4 _ _ Ik) h4 (fun x hx=>(Il x (i9 x hx)).same S4) yh Io (fun e=>absurd e hn0) (fun o e lp H5 hlp S5 h5=>?_)⟩
    have yn:=S4.trans S5
    have BF:=yn _ _ Ik
    have h52:=yn _ _ h32
    refine⟨_,rfl,_,rfl,d1,_,rfl,nJ.k (k:=Sum.inr ks[i]) BF (by rw[ay];omega),?_⟩
    have Ip:upd H5 d1 (.dK (putK iU (Sum.inr ks[i]) (.ref lp))) d2=some (.dK gQ):=by rw[aj (aT Ih)];exact h52
    refine⟨_,rfl,_,rfl,_,rfl,d2,_,rfl,nJ.k (k:=Sum.inr ks[i]) Ip (by rw[ay];omega),?_⟩
    have P5:cg p H H5:=P3.trans (vS P3.ok yn)
    have l61:∀x∈ks.take (i+1),fj (upd H5 d1 (.dK (putK iU (Sum.inr ks[i]) (.ref lp)))) (putK iU (Sum.inr ks[i]) (.ref lp)) (fun x=>if x=ks[i] then ks[i]::o else L x) x:=fun x hx=>Nt BF h5 fun ne=>(Il x (by
     rw[qm]at hx
     rcases cz.mp hx with z | z
     ·exact z
     ·exact absurd (by simpa using z) ne)).same yn
    have h6o:upd H5 d1 (.dK (putK iU (Sum.inr ks[i]) (.ref lp))) oa=some (.lst (own.map V.str)):=by rw[aj (bZ (S5 _ _ h4) BF (by intro z;cases z))];exact S5 _ _ h4
    refine⟨_,_,_,_,_,_,_,rfl,(P5.write uS np1).write Ex np2,by rw[aj Ih];exact af,af,by rw[qm];exact MI e1 Ey,by rw[qm];exact MI e2 Ey,fun x hx=>(l61 x hx).write Ip rfl,fun x hx=>?_,by rw[qm];exact fm.add Ey jk jf i9 e⟩
    refine Nt Ip h6o fun ne=>?_
    exact((l32 x (by
     rw[qm]at hx
     rcases cz.mp hx with z | z
     ·exact z
     ·exact absurd (by simpa using z) ne)).same yn).write BF rfl
  ·rintro σ H1 ⟨iU,gQ,L,Ps,v4,v5,v6,rfl,P1,n5,xK,e1,e2,l1,l2,fm⟩
   rw[ar,dw]at e2 l2 fm
   have RL:=P1.kp _ _ hn Ij
   refine⟨_,rfl,n,rfl,⟨_,ai.of RL⟩,fun c hc=>?_⟩
   refine gK (xs:=ks.map V.str) (fun i ys τ H2=>∃t0:Option V,τ = [t0,some (.ref d2)]/\H2 c=some (.lst ys)/\aq H1 H2/\cM H2 ys (i6 Ps (ks.take i))) ⟨none,rfl,af,ak hc,.nil⟩ (fun i ys τ H2 ⟨_,_,z1,z2,_⟩=>⟨z1,ai.of (z2 _ _ RL)⟩) ?_ ?_
   ·rintro i x ys τ H2 hx ⟨t0,rfl,h2,sf,F2⟩
    have cZ:i < (ks.map V.str).length:=(cq.mp hx).1
    have jH:i < ks.length:=by simpa using cZ
    obtain rfl:V.str ks[i]=x:=by simpa [jH] using hx
    have qm:ks.take (i+1)=ks.take i ++ [ks[i]]:=by rw[de,br jH];rfl
    obtain⟨a,ea,ha⟩:=(l2 ks[i] (jl jH)).same sf
    refine⟨_,rfl,_,rfl,_,rfl,d2,.ref a,rfl,by rw[<-ea];exact iz.k (k:=Sum.inr ks[i]) (sf _ _ xK),?_⟩
    refine⟨a,_,rfl,.inl ⟨ai.of ha,fun b hb=>?_⟩⟩
    have Sb:=ak (o:= .tup ((Ps ks[i]).map V.str)) hb
    refine⟨by show 2<=sizeLine;rw[ay];decide,fun t ht=>?_⟩
    have St:=Sb.trans (ak (o:= .tup [V.str ks[i],.ref b]) ht)
    have RM:upd (upd H2 b (.tup ((Ps ks[i]).map V.str))) t (.tup [V.str ks[i],.ref b]) b=some (.tup ((Ps ks[i]).map V.str)):=by rw[aj (ax af ht)];exact af
    have yo:=St _ _ h2
    refine⟨yo,?_,cw_next cZ ⟨_,rfl,af,fun x u hx=>by rw[aj (ax hx hc)];exact St _ _ (sf x u hx),?_⟩⟩
    ·have:=F2.length
     unfold i6 at this
     rw[ar,aX]at this
     rw[ay];omega
    ·have ef:i6 Ps (ks.take (i+1))=i6 Ps (ks.take i) ++ [(ks[i],Ps ks[i])]:=by rw[qm];unfold i6;rw[aY];rfl
     rw[ef]
     refine cM.append (F2.keep fun x xs hx=>?_) ?_ ?_ (b:=b)
     ·rw[aj (bZ hx h2 (by intro z;cases z))];exact St _ _ hx
     ·rw[aj (bZ af yo (by intro z;cases z))];exact af
     ·rw[aj (bZ RM yo (by intro z;cases z))];exact RM
   ·rintro ys τ H2 ⟨t0,rfl,h2,sf,F2⟩
    rw[ar,dw]at F2
    obtain⟨kvs,pv,ekv,prf⟩:=F2.Z2
    have Bx:=F2.length
    have hlk:(i6 Ps ks).length=ks.length:=by unfold i6;exact ar ..
    refine⟨c,ys,kvs,rfl,ai.of h2,pv,prf,by rw[ekv,WB];exact knd,by omega,fun D kf eQ hD iO hpv QZ RN=>?_⟩
    have SD:=ak (o:= .lst kf) hD
    refine⟨D,kf,rfl,.inl ⟨ai.of af,fun t ht=>?_⟩⟩
    have St:=SD.trans (ak (o:= .tup kf) ht)
    obtain⟨acE,r9,F3⟩:=VW iO F2
    rw[Lq F3 hpv]at RN
    refine⟨_,rfl,_,rfl,_,rfl,by show 3<=sizeLine;rw[ay];decide,fun r hr=>?_⟩
    have Sr:=St.trans (ak (o:= .tup [V.ref t,.ref d1,.ref d2]) hr)
    have Ez:=sf.trans Sr
    refine q r t d1 d2 kf gQ L Ps acE _ ⟨af,by rw[aj (ax af hr)];exact af,cM.same F3 Sr,r9,fm,Ez _ _ xK,e2,fun x hx=>(l2 x hx).same Ez,P1.trans (vS P1.ok Ez),Ex,RN⟩
end
end bc
namespace bc
open PySem L2 PySem.W HT
theorem eJ.nodup {aa:bV} (s:gP aa) {k:Str}{l:List Str} (h:eJ aa k l):l.Nodup /\ ∀y∈l,∃m,eJ aa y m/\(y≠k->m.length < l.length):=by
 induction h with
 | mk hm hx hg ih =>
  rename_i k ps L o
  have rnd:∀r∈rowsOf L ps,r.Nodup:=fun r hr=>by
   rcases sS.mp hr with⟨y,hy,rfl⟩|rfl
   ·exact(ih y hy).1
   ·exact s.Rz _ hm
  obtain⟨⟨jk,Pt⟩,_⟩:=sound _ _ rfl rnd o hg
  have sub:∀x∈ps,∀y∈L x,y∈o:=fun x iX y hy=>(Pt y).mpr ⟨L x,sS.mpr (.inl ⟨x,iX,rfl⟩),hy⟩
  have le:∀x∈ps,(L x).length<=o.length:=fun x iX=>nB (ih x iX).1 (sub x iX)
  have self:eJ aa k (k::o):= .mk hm hx hg
  have RO:∀y∈o,∃x∈ps,y∈L x:=fun y hy=>by
   obtain⟨r,hr,Iq⟩:=(Pt y).mp hy
   rcases sS.mp hr with⟨x,iX,rfl⟩|rfl
   ·exact⟨x,iX,Iq⟩
   ·refine⟨y,Iq,?_⟩
    have:=hx y Iq
    cases e:L y with
    | nil=>rw[e]at this;cases this
    | cons a b=>rw[e]at this;cases this;exact aZ
  have line:∀x∈ps,∀y∈L x,∃m,eJ aa y m/\m.length<=(L x).length:=fun x iX y hy=>by
   obtain⟨m,h1,h2⟩:=(ih x iX).2 y hy
   by_cases e:y=x
   ·subst e;exact⟨L y,hx y iX,aO _⟩
   ·exact⟨m,h1,yC (h2 e)⟩
  have kno:k ∉ o:=fun hk=>by
   obtain⟨x,iX,hkx⟩:=RO k hk
   obtain⟨m,h1,h2⟩:=line x iX k hkx
   have e:=h1.uniq s self
   subst e
   have:=le x iX
   rw[dc]at h2
   omega
  refine⟨fV.mpr ⟨kno,jk⟩,fun y hy=>?_⟩
  rcases a9.mp hy with rfl | z
  ·exact⟨_,self,fun h=>absurd rfl h⟩
  ·obtain⟨x,iX,hyx⟩:=RO y z
   obtain⟨m,h1,h2⟩:=line x iX y hyx
   have:=le x iX
   exact⟨m,h1,fun _=>by rw[dc];omega⟩
theorem Zd {aa:bV} (s:gP aa) {k:Str}{ps:List Str} (hm:(k,ps)∈aa) (hx:∀x∈ps,Ln aa x):∀r∈rowsOf (fX aa) ps,r.Nodup:=fun r hr=>by
 rcases sS.mp hr with⟨y,hy,rfl⟩|rfl
 ·exact(eJ.nodup s (hx y hy)).1
 ·exact s.Rz _ hm
theorem Fm.all {ks:List Str}{L Ps:Str->List Str} (F:Fm ks L Ps) {aa:bV} (pm:aa.Perm (i6 Ps ks)):iA aa:=by
 have key:∀n,∀x∈ks,(L x).length=n->eJ aa x (L x):=by
  intro n
  induction n using Nat.strongRecOn with
  | _ n ih =>
   intro x hx e
   obtain⟨o,hm,hL⟩:=F.ln x hx
   obtain⟨n1,_,n3⟩:=F.ps x hx
   obtain⟨_,_,h5⟩:=F.order n1 n3 hm
   rw[hL]
   refine .mk (L:=L) (pm.mem_iff.mpr (bj.mpr ⟨x,hx,rfl⟩)) (fun y hy=>?_) hm
   refine ih _ ?_ y (n3 y hy) rfl
   have:=len_sub (F.ld y (n3 y hy)).1 fun z hz=>h5 (L y) (sS.mpr (.inl ⟨y,hy,rfl⟩)) z hz
   rw[<-e,hL,dc];omega
 intro p hp
 obtain⟨x,hx,rfl⟩:=bj.mp (pm.mem_iff.mp hp)
 have h:=key _ x hx rfl
 have hex:∃l,eJ aa x l:=⟨_,h⟩
 show eJ aa x (fX aa x)
 unfold fX
 rw[dif_pos hex]
 exact U9 hex
end bc
namespace bc
open PySem L2 PySem.W HT
theorem Z5 (c:Nat):(!(Builtin.Str.occurrences (Str.ofString "abcdefghijklmnopqrstuvwxyz") ⟨#[c]⟩ 0 (Str.ofString "abcdefghijklmnopqrstuvwxyz").length 1).isEmpty)=(decide (97<=c) && decide (c<=122)):=by
 rw[StrLaws.found_one,show(Str.ofString "abcdefghijklmnopqrstuvwxyz").cps.toList=List.range' 97 26 from by decide +kernel,<-Bool.decide_and]
 refine vA.mpr ?_
 rw[List.mem_range'_1]
 omega
section
variable {P : Program} {w : World} {K : Frag} {mg : Str -> Option Value} {base : Heap} {f : Addr} {fd : FuncData}
abbrev RP:List Str:= ["_law_thing", "_law_letters"]
theorem Nu:cO RP ["_law_thing"] (aH pC):=⟨rfl,rfl,rfl,by decide +kernel,rfl,by decide +kernel,by decide +kernel⟩
abbrev aa0:Expr:=fH (ue (wO (cj (aU pC) 1)) 2)
theorem N1:cp RP (aH pC) ["_law_sign_here", "_law_letters"] [none,some 1] (cD aa0):=⟨rfl,by decide +kernel,by decide +kernel,rfl,cR (by decide +kernel),by decide +kernel⟩
theorem Yd (F:bw K "_law_is_name" "_law_is_name" pC f fd) (B:c7 mg) (B2:lj mg):aN P w K mg base aS 1 f fd ["_law_thing"] jP:=by
 refine F.ok Nu (fun vs H Q E h=>?_) (fun aQ A outer s H vs Q E hr h=>?_)
 ·unfold jP at h;obtain⟨p,v,d,rfl,_⟩:=h;rfl
 ·unfold jP at h
  obtain⟨p0,v,d,rfl,r,hlen,q⟩:=h
  refine⟨_,aF (ba (i:=1) Nu.nd rfl (Or.inr rfl) iJ)
   (aP (bu (tP (aV mX rfl B2.oj mY (ae (pv 0) (ae (m9 (v:= .ty "str") rfl B2.str boot_str rfl) ah)))
    (tP (L9 wq wq aD (aV yY rfl B.len dz (ae (pv 0) ah)) aD)
    (Dl (aV (kH rfl) rfl B.all boot_all (ae (dg rfl N1 (NN (pv 0)) (fun s H fp=>⟨aR (i:=0) N1.nd rfl (Or.inl rfl),dh,jq WJ (pv 0) (pv 1) rfl⟩)) ah))))))),?_⟩
  refine⟨_,rfl,nh Nc r ⟨_,rfl,?_⟩⟩
  cases hb:gb "str" d with
  | false=>have q':=q _ (aq.refl _);rw[Nn hb]at q';exact q'
  | true =>
   obtain⟨x,rfl⟩:=ZR hb
   obtain rfl:=qT r
   have hlx:=hlen x rfl
   refine⟨_,rfl,x,rfl,by rw[ay];omega,0,x.length,rfl,rfl,_,rfl,?_⟩
   by_cases h1:1<=x.length
   ·refine ite_tt (cF (by omega)) ?_
    refine⟨x.length,9,rfl,rfl,_,rfl,?_⟩
    by_cases h8:x.length<=8
    ·have e8:decide ((x.length:Int) < 9)=true:=cF (by omega)
     have hlc:x.cps.size<=8:=h8
     rw[e8]
     refine⟨_,rfl,x,rfl,fun p hp=>?_⟩
     refine Mm (fun i ys τ H1=>∃t0:Option V,τ = [t0,some (.str "abcdefghijklmnopqrstuvwxyz")]/\ys=((x.cps.toList.take i).map fun c=>decide (97<=c) && decide (c<=122)).map V.bl/\H1=upd H p (.lst ys)) ⟨none,rfl,rfl,rfl⟩ (fun i ys τ H1 ⟨_,_,_,z⟩=>by rw[z];exact af) ?_ ?_
     ·rintro i c ys τ H1 hc ⟨t0,rfl,rfl,rfl⟩
      have jH:i < x.cps.size:=(vw.mp hc).1
      have rN:x.cps.toList.take (i+1)=x.cps.toList.take i ++ [c]:=by rw[de,vo,hc];rfl
      refine⟨_,rfl,_,rfl,_,_,rfl,rfl,af,by rw[ar,ar,aX,gD,ay];omega,cw_next jH ⟨_,rfl,?_,by rw[iq]⟩⟩
      rw[Z5,rN,aY,aY];rfl
     ·rintro ys τ H1 ⟨t0,rfl,rfl,rfl⟩
      refine⟨p,_,rfl,ai.of af,?_⟩
      have q':=q _ (ak (o:= .lst (((x.cps.toList.take x.cps.size).map fun c=>decide (97<=c) && decide (c<=122)).map V.bl)) hp)
      rw[show cb (.str x)=((x.cps.toList.take x.cps.size).map fun c=>decide (97<=c) && decide (c<=122)).all id by
       show d3 x=_
       unfold d3
       rw[cF h1,cF h8,mG,yR (by rw[gD];exact aO _)];rfl]at q'
      exact q'
    ·have e8:decide ((x.length:Int) < 9)=false:=c8 (by omega)
     rw[e8]
     have q':=q _ (aq.refl _)
     rw[show cb (.str x)=false by show d3 x=_;unfold d3;rw[c8 h8];simp]at q'
     exact q'
   ·refine ite_ff (c8 (by omega)) ?_
    have q':=q _ (aq.refl _)
    rw[show cb (.str x)=false by show d3 x=_;unfold d3;rw[c8 h1];simp]at q'
    exact⟨_,rfl,q'⟩
@[irreducible] def uz:Sp:=fun vs H Q _=>∃ (d oa:Addr) (kvs:List (Key×V)) (L:Str->List Str) (k:Str) (own:List Str),vs = [.ref d,.str k,.ref oa]/\H d=some (.dK kvs)/\H oa=some (.tup (own.map V.str))/\(∀x∈own,fj H kvs L x)/\Small (rowsOf L own)/\(∀r∈rowsOf L own,r.Nodup) /\
 (bB (total (rowsOf L own)) (rowsOf L own)=none -> ∀H',aq H H'->Q .aG H')/\(∀o,bB (total (rowsOf L own)) (rowsOf L own)=some o -> ∀p H',H p=none->aq H H'->H' p=some (.lst ((k::o).map V.str))->Q (.ref p) H')
theorem aa1 {d oa:Addr}{kvs:List (Key×V)}{L:Str->List Str}{k:Str}{own:List Str}{H:Hp}{Q:VK}{E:XK} (hd:H d=some (.dK kvs)) (ho:H oa=some (.tup (own.map V.str))) (hl:∀x∈own,fj H kvs L x) (hS:Small (rowsOf L own)) (dv:∀r∈rowsOf L own,r.Nodup)
  (qn:bB (total (rowsOf L own)) (rowsOf L own)=none -> ∀H',aq H H'->Q .aG H') (qs:∀o,bB (total (rowsOf L own)) (rowsOf L own)=some o -> ∀p H',H p=none->aq H H'->H' p=some (.lst ((k::o).map V.str))->Q (.ref p) H') :
  uz [.ref d,.str k,.ref oa] H Q E:=by unfold uz;exact⟨d,oa,kvs,L,k,own,rfl,hd,ho,hl,hS,dv,qn,qs⟩
theorem aa2 {fM:Addr}{md:FuncData} (F:bw K "_law_line" "_law_line" nu f fd) (B:c7 mg) (FM:bw K "_law_merged" "_law_merged" iY fM md) (bM:Binds K md ["_law_rows"] []) (mM:mg "_law_merged" = some (.ref fM)) :
  aN P w K mg base aS 2 f fd ["_law_lines", "_law_kind", "_law_own"] uz:=by
 have GM:aN P w K mg base aS 1 fM md ["_law_rows"] rz:=Oh FM B
 refine F.ok Al (fun vs H Q E h=>?_) (fun aQ A outer s H vs Q E hr h=>?_)
 ·unfold uz at h;obtain⟨d,oa,kvs,L,k,own,rfl,_⟩:=h;rfl
 ·unfold uz at h
  obtain⟨d,oa,kvs,L,k,own,rfl,hd,ho,hl,hS,dv,qn,qs⟩:=h
  have hu:=hr.units
  have gA:=vy (vz (show 1<=64 by decide) _) hu
  refine⟨_,aF (ba (i:=3) Al.nd rfl (Or.inl rfl) (bG GM hr rfl mM FM.kp bM .nil bE (ae (aL ff (dg rfl Am (iu (pv 2)) (fun s H fp=>⟨aR (i:=0) Am.nd rfl (Or.inl rfl),dh,zD gA (pv 1) (pv 0) (fun _ _=>rfl)⟩)) (cL (ae (eX oO rfl B.list boot_list (ae (pv 2) ah)) ah))) ah)))
   (aF (eg (cG vZ (pv 3) i3 (cB _)) (aP (bu i3)) d9)
   (aP (bu (aL ff (cL (ae (pv 1) ah)) (pv 3))))),?_⟩
  obtain⟨g,hg,hR⟩:=Nq hl
  have dG:own.length<=20:=hS.short own (gW _ aZ)
  refine⟨_,rfl,oa,rfl,⟨_,aB.of ho⟩,fun c hc=>L3 ho hd hg hc (by omega) ?_⟩
  have S1:=ak (o:= .lst (own.map g)) hc
  refine⟨_,rfl,oa,_,rfl,.inr (aB.of (S1 _ _ ho)),fun c1 jI=>?_⟩
  have S2:=S1.trans (ak (o:= .lst (own.map V.str)) jI)
  refine⟨by show 1<=sizeLine;rw[ay];decide,fun c2 cU=>?_⟩
  have S3:=S2.trans (ak (o:= .lst [V.ref c1]) cU)
  have k1:upd (upd H c (.lst (own.map g))) c1 (.lst (own.map V.str)) c=some (.lst (own.map g)):=by rw[aj (ax af jI)];exact af
  refine⟨c,c2,_,_,rfl,rfl,by rw[aj (ax k1 cU)];exact k1,af,by rw[ar,ay];show _+1<=_;omega,fun c3 ku=>?_⟩
  have S4:=S3.trans (ak (o:= .lst (own.map g ++ [V.ref c1])) ku)
  have k4:upd (upd (upd (upd H c (.lst (own.map g))) c1 (.lst (own.map V.str))) c2 (.lst [V.ref c1])) c3 (.lst (own.map g ++ [V.ref c1])) c1=some (.lst (own.map V.str)):=by
   have k2:upd (upd (upd H c (.lst (own.map g))) c1 (.lst (own.map V.str))) c2 (.lst [V.ref c1]) c1=some (.lst (own.map V.str)):=by rw[aj (ax af cU)];exact af
   rw[aj (ax k2 ku)];exact k2
  refine Oq (rows:=rowsOf L own) af (vC (mQ hR fun a xs _ e=>⟨trivial,S4 _ _ e⟩) trivial k4) hS dv (fun e H5 S5=>?_) (fun o e p H5 hp S5 h5=>?_)
  ·exact⟨_,rfl,rfl,_,rfl,qn e H5 (S4.trans S5)⟩
  ·refine⟨_,rfl,rfl,_,rfl,?_⟩
   refine⟨_,rfl,by show 1<=sizeLine;rw[ay];decide,fun c5 yj=>?_⟩
   have S6:=S5.trans (ak (o:= .lst [V.str k]) yj)
   have hz:=(zk e)
   have ht:=sR hS.short
   have hfw:=hS.bg
   refine⟨_,rfl,c5,p,_,_,rfl,rfl,af,by rw[aj (ax h5 yj)];exact h5,by rw[ar,ay];show 1+_<=_;omega,fun c6 yk=>?_⟩
   exact qs o e c6 _ (S4.free (S6.free yk)) (S4.trans (S6.trans (ak yk))) af
end
end bc
namespace bc
open PySem L2 PySem.W HT
theorem Xk {X:Cx}:cE X (compareOp .GtE) (fun x y H Q=>∃i j,x = .str i/\y = .str j/\Q (.bl (!eT i j)) H):=by
 intro pins s σ H x y v u Q I rx ry ⟨i,j,ex,ey,q⟩
 subst ex ey
 obtain⟨t,rfl⟩:=rx
 obtain⟨t',rfl⟩:=ry
 exact PySem.P.ge_str (cP I q rfl)
def An:PyData->Bool | .tuple es=>decide (es.length<=4) && es.all cb | _=>false
def kY:PyData->Bool | .tuple [a,b]=>cb a && An b | _=>false
theorem zP (d:PyData):(pairD d=true/\(rowOf d).length<=4) ↔ (kY d=true/\(rowOf d).Nodup):=by
 match d with
 | .tuple [a,.tuple es] =>
  show((cb a && (es.all cb && decide (es.map strOf).Nodup))=true/\(es.map strOf).length<=4) ↔ ((cb a && (decide (es.length<=4) && es.all cb))=true/\(es.map strOf).Nodup)
  simp only[gY,oM,ar]
  constructor
  ·rintro⟨⟨h1,h2,h3⟩,h4⟩;exact⟨⟨h1,h4,h2⟩,h3⟩
  ·rintro⟨⟨h1,h4,h2⟩,h3⟩;exact⟨⟨h1,h2,h3⟩,h4⟩
 | .tuple [a,.none] | .tuple [a,.bool _] | .tuple [a,.int _] | .tuple [a,.str _] | .tuple [a,.list _] | .tuple [a,.dict _] =>
  constructor
  ·rintro⟨h,_⟩
   have:=(eV.mp h).2
   cases this
  ·rintro⟨h,_⟩
   have:=(eV.mp h).2
   cases this
 | .tuple [] | .tuple [_] | .tuple (_::_::_::_) | .none | .bool _ | .int _ | .str _ | .list _ | .dict _ =>
  constructor
  ·rintro⟨h,_⟩;cases h
  ·rintro⟨h,_⟩;cases h
theorem Nv (ds:List PyData):jX (.tuple ds)=(ds.all kY && (g9 (keysOf (cH ds)) && ((cH ds).all (fun p=>decide p.2.Nodup && p.2.all fun x=>decide (x∈keysOf (cH ds))) && @decide (iA (cH ds)) (Classical.propDecidable _)))):=by
 rw[zH,qv]
 have mem:∀ {C:Str×List Str->Prop},(∀p∈cH ds,C p) ↔ ∀d∈ds,C (keyOf d,rowOf d):=fun {C}=>⟨fun h d hd=>h _ (bj.mpr ⟨d,hd,rfl⟩),fun h p hp=>by obtain⟨d,hd,rfl⟩:=bj.mp hp;exact h d hd⟩
 unfold hU
 simp only[gY,fo,oM]
 rw[mem,mem]
 constructor
 ·rintro⟨h1,h2,h3,h4⟩
  exact⟨fun d hd=>((zP d).mp ⟨h1 d hd,(h3 d hd).1⟩).1,h2,fun d hd=>⟨((zP d).mp ⟨h1 d hd,(h3 d hd).1⟩).2,(h3 d hd).2⟩,h4⟩
 ·rintro⟨h1,h2,h3,h4⟩
  exact⟨fun d hd=>((zP d).mpr ⟨h1 d hd,(h3 d hd).1⟩).1,h2,fun d hd=>⟨((zP d).mpr ⟨h1 d hd,(h3 d hd).1⟩).2,(h3 d hd).2⟩,h4⟩
theorem aa3 {d:PyData} (h:gb "tuple" d=false):kY d=false:=by cases d <;> first | rfl | cases h
theorem Z6 {ds:List PyData} (h:ds.length≠2):kY (.tuple ds)=false:=by
 match ds,h with
 | [],_=>rfl
 | [_],_=>rfl
 | [_,_],h=>exact absurd rfl h
 | _::_::_::_,_=>rfl
theorem Z7 {a b:PyData} (h:gb "tuple" b=false):kY (.tuple [a,b])=false:=by
 show(cb a && An b)=false
 cases b <;> first | exact Bool.and_false _ | cases h
theorem aa4 {d:PyData} (h:kY d=true):∃c es,d = .tuple [c,.tuple es]/\cb c=true/\es.length<=4/\es.all cb=true:=by
 match d,h with
 | .tuple [a,b],h =>
  obtain⟨h1,h2⟩:=eV.mp (show(cb a && An b)=true from h)
  cases b with
  | tuple es =>
   obtain⟨h3,h4⟩:=eV.mp (show(decide (es.length<=4) && es.all cb)=true from h2)
   exact⟨a,es,rfl,h1,iG h3,h4⟩
  | _=>cases h2
theorem Nw {p:Addr}{H:Hp}:∀ {vs:List V}{ds:List PyData},bp p H vs ds->ds.all kY=true->cM H vs (cH ds) /\ ∀q∈cH ds,d3 q.1=true/\(∀x∈q.2,d3 x=true)/\q.2.length<=4
 | _,_,.nil,_=>⟨.nil,fun q hq=>by cases hq⟩
 | _,_,.cons r rs,h=>by
  rw[vn,gY]at h
  obtain⟨F,all⟩:=Nw rs h.2
  obtain⟨c,es,rfl,hn,h4,he⟩:=aa4 h.1
  have ec:=zy hn
  have ee:=ze he
  obtain⟨a,ws,rfl,_,ha,eG⟩:=lJ r
  obtain⟨v0,ws1,rfl,r0,eG⟩:=mZ eG
  obtain⟨v1,ws2,rfl,r1,eG⟩:=mZ eG
  obtain rfl:=vW eG
  rw[ec]at r0
  rw[qT r0]at ha
  obtain⟨b,us,rfl,_,fb,ru⟩:=lJ r1
  rw[ee]at ru
  rw[zz ru]at fb
  have ek:keyOf (.tuple [c,.tuple es])=strOf c:=by rw[ec];rfl
  have nm:∀ {e:PyData},cb e=true->d3 (strOf e)=true:=fun {e} h=>by
   rw[zy h]at h;exact h
  refine⟨.cons ⟨a,b,rfl,by show H a=some (.tup [.str (keyOf (.tuple [c,.tuple es])),.ref b]);rw[ek];exact ha,fb⟩ F,fun q hq=>?_⟩
  rcases a9.mp hq with rfl | z
  ·refine⟨by show d3 (keyOf (.tuple [c,.tuple es]))=true;rw[ek];exact nm hn,fun x hx=>?_,by show(es.map strOf).length<=4;rw[ar];exact h4⟩
   obtain⟨e,hem,rfl⟩:=bj.mp hx
   exact nm (fo.mp he e hem)
  ·exact all q z
def ot:List Str->List Bool
 | x::y::r=>(!eT x y)::ot (y::r)
 | _=>[]
theorem Di:∀xs:List Str,(ot xs).length=xs.length - 1
 | []=>rfl
 | [_]=>rfl
 | x::y::r=>by show(ot (y::r)).length+1=_;rw[Di (y::r)];rfl
theorem Nx:∀ {xs:List Str}{i:Nat}{a b:Str},xs[i]? = some a->xs[i+1]? = some b->(ot xs)[i]? = some (!eT a b)
 | [],i,a,b,h,_=>by cases h
 | [_],i,a,b,_,h=>by cases i <;> simp at h
 | x::y::r,0,a,b,h,h'=>by cases h;cases h';rfl
 | x::y::r,i+1,a,b,h,h'=>by
  show(ot (y::r))[i]? = _
  exact Nx (by simpa using h) (by simpa using h')
theorem Dv {a b c:Str} (h1:eT a b=true) (h2:eT b c=true):eT a c=true:=
 cF (List.lt_trans (iG h1) (iG h2))
theorem Ye (x y:Str) (r:List Str):g9 (x::y::r)=(eT x y && g9 (y::r)):=by
 unfold g9
 rw[qv,gY,oM,oM,List.pairwise_cons]
 constructor
 ·rintro⟨h1,h2⟩;exact⟨h1 y aZ,h2⟩
 ·rintro⟨h1,h2⟩
  refine⟨fun z hz=>?_,h2⟩
  rcases a9.mp hz with rfl | hz
  ·exact h1
  ·exact Dv h1 ((List.pairwise_cons.mp h2).1 z hz)
theorem MJ:∀xs:List Str,g9 xs = !((ot xs).any id)
 | []=>rfl
 | [x]=>by show decide _=_;exact cF (amw _ _)
 | x::y::r=>by
  rw[Ye,MJ (y::r)]
  show _ = !((!eT x y) || (ot (y::r)).any id)
  cases eT x y <;> simp
def gx (kvs:List (Key×V)) (x:Str):Bool:= !decide ((cf kvs (Sum.inr x)).getD .aG=V.aG)
theorem CQ {k:Key}{v:V}:∀ {kvs more:List (Key×V)},cf kvs k=some v->cf (kvs++more) k=some v
 | [],_,h=>by cases h
 | p::kvs,more,h=>by
  by_cases e:p.1=k
  ·rw[iI e]at h;rw[UO,iI e];exact h
  ·rw[ip e]at h;rw[UO,ip e];exact CQ h
theorem Xl {kvs more:List (Key×V)}{x:Str} (h:isDone kvs x=true):isDone (kvs++more) x=true:=by
 unfold isDone at h ⊢
 obtain⟨v,e⟩:=JY.mp h
 rw[CQ e];rfl
theorem Ze {kvs more:List (Key×V)}{x:Str} (h:gx kvs x=true):gx (kvs++more) x=true:=by
 unfold gx at h ⊢
 cases e:cf kvs (Sum.inr x) with
 | none=>rw[e]at h;exact absurd h (by decide)
 | some v=>rw[CQ e];rw[e]at h;exact h
theorem vL {kvs:List (Key×V)}{x:Str}{v:V} (h:isDone kvs x=false):putK kvs (Sum.inr x) v=kvs ++ [(Sum.inr x,v)]:=by
 unfold putK
 rw[aE]
 intro z
 obtain⟨kv,hm,e⟩:=qD.mp z
 have:=vQ (kvs:=kvs) (x:=x) (bj.mpr ⟨kv,hm,iG e⟩)
 rw[this]at h;cases h
def Cl (aa:bV) (kvs:List (Key×V)):Prop:= ∀p∈aa,(∀x∈p.2,gx kvs x=true)->isDone kvs p.1=true
structure qo (H0:Hp) (aa:bV) (d:Addr) (kvs:List (Key×V)) (H1:Hp):Prop where
 hd:H1 d=some (.dK kvs)
 val:∀x v,cf kvs (Sum.inr x)=some v->(v=V.aG/\uc aa x) \/ ∃a,v = .ref a/\H1 a=some (.lst ((fX aa x).map V.str))/\Ln aa x
 ky:ud aa kvs
 same:aq H0 H1
theorem qo.ln {H0:Hp}{aa:bV}{d:Addr}{kvs:List (Key×V)}{H1:Hp} (I:qo H0 aa d kvs H1) {x:Str} (h:gx kvs x=true):fj H1 kvs (fX aa) x/\Ln aa x:=by
 unfold gx at h
 cases e:cf kvs (Sum.inr x) with
 | none=>rw[e]at h;exact absurd h (by decide)
 | some v =>
  rw[e]at h
  rcases I.val x v e with⟨rfl,_⟩|⟨a,rfl,h1,h2⟩
  ·exact absurd h (by decide)
  ·exact⟨⟨a,e,h1⟩,h2⟩
theorem qo.iff {H0:Hp}{aa:bV}{d:Addr}{kvs:List (Key×V)}{H1:Hp} (I:qo H0 aa d kvs H1) (ok:gP aa) (h:Cl aa kvs\/aa.length<=kvs.length):((keysOf aa).map (gx kvs)).all id=@decide (iA aa) (Classical.propDecidable _):=by
 have cl:Cl aa kvs:=by
  rcases h with h | h
  ·exact h
  ·intro p hp _
   refine vQ (NV I.ky.1 (b:=(aa.map (·.1)).map (Sum.inr:Str->Key)) (fun k hk=>?_) (by simp only[ar];omega) (bj.mpr ⟨p.1,bj.mpr ⟨p,hp,rfl⟩,rfl⟩))
   obtain⟨p,hp,rfl⟩:=I.ky.2 k hk
   exact bj.mpr ⟨p.1,bj.mpr ⟨p,hp,rfl⟩,rfl⟩
 have e:((keysOf aa).map (gx kvs)).all id=true ↔ iA aa:=by
  rw[mG,fo]
  constructor
  ·intro h p hp
   exact(I.ln (h p.1 (bj.mpr ⟨p,hp,rfl⟩))).2
  ·intro all x hx
   obtain⟨p,hp,rfl⟩:=bj.mp hx
   refine closed ok (D:=fun x=>gx kvs x=true) (B:=uc aa) (fun k hk=>hk.no ok) (fun p hp hx=>?_) (all p hp)
   have dn:=cl p hp hx
   unfold isDone at dn
   obtain⟨v,ev⟩:=JY.mp dn
   rcases I.val p.1 v ev with⟨rfl,st⟩|⟨a,rfl,_,_⟩
   ·exact .inr st
   ·refine .inl ?_
    show(!decide ((cf kvs (Sum.inr p.1)).getD .aG=V.aG))=true
    rw[ev];rfl
 by_cases al:iA aa
 ·rw[e.mpr al,@cF _ (Classical.propDecidable _) al]
 ·rw[@c8 _ (Classical.propDecidable _) al]
  cases z:((keysOf aa).map (gx kvs)).all id with
  | false=>rfl
  | true=>exact absurd (e.mp z) al
section
variable {P : Program} {w : World} {K : Frag} {mg : Str -> Option Value} {base : Heap} {f : Addr} {fd : FuncData}
abbrev rC:List Str:= ["_law_thing", "_law_pair", "_law_kinds", "_law_kind", "_law_own", "_law_lines", "_law_turn"]
theorem nC:cO rC ["_law_thing"] (aH jr):=⟨rfl,rfl,rfl,by decide +kernel,rfl,by decide +kernel,by decide +kernel⟩
abbrev vi (i:Nat):Stmt:=cj (aU jr) i
abbrev eL1:Expr:=fH (rn (ue (pE (cj (lI (vi 1)) 1)) 2))
abbrev eL2:Expr:=eF (vi 2)
abbrev eL3:Expr:=fH (pE (vi 3))
abbrev eL4:Expr:=fH (rn (ue (pE (cj (lI (vi 4)) 0)) 1))
abbrev eL6:Expr:=fH (ue (pE (cj (lI (cj (lI (vi 6)) 0)) 0)) 1)
abbrev eL7:Expr:=fH (wO (vi 7))
theorem Pu:cp rC (aH jr) ["_law_one"] [none] (cD eL1):=⟨rfl,by decide +kernel,by decide +kernel,rfl,cR (by decide +kernel),by decide +kernel⟩
theorem EA:cp rC (aH jr) ["_law_kind", "_law_own"] [none,none] (cD eL2):=⟨rfl,by decide +kernel,by decide +kernel,rfl,cR (by decide +kernel),by decide +kernel⟩
theorem EB:cp rC (aH jr) ["_law_one", "_law_other"] [none,none] (cD eL3):=⟨rfl,by decide +kernel,by decide +kernel,rfl,cR (by decide +kernel),by decide +kernel⟩
theorem Pw:cp rC (aH jr) ["_law_one", "_law_kinds"] [none,some 2] (cD eL4):=⟨rfl,by decide +kernel,by decide +kernel,rfl,cR (by decide +kernel),by decide +kernel⟩
theorem Px:cp rC (aH jr) ["_law_one", "_law_lines"] [none,some 5] (cD eL6):=⟨rfl,by decide +kernel,by decide +kernel,rfl,cR (by decide +kernel),by decide +kernel⟩
theorem Py:cp rC (aH jr) ["_law_kind", "_law_lines"] [none,some 5] (cD eL7):=⟨rfl,by decide +kernel,by decide +kernel,rfl,cR (by decide +kernel),by decide +kernel⟩
theorem Z8 {fN fT:Addr}{dN dT:FuncData} (F:bw K "_law_is_family" "_law_is_family" jr f fd) (B:c7 mg) (B2:lj mg) (bs:mg "set" = none) (bz:mg "zip" = none)
  (GN:aN P w K mg base aS 1 fN dN ["_law_thing"] jP) (kN:keepIn K (.ref fN)=true) (bN:Binds K dN ["_law_thing"] []) (mN:mg "_law_is_name" = some (.ref fN))
  (GT:aN P w K mg base aS 2 fT dT ["_law_lines", "_law_kind", "_law_own"] uz) (kT:keepIn K (.ref fT)=true) (bT:Binds K dT ["_law_lines", "_law_kind", "_law_own"] []) (mT:mg "_law_line" = some (.ref fT)):aN P w K mg base aS 3 f fd ["_law_thing"] lP:=by
 refine F.ok nC (fun vs H Q E h=>?_) (fun aQ A outer s H vs Q E hr h=>?_)
 ·unfold lP at h;obtain⟨p,v,d,rfl,_⟩:=h;rfl
 ·unfold lP at h
  obtain⟨p,v,d,rfl,rd,hb,Ic,q⟩:=h
  have ia:bQ 2 _:=hr
  have cY:bQ 1 _:=ia.mono (by decide)
  have hu:=hr.units
  have gA:=vy (vz (show 1<=64 by decide) _) hu
  refine⟨_,aF (eg (gL (gE (aV mX rfl B2.oj mY (ae (pv 0) (ae (m9 (v:= .ty "tuple") rfl B.tuple boot_tuple rfl) ah))))) (aP (bu g7)) d9)
   (aF (iw iH rfl (iu (pv 0)) (aR (i:=1) nC.nd rfl (Or.inl rfl))
    (aF (eg (PW.pt (pw_or (gL (gE (aV mX rfl B2.oj mY (ae (pv 1) (ae (m9 (v:= .ty "tuple") rfl B.tuple boot_tuple rfl) ah)))))
      (pw_or (cG wo (aV eW rfl B.len dz (ae (pv 1) ah)) aD (cB _))
      (pw_or1 (gL (gE (bG GN cY rfl mN kN bN .nil bE (ae (bC js (pv 1) aD (fun _ _=>rfl)) ah)))))))) (aP (bu g7)) d9)
    (aP (eg (PW.pt (pw_or (gL (gE (aV mX rfl B2.oj mY (ae (bC js (pv 1) aD (fun _ _=>rfl)) (ae (m9 (v:= .ty "tuple") rfl B.tuple boot_tuple rfl) ah)))))
      (pw_or (cG zU (aV eW rfl B.len dz (ae (bC js (pv 1) aD (fun _ _=>rfl)) ah)) aD (cB _))
      (pw_or1 (gL (gE (aV (kH rfl) rfl B.all boot_all (ae (dg rfl Pu (iu (bC js (pv 1) aD (fun _ _=>rfl))) (fun s H fp=>⟨aR (i:=0) Pu.nd rfl (Or.inl rfl),dh,bG GN cY rfl mN kN bN .nil bE (ae (pv 0) ah)⟩)) ah)))))))) (aP (bu g7)) d9))))
   (aF (ba (i:=2) nC.nd rfl (Or.inr rfl) (dg rfl EA (iu (pv 0)) (fun s H fp=>⟨qM (n:=2) K rfl rfl (cC (aR (i:=0) EA.nd rfl (Or.inl rfl)) (cC (aR (i:=1) EA.nd rfl (Or.inl rfl)) gk)),dh,pv 0⟩)))
   (aF (eg (gE (aV (CM rfl) rfl B.any boot_any (ae (dg rfl EB (YT rfl bz (ae (pv 2) (ae (dB fu (pv 2) (dj aD) dC) ah))) (fun s H fp=>⟨qM (n:=2) K rfl rfl (cC (aR (i:=0) EB.nd rfl (Or.inl rfl)) (cC (aR (i:=1) EB.nd rfl (Or.inl rfl)) gk)),dh,jq Xk (pv 0) (pv 1) (cB _)⟩)) ah))) (aP (bu g7)) d9)
   (aF (iw iH rfl (iu (pv 0)) (i4 (n:=2) rfl (cC (aR (i:=3) nC.nd rfl (Or.inl rfl)) (cC (aR (i:=4) nC.nd rfl (Or.inl rfl)) gk)))
    (aP (eg (PW.pt (pw_or (cG wq (aV K0 rfl B.len dz (ae (eX (C3 rfl) rfl bs boot_set (ae (pv 4) ah)) ah)) (aV eW rfl B.len dz (ae (pv 4) ah)) (cB _))
      (pw_or1 (gL (gE (aV (kH rfl) rfl B.all boot_all (ae (dg rfl Pw (iu (pv 4)) (fun s H fp=>⟨aR (i:=0) Pw.nd rfl (Or.inl rfl),dh,jq (De K rfl) (pv 0) (pv 1) rfl⟩)) ah))))))) (aP (bu g7)) d9)))
   (aF (ba (i:=5) nC.nd rfl (Or.inr rfl) vM)
   (aF (iw iH rfl (lG rfl B.range (ae (aV eW rfl B.len dz (ae (pv 0) ah)) ah)) (aR (i:=6) nC.nd rfl (Or.inl rfl))
    (aP (iw iH rfl (iu (pv 0)) (i4 (n:=2) rfl (cC (aR (i:=3) nC.nd rfl (Or.inl rfl)) (cC (aR (i:=4) nC.nd rfl (Or.inl rfl)) gk)))
     (aP (eg (PW.pt (pw_and (NC (LJ gA (pv 3) (pv 5)))
       (pw_and1 (gE (aV (kH rfl) rfl B.all boot_all (ae (dg rfl Px (iu (pv 4)) (fun s H fp=>⟨aR (i:=0) Px.nd rfl (Or.inl rfl),dh,jq MQ (Nd K rfl amG Va amH NP (pv 1) (ae (pv 0) ah)) i3 (cB _)⟩)) ah))))))
      (aP (zE gA (pv 5) (pv 3) (bG GT ia rfl mT kT bT .nil bE (ae (pv 5) (ae (pv 3) (ae (pv 4) ah)))) rfl)) d9)))))
   (aP (bu (aV (kH rfl) rfl B.all boot_all (ae (dg rfl Py (fq (pv 2)) (fun s H fp=>⟨aR (i:=0) Py.nd rfl (Or.inl rfl),dh,jq MQ (Nd K rfl amG Va amH NP (pv 1) (ae (pv 0) ah)) i3 (cB _)⟩)) ah)))))))))),?_⟩
  have q0:=q _ (aq.refl _)
  refine⟨_,rfl,nh kit_tuple rd ⟨_,rfl,?_⟩⟩
  cases ht:gb "tuple" d with
  | false=>rw[NY ht]at q0;exact q0
  | true =>
  obtain⟨ds,rfl⟩:=is_tup ht
  obtain⟨a,vs,rfl,na,ha,rs⟩:=lJ rd
  have hl:=rs.length
  have acz:=Ic ds rfl
  obtain⟨om,_⟩:=hb.tup
  have qf:∀H',aq H H'->ds.all kY=false->Q (.bl false) H':=fun H' S hf=>by
   have:=q H' S
   rw[Nv,hf]at this
   exact this
  refine⟨_,rfl,a,rfl,⟨_,aB.of ha⟩,C7 (xs:=vs) (fun i σ H1=>∃v1:Option V,σ = [some (.ref a),v1,none,none,none,none,none]/\aq H H1/\(ds.take i).all kY=true) ⟨none,rfl,aq.refl _,rfl⟩ (fun i σ H1 _ ⟨_,_,z,_⟩=>aB.of (z _ _ ha)) ?_ ?_⟩
  ·rintro i x σ H1 hx ⟨v1,rfl,S1,aA⟩
   have aM:i < vs.length:=(cq.mp hx).1
   have uW:i < ds.length:=by omega
   obtain⟨x',eZ,rx⟩:=(rs.get (br uW))
   rw[hx]at eZ;cases eZ
   have tk:ds.take (i+1)=ds.take i ++ [ds[i]]:=by rw[de,br uW];rfl
   have dm:=jl uW
   generalize ds[i]=di at rx tk dm
   have RQ:=Dt.same rx S1
   have bad:∀H',aq H1 H'->kY di=false->Q (.bl false) H':=fun H' S hf=>qf H' (S1.trans S) (by
    cases z:ds.all kY with
    | false=>rfl
    | true=>have:=fo.mp z di dm;rw[hf]at this;cases this)
   have RS:=om di dm
   refine⟨_,rfl,nh kit_tuple RQ ⟨_,rfl,?_⟩⟩
   cases hd:gb "tuple" di with
   | false=>exact bad _ (aq.refl _) (aa3 hd)
   | true =>
   obtain⟨es,rfl⟩:=is_tup hd
   obtain⟨b,us,rfl,nb,fb,ru⟩:=lJ RQ
   have hul:=ru.length
   refine⟨_,rfl,b,_,rfl,.inr (aB.of fb),rfl,_,rfl,?_⟩
   by_cases h2:es.length=2
   case neg =>
    rw[show decide (V.int (us.length:Int)=V.int 2)=false from c8 fun z=>h2 (by injection z with z;omega)]
    exact bad _ (aq.refl _) (Z6 h2)
   rw[show decide (V.int (us.length:Int)=V.int 2)=true from cF (by rw[hul,h2];rfl)]
   obtain⟨e0,e1,rfl⟩:∃e0 e1,es = [e0,e1]:=by
    match es,h2 with
    | [e0,e1],_=>exact⟨e0,e1,rfl⟩
   obtain⟨u0,us1,rfl,r0,ru⟩:=mZ ru
   obtain⟨u1,us2,rfl,r1,ru⟩:=mZ ru
   obtain rfl:=vW ru
   have b0:=RS.tup.1 e0 aZ
   have b1:=RS.tup.1 e1 (bX _ aZ)
   refine⟨_,rfl,b,_,0,u0,rfl,rfl,aB.of fb,Er,vR r0 b0.sm.str fun H2 S2=>⟨_,rfl,?_⟩⟩
   cases hn:cb e0 with
   | false=>exact bad _ S2 (by show(cb e0 && An e1)=false;rw[hn];rfl)
   | true =>
   have pV:=S2 _ _ fb
   refine⟨_,rfl,b,_,1,u1,rfl,rfl,aB.of pV,Ak,nh kit_tuple (Dt.same r1 S2) ⟨_,rfl,?_⟩⟩
   cases RT:gb "tuple" e1 with
   | false=>exact bad _ S2 (Z7 RT)
   | true =>
   obtain⟨gs,rfl⟩:=is_tup RT
   obtain⟨g,ws,rfl,ng,hg,rg⟩:=lJ (Dt.same r1 S2)
   have hgl:=rg.length
   refine⟨_,rfl,b,_,1,.ref g,rfl,rfl,aB.of pV,Ak,g,_,rfl,.inr (aB.of hg),_,_,rfl,rfl,_,rfl,?_⟩
   by_cases h4:gs.length<=4
   case neg =>
    rw[show decide ((ws.length:Int) > 4)=true from cF (by omega)]
    exact bad _ S2 (by show(cb e0 && (decide (gs.length<=4) && gs.all cb))=false;rw[c8 h4];simp)
   rw[show decide ((ws.length:Int) > 4)=false from c8 (by omega)]
   refine⟨_,rfl,b,_,1,.ref g,rfl,rfl,aB.of pV,Ak,g,rfl,⟨_,aB.of hg⟩,fun c hc=>?_⟩
   refine tG (p:=p) (g:=cb) hg rg hc (by omega) (fun v d H3 Q1 hd S3 r3 q1=>⟨_,rfl,vR r3 (b1.tup.1 d hd).sm.str q1⟩) fun H3 S3 h3=>⟨c,_,rfl,ai.of h3,_,rfl,?_⟩
   rw[show((gs.map cb).all id)=gs.all cb by rw[mG];rfl]
   cases RU:gs.all cb with
   | false=>exact bad _ (S2.trans S3) (by show(cb e0 && (decide (gs.length<=4) && gs.all cb))=false;rw[RU];simp)
   | true =>
    refine⟨_,rfl,S1.trans (S2.trans S3),?_⟩
    rw[tk,List.all_append,aA,vn,List.all_nil,Kw,Bool.true_and]
    show(cb e0 && (decide (gs.length<=4) && gs.all cb))=true
    rw[hn,cF h4,RU];rfl
  rintro σ H1 ⟨v1,rfl,S1,aA⟩
  rw[hl,dw]at aA
  obtain⟨FV,all⟩:=Nw rs aA
  have fl:(cH ds).length=ds.length:=by unfold cH;rw[ar]
  have q2:∀H',aq H H'->Q (.bl (g9 (keysOf (cH ds)) && ((cH ds).all (fun p=>decide p.2.Nodup && p.2.all fun x=>decide (x∈keysOf (cH ds))) && @decide (iA (cH ds)) (Classical.propDecidable _)))) H':=fun H' S=>by
   have:=q H' S
   rw[Nv,aA]at this
   exact this
  clear q q0 qf
  generalize cH ds=aa at FV all fl q2
  have BC:=FV.same S1
  have eI:=S1 _ _ ha
  refine⟨_,rfl,a,rfl,⟨_,aB.of eI⟩,fun kc xu=>?_⟩
  refine oR (xs:=vs) (fun i ys τ H2=>∃t0 t1:Option V,τ = [t0,t1]/\ys=(keysOf (aa.take i)).map V.str/\H2=upd H1 kc (.lst ys)) ⟨none,none,rfl,rfl,rfl⟩ (fun i ys τ H2 ⟨_,_,_,_,z⟩=>by rw[z];exact⟨af,aB.of (ak xu _ _ eI)⟩) ?_ ?_
  ·rintro i x ys τ H2 hx ⟨t0,t1,rfl,rfl,rfl⟩
   have aM:i < vs.length:=(cq.mp hx).1
   obtain⟨pp,fc,a',b',rfl,gB,cX⟩:=gm BC hx
   have tk:aa.take (i+1)=aa.take i ++ [pp]:=by rw[de,fc];rfl
   refine⟨a',_,rfl,aB.of (ak xu _ _ gB),rfl,_,_,rfl,_,_,rfl,rfl,_,rfl,af,?_,cw_next aM ⟨_,_,rfl,?_,by rw[iq]⟩⟩
   ·unfold keysOf;rw[ar,ar,aX,ay];omega
   ·rw[tk];unfold keysOf;rw[aY,aY];rfl
  rintro ys τ H2 ⟨t0,t1,rfl,rfl,rfl⟩
  rw[hl,<-fl,dw]
  have S2:=S1.trans (ak (o:= .lst ((keysOf aa).map V.str)) xu)
  have BG:upd H1 kc (.lst ((keysOf aa).map V.str)) kc=some (.lst ((keysOf aa).map V.str)):=af
  generalize upd H1 kc (.lst ((keysOf aa).map V.str))=H2 at S2 BG ⊢
  have kl:(keysOf aa).length=aa.length:=by unfold keysOf;rw[ar]
  refine⟨_,rfl,_,rfl,_,rfl,kc,_,rfl,ai.of BG,fun sa RV=>?_⟩
  rw[show eP ((keysOf aa).map V.str) (some (1:Int)) none=((keysOf aa).drop 1).map V.str by rw[show(1:Int)=((1:Nat):Int) from rfl,jn,mz]]
  have S3:=S2.trans (ak (o:= .lst (((keysOf aa).drop 1).map V.str)) RV)
  have yp:=ak (o:= .lst (((keysOf aa).drop 1).map V.str)) RV _ _ BG
  have fU:upd H2 sa (.lst (((keysOf aa).drop 1).map V.str)) sa=_:=af
  generalize upd H2 sa (.lst (((keysOf aa).drop 1).map V.str))=H3 at S3 yp fU ⊢
  refine⟨kc,sa,rfl,⟨_,ai.of yp⟩,⟨_,ai.of fU⟩,fun za RW=>?_⟩
  refine W' (xs:=(keysOf aa).map V.str) (ys:=((keysOf aa).drop 1).map V.str) ((keysOf aa).length - 1) (by rw[ar,ar,d6];omega) (fun i zs τ H4=>∃t0 t1:Option V,τ = [t0,t1]/\zs=((ot (keysOf aa)).take i).map V.bl/\aq H3 H4/\H4 za=some (.lst zs)) ⟨none,none,rfl,rfl,ak RW,af⟩ (fun i zs τ H4 ⟨_,_,_,_,z,z2⟩=>⟨z2,ai.of (z _ _ yp),ai.of (z _ _ fU)⟩) ?_ ?_
  ·rintro i x y zs τ H4 t hx hy ⟨t0,t1,rfl,rfl,S4,h4⟩ yo
   rw[gX]at hx hy
   obtain⟨xa,hxa,rfl⟩:=iF.mp hx
   obtain⟨xb,Ir,rfl⟩:=iF.mp hy
   rw[List.getElem?_drop,Uz]at Ir
   have aM:i < (keysOf aa).length - 1:=by have:=(cq.mp Ir).1;omega
   have gz:=Nx hxa Ir
   have St:=ak (o:= .tup [V.str xa,V.str xb]) yo
   refine⟨t,_,rfl,aB.of af,rfl,_,_,rfl,_,_,rfl,rfl,_,rfl,_,rfl,xa,xb,rfl,rfl,St _ _ h4,?_,cw_next aM ⟨_,_,rfl,?_,fun b o e=>?_,af⟩⟩
   ·rw[ar,aX,Di,ay];omega
   ·rw[de,gz,aY];rfl
   ·rw[aj (ax e RW)];exact St _ _ (S4 _ _ e)
  rintro zs τ H4 ⟨t0',QR,rfl,rfl,S4,h4⟩
  rw[yR (by rw[Di];exact aO _)]at h4
  refine⟨za,_,rfl,ai.of h4,_,rfl,?_⟩
  have kz:=S3.trans S4
  have qj:=MJ (keysOf aa)
  cases hz:(ot (keysOf aa)).any id with
  | true =>
   have q3:=q2 _ kz
   rw[qj,hz]at q3
   exact q3
  | false =>
  rw[hz]at qj
  have qY:g9 (keysOf aa)=true:=qj
  rw[qY]at q2
  have Iu:=S4 _ _ yp
  have ql:=kz _ _ ha
  have RX:=FV.same kz
  refine⟨_,rfl,a,rfl,⟨_,aB.of ql⟩,C7 (xs:=vs) (fun i σ H5=>∃v3 v4:Option V,σ = [some (.ref a),v1,some (.ref kc),v3,v4,none,none]/\aq H4 H5/\(aa.take i).all (fun p=>decide p.2.Nodup && p.2.all fun x=>decide (x∈keysOf aa))=true) ⟨none,none,rfl,aq.refl _,rfl⟩ (fun i σ H5 _ ⟨_,_,_,z,_⟩=>aB.of (z _ _ ql)) ?_ ?_⟩
  ·rintro i x σ H5 hx ⟨v3,v4,rfl,S5,uA⟩
   have aM:i < vs.length:=(cq.mp hx).1
   obtain⟨pp,fc,a',b',rfl,gB,cX⟩:=gm RX hx
   have tk:aa.take (i+1)=aa.take i ++ [pp]:=by rw[de,fc];rfl
   have pm:=gj fc
   obtain⟨_,pnm,p4⟩:=all pp pm
   have bad:∀H',aq H4 H'->(decide pp.2.Nodup && pp.2.all fun x=>decide (x∈keysOf aa))=false->Q (.bl false) H':=fun H' S hf=>by
    have q3:=q2 _ (kz.trans S)
    rw[show aa.all (fun p=>decide p.2.Nodup && p.2.all fun x=>decide (x∈keysOf aa))=false from ?_]at q3
    ·exact q3
    ·cases z:aa.all (fun p=>decide p.2.Nodup && p.2.all fun x=>decide (x∈keysOf aa)) with
     | false=>rfl
     | true=>have:=fo.mp z pp pm;rw[hf]at this;cases this
   refine⟨a',_,rfl,aB.of (S5 _ _ gB),rfl,_,_,rfl,_,_,rfl,rfl,?_⟩
   refine⟨_,rfl,b',pp.2,rfl,.inr (aB.of (S5 _ _ cX)),by omega,fun RY sg acF nd mem=>?_⟩
   have S6:=S5.trans (ak (o:=nL P w RY sg) acF)
   refine⟨RY,sg,rfl,af,_,rfl,b',_,rfl,.inr (aB.of (S6 _ _ cX)),_,_,rfl,rfl,_,rfl,?_⟩
   have dl:sg.length<=pp.2.length:=nB nd fun y hy=>(mem y).mp hy
   have dd:=NW nd mem
   by_cases dv:pp.2.Nodup
   case neg =>
    have du:sg.length≠pp.2.length:=fun z=>by rw[cF z,c8 dv]at dd;cases dd
    rw[show decide ((sg.length:Int) < ((pp.2.map V.str).length:Int))=true from cF (by rw[ar];omega)]
    exact bad _ S6 (by rw[c8 dv];rfl)
   have heq:sg.length=pp.2.length:=by rw[cF dv]at dd;exact iG dd
   rw[show decide ((sg.length:Int) < ((pp.2.map V.str).length:Int))=false from c8 (by rw[ar];omega)]
   have RZ:=S6 _ _ cX
   have hk6:=S6 _ _ Iu
   refine⟨_,rfl,b',rfl,⟨_,aB.of RZ⟩,fun c hc=>?_⟩
   refine tG (p:=b'+1) (g:=fun d=>decide (strOf d∈keysOf aa)) RZ (lH pp.2) hc (by rw[ar];omega) (fun v d H7 Q1 hd S7 r7 q1=>?_) fun H7 S7 h7=>⟨c,_,rfl,ai.of h7,_,rfl,?_⟩
   ·obtain⟨x,hx,rfl⟩:=bj.mp hd
    rw[qT r7]
    refine⟨_,rfl,_,rfl,kc,_,rfl,.inl (ai.of (S7 _ _ hk6)),rfl,mU _,?_⟩
    rw[aE dU,tw]
    exact q1 _ (aq.refl _)
   ·rw[show(((pp.2.map PyData.str).map fun d=>decide (strOf d∈keysOf aa)).all id)=pp.2.all fun x=>decide (x∈keysOf aa) by rw[my,mG];rfl]
    cases jc:pp.2.all fun x=>decide (x∈keysOf aa) with
    | false=>exact bad _ (S6.trans S7) (by rw[jc];simp)
    | true =>
     refine⟨_,_,rfl,S6.trans S7,?_⟩
     rw[tk,List.all_append,uA,vn,List.all_nil,Kw,Bool.true_and,jc,cF dv];rfl
  rintro σ H5 ⟨v3,v4,rfl,S5,uA⟩
  rw[hl,<-fl,dw]at uA
  rw[uA]at q2
  have Iv:=kz.trans S5
  have R0:=S5 _ _ Iu
  have se:=Iv _ _ ha
  have FV5:=FV.same Iv
  have ux:∀p∈aa,p.2.Nodup /\ ∀x∈p.2,x∈keysOf aa:=fun p hp=>by
   have:=fo.mp uA p hp
   simp only[gY,oM,fo]at this
   exact this
  have st:gP aa:=⟨Ab (iG qY),by omega,fun p hp=>Dh (all p hp).1,fun p hp x hx=>by
   obtain⟨q',hq',e⟩:=bj.mp ((ux p hp).2 x hx)
   exact⟨q',hq',e⟩,fun p hp=>(all p hp).2.2,fun p hp=>(ux p hp).1⟩
  clear S1 S2 S3 S4 kz BC RX eI ql BG yp Iu fU h4 qj hz aA uA
  intro d hd
  have Sd:=ak (o:= .dK []) hd
  refine⟨_,rfl,a,_,rfl,.inr (aB.of (Sd _ _ se)),(vs.length:Int),rfl,by omega,by omega,sT (fun r σ H6=>∃ (kvs:List (Key×V)) (u3 u4 u6:Option V),σ = [some (.ref a),v1,some (.ref kc),u3,u4,some (.ref d),u6]/\qo H5 aa d kvs H6/\(Cl aa kvs\/r<=kvs.length)) ⟨[],v3,v4,none,rfl,⟨af,fun x v e=>(by cases e),⟨oJ,fun _ h=>(by cases h)⟩,Sd⟩,.inr (bY _)⟩ ?_ ?_⟩
  ·rintro r σ H6 rR ⟨nM,u3,u4,u6,rfl,I6,iD⟩
   refine⟨_,rfl,a,rfl,⟨_,aB.of (I6.same _ _ se)⟩,C7 (xs:=vs) (fun i σ H7=>∃ (kvs more:List (Key×V)) (w3 w4:Option V),σ = [some (.ref a),v1,some (.ref kc),w3,w4,some (.ref d),some (.int (0+(r:Int)))]/\qo H5 aa d kvs H7/\kvs=nM++more/\(Cl aa nM->more = []) /\ ∀p∈aa.take i,(∀x∈p.2,gx nM x=true)->isDone kvs p.1=true) ⟨nM,[],u3,u4,rfl,I6,by rw[ik],fun _=>rfl,fun p hp=>by cases hp⟩ (fun i σ H7 _ ⟨_,_,_,_,_,z,_⟩=>aB.of (z.same _ _ se)) ?_ ?_⟩
   ·rintro i x σ H7 hx ⟨kvs,more,w3,w4,rfl,I7,ek,yq,vj⟩
    have aM:i < vs.length:=(cq.mp hx).1
    obtain⟨pp,fc,a',b',rfl,gB,cX⟩:=gm (FV5.same I7.same) hx
    have tk:aa.take (i+1)=aa.take i ++ [pp]:=by rw[de,fc];rfl
    have pm:=gj fc
    have p4:=st.four pp pm
    have kvl:kvs.length<=15:=by
     have:(kvs.map (·.1)).length<=((aa.map (·.1)).map (Sum.inr:Str->Key)).length:=nB I7.ky.1 fun k hk=>by
      obtain⟨p,hp,rfl⟩:=I7.ky.2 k hk
      exact bj.mpr ⟨p.1,bj.mpr ⟨p,hp,rfl⟩,rfl⟩
     simp only[ar]at this
     omega
    have EC:∀ {p},p∈aa.take (i+1)->p∈aa.take i\/p=pp:=fun hp=>by
     rw[tk]at hp
     rcases cz.mp hp with z | z
     ·exact .inl z
     ·exact .inr (eL.mp z)
    refine⟨a',_,rfl,aB.of gB,rfl,_,_,rfl,_,_,rfl,rfl,?_⟩
    refine⟨_,rfl,_,rfl,d,_,rfl,iz.k (k:=Sum.inr pp.1) I7.hd,_,rfl,?_⟩
    rw[show(cf kvs (Sum.inr pp.1)).isSome=isDone kvs pp.1 from rfl]
    cases wD:isDone kvs pp.1 with
    | true =>
     refine⟨kvs,more,_,_,rfl,I7,ek,yq,fun p hp hx=>?_⟩
     rcases EC hp with z | rfl
     ·exact vj p z hx
     ·exact wD
    | false =>
    refine⟨_,rfl,b',rfl,⟨_,aB.of cX⟩,fun c hc=>?_⟩
    refine tG (p:=b'+1) (g:=fun e=>gx kvs (strOf e)) cX (lH pp.2) hc (by rw[ar];omega) (fun v e H8 Q1 he S8 r8 q1=>?_) fun H8 S8 h8=>⟨c,_,rfl,ai.of h8,_,rfl,?_⟩
    ·obtain⟨x,hx,rfl⟩:=bj.mp he
     rw[qT r8]
     exact⟨_,rfl,.inr (.inr (.inl ⟨rfl,.inl ⟨_,S8 _ _ I7.hd⟩⟩)),_,rfl,d,kvs,Sum.inr x,rfl,rfl,S8 _ _ I7.hd,rfl,q1 _ (aq.refl _)⟩
    rw[show(((pp.2.map PyData.str).map fun e=>gx kvs (strOf e)).all id)=pp.2.all (gx kvs) by rw[my,mG];rfl]
    have I8:qo H5 aa d kvs H8:=⟨S8 _ _ I7.hd,fun x v e=>(I7.val x v e).imp id fun⟨a,e1,e2,e3⟩=>⟨a,e1,S8 _ _ e2,e3⟩,I7.ky,I7.same.trans S8⟩
    cases jc:pp.2.all (gx kvs) with
    | false =>
     refine⟨kvs,more,_,_,rfl,I8,ek,yq,fun p hp hx=>?_⟩
     rcases EC hp with z | rfl
     ·exact vj p z hx
     ·have:p.2.all (gx kvs)=true:=fo.mpr fun y hy=>by rw[ek];exact Ze (hx y hy)
      rw[jc]at this;cases this
    | true =>
    have xO:∀y∈pp.2,gx kvs y=true:=fun y hy=>fo.mp jc y hy
    have vh:∀y∈pp.2,Ln aa y:=fun y hy=>(I8.ln (xO y hy)).2
    have fin:∀ (v:V) (H9:Hp),aq H8 H9->((v=V.aG/\uc aa pp.1) \/ ∃l,v = .ref l/\H9 l=some (.lst ((fX aa pp.1).map V.str))/\Ln aa pp.1) -> ∃ (eQ Ov:List (Key×V)) (w3 w4:Option V),[some (V.ref a),v1,some (.ref kc),some (.str pp.1),some (.ref b'),some (.ref d),some (.int (0+(r:Int)))] = [some (V.ref a),v1,some (.ref kc),w3,w4,some (.ref d),some (.int (0+(r:Int)))]/\qo H5 aa d eQ (upd H9 d (.dK (putK kvs (Sum.inr pp.1) v)))/\eQ=nM++Ov/\(Cl aa nM->Ov = []) /\ ∀p∈aa.take (i+1),(∀x∈p.2,gx nM x=true)->isDone eQ p.1=true:=fun v H9 S9 hv=>by
     have hd9:=S9 _ _ I8.hd
     rw[vL wD]
     refine⟨kvs ++ [(Sum.inr pp.1,v)],more ++ [(Sum.inr pp.1,v)],_,_,rfl,⟨af,fun x v' e=>?_,by rw[<-vL wD];exact I7.ky.put pm,fun b u e=>?_⟩,by rw[ek,B6],fun cl=>?_,fun p hp hx=>?_⟩
     ·rw[<-vL wD,tD]at e
      have up:∀l ys,H9 l=some (.lst ys)->upd H9 d (.dK (kvs ++ [(Sum.inr pp.1,v)])) l=some (.lst ys):=fun l ys z=>by rw[aj (bZ z hd9 (by intro z;cases z))];exact z
      by_cases ex:x=pp.1
      ·subst ex
       rw[aI rfl]at e
       cases e
       exact hv.imp id fun⟨l,e1,e2,e3⟩=>⟨l,e1,up _ _ e2,e3⟩
      ·rw[aE (fun z=>ex (sk z))]at e
       exact(I8.val x v' e).imp id fun⟨l,e1,e2,e3⟩=>⟨l,e1,up _ _ (S9 _ _ e2),e3⟩
     ·rw[aj (ax e hd)];exact S9 _ _ (I8.same _ _ e)
     ·have e:=yq cl
      rw[e,ik]at ek
      rw[<-ek]at cl
      have:=cl pp pm xO
      rw[wD]at this;cases this
     ·rcases EC hp with z | rfl
      ·exact Xl (vj p z hx)
      ·exact vQ (by rw[aY];exact gW _ aZ)
    refine⟨_,rfl,_,rfl,_,rfl,aa1 (L:=fX aa) I8.hd (S8 _ _ cX) (fun y hy=>(I8.ln (xO y hy)).1) (Lm st pm vh) (Zd st pm vh) (fun hg H9 S9=>?_) (fun o hg l H9 hl9 S9 h9=>?_)⟩
    ·refine⟨_,rfl,_,rfl,d,_,rfl,nJ.k (k:=Sum.inr pp.1) (S9 _ _ I8.hd) (by rw[ay];omega),?_⟩
     exact fin .aG H9 S9 (.inl ⟨rfl,pp.2,pm,vh,hg⟩)
    ·obtain⟨jg,fh⟩:=Oi st pm vh hg
     refine⟨_,rfl,_,rfl,d,_,rfl,nJ.k (k:=Sum.inr pp.1) (S9 _ _ I8.hd) (by rw[ay];omega),?_⟩
     exact fin (.ref l) H9 S9 (.inr ⟨l,rfl,by rw[fh];exact h9,jg⟩)
   ·rintro σ H7 ⟨kvs,more,w3,w4,rfl,I7,ek,yq,vj⟩
    rw[hl,<-fl,dw]at vj
    refine⟨kvs,_,_,_,rfl,I7,?_⟩
    by_cases hm:more = []
    ·rw[hm,ik]at ek
     subst ek
     exact .inl vj
    ·rcases iD with z | z
     ·exact absurd (yq z) hm
     ·refine .inr ?_
      have:=yQ.mpr hm
      rw[ek,aW];omega
  rintro σ H6 ⟨kvs,u3,u4,u6,rfl,I6,iD⟩
  have acG:=I6.iff st (iD.imp id fun z=>by rw[qx]at z;omega)
  refine⟨_,rfl,kc,rfl,⟨_,ai.of (I6.same _ _ R0)⟩,fun c hc=>?_⟩
  refine gK (xs:=(keysOf aa).map V.str) (fun i ys τ H7=>∃t0:Option V,τ = [t0,some (.ref d)]/\ys=(((keysOf aa).take i).map (gx kvs)).map V.bl/\H7=upd H6 c (.lst ys)) ⟨none,rfl,rfl,rfl⟩ (fun i ys τ H7 ⟨_,_,_,z⟩=>by rw[z];exact⟨af,ai.of (ak hc _ _ (I6.same _ _ R0))⟩) ?_ ?_
  ·rintro i x ys τ H7 hx ⟨t0,rfl,rfl,rfl⟩
   have cZ:i < ((keysOf aa).map V.str).length:=(cq.mp hx).1
   have gJ:i < (keysOf aa).length:=by simpa using cZ
   obtain rfl:V.str (keysOf aa)[i]=x:=by simpa [gJ] using hx
   have tk:(keysOf aa).take (i+1)=(keysOf aa).take i ++ [(keysOf aa)[i]]:=by rw[de,br gJ];rfl
   have R4:=ak (o:= .lst ((((keysOf aa).take i).map (gx kvs)).map V.bl)) hc _ _ I6.hd
   refine⟨_,rfl,.inr (.inr (.inl ⟨rfl,.inl ⟨_,R4⟩⟩)),_,rfl,d,kvs,Sum.inr (keysOf aa)[i],rfl,rfl,R4,rfl,af,?_,cw_next cZ ⟨_,rfl,?_,by rw[iq]⟩⟩
   ·rw[ar,ar,aX,ay];omega
   ·rw[tk,aY,aY];rfl
  rintro ys τ H7 ⟨t0,rfl,rfl,rfl⟩
  rw[ar,dw]
  refine⟨c,_,rfl,ai.of af,?_⟩
  rw[acG]
  exact q2 _ (Iv.trans (I6.same.trans (ak hc)))
end
end bc
namespace bc
open PySem L2 PySem.W HT
section
variable {X : Cx} {es : List Expr} {t : TA} {te : TE}
theorem m8 {c e:Expr}{pos p2}{tc:TT} (hc:PT X c tc) (he:PE X e te):PS X (.If c [.Return (some e) p2] [] pos) (OA tc (Ad te) DG):=eg hc (aP (bu he)) d9
theorem Dj {e:Expr}{p2} (he:PE X e te):gH X [.Return (some e) p2] (Ad te):=aP (bu he)
theorem uB {i j pos} (hr:PA X es t):PA X (.Constant (.int i) j pos::es) (ck (tC (.int i)) t):=ae aD hr
theorem acH {x j pos} (hr:PA X es t):PA X (.Constant (.str x) j pos::es) (ck (tC (.str x)) t):=ae iJ hr
theorem lT {fs x1 pos}{t1:TA} (h:PA X fs t1) (hr:PA X es t):PA X (.Tuple fs x1 pos::es) (ck (iy t1) t):=ae (gN h) hr
theorem acI {fs pos}{t1:TA} (h:PA X fs t1) (hr:PA X es t):PA X (.List fs pos::es) (ck (rk t1) t):=ae (cL h) hr
end
theorem Yf (z:Str) (k:Nat):(Txt.slice z none (some (k:Int))).length<=k:=by
 have hi:(Builtin.Str.strSliceIndices none (some (k:Int)) 1 z.length).length<=k:=by
  unfold Builtin.Str.strSliceIndices sliceRange
  simp only[show(1:Int) > 0 by decide,mn,ar,B']
  split <;> (try split) <;> (try simp only[Uu]) <;> omega
 unfold Txt.slice
 split
 ·rename_i h
  have e:(Builtin.Str.strSliceIndices none (some (k:Int)) 1 z.length).length=z.length:=by simpa using h
  omega
 ·show(List.filterMap _ _).toArray.size<=k
  rw[cJ]
  exact c9 (Kg _ _) hi
theorem Yg (z:Str) (k:Nat):(Txt.slice z (some (k:Int)) none).length<=z.length - k:=by
 have hi:(Builtin.Str.strSliceIndices (some (k:Int)) none 1 z.length).length<=z.length - k:=by
  unfold Builtin.Str.strSliceIndices sliceRange
  simp only[show(1:Int) > 0 by decide,mn,ar,B']
  split <;> (try split) <;> (try simp only[Uu]) <;> omega
 unfold Txt.slice
 split
 ·rename_i h
  have e:(Builtin.Str.strSliceIndices (some (k:Int)) none 1 z.length).length=z.length:=by simpa using h
  omega
 ·show(List.filterMap _ _).toArray.size<=_
  rw[cJ]
  exact c9 (Kg _ _) hi
theorem Ny (a b:Str):(a++b).length=a.length+b.length:=by
 show(a.cps++b.cps).size=_
 rw[Kh];rfl
section
variable {P : Program} {w : World} {K : Frag} {mg : Str -> Option Value} {base : Heap} {f : Addr} {fd : FuncData}
theorem Yh {z:Str}{n:Int}{H:Hp}{Q:VK} (hz:z.length=94) (q:∀y:Str,y.length=1->Q (.str y) H):OI (.str z) (.int (n % (z.length:Int))) H Q:=by
 rw[hz]
 obtain⟨k,ek⟩:=yU (sI n (by decide:(94:Int)≠0))
 have hk:n % 94 < 94:=sJ n (by decide)
 have:k < z.cps.toList.length:=by rw[gD];show k < z.length;omega
 exact⟨z,_,_,rfl,rfl,by rw[hz,ay];decide,by show dH _ (n % ((94:Nat):Int))=_;rw[show((94:Nat):Int)=94 from rfl,ek];exact dE (br this),q _ rfl⟩
@[irreducible] def tV:Sp:=fun vs H Q _=>∃n:Int,vs = [.int n]/\0<=n /\ ∀z:Str,z.length=1->Q (.str z) H
theorem Zf {n:Int}{H:Hp}{Q:VK}{E:XK} (h:0<=n) (q:∀z:Str,z.length=1->Q (.str z) H):tV [.int n] H Q E:=by unfold tV;exact⟨n,rfl,h,q⟩
abbrev aa5:List Str:= ["_law_number", "_law_signs"]
theorem DC:cO aa5 ["_law_number"] (aH t8):=⟨rfl,rfl,rfl,by decide +kernel,rfl,by decide +kernel,by decide +kernel⟩
theorem Zg (F:bw K "_law_sign" "_law_sign" t8 f fd) (B:c7 mg):aN P w K mg base aS 1 f fd ["_law_number"] tV:=by
 refine F.ok DC (fun vs H Q E h=>?_) (fun aQ A outer s H vs Q E hr h=>?_)
 ·unfold tV at h;obtain⟨n,rfl,_⟩:=h;rfl
 ·unfold tV at h
  obtain⟨n,rfl,hn,q⟩:=h
  refine⟨_,aF (ba (i:=1) DC.nd rfl (Or.inl rfl) iJ)
   (aF (ba (i:=1) DC.nd rfl (Or.inl rfl) (aL vE (pv 1) iJ))
   (aP (bu (bC Dp (pv 1) (aL fE (pv 0) (aV yY rfl B.len dz (ae (pv 1) ah))) (fun _ _=>rfl))))),?_⟩
  refine⟨_,rfl,_,_,rfl,rfl,by rw[ay];decide +kernel,?_⟩
  exact⟨_,rfl,_,rfl,_,rfl,_,rfl,by rw[ay];decide +kernel,_,_,rfl,rfl,by show(0:Int) < _;decide +kernel,Yh (by decide +kernel) q⟩
@[irreducible] def qZ:Sp:=fun vs H Q _=>∃ (x:Str) (n:Int),vs = [.str x,.int n]/\0<=n/\x.length<=100 /\ ∀ (z:Str) H',z.length<=x.length+1->aq H H'->Q (.str z) H'
theorem N2 {x:Str}{n:Int}{H:Hp}{Q:VK}{E:XK} (h:0<=n) (hx:x.length<=100) (q:∀ (z:Str) H',z.length<=x.length+1->aq H H'->Q (.str z) H'):qZ [.str x,.int n] H Q E:=by unfold qZ;exact⟨x,n,rfl,h,hx,q⟩
abbrev acJ:List Str:= ["_law_name", "_law_number", "_law_at", "_law_sign_here"]
theorem DT:cO acJ ["_law_name", "_law_number"] (aH um):=⟨rfl,rfl,rfl,by decide +kernel,rfl,by decide +kernel,by decide +kernel⟩
theorem Yi {d a b c:Int} (h0:0<=d) (h1:d < 3):dH [V.int a,.int b,.int c] d=some (.int (if d=0 then a else if d=1 then b else c)):=by
 have:d=0\/d=1\/d=2:=by omega
 rcases this with rfl | rfl | rfl <;> rfl
theorem Z9 {fS:Addr}{dS:FuncData} (F:bw K "_law_misspelt" "_law_misspelt" um f fd) (B:c7 mg) (GS:aN P w K mg base aS 1 fS dS ["_law_number"] tV) (kS:keepIn K (.ref fS)=true) (bS:Binds K dS ["_law_number"] []) (mS:mg "_law_sign" = some (.ref fS)):aN P w K mg base aS 2 f fd ["_law_name", "_law_number"] qZ:=by
 refine F.ok DT (fun vs H Q E h=>?_) (fun aQ A outer s H vs Q E hr h=>?_)
 ·unfold qZ at h;obtain⟨x,n,rfl,_⟩:=h;rfl
 ·unfold qZ at h
  obtain⟨x,n,rfl,hn,hx,q⟩:=h
  refine⟨_,aF (ba (i:=2) DT.nd rfl (Or.inl rfl) (aL fE (aL kU (pv 1) aD) (aL gM (aV yY rfl B.len dz (ae (pv 0) ah)) aD)))
   (aF (ba (i:=3) DT.nd rfl (Or.inl rfl) (bG GS hr rfl mS kS bS .nil bE (ae (aL kU (pv 1) aD) ah)))
   (aP (bu (aL vE (aL vE (dB Ds (pv 0) dC (dj (pv 2))) (bC dW (cL (ae iJ (ae (pv 3) (ae (pv 3) ah)))) (aL fE (pv 1) aD) (fun _ _=>rfl)))
    (dB Ds (pv 0) (dj (aL gM (pv 2) (bC dW (cL (uB (uB (uB ah)))) (aL fE (pv 1) aD) (fun _ _=>rfl)))) dC))))),?_⟩
  have three:3<=sizeLine:=by rw[ay];decide
  refine⟨_,rfl,_,_,rfl,rfl,⟨by decide,by decide⟩,_,rfl,x,rfl,by rw[ay];omega,_,_,rfl,rfl,_,_,rfl,rfl,by show(0:Int) < _;omega,?_⟩
  obtain⟨k,ek⟩:=yU (sI (n / 3) (by omega:((x.length:Int)+1)≠0))
  have hk:n / 3 % ((x.length:Int)+1) < (x.length:Int)+1:=sJ _ (by omega)
  dsimp only
  rw[ek]at hk ⊢
  have d0:0<=n % 3:=sI _ (by decide)
  have d1:n % 3 < 3:=sJ _ (by decide)
  refine⟨_,rfl,_,_,rfl,rfl,⟨by decide,by decide⟩,Zf (Kx hn (by decide)) fun z hz=>?_⟩
  have l1:=Yf x k
  refine⟨_,rfl,_,rfl,_,rfl,x,rfl,by omega,_,rfl,_,rfl,three,fun c1 jI=>?_⟩
  obtain⟨y,xV,hy⟩:∃y:Str,dH [V.str "", .str z,.str z] (n % 3)=some (.str y)/\y.length<=1:=by
   have:n % 3=0\/n % 3=1\/n % 3=2:=by omega
   rcases this with e | e | e
   ·exact⟨"", by rw[e];rfl,by decide +kernel⟩
   ·exact⟨z,by rw[e];rfl,by omega⟩
   ·exact⟨z,by rw[e];rfl,by omega⟩
  refine⟨_,rfl,_,_,rfl,rfl,by show(0:Int) < 3;decide,c1,_,_,.str y,rfl,rfl,ai.of af,xV,?_⟩
  refine⟨_,_,rfl,rfl,by rw[ay];omega,_,rfl,_,rfl,three,fun c2 cU=>?_⟩
  refine⟨_,rfl,_,_,rfl,rfl,by show(0:Int) < 3;decide,c2,_,_,_,rfl,rfl,ai.of af,Yi d0 d1,?_⟩
  obtain⟨j,ej,hj⟩:∃j:Nat,((k:Int)+if n % 3=0 then 1 else if n % 3=1 then 0 else 1)=(j:Int)/\k<=j:=by
   refine⟨k+(if n % 3=0 then 1 else if n % 3=1 then 0 else 1),?_,yP _ _⟩
   split <;> (try split) <;> rfl
  refine⟨_,_,rfl,rfl,_,rfl,x,rfl,by omega,?_⟩
  rw[ej]
  have l2:=Yg x j
  have e1:=Ny (Txt.slice x none (some (k:Int))) y
  refine⟨_,_,rfl,rfl,by rw[ay];omega,q _ _ ?_ ((ak jI).trans (ak cU))⟩
  rw[Ny];omega
end
end bc
namespace bc
open PySem L2 PySem.W HT
def cI (H:Hp) (ws:List V) (rows:bV):Prop:=Paired (fun y p=>∃a b,y=V.ref a/\H a=some (.tup [.str p.1,.ref b])/\H b=some (.lst (p.2.map V.str))) ws rows
theorem cI.same {H H':Hp}{ws:List V}{rows:bV} (h:cI H ws rows) (s:aq H H'):cI H' ws rows:=Paired.imp' (fun _ _ ⟨a,b,e,q,r⟩=>⟨a,b,e,s _ _ q,s _ _ r⟩) h
theorem cI.length {H:Hp}{ws:List V}{rows:bV} (h:cI H ws rows):ws.length=rows.length:=jL h
theorem cI.app {H:Hp}:∀ {ws us:List V}{rs qs:bV},cI H ws rs->cI H us qs->cI H (ws++us) (rs++qs)
 | _,_,_,_,.nil,q=>q
 | _,_,_,_,.cons a b,q=>.cons a (cI.app b q)
theorem cI.take {H:Hp}:∀ {ws:List V}{rs:bV} (k:Nat),cI H ws rs->cI H (ws.take k) (rs.take k)
 | _,_,0,_=>.nil
 | _,_,_+1,.nil=>.nil
 | _,_,k+1,.cons a b=>.cons a (cI.take k b)
theorem cI.drop {H:Hp}:∀ {ws:List V}{rs:bV} (k:Nat),cI H ws rs->cI H (ws.drop k) (rs.drop k)
 | _,_,0,r=>r
 | _,_,_+1,.nil=>.nil
 | _,_,k+1,.cons _ b=>cI.drop k b
structure PB (no ns:Nat) (p:Str×List Str):Prop where
 key:p.1.length<=ns
 bg:p.2.length<=no
 short:∀x∈p.2,x.length<=ns
theorem PB.mono {no ns R5 R6:Nat}{p:Str×List Str} (h:PB no ns p) (h1:no<=R5) (h2:ns<=R6):PB R5 R6 p:=⟨c9 h.key h2,c9 h.bg h1,fun x hx=>c9 (h.short x hx) h2⟩
section
variable {P : Program} {w : World} {K : Frag} {mg : Str -> Option Value} {base : Heap} {f : Addr} {fd : FuncData}
abbrev Pz (xs ys:List Str) (H:Hp) (Q:VK):Prop:= ∀ (l:Addr) (zs:List Str) (H':Hp),aq H H'->H' l=some (.lst (zs.map V.str))->zs.length<=xs.length+1->(∀z∈zs,z∈xs\/z∈ys)->Q (.ref l) H'
@[irreducible] def rD:Sp:=fun vs H Q _=>∃ (o l:Addr) (xs ys:List Str) (n:Int),vs = [.ref o,.ref l,.int n]/\0<=n/\H o=some (.lst (xs.map V.str))/\H l=some (.lst (ys.map V.str))/\0 < ys.length/\xs.length<=100/\ys.length<=100/\Pz xs ys H Q
theorem aa6 {o l:Addr}{xs ys:List Str}{n:Int}{H:Hp}{Q:VK}{E:XK} (hn:0<=n) (ho:H o=some (.lst (xs.map V.str))) (hl:H l=some (.lst (ys.map V.str))) (h0:0 < ys.length) (hx:xs.length<=100) (hy:ys.length<=100) (q:Pz xs ys H Q):rD [.ref o,.ref l,.int n] H Q E:=by
 unfold rD;exact⟨o,l,xs,ys,n,rfl,hn,ho,hl,h0,hx,hy,q⟩
abbrev nPI:List Str:= ["_law_own", "_law_some", "_law_number", "_law_at"]
theorem PD:cO nPI ["_law_own", "_law_some", "_law_number"] (aH tQ):=⟨rfl,rfl,rfl,by decide +kernel,rfl,by decide +kernel,by decide +kernel⟩
theorem iZ {n m:Int} (hm:0 < m):∃k:Nat,n % m=(k:Int)/\(k:Int) < m:=by
 obtain⟨k,ek⟩:=yU (sI n (by omega:m≠0))
 exact⟨k,ek,by rw[<-ek];exact sJ _ hm⟩
theorem aa7 (F:bw K "_law_put_in" "_law_put_in" tQ f fd) (B:c7 mg):aN P w K mg base aS 1 f fd ["_law_own", "_law_some", "_law_number"] rD:=by
 refine F.ok PD (fun vs H Q E h=>?_) (fun aQ A outer s H vs Q E hr h=>?_)
 ·unfold rD at h;obtain⟨o,l,xs,ys,n,rfl,_⟩:=h;rfl
 ·unfold rD at h
  obtain⟨o,l,xs,ys,n,rfl,hn,ho,hl,h0,hx,hy,q⟩:=h
  refine⟨_,aF (ba (i:=3) PD.nd rfl (Or.inl rfl) (aL fE (pv 2) (aL gM (aV eW rfl B.len dz (ae (pv 0) ah)) aD)))
   (aP (bu (aL ff (aL ff (dB fu (pv 0) dC (dj (pv 3))) (cL (ae (bC dW (pv 1) (aL fE (aL kU (pv 2) aD) (aV eW rfl B.len dz (ae (pv 1) ah))) (fun _ _=>rfl)) ah))) (dB fu (pv 0) (dj (pv 3)) dC)))),?_⟩
  refine⟨_,rfl,_,rfl,o,_,rfl,.inl (ai.of ho),_,_,rfl,rfl,_,_,rfl,rfl,by show(0:Int) < _;omega,?_⟩
  obtain⟨k,ek,hk⟩:=iZ (n:=n) (m:=((xs.map V.str).length:Int)+1) (by omega)
  dsimp only
  rw[ek]
  refine⟨_,rfl,_,rfl,_,rfl,o,_,rfl,ai.of ho,fun s1 ib=>?_⟩
  rw[kX,<-sL]
  have S1:=ak (o:= .lst ((xs.take k).map V.str)) ib
  have e1:upd H s1 (.lst ((xs.take k).map V.str)) s1=_:=af
  generalize upd H s1 (.lst ((xs.take k).map V.str))=H1 at S1 e1 ⊢
  obtain⟨j,ej,hj⟩:=iZ (n:=n / 5) (m:=((ys.map V.str).length:Int)) (by rw[ar];omega)
  have yr:j < ys.length:=by rw[ar]at hj;omega
  refine⟨_,rfl,_,rfl,_,_,rfl,rfl,⟨by decide,by decide⟩,_,rfl,l,_,rfl,.inl (ai.of (S1 _ _ hl)),_,_,rfl,rfl,by show(0:Int) < _;rw[ar];omega,?_⟩
  dsimp only
  rw[ej]
  refine⟨l,_,_,.str ys[j],rfl,rfl,ai.of (S1 _ _ hl),dE (by rw[gX,br yr];rfl),by show 1<=sizeLine;rw[ay];decide,fun s2 f'=>?_⟩
  have S2:=S1.trans (ak (o:= .lst [V.str ys[j]]) f')
  refine⟨s1,s2,_,_,rfl,rfl,ak f' _ _ e1,af,by rw[ar,aX,ay];show _+1<=_;omega,fun s3 fU=>?_⟩
  have S3:=S2.trans (ak (o:= .lst ((xs.take k).map V.str ++ [V.str ys[j]])) fU)
  refine⟨_,rfl,_,rfl,_,rfl,o,_,rfl,ai.of (S3 _ _ ho),fun s4 gC=>?_⟩
  rw[jn,<-mz]
  have S4:=S3.trans (ak (o:= .lst ((xs.drop k).map V.str)) gC)
  refine⟨s3,s4,_,_,rfl,rfl,by rw[aj (ax af gC)];exact af,af,by rw[aW,ar,ar,aX,d6,ay];show _+1+_<=_;omega,fun s5 jJ=>?_⟩
  refine q s5 (xs.take k ++ [ys[j]]++xs.drop k) _ (S4.trans (ak jJ)) (by rw[af,aY,aY];rfl) (by rw[aW,aW,aX,d6];show _+1+_<=_;omega) fun z hz=>?_
  rcases cz.mp hz with z1 | z1
  ·rcases cz.mp z1 with z2 | z2
   ·exact .inl (oN z2)
   ·rw[eL.mp z2];exact .inr (jl yr)
  ·exact .inl (mE z1)
abbrev R7 (no ns:Nat) (H:Hp) (Q:VK):Prop:= ∀ (l:Addr) (zs:List Str) (H':Hp),aq H H'->H' l=some (.lst (zs.map V.str))->zs.length<=no+1->(∀z∈zs,z.length<=ns+1)->Q (.ref l) H'
@[irreducible] def uC:Sp:=fun vs H Q _=>∃ (r:Addr) (ws:List V) (rows:bV) (k:Nat) (wy n:Int) (no ns:Nat),vs = [.ref r,.int (k:Int),.int wy,.int n]/\0<=n/\H r=some (.lst ws)/\cI H ws rows/\k < rows.length/\rows.length<=20/\(∀p∈rows,PB no ns p)/\no<=20/\8<=ns/\ns<=60/\R7 no ns H Q
theorem aa8 {r:Addr}{ws:List V}{rows:bV}{k:Nat}{wy n:Int}{no ns:Nat}{H:Hp}{Q:VK}{E:XK} (hn:0<=n) (hr:H r=some (.lst ws)) (hw:cI H ws rows) (hk:k < rows.length) (mh:rows.length<=20) (pb:∀p∈rows,PB no ns p) (h1:no<=20) (h2:8<=ns) (h3:ns<=60) (q:R7 no ns H Q):uC [.ref r,.int (k:Int),.int wy,.int n] H Q E:=by
 unfold uC;exact⟨r,ws,rows,k,wy,n,no,ns,rfl,hn,hr,hw,hk,mh,pb,h1,h2,h3,q⟩
abbrev R8:List Str:= ["_law_rows", "_law_at", "_law_way", "_law_number", "_law_kind", "_law_own", "_law_some", "_law_here"]
theorem wW:cO R8 ["_law_rows", "_law_at", "_law_way", "_law_number"] (aH pA):=⟨rfl,rfl,rfl,by decide +kernel,rfl,by decide +kernel,by decide +kernel⟩
abbrev eOt:Expr:=En (eF (cj (aU pA) 1))
theorem PF:cp R8 (aH pA) ["_law_row"] [none] (cD eOt):=⟨rfl,by decide +kernel,by decide +kernel,rfl,cR (by decide +kernel),by decide +kernel⟩
theorem CS:bootBuiltins "max" = some (.builtin "max"):=by decide +kernel
theorem aa9 {fP fM:Addr}{dP dM:FuncData} (F:bw K "_law_other_parents" "_law_other_parents" pA f fd) (B:c7 mg)
  (GP:aN P w K mg base aS 1 fP dP ["_law_own", "_law_some", "_law_number"] rD) (kP:keepIn K (.ref fP)=true) (bP:Binds K dP ["_law_own", "_law_some", "_law_number"] []) (mP:mg "_law_put_in" = some (.ref fP))
  (GM:aN P w K mg base aS 2 fM dM ["_law_name", "_law_number"] qZ) (kM:keepIn K (.ref fM)=true) (bM:Binds K dM ["_law_name", "_law_number"] []) (mM:mg "_law_misspelt" = some (.ref fM)):aN P w K mg base aS 3 f fd ["_law_rows", "_law_at", "_law_way", "_law_number"] uC:=by
 refine F.ok wW (fun vs H Q E h=>?_) (fun aQ A outer s H vs Q E hr h=>?_)
 ·unfold uC at h;obtain⟨r,ws,rows,k,wy,n,no,ns,rfl,_⟩:=h;rfl
 ·unfold uC at h
  obtain⟨r,ws,rows,k,wy,n,no,ns,rfl,hn,hR,hW,hk,mh,pb,Ao,xJ,PH,q⟩:=h
  have ia:bQ 2 _:=hr
  have cY:bQ 1 _:=ia.mono (by decide)
  have hu:=hr.units
  refine⟨_,aF (pj (bC dW (pv 0) (pv 1) (fun _ _=>rfl)) (i4 (n:=2) rfl (cC (aR (i:=4) wW.nd rfl (Or.inl rfl)) (cC (aR (i:=5) wW.nd rfl (Or.inl rfl)) gk))))
   (aF (ba (i:=6) wW.nd rfl (Or.inl rfl) (aL ff (dg rfl PF (fq (pv 0)) (fun s H fp=>⟨aR (i:=0) PF.nd rfl (Or.inl rfl),dh,bC (zu K rfl) (pv 0) aD (fun _ _=>rfl)⟩)) (cL (ae (pv 4) (acH ah)))))
   (aF (ba (i:=7) wW.nd rfl (Or.inl rfl) (aL fE (pv 3) (aV (vG rfl) rfl B.max CS (uB (ae (aV eW rfl B.len dz (ae (pv 5) ah)) ah)))))
   (aF (m8 (PW.pt (pw_or (cG iL (pv 2) aD (cB _)) (pw_or1 (cG (YU hu) (pv 5) (cL ah) (cB _))))) (bG GP cY rfl mP kP bP .nil bE (ae (pv 5) (ae (pv 6) (ae (pv 3) ah)))))
   (aF (m8 (cG iL (pv 2) aD (cB _)) (aL ff (dB fu (pv 5) dC (dj (pv 7))) (dB fu (pv 5) (dj (aL gM (pv 7) aD)) dC)))
   (aF (m8 (cG iL (pv 2) aD (cB _)) (aL ff (aL ff (dB fu (pv 5) dC (dj (pv 7))) (cL (ae (bC dW (pv 6) (aL fE (aL kU (pv 3) aD) (aV eW rfl B.len dz (ae (pv 6) ah))) (fun _ _=>rfl)) ah))) (dB fu (pv 5) (dj (aL gM (pv 7) aD)) dC)))
   (aF (m8 (cG iL (pv 2) aD (cB _)) (aL ff (aL ff (dB fu (pv 5) dC (dj (pv 7))) (dB fu (pv 5) (dj (aL gM (pv 7) aD)) dC)) (cL (ae (bC dW (pv 5) (pv 7) (fun _ _=>rfl)) ah))))
   (Dj (aL ff (aL ff (dB fu (pv 5) dC (dj (pv 7))) (cL (ae (bG GM ia rfl mM kM bM .nil bE (ae (bC dW (pv 5) (pv 7) (fun _ _=>rfl)) (ae (aL kU (pv 3) aD) ah))) ah))) (dB fu (pv 5) (dj (aL gM (pv 7) aD)) dC))))))))),?_⟩
  have hl:=hW.length
  have mi:k < ws.length:=by omega
  obtain⟨pp,fc,a,b,ea,ha,hb⟩:=gm hW (br mi)
  have pm:=gj fc
  have eU:=pb pp pm
  have one:1<=sizeLine:=by rw[ay];decide
  refine⟨_,rfl,_,rfl,r,_,_,.ref a,rfl,rfl,ai.of hR,dE (by rw[br mi,ea]),a,_,rfl,aB.of ha,rfl,_,_,rfl,_,_,rfl,rfl,?_⟩
  refine⟨_,rfl,r,rfl,⟨_,ai.of hR⟩,fun c hc=>?_⟩
  refine gK (xs:=ws) (fun i ys τ H1=>∃t0:Option V,τ = [t0]/\ys=((rows.take i).map (·.1)).map V.str/\H1=upd H c (.lst ys)) ⟨none,rfl,rfl,rfl⟩ (fun i ys τ H1 ⟨_,_,_,z⟩=>by rw[z];exact⟨af,ai.of (ak hc _ _ hR)⟩) ?_ ?_
  ·rintro i x ys τ H1 hx ⟨t0,rfl,rfl,rfl⟩
   have aM:i < ws.length:=(cq.mp hx).1
   obtain⟨p',ED,a',b',rfl,gB,cX⟩:=gm hW hx
   have tk:rows.take (i+1)=rows.take i ++ [p']:=by rw[de,ED];rfl
   refine⟨_,rfl,a',_,0,.str p'.1,rfl,rfl,aB.of (ak hc _ _ gB),Er,af,?_,cw_next aM ⟨_,rfl,?_,by rw[iq]⟩⟩
   ·rw[ar,ar,aX,ay];omega
   ·rw[tk,aY,aY];rfl
  rintro ys0 τ H1 ⟨t0,rfl,rfl,rfl⟩
  rw[hl,dw]
  have S1:=ak (o:= .lst ((rows.map (·.1)).map V.str)) hc
  refine⟨_,rfl,by show 2<=sizeLine;rw[ay];decide,fun c2 cU=>?_⟩
  have S2:=S1.trans (ak (o:= .lst [V.str pp.1,V.str "strange"]) cU)
  refine⟨c,c2,_,_,rfl,rfl,by rw[aj (ax af cU)];exact af,af,by rw[ar,ar,ay];show _+2<=_;omega,fun c3 ku=>?_⟩
  rw[show(rows.map (·.1)).map V.str ++ [V.str pp.1,V.str "strange"]=(rows.map (·.1) ++ [pp.1, "strange"]).map V.str by rw[aY];rfl]at *
  have S3:=S2.trans (ak (o:= .lst ((rows.map (·.1) ++ [pp.1, "strange"]).map V.str)) ku)
  have e3:upd (upd (upd H c (.lst ((rows.map (·.1)).map V.str))) c2 (.lst [V.str pp.1,V.str "strange"])) c3 (.lst ((rows.map (·.1) ++ [pp.1, "strange"]).map V.str)) c3=_:=af
  generalize upd (upd (upd H c (.lst ((rows.map (·.1)).map V.str))) c2 (.lst [V.str pp.1,V.str "strange"])) c3 (.lst ((rows.map (·.1) ++ [pp.1, "strange"]).map V.str))=H3 at S3 e3 ⊢
  have PK:0 < (rows.map (·.1) ++ [pp.1,("strange" : Str)]).length:=by rw[aW];show 0 < _+2;omega
  have R9:(rows.map (·.1) ++ [pp.1,("strange" : Str)]).length<=100:=by rw[aW,ar];show _+2<=_;omega
  have R':∀y∈rows.map (·.1) ++ [pp.1,("strange" : Str)],y.length<=ns:=fun y hy=>by
   rcases cz.mp hy with z | z
   ·obtain⟨p',hZ,rfl⟩:=bj.mp z
    exact(pb p' hZ).key
   ·rcases a9.mp z with rfl | z
    ·exact eU.key
    ·rw[eL.mp z];exact c9 (by decide +kernel) xJ
  generalize rows.map (·.1) ++ [pp.1,("strange" : Str)]=ys at e3 PK R9 R'
  have oi:=S3 _ _ hb
  have hxl:=eU.bg
  have fin:∀ (l:Addr) (zs:List Str) (J:Hp),aq H3 J->J l=some (.lst (zs.map V.str))->zs.length<=pp.2.length+1->(∀z∈zs,z∈pp.2\/z∈ys\/z.length<=ns+1)->Q (.ref l) J:=fun l zs J S e h1 h2=>q l zs J (S3.trans S) e (by omega) fun z hz=>by
   rcases h2 z hz with z | z | z
   ·exact jN (eU.short _ z)
   ·exact jN (R' _ z)
   ·exact z
  have put:∀J,aq H3 J->rD [.ref b,.ref c3,.int n] J Q E0:=fun J S=>aa6 hn (S _ _ oi) (S _ _ e3) PK (by omega) R9 fun l zs J2 sf e2 h1 h2=>fin l zs J2 (S.trans sf) e2 h1 fun z hz=>(h2 z hz).imp id .inl
  refine⟨_,rfl,_,rfl,b,_,rfl,.inl (ai.of oi),_,_,rfl,_,_,rfl,rfl,by show(0:Int) < _;split <;> omega,?_⟩
  obtain⟨h,eh,hh⟩:=iZ (n:=n) (m:=(if ((pp.2.map V.str).length:Int) > 1 then ((pp.2.map V.str).length:Int) else 1)) (by split <;> omega)
  dsimp only
  rw[eh]
  refine⟨_,rfl,rfl,_,rfl,?_⟩
  refine eM (fun h0=>?_) (fun h0=>?_)
  ·exact⟨_,rfl,_,rfl,_,rfl,put _ (aq.refl _)⟩
  refine⟨_,rfl,bY _,fun e0 he0=>?_⟩
  have S4:=ak (o:= .lst []) he0
  have e4:upd H3 e0 (.lst []) e0=_:=af
  generalize upd H3 e0 (.lst [])=H4 at S4 e4 ⊢
  have ji:=S4 _ _ oi
  refine⟨b,e0,_,rfl,rfl,ji,e4,_,rfl,?_⟩
  by_cases hz:pp.2 = []
  ·rw[hz]
   exact⟨_,rfl,_,rfl,_,rfl,put _ S4⟩
  have wQ:0 < pp.2.length:=yQ.mpr hz
  rw[show(pp.2.map V.str).isEmpty=false by cases e:pp.2 with | nil=>exact absurd e hz | cons x y=>rfl]
  have aM:h < pp.2.length:=by
   rw[ar]at hh
   split at hh <;> omega
  have BH:dH (pp.2.map V.str) (h:Int)=some (.str pp.2[h]):=dE (by rw[gX,br aM];rfl)
  have gv:=jl aM
  generalize pp.2[h]=xh at BH gv
  have Sa:=eU.short
  generalize pp.2=xs at hb oi ji hxl fin hz wQ aM BH gv Sa put hh eh
  have tm:∀i (z:Str),z∈xs.take i->z∈xs:=fun i z hz=>oN hz
  have dm:∀i (z:Str),z∈xs.drop i->z∈xs:=fun i z hz=>mE hz
  clear fc ha ea
  refine⟨_,rfl,rfl,_,rfl,?_⟩
  refine eM (fun h1=>?_) (fun h1=>?_)
  ·refine⟨_,rfl,_,rfl,_,rfl,b,_,rfl,ai.of ji,fun s1 ib=>?_⟩
   rw[kX,<-sL]
   have T1:=ak (o:= .lst ((xs.take h).map V.str)) ib
   refine⟨_,rfl,_,rfl,_,_,rfl,rfl,_,rfl,b,_,rfl,ai.of (T1 _ _ ji),fun s2 f'=>?_⟩
   rw[show((h:Int)+1)=((h+1:Nat):Int) from rfl,jn,<-mz]
   have T2:=T1.trans (ak (o:= .lst ((xs.drop (h+1)).map V.str)) f')
   refine⟨s1,s2,_,_,rfl,rfl,by rw[aj (ax af f')];exact af,af,by rw[ar,ar,aX,d6,ay];omega,fun s3 fU=>?_⟩
   refine fin s3 (xs.take h++xs.drop (h+1)) _ (S4.trans (T2.trans (ak fU))) (by rw[af,aY]) (by rw[aW,aX,d6];omega) fun z hz=>?_
   rcases cz.mp hz with z1 | z1
   ·exact .inl (tm _ _ z1)
   ·exact .inl (dm _ _ z1)
  refine⟨_,rfl,rfl,_,rfl,?_⟩
  refine eM (fun h2=>?_) (fun h2=>?_)
  ·refine⟨_,rfl,_,rfl,_,rfl,b,_,rfl,ai.of ji,fun s1 ib=>?_⟩
   rw[kX,<-sL]
   have T1:=ak (o:= .lst ((xs.take h).map V.str)) ib
   have f1:upd H4 s1 (.lst ((xs.take h).map V.str)) s1=_:=af
   generalize upd H4 s1 (.lst ((xs.take h).map V.str))=J1 at T1 f1 ⊢
   obtain⟨j,ej,hj⟩:=iZ (n:=n / 5) (m:=((ys.map V.str).length:Int)) (by rw[ar];omega)
   have yr:j < ys.length:=by rw[ar]at hj;omega
   have e5:=T1 _ _ (S4 _ _ e3)
   refine⟨_,rfl,_,rfl,_,_,rfl,rfl,⟨by decide,by decide⟩,_,rfl,c3,_,rfl,.inl (ai.of e5),_,_,rfl,rfl,by show(0:Int) < _;rw[ar];omega,?_⟩
   dsimp only
   rw[ej]
   refine⟨c3,_,_,.str ys[j],rfl,rfl,ai.of e5,dE (by rw[gX,br yr];rfl),one,fun s2 f'=>?_⟩
   have T2:=ak (o:= .lst [V.str ys[j]]) f'
   refine⟨s1,s2,_,_,rfl,rfl,T2 _ _ f1,af,by rw[ar,aX,ay];show _+1<=_;omega,fun s3 fU=>?_⟩
   have T3:=(T1.trans T2).trans (ak (o:= .lst ((xs.take h).map V.str ++ [V.str ys[j]])) fU)
   refine⟨_,rfl,_,rfl,_,_,rfl,rfl,_,rfl,b,_,rfl,ai.of (T3 _ _ ji),fun s4 gC=>?_⟩
   rw[show((h:Int)+1)=((h+1:Nat):Int) from rfl,jn,<-mz]
   have T4:=T3.trans (ak (o:= .lst ((xs.drop (h+1)).map V.str)) gC)
   refine⟨s3,s4,_,_,rfl,rfl,by rw[aj (ax af gC)];exact af,af,by rw[aW,ar,ar,aX,d6,ay];show _+1+_<=_;omega,fun s5 jJ=>?_⟩
   refine fin s5 (xs.take h ++ [ys[j]]++xs.drop (h+1)) _ (S4.trans (T4.trans (ak jJ))) (by rw[af,aY,aY];rfl) (by rw[aW,aW,aX,d6];show _+1+_<=_;omega) fun z hz=>?_
   rcases cz.mp hz with z1 | z1
   ·rcases cz.mp z1 with z2 | z2
    ·exact .inl (tm _ _ z2)
    ·rw[eL.mp z2];exact .inr (.inl (jl yr))
   ·exact .inl (dm _ _ z1)
  refine⟨_,rfl,rfl,_,rfl,?_⟩
  refine eM (fun h3=>?_) (fun h3=>?_)
  ·refine⟨_,rfl,_,rfl,_,rfl,b,_,rfl,ai.of ji,fun s1 ib=>?_⟩
   rw[kX,<-sL]
   have T1:=ak (o:= .lst ((xs.take h).map V.str)) ib
   refine⟨_,rfl,_,rfl,_,_,rfl,rfl,_,rfl,b,_,rfl,ai.of (T1 _ _ ji),fun s2 f'=>?_⟩
   rw[show((h:Int)+1)=((h+1:Nat):Int) from rfl,jn,<-mz]
   have T2:=T1.trans (ak (o:= .lst ((xs.drop (h+1)).map V.str)) f')
   refine⟨s1,s2,_,_,rfl,rfl,by rw[aj (ax af f')];exact af,af,by rw[ar,ar,aX,d6,ay];omega,fun s3 fU=>?_⟩
   have T3:=T2.trans (ak (o:= .lst ((xs.take h).map V.str++(xs.drop (h+1)).map V.str)) fU)
   refine⟨_,rfl,_,rfl,b,_,_,.str xh,rfl,rfl,ai.of (T3 _ _ ji),BH,one,fun s4 gC=>?_⟩
   have T4:=T3.trans (ak (o:= .lst [V.str xh]) gC)
   refine⟨s3,s4,_,_,rfl,rfl,by rw[aj (ax af gC)];exact af,af,by rw[aW,ar,ar,aX,d6,ay];show _+1<=_;omega,fun s5 jJ=>?_⟩
   refine fin s5 (xs.take h++xs.drop (h+1) ++ [xh]) _ (S4.trans (T4.trans (ak jJ))) (by rw[af,aY,aY];rfl) (by rw[aW,aW,aX,d6];show _+_+1<=_;omega) fun z hz=>?_
   rcases cz.mp hz with z1 | z1
   ·rcases cz.mp z1 with z2 | z2
    ·exact .inl (tm _ _ z2)
    ·exact .inl (dm _ _ z2)
   ·rw[eL.mp z1];exact .inl gv
  refine⟨_,rfl,_,rfl,_,rfl,b,_,rfl,ai.of ji,fun s1 ib=>?_⟩
  rw[kX,<-sL]
  have T1:=ak (o:= .lst ((xs.take h).map V.str)) ib
  have f1:upd H4 s1 (.lst ((xs.take h).map V.str)) s1=_:=af
  generalize upd H4 s1 (.lst ((xs.take h).map V.str))=J1 at T1 f1 ⊢
  have xhl:=Sa xh gv
  refine⟨_,rfl,_,rfl,b,_,_,.str xh,rfl,rfl,ai.of (T1 _ _ ji),BH,_,rfl,_,_,rfl,rfl,⟨by decide,by decide⟩,N2 (Kx hn (by decide)) (by omega) fun z J2 hzl T2=>⟨one,fun s2 f'=>?_⟩⟩
  have T3:=ak (o:= .lst [V.str z]) f'
  refine⟨s1,s2,_,_,rfl,rfl,T3 _ _ (T2 _ _ f1),af,by rw[ar,aX,ay];show _+1<=_;omega,fun s3 fU=>?_⟩
  have T4:=(T1.trans (T2.trans T3)).trans (ak (o:= .lst ((xs.take h).map V.str ++ [V.str z])) fU)
  refine⟨_,rfl,_,rfl,_,_,rfl,rfl,_,rfl,b,_,rfl,ai.of (T4 _ _ ji),fun s4 gC=>?_⟩
  rw[show((h:Int)+1)=((h+1:Nat):Int) from rfl,jn,<-mz]
  have T5:=T4.trans (ak (o:= .lst ((xs.drop (h+1)).map V.str)) gC)
  refine⟨s3,s4,_,_,rfl,rfl,by rw[aj (ax af gC)];exact af,af,by rw[aW,ar,ar,aX,d6,ay];show _+1+_<=_;omega,fun s5 jJ=>?_⟩
  refine fin s5 (xs.take h ++ [z]++xs.drop (h+1)) _ (S4.trans (T5.trans (ak jJ))) (by rw[af,aY,aY];rfl) (by rw[aW,aW,aX,d6];show _+1+_<=_;omega) fun y hy=>?_
  rcases cz.mp hy with z1 | z1
  ·rcases cz.mp z1 with z2 | z2
   ·exact .inl (tm _ _ z2)
   ·rw[eL.mp z2];exact .inr (.inr (by omega))
  ·exact .inl (dm _ _ z1)
end
end bc
namespace bc
open PySem L2 PySem.W HT
theorem boot_int:bootBuiltins "int" = some (.type "int"):=by decide +kernel
section
variable {P : Program} {w : World} {K : Frag} {mg : Str -> Option Value} {base : Heap} {f : Addr} {fd : FuncData}
abbrev Se (ns:Nat) (H:Hp) (Q:VK):Prop:= ∀ (l:Addr) (zs:List Str) (H':Hp),aq H H'->H' l=some (.lst (zs.map V.str))->0 < zs.length->zs.length<=10000->(∀z∈zs,z.length<=ns)->Q (.ref l) H'
@[irreducible] def uD:Sp:=fun vs H Q _=>∃ (r:Addr) (ws:List V) (rows:bV) (x:Str) (no ns:Nat),vs = [.ref r,.str x]/\H r=some (.lst ws)/\cI H ws rows/\rows.length<=20/\(∀p∈rows,PB no ns p)/\no<=20/\x.length<=ns/\Se ns H Q
theorem aba {r:Addr}{ws:List V}{rows:bV}{x:Str}{no ns:Nat}{H:Hp}{Q:VK}{E:XK} (hr:H r=some (.lst ws)) (hw:cI H ws rows) (mh:rows.length<=20) (pb:∀p∈rows,PB no ns p) (h1:no<=20) (hx:x.length<=ns) (q:Se ns H Q):uD [.ref r,.str x] H Q E:=by
 unfold uD;exact⟨r,ws,rows,x,no,ns,rfl,hr,hw,mh,pb,h1,hx,q⟩
abbrev Sg:List Str:= ["_law_rows", "_law_kind", "_law_found", "_law_turn", "_law_one", "_law_own"]
theorem uE:cO Sg ["_law_rows", "_law_kind"] (aH pB):=⟨rfl,rfl,rfl,by decide +kernel,rfl,by decide +kernel,by decide +kernel⟩
def acK (e:Expr):Expr:=match e with | .BinOp _ _ b _=>b | _=>.Constant .none 0 ⟨0,0,0,0⟩
abbrev eLd:Expr:=acK (eF (cj (lI (cj (lI (cj (aU pB) 1)) 0)) 0))
theorem PL:cp Sg (aH pB) ["_law_each", "_law_one", "_law_found"] [none,some 4,some 2] (cD eLd):=⟨rfl,by decide +kernel,by decide +kernel,rfl,cR (by decide +kernel),by decide +kernel⟩
theorem abb (F:bw K "_law_leads" "_law_leads" pB f fd) (B:c7 mg):aN P w K mg base aS 1 f fd ["_law_rows", "_law_kind"] uD:=by
 refine F.ok uE (fun vs H Q E h=>?_) (fun aQ A outer s H vs Q E hr h=>?_)
 ·unfold uD at h;obtain⟨r,ws,rows,x,no,ns,rfl,_⟩:=h;rfl
 ·unfold uD at h
  obtain⟨r,ws,rows,x,no,ns,rfl,hR,hW,mh,pb,Ao,hx,q⟩:=h
  refine⟨_,aF (ba (i:=2) uE.nd rfl (Or.inr rfl) (cL (ae (pv 1) ah)))
   (aF (iw iH rfl (lG rfl B.range (ae (aV eW rfl B.len dz (ae (pv 0) ah)) ah)) (aR (i:=3) uE.nd rfl (Or.inl rfl))
    (aP (iw iH rfl (fq (pv 0)) (i4 (n:=2) rfl (cC (aR (i:=4) uE.nd rfl (Or.inr rfl)) (cC (aR (i:=5) uE.nd rfl (Or.inl rfl)) gk)))
     (aP (ba (i:=2) uE.nd rfl (Or.inr rfl) (aL ff (pv 2) (dg rfl PL (fq (pv 5)) (fun s H fp=>⟨aR (i:=0) PL.nd rfl (Or.inl rfl),oQ (PW.pt (pw_and (cG (De K rfl) (pv 1) (pv 2) rfl) (pw_and1 (cG (Lb K rfl) (pv 0) (pv 2) rfl)))),pv 0⟩))))))))
   (aP (bu (pv 2)))),?_⟩
  have hl:=hW.length
  refine⟨_,rfl,by show 1<=sizeLine;rw[ay];decide,fun l0 hl0=>?_⟩
  have S0:=ak (o:= .lst [V.str x]) hl0
  refine⟨_,rfl,r,_,rfl,.inl (ai.of (S0 _ _ hR)),(ws.length:Int),rfl,by omega,by omega,sT (fun i σ H1=>∃ (l:Addr) (zs:List Str) (v3 v4 v5:Option V),σ = [some (.ref r),some (.str x),some (.ref l),v3,v4,v5]/\aq H H1/\H1 l=some (.lst (zs.map V.str))/\0 < zs.length/\zs.length<=1+i * 400 /\ ∀z∈zs,z.length<=ns) ⟨l0,[x],none,none,none,rfl,S0,af,Nat.succ_pos _,aO 1,fun z hz=>by rw[eL.mp hz];exact hx⟩ ?_ ?_⟩
  ·rintro i σ H1 hi ⟨l,zs,v3,v4,v5,rfl,S1,h1,z0,z1,z2⟩
   have Bn:i < ws.length:=by simpa using hi
   refine⟨_,rfl,r,rfl,⟨_,ai.of (S1 _ _ hR)⟩,tf (xs:=ws) (fun j σ H2=>∃ (l:Addr) (zs:List Str) (v4 v5:Option V),σ = [some (.ref r),some (.str x),some (.ref l),some (.int (0+(i:Int))),v4,v5]/\aq H H2/\H2 l=some (.lst (zs.map V.str))/\0 < zs.length/\zs.length<=1+i * 400+j * 20 /\ ∀z∈zs,z.length<=ns) ⟨l,zs,v4,v5,rfl,S1,h1,z0,by omega,z2⟩ (fun j σ H2 _ ⟨_,_,_,_,_,z,_⟩=>ai.of (z _ _ hR)) ?_ ?_⟩
   ·rintro j y σ H2 hy ⟨l,zs,v4,v5,rfl,S2,h2,z0,z1,z2⟩
    have cZ:j < ws.length:=(cq.mp hy).1
    obtain⟨pp,fc,a,b,rfl,ha,hb⟩:=gm (hW.same S2) hy
    have eU:=pb pp (gj fc)
    have pfw:=eU.bg
    refine⟨a,_,rfl,aB.of ha,rfl,_,_,rfl,_,_,rfl,rfl,?_⟩
    refine⟨_,rfl,_,rfl,b,rfl,⟨_,ai.of hb⟩,fun c hc=>?_⟩
    have nlc:l≠c:=ax h2 hc
    refine gK (xs:=pp.2.map V.str) (fun m us τ H3=>∃ (t0:Option V) (rs:List Str),us=rs.map V.str/\τ = [t0,some (.str pp.1),some (.ref l)]/\rs.Sublist (pp.2.take m)/\H3=upd H2 c (.lst us)) ⟨none,[],rfl,rfl,List.nil_sublist _,rfl⟩ (fun m us τ H3 ⟨_,rs,_,_,_,z⟩=>by rw[z];exact⟨af,ai.of (ak hc _ _ hb)⟩) ?_ ?_
    ·rintro m u us τ H3 hu ⟨t0,rs,rfl,rfl,rE,rfl⟩
     have Iw:m < (pp.2.map V.str).length:=(cq.mp hu).1
     have ye:m < pp.2.length:=by simpa using Iw
     obtain rfl:V.str pp.2[m]=u:=by simpa [ye] using hu
     have Sh:pp.2.take (m+1)=pp.2.take m ++ [pp.2[m]]:=by rw[de,br ye];rfl
     have rl:rs.length<=20:=by have:=rE.length_le;rw[aX]at this;omega
     have h3:=ak (o:= .lst (rs.map V.str)) hc _ _ h2
     have skip:∃m',m' < (pp.2.map V.str).length - m/\CW (fun m us τ H3=>∃ (t0:Option V) (rs:List Str),us=rs.map V.str/\τ = [t0,some (.str pp.1),some (.ref l)]/\rs.Sublist (pp.2.take m)/\H3=upd H2 c (.lst us)) (pp.2.map V.str).length (m+1) m' (rs.map V.str) ([t0,some (.str pp.1),some (.ref l)].set 0 (some (.str pp.2[m]))) (upd H2 c (.lst (rs.map V.str))):=by
      refine cw_next Iw ⟨_,rs,rfl,rfl,?_,rfl⟩
      rw[Sh];exact rE.trans (List.sublist_append_left _ _)
     refine⟨_,rfl,_,rfl,l,_,rfl,.inl (ai.of h3),rfl,mU _,_,rfl,?_⟩
     refine eM (fun _=>?_) (fun _=>skip)
     refine⟨_,rfl,_,rfl,l,_,rfl,.inl (ai.of h3),rfl,mU _,_,rfl,?_⟩
     refine eM (fun _=>?_) (fun _=>skip)
     refine⟨_,rfl,af,by rw[ar,ay];omega,cw_next Iw ⟨_,rs ++ [pp.2[m]],by rw[aY];rfl,rfl,?_,by rw[iq]⟩⟩
     rw[Sh];exact rE.append (List.Sublist.refl _)
    rintro us τ H3 ⟨t0,rs,rfl,rfl,rE,rfl⟩
    rw[ar,dw]at rE
    have rl:=rE.length_le
    have S3:=ak (o:= .lst (rs.map V.str)) hc
    refine⟨l,c,_,_,rfl,rfl,S3 _ _ h2,af,by rw[ar,ar,ay];omega,fun l2 fh=>?_⟩
    refine⟨l2,zs++rs,_,_,rfl,S2.trans (S3.trans (ak fh)),by rw[af,aY],by rw[aW];omega,by rw[aW];omega,fun z hz=>?_⟩
    rcases cz.mp hz with z' | z'
    ·exact z2 z z'
    ·exact eU.short z (rE.subset z')
   ·rintro σ H2 ⟨l,zs,v4,v5,rfl,S2,h2,z0,z1,z2⟩
    exact⟨l,zs,_,_,_,rfl,S2,h2,z0,by omega,z2⟩
  ·rintro σ H1 ⟨l,zs,v3,v4,v5,rfl,S1,h1,z0,z1,z2⟩
   rw[qx]at z1
   exact⟨_,rfl,q l zs H1 S1 h1 z0 (by omega) z2⟩
end
end bc
namespace bc
open PySem L2 PySem.W HT
theorem cI.set {H:Hp}:∀ {ws:List V}{rs:bV}{v:V}{p:Str×List Str} (k:Nat),cI H ws rs->(∃a b,v=V.ref a/\H a=some (.tup [.str p.1,.ref b])/\H b=some (.lst (p.2.map V.str)))->cI H (ws.set k v) (rs.set k p)
 | _,_,_,_,_,.nil,_=>.nil
 | _,_,_,_,0,.cons _ b,r=>.cons r b
 | _,_,_,_,k+1,.cons a b,r=>.cons a (cI.set k b r)
theorem Nz {n j:Nat} (h:j < n):nW n (j:Int)=some j:=by unfold nW;rw[aI (by omega),aI (by omega)];rfl
theorem DD {α β:Type}{F:α->β->Prop}:∀ {a b:List α}{c d:List β},Paired F a c->Paired F b d->Paired F (a++b) (c++d)
 | _,_,_,_,.nil,q=>q
 | _,_,_,_,.cons x y,q=>.cons x (DD y q)
theorem acL {G R:Prop} (h1:R->G) (h2:R):G:=h1 h2
section
variable {P : Program} {w : World} {K : Frag} {mg : Str -> Option Value} {base : Heap} {f : Addr} {fd : FuncData}
abbrev Si (no ns:Nat) (rows:bV) (H:Hp) (Q:VK):Prop:= ∀ (l:Addr) (ws:List V) (rs:bV) (H':Hp),aq H H'->H' l=some (.lst ws)->cI H' ws rs->0 < rs.length->rs.length<=rows.length+1->(∀p∈rs,PB (no+1) (ns+1) p)->Q (.ref l) H'
@[irreducible] def uF:Sp:=fun vs H Q _=>∃ (r:Addr) (ws:List V) (rows:bV) (wy n:Int) (no ns:Nat),vs = [.ref r,.int wy,.int n]/\0<=n/\H r=some (.lst ws)/\cI H ws rows/\0 < rows.length/\rows.length<=20/\(∀p∈rows,PB no ns p)/\no<=20/\8<=ns/\ns<=60/\Si no ns rows H Q
theorem abc {r:Addr}{ws:List V}{rows:bV}{wy n:Int}{no ns:Nat}{H:Hp}{Q:VK}{E:XK} (hn:0<=n) (hr:H r=some (.lst ws)) (hw:cI H ws rows) (h0:0 < rows.length) (mh:rows.length<=20) (pb:∀p∈rows,PB no ns p) (h1:no<=20) (h2:8<=ns) (h3:ns<=60) (q:Si no ns rows H Q):uF [.ref r,.int wy,.int n] H Q E:=by
 unfold uF;exact⟨r,ws,rows,wy,n,no,ns,rfl,hn,hr,hw,h0,mh,pb,h1,h2,h3,q⟩
abbrev Sj:List Str:= ["_law_rows", "_law_way", "_law_number", "_law_at", "_law_kind", "_law_own", "_law_other", "_law_some", "_law_above"]
theorem nN:cO Sj ["_law_rows", "_law_way", "_law_number"] (aH oZ):=⟨rfl,rfl,rfl,by decide +kernel,rfl,by decide +kernel,by decide +kernel⟩
abbrev eSl:Expr:=wO (cj (aU oZ) 10)
theorem EF:cp Sj (aH oZ) ["_law_one", "_law_parents_here", "_law_kind", "_law_other"] [none,none,some 4,some 6] (cD eSl):=⟨rfl,by decide +kernel,by decide +kernel,rfl,cR (by decide +kernel),by decide +kernel⟩
theorem abd {fO fM fL:Addr}{dO dM dL:FuncData} (F:bw K "_law_spoilt" "_law_spoilt" oZ f fd) (B:c7 mg) (bi:mg "int" = none)
  (GO:aN P w K mg base aS 3 fO dO ["_law_rows", "_law_at", "_law_way", "_law_number"] uC) (kO:keepIn K (.ref fO)=true) (bO:Binds K dO ["_law_rows", "_law_at", "_law_way", "_law_number"] []) (mO:mg "_law_other_parents" = some (.ref fO))
  (GM:aN P w K mg base aS 2 fM dM ["_law_name", "_law_number"] qZ) (kM:keepIn K (.ref fM)=true) (bM:Binds K dM ["_law_name", "_law_number"] []) (mM:mg "_law_misspelt" = some (.ref fM))
  (GL:aN P w K mg base aS 1 fL dL ["_law_rows", "_law_kind"] uD) (kL:keepIn K (.ref fL)=true) (bL:Binds K dL ["_law_rows", "_law_kind"] []) (mL:mg "_law_leads" = some (.ref fL)):aN P w K mg base aS 4 f fd ["_law_rows", "_law_way", "_law_number"] uF:=by
 refine F.ok nN (fun vs H Q E h=>?_) (fun aQ A outer s H vs Q E hr h=>?_)
 ·unfold uF at h;obtain⟨r,ws,rows,wy,n,no,ns,rfl,_⟩:=h;rfl
 ·unfold uF at h
  obtain⟨r,ws,rows,wy,n,no,ns,rfl,hn,hR,hW,h0,mh,pb,Ao,xJ,PH,q⟩:=h
  have mf:bQ 3 _:=hr
  have ia:bQ 2 _:=mf.mono (by decide)
  have cY:bQ 1 _:=mf.mono (by decide)
  refine⟨_,aF (ba (i:=3) nN.nd rfl (Or.inl rfl) (aL fE (pv 2) (aV eW rfl B.len dz (ae (pv 0) ah))))
   (aF (pj (bC dW (pv 0) (pv 3) (fun _ _=>rfl)) (i4 (n:=2) rfl (cC (aR (i:=4) nN.nd rfl (Or.inr rfl)) (cC (aR (i:=5) nN.nd rfl (Or.inl rfl)) gk))))
   (aF (ba (i:=2) nN.nd rfl (Or.inl rfl) (aL kU (pv 2) (aV eW rfl B.len dz (ae (pv 0) ah))))
   (aF (m8 (cG wq (pv 1) aD (cB _)) (aL ff (aL ff (dB fu (pv 0) dC (dj (pv 3))) (cL (lT (ae (pv 4) (ae (bG GO mf rfl mO kO bO .nil bE (ae (pv 0) (ae (pv 3) (ae (pv 1) (ae (pv 2) ah))))) ah)) ah))) (dB fu (pv 0) (dj (aL gM (pv 3) aD)) dC)))
   (aF (eg (cG iL (pv 1) aD (cB _))
    (aF (ba (i:=6) nN.nd rfl (Or.inr rfl) (aL fE (pv 2) (aV eW rfl B.len dz (ae (pv 0) ah))))
    (aF (ba (i:=7) nN.nd rfl (Or.inl rfl) (eX oO rfl B.list boot_list (ae (pv 0) ah)))
    (aF (pj (gN (ae (bC dW (pv 7) (pv 6) (fun _ _=>rfl)) (ae (bC dW (pv 7) (pv 3) (fun _ _=>rfl)) ah))) (i4 (n:=2) rfl (cC (zI (pv 7) (pv 3) set_list) (cC (zI (pv 7) (pv 6) set_list) gk))))
    (Dj (pv 7))))) d9)
   (aF (m8 (cG iL (pv 1) aD (cB _)) (aL ff (aL ff (dB fu (pv 0) dC (dj (pv 3))) (cL (lT (ae (pv 4) (ae (bC dW (cL (ae (pv 5) (ae (dB fu (pv 5) dC (dj (zT zJ aD))) ah))) (aL fE (pv 2) aD) (fun _ _=>rfl)) ah)) ah))) (dB fu (pv 0) (dj (pv 3)) dC)))
   (aF (m8 (PW.pt (pw_and (cG iL (pv 1) aD (cB _)) (pw_and1 (cG zU (aV eW rfl B.len dz (ae (pv 0) ah)) aD (cB _))))) (aL ff (dB fu (pv 0) dC (dj (pv 3))) (dB fu (pv 0) (dj (aL gM (pv 3) aD)) dC)))
   (aF (m8 (cG iL (pv 1) aD (cB _)) (aL ff (aL ff (dB fu (pv 0) dC (dj (pv 3))) (cL (lT (ae (bG GM ia rfl mM kM bM .nil bE (ae (pv 4) (ae (pv 2) ah))) (ae (pv 5) ah)) ah))) (dB fu (pv 0) (dj (aL gM (pv 3) aD)) dC)))
   (aF (ba (i:=8) nN.nd rfl (Or.inl rfl) (bG GL cY rfl mL kL bL .nil bE (ae (pv 0) (ae (pv 4) ah))))
   (aF (ba (i:=6) nN.nd rfl (Or.inr rfl) (bC dW (pv 8) (aL fE (pv 2) (aV eW rfl B.len dz (ae (pv 8) ah))) (fun _ _=>rfl)))
   (aP (bu (dg rfl EF (fq (pv 0)) (fun s H fp=>⟨qM (n:=2) K rfl rfl (cC (aR (i:=0) EF.nd rfl (Or.inl rfl)) (cC (aR (i:=1) EF.nd rfl (Or.inl rfl)) gk)),dh,
    gN (ae (pv 0) (ae (aL ff (pv 1) (aL Zx (cL (ae (pv 2) ah)) (eX Lu rfl bi boot_int (ae (jq iL (pv 0) (pv 3) (cB _)) ah)))) ah))⟩))))))))))))),?_⟩
  have hl:=hW.length
  have one:1<=sizeLine:=by rw[ay];decide
  have two:2<=sizeLine:=by rw[ay];decide
  have lC:∀p∈rows,PB (no+1) (ns+1) p:=fun p hp=>(pb p hp).mono (by omega) (by omega)
  refine⟨_,rfl,_,rfl,r,_,rfl,.inl (ai.of hR),_,_,rfl,rfl,by show(0:Int) < _;omega,?_⟩
  obtain⟨k,ek,hk⟩:=iZ (n:=n) (m:=(ws.length:Int)) (by omega)
  dsimp only
  rw[ek]
  have mi:k < ws.length:=by omega
  obtain⟨pp,fc,a,b,ea,ha,hb⟩:=gm hW (br mi)
  have pm:=gj fc
  have eU:=pb pp pm
  refine⟨_,rfl,_,rfl,r,_,_,.ref a,rfl,rfl,ai.of hR,dE (by rw[br mi,ea]),a,_,rfl,aB.of ha,rfl,_,_,rfl,_,_,rfl,rfl,?_⟩
  refine⟨_,rfl,_,rfl,r,_,rfl,.inl (ai.of hR),_,_,rfl,rfl,⟨by omega,by omega⟩,?_⟩
  have pU:0<=n / (ws.length:Int):=Kx hn (by omega)
  dsimp only
  generalize n / (ws.length:Int)=n2 at pU ⊢
  refine⟨_,rfl,_,_,rfl,rfl,_,rfl,?_⟩
  refine eM (fun h5=>?_) (fun h5=>?_)
  ·refine⟨_,rfl,_,rfl,_,rfl,r,_,rfl,ai.of hR,fun s1 ib=>?_⟩
   rw[kX]
   have T1:=ak (o:= .lst (ws.take k)) ib
   have f1:upd H s1 (.lst (ws.take k)) s1=_:=af
   generalize upd H s1 (.lst (ws.take k))=J1 at T1 f1 ⊢
   refine⟨_,rfl,_,rfl,_,rfl,_,rfl,_,rfl,aa8 (k:=k) pU (T1 _ _ hR) (hW.same T1) (by omega) mh pb Ao xJ PH fun l zs J2 T2 fh zl sh=>⟨two,fun t ht=>?_⟩⟩
   have T3:=ak (o:= .tup [V.str pp.1,V.ref l]) ht
   have lD:=T1.trans (T2.trans T3)
   have f3:=T3 _ _ (T2 _ _ f1)
   have qp:upd J2 t (.tup [V.str pp.1,V.ref l]) t=_:=af
   have l9:=T3 _ _ fh
   generalize upd J2 t (.tup [V.str pp.1,V.ref l])=J3 at lD f3 qp l9 ⊢
   refine⟨one,fun s2 f'=>?_⟩
   have U2:=ak (o:= .lst [V.ref t]) f'
   refine⟨s1,s2,_,_,rfl,rfl,U2 _ _ f3,af,by rw[aX,ay];show _+1<=_;omega,fun s3 fU=>?_⟩
   have U3:=U2.trans (ak (o:= .lst (ws.take k ++ [V.ref t])) fU)
   refine⟨_,rfl,_,rfl,_,_,rfl,rfl,_,rfl,r,_,rfl,ai.of (U3 _ _ (lD _ _ hR)),fun s4 gC=>?_⟩
   rw[show((k:Int)+1)=((k+1:Nat):Int) from rfl,jn]
   have U4:=U3.trans (ak (o:= .lst (ws.drop (k+1))) gC)
   refine⟨s3,s4,_,_,rfl,rfl,by rw[aj (ax af gC)];exact af,af,by rw[aW,aX,d6,ay];show _+1+_<=_;omega,fun s5 jJ=>?_⟩
   have U5:=U4.trans (ak (o:= .lst (ws.take k ++ [V.ref t]++ws.drop (k+1))) jJ)
   have UH:=lD.trans U5
   refine q s5 _ (rows.take k ++ [(pp.1,zs)]++rows.drop (k+1)) _ UH af ((cI.app ((hW.same UH).take k) (show cI _ [V.ref t] [(pp.1,zs)] from .cons ⟨t,l,rfl,U5 _ _ qp,U5 _ _ l9⟩ .nil)).app ((hW.same UH).drop (k+1))) (by rw[aW,aW];show 0 < _+1+_;omega) (by rw[aW,aW,aX,d6];show _+1+_<=_;omega) fun p' hZ=>?_
   rcases cz.mp hZ with z1 | z1
   ·rcases cz.mp z1 with z2 | z2
    ·exact lC _ (oN z2)
    ·rw[eL.mp z2];exact⟨by show pp.1.length<=_;exact jN eU.key,zl,sh⟩
   ·exact lC _ (mE z1)
  refine⟨_,rfl,rfl,_,rfl,?_⟩
  refine eM (fun h6=>?_) (fun h6=>?_)
  ·refine⟨_,rfl,_,rfl,r,_,rfl,.inl (ai.of hR),_,_,rfl,rfl,by show(0:Int) < _;omega,?_⟩
   obtain⟨o,eo,ho⟩:=iZ (n:=n2) (m:=(ws.length:Int)) (by omega)
   dsimp only
   rw[eo]
   have how:o < ws.length:=by omega
   obtain⟨po,hpo,ao,bo,eao,hao,xH⟩:=gm hW (br how)
   refine⟨_,rfl,r,_,rfl,.inl (ai.of hR),fun l pX=>?_⟩
   have S1:=ak (o:= .lst ws) pX
   refine⟨_,rfl,_,rfl,l,_,_,.ref ao,rfl,rfl,ai.of af,dE (by rw[br how,eao]),_,rfl,_,rfl,l,_,_,.ref a,rfl,rfl,ai.of af,dE (by rw[br mi,ea]),two,fun t ht=>?_⟩
   have S2:=ak (o:= .tup [V.ref ao,V.ref a]) ht
   have vb:=S2 _ _ (af (H:=H) (a:=l) (o:= .lst ws))
   refine⟨t,_,rfl,aB.of af,rfl,.ref ao,[.ref a],rfl,_,rfl,_,rfl,l,ws,_,k,rfl,rfl,vb,Nz mi,.ref a,[],rfl,_,rfl,_,rfl,l,_,_,o,rfl,rfl,af,Nz (by rw[yG];exact how),rfl,?_⟩
   have up:aq H (upd (upd (upd (upd H l (.lst ws)) t (.tup [V.ref ao,V.ref a])) l (.lst (ws.set k (.ref ao)))) l (.lst ((ws.set k (.ref ao)).set o (.ref a)))):=fun x u e=>by
    have Sk:x≠l:=ax e pX
    rw[aj Sk,aj Sk];exact S2 _ _ (S1 _ _ e)
   refine⟨_,rfl,q l _ ((rows.set k po).set o pp) _ up af (cI.set o (cI.set k (hW.same up) ⟨ao,bo,rfl,up _ _ hao,up _ _ xH⟩) ⟨a,b,rfl,up _ _ ha,up _ _ hb⟩) (by rw[yG,yG];exact h0) (by rw[yG,yG];omega) fun p' hZ=>?_⟩
   rcases amJ hZ with z | z
   ·rcases amJ z with z | z
    ·exact lC _ z
    ·rw[z];exact lC _ (gj hpo)
   ·rw[z];exact lC _ pm
  refine⟨_,rfl,rfl,_,rfl,?_⟩
  refine eM (fun h7=>?_) (fun h7=>?_)
  ·refine⟨_,rfl,_,rfl,_,rfl,r,_,rfl,ai.of hR,fun s1 ib=>?_⟩
   rw[kX]
   have T1:=ak (o:= .lst (ws.take k)) ib
   have f1:upd H s1 (.lst (ws.take k)) s1=_:=af
   generalize upd H s1 (.lst (ws.take k))=J1 at T1 f1 ⊢
   refine⟨_,rfl,_,rfl,_,rfl,_,rfl,_,rfl,b,_,rfl,ai.of (T1 _ _ hb),fun c1 jI=>?_⟩
   rw[MG]
   have T2:=ak (o:= .lst (pp.2.dropLast.map V.str)) jI
   have e2:upd J1 c1 (.lst (pp.2.dropLast.map V.str)) c1=_:=af
   generalize upd J1 c1 (.lst (pp.2.dropLast.map V.str))=J2 at T2 e2 ⊢
   refine⟨two,fun c2 cU=>?_⟩
   have T3:=ak (o:= .lst [V.ref b,V.ref c1]) cU
   obtain⟨d,ed,hd⟩:=iZ (n:=n2) (m:=2) (by decide)
   obtain⟨x,zs,xV,hx,zl,sh⟩:∃ (x:Addr) (zs:List Str),dH [V.ref b,V.ref c1] (d:Int)=some (.ref x)/\upd J2 c2 (.lst [V.ref b,V.ref c1]) x=some (.lst (zs.map V.str))/\zs.length<=no+1 /\ ∀z∈zs,z.length<=ns+1:=by
    have:d=0\/d=1:=by omega
    rcases this with rfl | rfl
    ·exact⟨b,pp.2,rfl,T3 _ _ (T2 _ _ (T1 _ _ hb)),jN eU.bg,fun z hz=>jN (eU.short z hz)⟩
    ·exact⟨c1,pp.2.dropLast,rfl,T3 _ _ e2,by have:=eU.bg;rw[Vi];omega,fun z hz=>jN (eU.short z ((amE _).subset hz))⟩
   refine⟨_,rfl,_,_,rfl,rfl,by show(0:Int) < 2;decide,?_⟩
   dsimp only
   rw[ed]
   refine⟨c2,_,_,.ref x,rfl,rfl,ai.of af,xV,two,fun t ht=>?_⟩
   have T4:=ak (o:= .tup [V.str pp.1,V.ref x]) ht
   have lD:=T1.trans (T2.trans (T3.trans T4))
   have f3:=T4 _ _ (T3 _ _ (T2 _ _ f1))
   have qp:upd (upd J2 c2 (.lst [V.ref b,V.ref c1])) t (.tup [V.str pp.1,V.ref x]) t=_:=af
   have l9:=T4 _ _ hx
   generalize upd (upd J2 c2 (.lst [V.ref b,V.ref c1])) t (.tup [V.str pp.1,V.ref x])=J3 at lD f3 qp l9 ⊢
   refine⟨one,fun s2 f'=>?_⟩
   have U2:=ak (o:= .lst [V.ref t]) f'
   refine⟨s1,s2,_,_,rfl,rfl,U2 _ _ f3,af,by rw[aX,ay];show _+1<=_;omega,fun s3 fU=>?_⟩
   have U3:=U2.trans (ak (o:= .lst (ws.take k ++ [V.ref t])) fU)
   refine⟨_,rfl,_,rfl,_,rfl,r,_,rfl,ai.of (U3 _ _ (lD _ _ hR)),fun s4 gC=>?_⟩
   rw[jn]
   have U4:=U3.trans (ak (o:= .lst (ws.drop (k))) gC)
   refine⟨s3,s4,_,_,rfl,rfl,by rw[aj (ax af gC)];exact af,af,by rw[aW,aX,d6,ay];show _+1+_<=_;omega,fun s5 jJ=>?_⟩
   have U5:=U4.trans (ak (o:= .lst (ws.take k ++ [V.ref t]++ws.drop (k))) jJ)
   have UH:=lD.trans U5
   refine q s5 _ (rows.take k ++ [(pp.1,zs)]++rows.drop (k)) _ UH af ((cI.app ((hW.same UH).take k) (show cI _ [V.ref t] [(pp.1,zs)] from .cons ⟨t,x,rfl,U5 _ _ qp,U5 _ _ l9⟩ .nil)).app ((hW.same UH).drop (k))) (by rw[aW,aW];show 0 < _+1+_;omega) (by rw[aW,aW,aX,d6];show _+1+_<=_;omega) fun p' hZ=>?_
   rcases cz.mp hZ with z1 | z1
   ·rcases cz.mp z1 with z2 | z2
    ·exact lC _ (oN z2)
    ·rw[eL.mp z2];exact⟨by show pp.1.length<=_;exact jN eU.key,zl,sh⟩
   ·exact lC _ (mE z1)
  refine⟨_,rfl,rfl,_,rfl,?_⟩
  apply acL
  ·intro rest
   refine eM (fun h8=>?_) (fun h8=>rest)
   refine⟨_,rfl,r,_,rfl,.inl (ai.of hR),_,_,rfl,rfl,_,rfl,?_⟩
   by_cases h1:1 < ws.length
   case neg =>
    rw[show decide ((ws.length:Int) > 1)=false from c8 (by omega)]
    exact rest
   rw[show decide ((ws.length:Int) > 1)=true from cF (by omega)]
   refine⟨_,rfl,_,rfl,_,rfl,r,_,rfl,ai.of hR,fun s1 ib=>?_⟩
   rw[kX]
   have T1:=ak (o:= .lst (ws.take k)) ib
   have f1:upd H s1 (.lst (ws.take k)) s1=_:=af
   generalize upd H s1 (.lst (ws.take k))=J1 at T1 f1 ⊢
   refine⟨_,rfl,_,rfl,_,_,rfl,rfl,_,rfl,r,_,rfl,ai.of (T1 _ _ hR),fun s2 f'=>?_⟩
   rw[show((k:Int)+1)=((k+1:Nat):Int) from rfl,jn]
   have T2:=ak (o:= .lst (ws.drop (k+1))) f'
   refine⟨s1,s2,_,_,rfl,rfl,T2 _ _ f1,af,by rw[aX,d6,ay];omega,fun s3 fU=>?_⟩
   have UH:=T1.trans (T2.trans (ak (o:= .lst (ws.take k++ws.drop (k+1))) fU))
   refine q s3 _ (rows.take k++rows.drop (k+1)) _ UH af (((hW.same UH).take k).app ((hW.same UH).drop (k+1))) (by rw[aW,aX,d6];omega) (by rw[aW,aX,d6];omega) fun p' hZ=>?_
   rcases cz.mp hZ with z1 | z1
   ·exact lC _ (oN z1)
   ·exact lC _ (mE z1)
  refine⟨_,rfl,rfl,_,rfl,?_⟩
  refine eM (fun h9=>?_) (fun h9=>?_)
  ·refine⟨_,rfl,_,rfl,_,rfl,r,_,rfl,ai.of hR,fun s1 ib=>?_⟩
   rw[kX]
   have T1:=ak (o:= .lst (ws.take k)) ib
   have f1:upd H s1 (.lst (ws.take k)) s1=_:=af
   generalize upd H s1 (.lst (ws.take k))=J1 at T1 f1 ⊢
   refine⟨_,rfl,_,rfl,N2 pU (by have:=eU.key;omega) fun z J2 zl T2=>⟨_,rfl,two,fun t ht=>?_⟩⟩
   have T3:=ak (o:= .tup [V.str z,V.ref b]) ht
   have lD:=T1.trans (T2.trans T3)
   have f3:=T3 _ _ (T2 _ _ f1)
   have qp:upd J2 t (.tup [V.str z,V.ref b]) t=_:=af
   have l9:=T3 _ _ (T2 _ _ (T1 _ _ hb))
   generalize upd J2 t (.tup [V.str z,V.ref b])=J3 at lD f3 qp l9 ⊢
   refine⟨one,fun s2 f'=>?_⟩
   have U2:=ak (o:= .lst [V.ref t]) f'
   refine⟨s1,s2,_,_,rfl,rfl,U2 _ _ f3,af,by rw[aX,ay];show _+1<=_;omega,fun s3 fU=>?_⟩
   have U3:=U2.trans (ak (o:= .lst (ws.take k ++ [V.ref t])) fU)
   refine⟨_,rfl,_,rfl,_,_,rfl,rfl,_,rfl,r,_,rfl,ai.of (U3 _ _ (lD _ _ hR)),fun s4 gC=>?_⟩
   rw[show((k:Int)+1)=((k+1:Nat):Int) from rfl,jn]
   have U4:=U3.trans (ak (o:= .lst (ws.drop (k+1))) gC)
   refine⟨s3,s4,_,_,rfl,rfl,by rw[aj (ax af gC)];exact af,af,by rw[aW,aX,d6,ay];show _+1+_<=_;omega,fun s5 jJ=>?_⟩
   have U5:=U4.trans (ak (o:= .lst (ws.take k ++ [V.ref t]++ws.drop (k+1))) jJ)
   have UH:=lD.trans U5
   refine q s5 _ (rows.take k ++ [(z,pp.2)]++rows.drop (k+1)) _ UH af ((cI.app ((hW.same UH).take k) (show cI _ [V.ref t] [(z,pp.2)] from .cons ⟨t,b,rfl,U5 _ _ qp,U5 _ _ l9⟩ .nil)).app ((hW.same UH).drop (k+1))) (by rw[aW,aW];show 0 < _+1+_;omega) (by rw[aW,aW,aX,d6];show _+1+_<=_;omega) fun p' hZ=>?_
   rcases cz.mp hZ with z1 | z1
   ·rcases cz.mp z1 with z2 | z2
    ·exact lC _ (oN z2)
    ·rw[eL.mp z2];exact⟨by show z.length<=_;have:=eU.key;omega,jN eU.bg,fun x hx=>jN (eU.short x hx)⟩
   ·exact lC _ (mE z1)
  refine⟨_,rfl,_,rfl,aba hR hW mh pb Ao eU.key fun l zs J1 T1 jg z0 z1 z2=>?_⟩
  obtain⟨o,eo,ho⟩:=iZ (n:=n2) (m:=((zs.map V.str).length:Int)) (by rw[ar];omega)
  have yt:o < zs.length:=by rw[ar]at ho;omega
  refine⟨_,rfl,_,rfl,_,rfl,l,_,rfl,.inl (ai.of jg),_,_,rfl,rfl,by show(0:Int) < _;rw[ar];omega,?_⟩
  dsimp only
  rw[eo]
  refine⟨l,_,_,.str zs[o],rfl,rfl,ai.of jg,dE (by rw[gX,br yt];rfl),?_⟩
  generalize zs[o]=pW
  refine⟨_,rfl,r,rfl,⟨_,ai.of (T1 _ _ hR)⟩,fun c hc=>?_⟩
  have hW1:=hW.same T1
  refine gK (xs:=ws) (fun i us τ J2=>∃ (t0 t1:Option V) (rs:bV),τ = [t0,t1,some (.str pp.1),some (.str pW)]/\aq J1 J2/\J2 c=some (.lst us)/\Paired (fun y p=>∃a b,y=V.ref a/\J2 a=some (.tup [.str p.1,.ref b])/\J2 b=some (.lst (p.2.map V.str))/\b≠c) us rs/\rs.length=i /\ ∀p∈rs,PB (no+1) (ns+1) p) ⟨none,none,[],rfl,ak hc,af,.nil,rfl,fun p hp=>(by cases hp)⟩ (fun i us τ J2 ⟨_,_,_,_,z,z2,_⟩=>⟨z2,ai.of (z _ _ (T1 _ _ hR))⟩) ?_ ?_
  ·rintro i x us τ J2 hx ⟨t0,t1,rs,rfl,T2,h2,Ap,rl,Iy⟩
   have aM:i < ws.length:=(cq.mp hx).1
   obtain⟨p',ED,a',b',rfl,gB,cX⟩:=gm (hW1.same T2) hx
   have EG:=pb p' (gj ED)
   refine⟨a',_,rfl,aB.of gB,rfl,_,_,rfl,_,_,rfl,rfl,?_⟩
   refine⟨_,rfl,_,rfl,_,rfl,one,fun x1 nX=>⟨_,rfl,_,rfl,rfl,.inr ⟨_,rfl,?_⟩⟩⟩
   generalize decide (V.str p'.1=V.str pW)=bb
   have V1:=ak (o:= .lst [V.str pp.1]) nX
   obtain⟨ad,ead,adl,ads⟩:∃ad:List Str,(List.replicate (if bb=true then (1:Int) else 0).toNat [V.str pp.1]).flatten=ad.map V.str/\ad.length<=1 /\ ∀z∈ad,z.length<=ns:=by
    cases bb
    ·exact⟨[],rfl,by decide,fun z hz=>by cases hz⟩
    ·exact⟨[pp.1],rfl,aO 1,fun z hz=>by rw[eL.mp hz];exact eU.key⟩
   refine⟨x1,_,_,rfl,rfl,af,by cases bb <;> decide,by cases bb <;> decide,by show 1 * _<=_;rw[ay];cases bb <;> decide,fun x2 lx=>?_⟩
   rw[ead]
   have V2:=V1.trans (ak (o:= .lst (ad.map V.str)) lx)
   have pf:=EG.bg
   refine⟨b',x2,_,_,rfl,rfl,V2 _ _ cX,af,by rw[ar,ar,ay];omega,fun x3 Sn=>⟨two,fun t ht=>?_⟩⟩
   have V3:=V2.trans (ak (o:= .lst (p'.2.map V.str++ad.map V.str)) Sn)
   have V4:=V3.trans (ak (o:= .tup [V.str p'.1,V.ref x3]) ht)
   have PM:upd (upd (upd (upd J2 x1 (.lst [V.str pp.1])) x2 (.lst (ad.map V.str))) x3 (.lst (p'.2.map V.str++ad.map V.str))) t (.tup [V.str p'.1,V.ref x3]) x3=some (.lst ((p'.2++ad).map V.str)):=by rw[aj (ax af ht),af,aY]
   have So:upd (upd (upd (upd J2 x1 (.lst [V.str pp.1])) x2 (.lst (ad.map V.str))) x3 (.lst (p'.2.map V.str++ad.map V.str))) t (.tup [V.str p'.1,V.ref x3]) t=some (.tup [V.str p'.1,V.ref x3]):=af
   have h4:=V4 _ _ h2
   generalize upd (upd (upd (upd J2 x1 (.lst [V.str pp.1])) x2 (.lst (ad.map V.str))) x3 (.lst (p'.2.map V.str++ad.map V.str))) t (.tup [V.str p'.1,V.ref x3])=J4 at V4 PM So h4 ⊢
   have ul:=jL Ap
   have up:∀x u,J1 x=some u->upd J4 c (.lst (us ++ [V.ref t])) x=some u:=fun x u e=>by rw[aj (ax e hc)];exact V4 _ _ (T2 _ _ e)
   refine⟨h4,by rw[ay];omega,cw_next aM ⟨_,_,rs ++ [(p'.1,p'.2++ad)],rfl,up,af,?_,by rw[aW,rl];rfl,fun p hp=>?_⟩⟩
   ·have Sq:∀y ys,J4 y=some (.tup ys)->upd J4 c (.lst (us ++ [V.ref t])) y=some (.tup ys):=fun y ys e=>by rw[aj (bZ e h4 (by intro z;cases z))];exact e
    have xY:∀y ys,J4 y=some (.lst ys)->y≠c->upd J4 c (.lst (us ++ [V.ref t])) y=some (.lst ys):=fun y ys e n=>by rw[aj n];exact e
    have Ss:x3≠c:=fun z=>by
     have:=V2 _ _ h2
     rw[<-z,Sn]at this;cases this
    exact DD (Paired.imp' (fun v q ⟨a2,b2,e1,e2,e3,e4⟩=>⟨a2,b2,e1,Sq _ _ (V4 _ _ e2),xY _ _ (V4 _ _ e3) e4,e4⟩) Ap) (.cons ⟨t,x3,rfl,Sq _ _ So,xY _ _ PM Ss,Ss⟩ .nil)
   ·rcases cz.mp hp with z | z
    ·exact Iy p z
    ·rw[eL.mp z]
     refine⟨jN EG.key,by show(p'.2++ad).length<=_;rw[aW];omega,fun y hy=>?_⟩
     rcases cz.mp hy with z' | z'
     ·exact jN (EG.short y z')
     ·exact jN (ads y z')
  ·rintro us τ J2 ⟨t0,t1,rs,rfl,T2,h2,Ap,rl,Iy⟩
   exact q c us rs J2 (T1.trans T2) h2 (Paired.imp' (fun v q ⟨a2,b2,e1,e2,e3,_⟩=>⟨a2,b2,e1,e2,e3⟩) Ap) (by omega) (by omega) Iy
end
end bc
namespace bc
open PySem L2 PySem.W HT
def cV:Expr->Option V
 | .Constant .none _ _=>some .aG
 | .Constant (.bool b) _ _=>some (.bl b)
 | .Constant (.int i) _ _=>some (.int i)
 | .Constant (.str x) _ _=>some (.str x)
 | .UnaryOp .USub (.Constant (.int i) _ _) _=>some (.int (-i))
 | _=>none
section
variable {X : Cx}
theorem abe {e:Expr}{v:V} (h:cV e=some v):PE X e (tC v):=by
 unfold cV at h
 split at h
 ·cases h;exact i3
 ·cases h;exact g7
 ·cases h;exact aD
 ·cases h;exact iJ
 ·cases h;exact fun pins s σ H Q I q=>zT zJ aD pins s σ H Q I ⟨_,rfl,q⟩
 ·cases h
theorem Yj {e:Expr}{v:V}{es:List Expr} (h:cV e=some v):starEach (e::es) X.env=(false,eval e X.env)::starEach es X.env:=by
 unfold cV at h
 split at h <;> first | rfl | cases h
end
def N3 (e:Expr):List Expr:=match e with | .List es _=>es | _=>[]
def EH (e:Expr):Expr:=match e with | .Subscript o _ _=>o | _=>.Constant .none 0 ⟨0,0,0,0⟩
abbrev Ow:List Expr:=N3 (EH (eF (cj (aU jW) 0)))
mutual
inductive CT where
 | v (x:V)
 | tup (l:si)
 | lst (l:si)
 | jE
inductive si where
 | nil
 | cons (a:CT) (b:si)
end
mutual
def lE:CT->Expr->Bool
 | .v x,e=>decide (cV e=some x)
 | .tup l,e=>match e with | .Tuple es _ _=>nO l es | _=>false
 | .lst l,e=>match e with | .List es _=>nO l es | _=>false
 | .jE,e=>match e with | .Dict [] [] _=>true | _=>false
def nO:si->List Expr->Bool
 | .nil,es=>es.isEmpty
 | .cons a b,es=>match es with | e::r=>lE a e && nO b r | []=>false
end
mutual
def tE:CT->TE
 | .v x=>tC x
 | .tup l=>iy (tA l)
 | .lst l=>rk (tA l)
 | .jE=>Du
def tA:si->TA
 | .nil=>f7
 | .cons a b=>ck (tE a) (tA b)
end
theorem Xm {X:Cx}{c:CT}{e:Expr}{es:List Expr} (h:lE c e=true):starEach (e::es) X.env=(false,eval e X.env)::starEach es X.env:=by
 cases c with
 | v x=>unfold lE at h;exact Yj (iG h)
 | tup l=>unfold lE at h;split at h <;> first | rfl | cases h
 | lst l=>unfold lE at h;split at h <;> first | rfl | cases h
 | jE=>unfold lE at h;split at h <;> first | rfl | cases h
mutual
theorem abf {X:Cx}:∀ (c:CT) {e:Expr},lE c e=true->PE X e (tE c)
 | .v x,e,h=>by unfold lE at h;unfold tE;exact abe (iG h)
 | .tup l,e,h=>by
  unfold lE at h;unfold tE
  split at h
  ·exact gN (zQ l h)
  ·cases h
 | .lst l,e,h=>by
  unfold lE at h;unfold tE
  split at h
  ·exact cL (zQ l h)
  ·cases h
 | .jE,e,h=>by
  unfold lE at h;unfold tE
  split at h
  ·exact vM
  ·cases h
theorem zQ {X:Cx}:∀ (l:si) {es:List Expr},nO l es=true->PA X es (tA l)
 | .nil,es,h=>by
  unfold nO at h;unfold tA
  cases es with
  | nil=>exact ah
  | cons a b=>cases h
 | .cons a b,es,h=>by
  unfold nO at h;unfold tA
  split at h
  ·obtain⟨h1,h2⟩:=eV.mp h
   exact ae (abf a h1) (zQ b h2) (Xm h1)
  ·cases h
end
abbrev cA:CT:= .v (.str "a")
abbrev wF:si:= .cons (.v .aG) (.cons (.v (.int 5)) (.cons (.v (.bl true)) (.cons cA (.cons (.v (.str "")) (.cons (.lst .nil) (.cons (.lst (.cons cA .nil)) (.cons .jE (.cons (.tup .nil) (.cons (.tup (.cons cA .nil)) (.cons (.tup (.cons (.tup (.cons cA (.cons (.tup .nil) .nil))) .nil)) .nil))))))))))
theorem Zh:nO wF Ow=true:=by decide +kernel
abbrev DU:TA:=ck (tC .aG) (ck (tC (.int 5)) (ck (tC (.bl true)) (ck (tC (.str "a")) (ck (tC (.str "")) (ck (rk f7) (ck (rk (ck (tC (.str "a")) f7)) (ck Du (ck (iy f7) (ck (iy (ck (tC (.str "a")) f7)) (ck (iy (ck (iy (ck (tC (.str "a")) (ck (iy f7) f7))) f7)) f7))))))))))
theorem Z':tA wF=DU:=by simp only[tA,tE]
theorem aaa {X:Cx}{es:List Expr} (h:nO wF es=true):PA X es DU:=by
 have h:=zQ (X:=X) wF h
 rw[Z']at h
 exact h
def PN (s:Stmt):Pos:=match s with | .Assign _ _ p=>p | _=>⟨0,0,0,0⟩
def PQ (s:Stmt):List Expr:=match s with | .Assign t _ _=>t | _=>[]
def PR (e:Expr):Pos:=match e with | .Subscript _ _ p=>p | _=>⟨0,0,0,0⟩
def PU (e:Expr):Expr:=match e with | .Subscript _ i _=>i | _=>.Constant .none 0 ⟨0,0,0,0⟩
def lstP (e:Expr):Pos:=match e with | .List _ p=>p | _=>⟨0,0,0,0⟩
abbrev S0:Stmt:=cj (aU jW) 0
@[irreducible] def yu:List Expr:=Ow
theorem acM:nO wF yu=true:=by unfold yu;exact Zh
abbrev S0':Stmt:= .Assign (PQ S0) (.Subscript (.List yu (lstP (EH (eF S0)))) (PU (eF S0)) (PR (eF S0))) (PN S0)
theorem bd:aU jW = .Assign (PQ S0) (.Subscript (.List yu (lstP (EH (eF S0)))) (PU (eF S0)) (PR (eF S0))) (PN S0)::(aU jW).drop 1:=by unfold yu;rfl
structure Sd (m:Nat) (d:PyData):Prop where
 bulk:d.bulk<=m
 bg:∀ds,d = .tuple ds->ds.length<=15
theorem Sd.mono {m n:Nat}{d:PyData} (h:Sd m d) (l:m<=n):Sd n d:=⟨c9 h.bulk l,h.bg⟩
def iK (p:Str×List Str):PyData:= .tuple [.str p.1,.tuple (p.2.map PyData.str)]
theorem vK {ns:Nat}:∀ {xs:List Str},(∀x∈xs,x.length<=ns)->PyData.bulkAll (xs.map PyData.str)<=xs.length * (ns+1)
 | [],_=>bY _
 | x::xs,h=>by
  have h1:x.length<=ns:=h x aZ
  have h2:=vK fun y hy=>h y (bX _ hy)
  have e:PyData.bulkAll ((x::xs).map PyData.str)=x.length+1+PyData.bulkAll (xs.map PyData.str):=rfl
  rw[e,dc,Nat.add_mul,Nat.one_mul];omega
theorem Xn {p:Str×List Str} (h:PB 7 11 p):(iK p).bulk<=97:=by
 have h1:=h.key
 have h2:=vK h.short
 have h3:=h.bg
 have e:(iK p).bulk=p.1.length+1+(PyData.bulkAll (p.2.map PyData.str)+1+0):=rfl
 have:p.2.length * 12<=7 * 12:=amK _ h3
 rw[e];omega
theorem vT:∀ (a b:List PyData),PyData.bulkAll (a++b)=PyData.bulkAll a+PyData.bulkAll b
 | [],b=>by show PyData.bulkAll b=0+_;omega
 | x::a,b=>by
  show x.bulk+1+PyData.bulkAll (a++b)=x.bulk+1+PyData.bulkAll a+PyData.bulkAll b
  rw[vT a b];omega
theorem qK:∀ {aa:bV},(∀p∈aa,PB 7 11 p)->PyData.bulkAll (aa.map iK)<=aa.length * 98
 | [],_=>bY _
 | p::aa,h=>by
  have h1:=Xn (h p aZ)
  have h2:=qK fun q hq=>h q (bX _ hq)
  have e:PyData.bulkAll ((p::aa).map iK)=(iK p).bulk+1+PyData.bulkAll (aa.map iK):=rfl
  rw[e,dc,Nat.add_mul,Nat.one_mul];omega
theorem tN {p:Addr}{H:Hp} (np:∀a xs,H a=some (.tup xs)->a≠p):∀ {ws:List V}{aa:bV},cM H ws aa->bp p H ws (aa.map iK)
 | _,_,.nil=>.nil
 | _,_,.cons ⟨a,b,e,h1,h2⟩ t=>by
  subst e
  exact .cons (.tup (np _ _ h1) h1 (.cons (.str _) (.cons (.tup (np _ _ h2) h2 (lH _)) .nil))) (tN np t)
theorem Ox {A B:Prop} (h:B):if false=true then A else B:=h
theorem acN {G:Prop}{EI C:V->Hp->Prop} (h1:(∀v J,EI v J->C v J)->G) (h2:∀v J,EI v J->C v J):G:=h1 h2
section
variable {P : Program} {w : World} {K : Frag} {mg : Str -> Option Value} {base : Heap} {f : Addr} {fd : FuncData}
abbrev Su (p:Addr) (H:Hp) (Q:VK):Prop:= ∀ (u:V) (d:PyData) (H':Hp),aq H H'->Dt p H' u d->Sd 1000 d->Q u H'
@[irreducible] def uh:Sp:=fun vs H Q _=>∃ (p t:Addr) (xs ws:List V) (aa:bV) (wy n:Int),vs = [.ref t,.int wy,.int n]/\0<=n/\0<=wy/\H p=some (.lst xs)/\H t=some (.tup ws)/\cM H ws aa/\aa.length<=8/\(∀q∈aa,PB 7 11 q)/\Su p H Q
theorem aab {p t:Addr}{xs ws:List V}{aa:bV}{wy n:Int}{H:Hp}{Q:VK}{E:XK} (hn:0<=n) (hy:0<=wy) (hp:H p=some (.lst xs)) (ht:H t=some (.tup ws)) (hf:cM H ws aa) (h8:aa.length<=8) (pb:∀q∈aa,PB 7 11 q) (q:Su p H Q):uh [.ref t,.int wy,.int n] H Q E:=by
 unfold uh;exact⟨p,t,xs,ws,aa,wy,n,rfl,hn,hy,hp,ht,hf,h8,pb,q⟩
abbrev EJ:List Str:= ["_law_thing", "_law_way", "_law_number", "_law_odd_here", "_law_at", "_law_kind", "_law_own", "_law_here", "_law_some", "_law_pair"]
theorem nD:cO EJ ["_law_thing", "_law_way", "_law_number"] (aH jW):=⟨rfl,rfl,rfl,by decide +kernel,rfl,by decide +kernel,by decide +kernel⟩
abbrev nv:List Expr:=N3 (eF (cj (aU jW) 5))
abbrev ou (P:Program) (w:World) (K:Frag) (mg:Str->Option Value) (base:Heap) (f:Addr) (aQ:Value) (A:Around) (outer:List Env) (s:Shared) (H:Hp) (E:XK):Cx:=(iS aS P w K mg base EJ "_law_odd" (aH jW) f aQ A outer s H E).xj
section
variable {aQ : Value} {A : Around} {outer : List Env} {s : Shared} {H : Hp} {E : XK}
abbrev Sv:TA:=ck (iy (ck (eu 6) (ck (eu 5) f7))) f7
theorem s7:PA (ou P w K mg base f aQ A outer s H E) (nv.drop 7) Sv:=lT (ae (pv 6) (ae (pv 5) ah)) ah
abbrev Sx:TA:=ck (eu 3) Sv
theorem s6:PA (ou P w K mg base f aQ A outer s H E) (nv.drop 6) Sx:=ae (pv 3) s7
abbrev Sy:TA:=ck (iy (ck (eu 5) (ck (eu 6) (ck (iy f7) f7)))) Sx
theorem s5:PA (ou P w K mg base f aQ A outer s H E) (nv.drop 5) Sy:=lT (ae (pv 5) (ae (pv 6) (lT ah ah))) s6
abbrev SA:TA:=ck (iy (ck (eu 5) f7)) Sy
theorem s4:PA (ou P w K mg base f aQ A outer s H E) (nv.drop 4) SA:=lT (ae (pv 5) ah) s5
abbrev SE (K:Frag):TA:=ck (iy (ck (eu 5) (ck (GZ (fun xs H Q=>∃p ys,xs = [.ref p]/\(ai K H p ys\/aB K H p ys) /\ ∀l,H l=none->Q (.ref l) (upd H l (.lst ys))) (ck (eu 6) f7)) f7))) SA
theorem s3 (B:c7 mg):PA (ou P w K mg base f aQ A outer s H E) (nv.drop 3) (SE K):=lT (ae (pv 5) (ae (eX (Cs K rfl) rfl B.list boot_list (ae (pv 6) ah)) ah)) s4
abbrev SF (K:Frag):TA:=ck (rk (ck (eu 5) (ck (eu 6) f7))) (SE K)
theorem s2 (B:c7 mg):PA (ou P w K mg base f aQ A outer s H E) (nv.drop 2) (SF K):=acI (ae (pv 5) (ae (pv 6) ah)) (s3 B)
abbrev SG (K:Frag):TA:=ck (iy (ck (eu 5) (ck (eu 3) f7))) (SF K)
theorem s1 (B:c7 mg):PA (ou P w K mg base f aQ A outer s H E) (nv.drop 1) (SG K):=lT (ae (pv 5) (ae (pv 3) ah)) (s2 B)
abbrev tS0 (K:Frag):TA:=ck (iy (ck (eu 3) (ck (eu 6) f7))) (SG K)
theorem s0 (B:c7 mg):PA (ou P w K mg base f aQ A outer s H E) (nv.drop 0) (tS0 K):=lT (ae (pv 3) (ae (pv 6) ah)) (s1 B)
end
abbrev t0 (K:Frag):TS:=Ae (nU (D5 K) (rk DU) (nU (rI (fun _ j=>0 < j) fun i j=>.int (i % j)) (eu 2) (tC (.int 11)))) (pF 3)
theorem st0 {aQ:Value}{A:Around}{outer:List Env}{s:Shared}{H:Hp}{E:XK}:PS (ou P w K mg base f aQ A outer s H E) S0' (t0 K):=
 ba (i:=3) nD.nd rfl (Or.inl rfl) (bC dW (cL (aaa acM)) (aL fE (pv 2) aD) (fun _ _=>rfl))
theorem aac (F:bw K "_law_odd" "_law_odd" jW f fd) (B:c7 mg):aN P w K mg base aS 1 f fd ["_law_thing", "_law_way", "_law_number"] uh:=by
 refine F.ok nD (fun vs H Q E h=>?_) (fun aQ A outer s H vs Q E hr h=>?_)
 ·unfold uh at h;obtain⟨p,t,xs,ws,aa,wy,n,rfl,_⟩:=h;rfl
 ·unfold uh at h
  obtain⟨p,t,xs,ws,aa,wy,n,rfl,hn,hwy,hp,ht,hf,h8,pb,q⟩:=h
  have hu:=hr.units
  rw[bd]
  refine⟨_,aF st0
   (aF (ba (i:=4) nD.nd rfl (Or.inl rfl) (aL fE (aL kU (pv 2) aD) (aV (vG rfl) rfl B.max CS (uB (ae (aV eW rfl B.len dz (ae (pv 0) ah)) ah)))))
   (aF (m8 (PW.pt (pw_or (cG iL (pv 1) aD (cB _)) (pw_or1 (cG (YR hu) (pv 0) (gN ah) (cB _))))) (bC dW (cL (ae (pv 3) (ae (eX oO rfl B.list boot_list (ae (pv 0) ah)) ah))) (aL fE (aL kU (pv 2) aD) aD) (fun _ _=>rfl)))
   (aF (pj (bC js (pv 0) (pv 4) (fun _ _=>rfl)) (i4 (n:=2) rfl (cC (aR (i:=5) nD.nd rfl (Or.inl rfl)) (cC (aR (i:=6) nD.nd rfl (Or.inl rfl)) gk))))
   (aF (ba (i:=7) nD.nd rfl (Or.inl rfl) (aL fE (aL kU (pv 2) aD) (aV (vG rfl) rfl B.max CS (uB (ae (aV eW rfl B.len dz (ae (pv 6) ah)) ah)))))
   (aF (ba (i:=8) nD.nd rfl (Or.inl rfl) (cL (es:=nv) (s0 B)))
   (aF (ba (i:=9) nD.nd rfl (Or.inl rfl) (bC dW (pv 8) (aL fE (pv 1) aD) (fun _ _=>rfl)))
   (aF (eg (PW.pt (pw_and (cG iL (pv 1) aD (cB _)) (pw_and1 (cG (YV hu) (pv 6) (gN ah) (cB _))))) (aP (ba (i:=9) nD.nd rfl (Or.inl rfl) (gN (ae (pv 5) (ae (aL vV (aL vV (dB zF (pv 6) dC (dj (pv 7))) (gN (ae (pv 3) ah))) (dB zF (pv 6) (dj (aL gM (pv 7) aD)) dC)) ah))))) d9)
   (Dj (aL vV (aL vV (dB zF (pv 0) dC (dj (pv 4))) (gN (ae (pv 9) ah))) (dB zF (pv 0) (dj (aL gM (pv 4) aD)) dC)))))))))),?_⟩
  have np:∀ {J:Hp},aq H J -> ∀a SI,J a=some (.tup SI)->a≠p:=fun S a SI e=>bZ e (S _ _ hp) (by intro z;cases z)
  have nw:∀ {J:Hp}{l:Addr},aq H J->J l=none->l≠p:=fun S e z=>by
   have:=S _ _ hp
   rw[<-z,e]at this;cases this
  have AX:=hf.length
  have one:1<=sizeLine:=by rw[ay];decide
  have two:2<=sizeLine:=by rw[ay];decide
  have three:3<=sizeLine:=by rw[ay];decide
  refine⟨bY _,fun a1 h1=>?_⟩
  have k1:=ak (o:= .lst []) h1
  have e1:upd H a1 (.lst []) a1=_:=af
  have n1:=nw (aq.refl _) h1
  generalize upd H a1 (.lst [])=H1 at k1 e1 ⊢
  refine⟨one,fun a2 h2=>?_⟩
  have k2:=ak (o:= .lst [V.str "a"]) h2
  have e2:upd H1 a2 (.lst [V.str "a"]) a2=_:=af
  have n2:=nw k1 h2
  generalize upd H1 a2 (.lst [V.str "a"])=H2 at k2 e2 ⊢
  have K2:=k1.trans k2
  refine fun a3 h3=>?_
  have k3:=ak (o:= .dK []) h3
  have e3:upd H2 a3 (.dK []) a3=_:=af
  have n3:=nw K2 h3
  generalize upd H2 a3 (.dK [])=H3 at k3 e3 ⊢
  have K3:=K2.trans k3
  refine⟨bY _,fun a4 h4=>?_⟩
  have k4:=ak (o:= .tup []) h4
  have e4:upd H3 a4 (.tup []) a4=_:=af
  generalize upd H3 a4 (.tup [])=H4 at k4 e4 ⊢
  have K4:=K3.trans k4
  refine⟨one,fun a5 h5=>?_⟩
  have k5:=ak (o:= .tup [V.str "a"]) h5
  have e5:upd H4 a5 (.tup [V.str "a"]) a5=_:=af
  generalize upd H4 a5 (.tup [V.str "a"])=H5 at k5 e5 ⊢
  have K5:=K4.trans k5
  refine⟨bY _,fun a6 h6=>?_⟩
  have k6:=ak (o:= .tup []) h6
  have e6:upd H5 a6 (.tup []) a6=_:=af
  generalize upd H5 a6 (.tup [])=H6 at k6 e6 ⊢
  refine⟨two,fun a7 h7=>?_⟩
  have k7:=ak (o:= .tup [V.str "a", V.ref a6]) h7
  have e7:upd H6 a7 (.tup [V.str "a", V.ref a6]) a7=_:=af
  generalize upd H6 a7 (.tup [V.str "a", V.ref a6])=H7 at k7 e7 ⊢
  refine⟨one,fun a8 h8'=>?_⟩
  have k8:=ak (o:= .tup [V.ref a7]) h8'
  have e8:upd H7 a8 (.tup [V.ref a7]) a8=_:=af
  generalize upd H7 a8 (.tup [V.ref a7])=H8 at k8 e8 ⊢
  refine⟨by show 11<=sizeLine;rw[ay];decide,fun c hc=>?_⟩
  have k9:=ak (o:= .lst [V.aG,.int 5,.bl true,.str "a", .str "", .ref a1,.ref a2,.ref a3,.ref a4,.ref a5,.ref a8]) hc
  have e9:upd H8 c (.lst [V.aG,.int 5,.bl true,.str "a", .str "", .ref a1,.ref a2,.ref a3,.ref a4,.ref a5,.ref a8]) c=_:=af
  generalize upd H8 c (.lst [V.aG,.int 5,.bl true,.str "a", .str "", .ref a1,.ref a2,.ref a3,.ref a4,.ref a5,.ref a8])=Hc at k9 e9 ⊢
  have BI:=k8.trans k9
  have BJ:=k7.trans BI
  have yv:=k6.trans BJ
  have BK:=k5.trans yv
  have Iz:=k4.trans BK
  have IA:=k3.trans Iz
  have Sc:=K5.trans yv
  have all:∀x∈([V.aG,.int 5,.bl true,.str "a", .str "", .ref a1,.ref a2,.ref a3,.ref a4,.ref a5,.ref a8]:List V),∃e,Dt p Hc x e/\Sd 10 e:=fun x hx=>by
   have tp:=np Sc
   simp only[a9,kE,kG]at hx
   rcases hx with rfl | rfl | rfl | rfl | rfl | rfl | rfl | rfl | rfl | rfl | rfl
   ·exact⟨_,.aG,by decide,fun ds e=>nomatch e⟩
   ·exact⟨_,.int 5,by decide,fun ds e=>nomatch e⟩
   ·exact⟨_,.bl true,by decide,fun ds e=>nomatch e⟩
   ·exact⟨_,.str "a", by decide +kernel,fun ds e=>nomatch e⟩
   ·exact⟨_,.str "", by decide +kernel,fun ds e=>nomatch e⟩
   ·exact⟨_,.lst n1 ((k2.trans IA) _ _ e1) .nil,by decide,fun ds e=>nomatch e⟩
   ·exact⟨_,.lst n2 (IA _ _ e2) (.cons (.str "a") .nil),by decide +kernel,fun ds e=>nomatch e⟩
   ·exact⟨_,.jE n3 (Iz _ _ e3),by decide,fun ds e=>nomatch e⟩
   ·exact⟨_,.tup (tp _ _ (BK _ _ e4)) (BK _ _ e4) .nil,by decide,fun ds e=>by cases e;decide⟩
   ·exact⟨_,.tup (tp _ _ (yv _ _ e5)) (yv _ _ e5) (.cons (.str "a") .nil),by decide +kernel,fun ds e=>by cases e;decide⟩
   ·exact⟨_,.tup (tp _ _ (k9 _ _ e8)) (k9 _ _ e8) (.cons (.tup (tp _ _ (BI _ _ e7)) (BI _ _ e7) (.cons (.str "a") (.cons (.tup (tp _ _ (BJ _ _ e6)) (BJ _ _ e6) .nil) .nil))) .nil),by decide +kernel,fun ds e=>by cases e;decide⟩
  obtain⟨j,ej,hj⟩:=iZ (n:=n) (m:=11) (by decide)
  refine⟨_,rfl,_,_,rfl,rfl,by show(0:Int) < 11;decide,?_⟩
  dsimp only
  rw[ej]
  generalize hit:([V.aG,.int 5,.bl true,.str "a", .str "", .ref a1,.ref a2,.ref a3,.ref a4,.ref a5,.ref a8]:List V)=its at all e9
  have jH:its.length=11:=by rw[<-hit];rfl
  have SK:j < its.length:=by omega
  obtain⟨e0,r0,BL⟩:=all its[j] (jl SK)
  refine⟨c,its,_,its[j],rfl,rfl,ai.of e9,dE (br SK),?_⟩
  generalize its[j]=v0 at r0
  clear all hit e1 e2 e3 e4 e5 e6 e7 e8 e9 k1 k2 k3 k4 k5 k6 k7 k8 k9 BI BJ yv BK Iz IA K2 K3 K4 K5
  have yw:=Sc _ _ ht
  refine⟨_,rfl,_,_,rfl,rfl,⟨by decide,by decide⟩,_,rfl,t,_,rfl,.inr (aB.of yw),_,_,rfl,_,_,rfl,rfl,by show(0:Int) < _;split <;> omega,?_⟩
  obtain⟨k,ek,hk⟩:=iZ (n:=n / 11) (m:=(if (ws.length:Int) > 1 then (ws.length:Int) else 1)) (by split <;> omega)
  dsimp only
  rw[ek]
  refine⟨_,rfl,rfl,_,rfl,?_⟩
  refine eM (fun hw0=>?_) (fun hw0=>?_)
  ·skip
   refine⟨_,rfl,_,rfl,t,_,rfl,.inr (aB.of ((aq.refl _) _ _ yw)),fun l hl=>?_⟩
   have R1:=ak (o:= .lst ws) hl
   refine⟨two,fun l2 fh=>?_⟩
   have R2:=R1.trans (ak (o:= .lst [v0,V.ref l]) fh)
   have R3:=(aq.refl _).trans R2
   obtain⟨j2,IB,hj2⟩:=iZ (n:=n / 11) (m:=2) (by decide)
   have jG:upd Hc l (.lst ws) l=some (.lst ws):=af
   refine⟨_,rfl,_,_,rfl,rfl,⟨by decide,by decide⟩,_,_,rfl,rfl,by show(0:Int) < 2;decide,?_⟩
   dsimp only
   rw[IB]
   have:j2=0\/j2=1:=by omega
   rcases this with rfl | rfl
   ·exact⟨l2,_,_,v0,rfl,rfl,ai.of af,rfl,q v0 e0 _ (Sc.trans R3) (Dt.same r0 R3) (BL.mono (by decide))⟩
   ·refine⟨l2,_,_,.ref l,rfl,rfl,ai.of af,rfl,q (.ref l) (.list (aa.map iK)) _ (Sc.trans R3) (.lst (nw (Sc.trans (aq.refl _)) hl) (by rw[aj (ax jG fh)];exact jG) (tN (np (Sc.trans R3)) (hf.same (Sc.trans R3)))) ⟨by show PyData.bulkAll _<=1000;have:=qK pb;omega,fun ds e=>nomatch e⟩⟩
  refine⟨_,rfl,bY _,fun z0 hz0=>?_⟩
  have Sz:=ak (o:= .tup []) hz0
  have ez:upd Hc z0 (.tup []) z0=_:=af
  generalize upd Hc z0 (.tup [])=Hz at Sz ez ⊢
  refine⟨t,z0,_,rfl,rfl,Sz _ _ yw,ez,_,rfl,?_⟩
  by_cases IC:ws = []
  ·rw[show ws.isEmpty=true by rw[IC];rfl]
   refine⟨_,rfl,_,rfl,t,_,rfl,.inr (aB.of (Sz _ _ yw)),fun l hl=>?_⟩
   have R1:=ak (o:= .lst ws) hl
   refine⟨two,fun l2 fh=>?_⟩
   have R2:=R1.trans (ak (o:= .lst [v0,V.ref l]) fh)
   have R3:=Sz.trans R2
   obtain⟨j2,IB,hj2⟩:=iZ (n:=n / 11) (m:=2) (by decide)
   have jG:upd Hz l (.lst ws) l=some (.lst ws):=af
   refine⟨_,rfl,_,_,rfl,rfl,⟨by decide,by decide⟩,_,_,rfl,rfl,by show(0:Int) < 2;decide,?_⟩
   dsimp only
   rw[IB]
   have:j2=0\/j2=1:=by omega
   rcases this with rfl | rfl
   ·exact⟨l2,_,_,v0,rfl,rfl,ai.of af,rfl,q v0 e0 _ (Sc.trans R3) (Dt.same r0 R3) (BL.mono (by decide))⟩
   ·refine⟨l2,_,_,.ref l,rfl,rfl,ai.of af,rfl,q (.ref l) (.list (aa.map iK)) _ (Sc.trans R3) (.lst (nw (Sc.trans Sz) hl) (by rw[aj (ax jG fh)];exact jG) (tN (np (Sc.trans R3)) (hf.same (Sc.trans R3)))) ⟨by show PyData.bulkAll _<=1000;have:=qK pb;omega,fun ds e=>nomatch e⟩⟩
  rw[show ws.isEmpty=false by cases e:ws with | nil=>exact absurd e IC | cons x y=>rfl]
  have wQ:0 < ws.length:=yQ.mpr IC
  have mi:k < ws.length:=by split at hk <;> omega
  have BM:=Sc.trans Sz
  obtain⟨pp,fc,a,b,ea,ha,hb⟩:=gm (hf.same BM) (br mi)
  have pm:=gj fc
  have eU:=pb pp pm
  have pk:=eU.key
  have pf:=eU.bg
  have ob:=vK eU.short
  refine⟨_,rfl,_,rfl,t,_,_,.ref a,rfl,rfl,aB.of (Sz _ _ yw),dE (by rw[br mi,ea]),a,_,rfl,aB.of ha,rfl,_,_,rfl,_,_,rfl,rfl,?_⟩
  refine⟨_,rfl,_,_,rfl,rfl,⟨by decide,by decide⟩,_,rfl,b,_,rfl,.inr (aB.of hb),_,_,rfl,_,_,rfl,rfl,by show(0:Int) < _;split <;> omega,?_⟩
  obtain⟨h,eh,hh⟩:=iZ (n:=n / 88) (m:=(if ((pp.2.map V.str).length:Int) > 1 then ((pp.2.map V.str).length:Int) else 1)) (by split <;> omega)
  dsimp only
  rw[eh]
  refine⟨_,rfl,_,rfl,two,fun b1 b1h=>?_⟩
  have j1:=ak (o:= .tup [v0,V.ref b]) b1h
  have x1:upd Hz b1 (.tup [v0,V.ref b]) b1=_:=af
  generalize upd Hz b1 (.tup [v0,V.ref b])=J1 at j1 x1 ⊢
  refine⟨_,rfl,_,rfl,two,fun b2 b2h=>?_⟩
  have j2:=ak (o:= .tup [V.str pp.1,v0]) b2h
  have x2:upd J1 b2 (.tup [V.str pp.1,v0]) b2=_:=af
  generalize upd J1 b2 (.tup [V.str pp.1,v0])=J2 at j2 x2 ⊢
  refine⟨_,rfl,_,rfl,two,fun b3 SN=>?_⟩
  have j3:=ak (o:= .lst [V.str pp.1,V.ref b]) SN
  have x3:upd J2 b3 (.lst [V.str pp.1,V.ref b]) b3=_:=af
  generalize upd J2 b3 (.lst [V.str pp.1,V.ref b])=J3 at j3 x3 ⊢
  have y2:=j1.trans j2
  have y3:=y2.trans j3
  refine⟨_,rfl,_,rfl,b,_,rfl,.inr (aB.of (y3 _ _ hb)),fun b4 SO=>?_⟩
  have j4:=ak (o:= .lst (pp.2.map V.str)) SO
  have x4:upd J3 b4 (.lst (pp.2.map V.str)) b4=_:=af
  generalize upd J3 b4 (.lst (pp.2.map V.str))=J4 at j4 x4 ⊢
  refine⟨two,fun b5 b5h=>?_⟩
  have j5:=ak (o:= .tup [V.str pp.1,V.ref b4]) b5h
  have x5:upd J4 b5 (.tup [V.str pp.1,V.ref b4]) b5=_:=af
  generalize upd J4 b5 (.tup [V.str pp.1,V.ref b4])=J5 at j5 x5 ⊢
  refine⟨_,rfl,one,fun b6 b6h=>?_⟩
  have j6:=ak (o:= .tup [V.str pp.1]) b6h
  have x6:upd J5 b6 (.tup [V.str pp.1]) b6=_:=af
  generalize upd J5 b6 (.tup [V.str pp.1])=J6 at j6 x6 ⊢
  refine⟨_,rfl,_,rfl,bY _,fun b7 b7h=>?_⟩
  have j7:=ak (o:= .tup []) b7h
  have x7:upd J6 b7 (.tup []) b7=_:=af
  generalize upd J6 b7 (.tup [])=J7 at j7 x7 ⊢
  refine⟨three,fun b8 b8h=>?_⟩
  have j8:=ak (o:= .tup [V.str pp.1,V.ref b,V.ref b7]) b8h
  have x8:upd J7 b8 (.tup [V.str pp.1,V.ref b,V.ref b7]) b8=_:=af
  generalize upd J7 b8 (.tup [V.str pp.1,V.ref b,V.ref b7])=J8 at j8 x8 ⊢
  refine⟨_,rfl,_,rfl,_,rfl,two,fun b9 b9h=>?_⟩
  have j9:=ak (o:= .tup [V.ref b,V.str pp.1]) b9h
  have x9:upd J8 b9 (.tup [V.ref b,V.str pp.1]) b9=_:=af
  generalize upd J8 b9 (.tup [V.ref b,V.str pp.1])=J9 at j9 x9 ⊢
  refine⟨by show 8<=sizeLine;rw[ay];decide,fun yx acO=>?_⟩
  have yy:=ak (o:= .lst [V.ref b1,.ref b2,.ref b3,.ref b5,.ref b6,.ref b8,v0,.ref b9]) acO
  have BN:upd J9 yx (.lst [V.ref b1,.ref b2,.ref b3,.ref b5,.ref b6,.ref b8,v0,.ref b9]) yx=_:=af
  generalize upd J9 yx (.lst [V.ref b1,.ref b2,.ref b3,.ref b5,.ref b6,.ref b8,v0,.ref b9])=sj at yy BN ⊢
  have y4:=y3.trans j4
  have z9:=j9.trans yy
  have z8:=j8.trans z9
  have z7:=j7.trans z8
  have z6:=j6.trans z7
  have z5:=j5.trans z6
  have z4:=j4.trans z5
  have z3:=j3.trans z4
  have z2:=j2.trans z3
  have ID:=j1.trans z2
  have SJ:=BM.trans ID
  have tp:=np SJ
  have dk:Dt p sj (.str pp.1) (.str pp.1):= .str _
  have EK:=ID _ _ hb
  have BO:Dt p sj (.ref b) (.tuple (pp.2.map PyData.str)):= .tup (tp _ _ EK) EK (lH _)
  have d0:=Dt.same r0 (Sz.trans ID)
  have bk0:=BL.bulk
  have n3':=nw (BM.trans y2) SN
  have n4':=nw (BM.trans y3) SO
  have bo:(PyData.tuple (pp.2.map PyData.str)).bulk<=84:=by show PyData.bulkAll _<=84;have:pp.2.length * 12<=7 * 12:=amK _ pf;omega
  have bl:(PyData.list (pp.2.map PyData.str)).bulk<=84:=bo
  have bs:(PyData.str pp.1).bulk<=11:=pk
  have two':∀x y:PyData,x.bulk<=90->y.bulk<=90->x.bulk+y.bulk<=110->Sd 120 (.tuple [x,y]):=fun x y _ _ h=>⟨by show x.bulk+1+(y.bulk+1+0)<=120;omega,fun ds e=>by cases e;show 2<=15;decide⟩
  have all:∀x∈([V.ref b1,.ref b2,.ref b3,.ref b5,.ref b6,.ref b8,v0,.ref b9]:List V),∃e,Dt p sj x e/\Sd 120 e:=fun x hx=>by
   simp only[a9,kE,kG]at hx
   rcases hx with rfl | rfl | rfl | rfl | rfl | rfl | rfl | rfl
   ·exact⟨_,.tup (tp _ _ (z2 _ _ x1)) (z2 _ _ x1) (.cons d0 (.cons BO .nil)),two' _ _ (by omega) (by omega) (by omega)⟩
   ·exact⟨_,.tup (tp _ _ (z3 _ _ x2)) (z3 _ _ x2) (.cons dk (.cons d0 .nil)),two' _ _ (by omega) (by omega) (by omega)⟩
   ·exact⟨_,.lst n3' (z4 _ _ x3) (.cons dk (.cons BO .nil)),by show(PyData.str pp.1).bulk+1+((PyData.tuple (pp.2.map PyData.str)).bulk+1+0)<=120;omega,fun ds e=>nomatch e⟩
   ·exact⟨_,.tup (tp _ _ (z6 _ _ x5)) (z6 _ _ x5) (.cons dk (.cons (.lst n4' (z5 _ _ x4) (lH _)) .nil)),two' _ _ (by omega) (by omega) (by omega)⟩
   ·exact⟨_,.tup (tp _ _ (z7 _ _ x6)) (z7 _ _ x6) (.cons dk .nil),by show(PyData.str pp.1).bulk+1+0<=120;omega,fun ds e=>by cases e;show 1<=15;decide⟩
   ·exact⟨_,.tup (tp _ _ (z9 _ _ x8)) (z9 _ _ x8) (.cons dk (.cons BO (.cons (.tup (tp _ _ (z8 _ _ x7)) (z8 _ _ x7) .nil) .nil))),by show(PyData.str pp.1).bulk+1+((PyData.tuple (pp.2.map PyData.str)).bulk+1+(0+1+0))<=120;omega,fun ds e=>by cases e;show 3<=15;decide⟩
   ·exact⟨e0,d0,BL.mono (by decide)⟩
   ·exact⟨_,.tup (tp _ _ (yy _ _ x9)) (yy _ _ x9) (.cons BO (.cons dk .nil)),two' _ _ (by omega) (by omega) (by omega)⟩
  obtain⟨m,em,hm⟩:=iZ (n:=wy) (m:=8) (by decide)
  refine⟨_,rfl,_,rfl,_,_,rfl,rfl,by show(0:Int) < 8;decide,?_⟩
  dsimp only
  rw[em]
  generalize hit:([V.ref b1,.ref b2,.ref b3,.ref b5,.ref b6,.ref b8,v0,.ref b9]:List V)=its at all BN
  have jH:its.length=8:=by rw[<-hit];rfl
  have SQ:m < its.length:=by omega
  obtain⟨ep,rp,sp⟩:=all its[m] (jl SQ)
  refine⟨yx,its,_,its[m],rfl,rfl,ai.of BN,dE (br SQ),?_⟩
  generalize its[m]=vp at rp
  clear all hit x1 x2 x3 x4 x5 x6 x7 x8 x9 BN j1 j2 j3 j4 j5 j6 j7 j8 j9 yy z2 z3 z4 z5 z6 z7 z8 z9 y2 y3 y4
  refine⟨_,rfl,rfl,_,rfl,?_⟩
  refine acN (EI:=fun v J=>∃e,aq sj J/\Dt p J v e/\Sd 120 e) (C:=fun v J=>DG { nx:=Ad (nU DN (nU DN (G1 Ea (eu 0) C9 (DI (eu 4))) (iy (ck (eu 9) f7))) (G1 Ea (eu 0) (DI (nU (pQ fun i j=>V.int (i+j)) (eu 4) (tC (V.int 1)))) C9)) { nx:=fun x H'=>Q V.aG H',rt:=Q },rt:=Q } (((((((List.set (L2.start EJ [V.ref t,V.int wy,V.int n]) 3 (some v0)).set 4 (some (V.int k))).set 5 (some (V.str pp.fst))).set 6 (some (V.ref b))).set 7 (some (V.int h))).set 8 (some (V.ref yx))).set 9 (some v)) J) (fun cont=>?_) ?_
  ·skip
   refine eM (fun h8=>?_) (fun h8=>Ox (cont vp sj ⟨ep,aq.refl _,rp,sp⟩))
   refine⟨_,rfl,bY _,fun y0 HM=>?_⟩
   have Y:=ak (o:= .tup []) HM
   have ey:upd sj y0 (.tup []) y0=_:=af
   generalize upd sj y0 (.tup [])=J11 at Y ey ⊢
   have EL:=Y _ _ EK
   refine⟨b,y0,_,rfl,rfl,EL,ey,_,rfl,?_⟩
   by_cases yt:pp.2 = []
   ·rw[yt]
    refine Ox ?_
    exact cont vp J11 ⟨ep,Y,Dt.same rp Y,sp⟩
   rw[show(pp.2.map V.str).isEmpty=false by cases e:pp.2 with | nil=>exact absurd e yt | cons x y=>rfl]
   refine⟨_,rfl,_,rfl,_,rfl,_,rfl,b,_,rfl,EL,fun t1 M1 m1 f1=>?_⟩
   rw[kX,<-sL]at f1
   refine⟨_,rfl,one,fun t2 IE=>?_⟩
   have m2:=ak (o:= .tup [v0]) IE
   refine⟨t1,t2,_,_,rfl,rfl,m2 _ _ f1,af,by rw[ar,aX,ay];show _+1<=_;omega,fun t3 M3 m3 f3=>?_⟩
   have yz:=m1.trans (m2.trans m3)
   refine⟨_,rfl,_,rfl,_,_,rfl,rfl,_,rfl,b,_,rfl,yz _ _ EL,fun t4 M4 m4 f4=>?_⟩
   rw[show((h:Int)+1)=((h+1:Nat):Int) from rfl,jn,<-mz]at f4
   refine⟨t3,t4,_,_,rfl,rfl,m4 _ _ f3,f4,by rw[aW,ar,ar,aX,d6,ay];show _+1+_<=_;omega,fun t5 M5 m5 f5=>?_⟩
   have BP:=yz.trans (m4.trans m5)
   refine⟨two,fun t6 ht6=>?_⟩
   have m6:=ak (o:= .tup [V.str pp.1,V.ref t5]) ht6
   have MM:=Y.trans (BP.trans m6)
   have e6:upd M5 t6 (.tup [V.str pp.1,V.ref t5]) t6=_:=af
   have f6:=m6 _ _ f5
   generalize upd M5 t6 (.tup [V.str pp.1,V.ref t5])=J12 at MM e6 f6 ⊢
   have SR:=np (SJ.trans MM)
   refine cont (.ref t6) J12 ⟨_,MM,.tup (SR _ _ e6) e6 (.cons (.str pp.1) (.cons (.tup (SR _ _ f6) f6 (bp.app (bp.app (lH (pp.2.take h)) (.cons (Dt.same d0 MM) .nil)) (lH (pp.2.drop (h+1))))) .nil)),?_,fun ds e=>by cases e;show 2<=15;decide⟩
   show(PyData.str pp.1).bulk+1+(PyData.bulkAll ((pp.2.take h).map PyData.str ++ [e0]++(pp.2.drop (h+1)).map PyData.str)+1+0)<=120
   rw[vT,vT,show PyData.bulkAll [e0]=e0.bulk+1+0 from rfl]
   have q1:=vK (ns:=11) (xs:=pp.2.take h) fun x hx=>eU.short x (oN hx)
   have q2:=vK (ns:=11) (xs:=pp.2.drop (h+1)) fun x hx=>eU.short x (mE hx)
   have hp0:0 < pp.2.length:=yQ.mpr yt
   have hhl:h < pp.2.length:=by
    rw[ar]at hh
    split at hh <;> omega
   rw[aX]at q1
   rw[d6]at q2
   have:min h pp.2.length=h:=Cf (by omega)
   rw[this]at q1
   omega
  rintro vq J ⟨IF,SJ2,rq,sq⟩
  have SH:=SJ.trans SJ2
  have SS:=SH _ _ ht
  have sqb:=sq.bulk
  refine⟨_,rfl,_,rfl,_,rfl,t,_,rfl,SS,fun t1 M1 m1 f1=>?_⟩
  rw[kX]at f1
  refine⟨_,rfl,one,fun t2 IE=>?_⟩
  have m2:=ak (o:= .tup [vq]) IE
  refine⟨t1,t2,_,_,rfl,rfl,m2 _ _ f1,af,by rw[aX,ay];show _+1<=_;omega,fun t3 M3 m3 f3=>?_⟩
  have yz:=m1.trans (m2.trans m3)
  refine⟨_,rfl,_,rfl,_,_,rfl,rfl,_,rfl,t,_,rfl,yz _ _ SS,fun t4 M4 m4 f4=>?_⟩
  rw[show((k:Int)+1)=((k+1:Nat):Int) from rfl,jn]at f4
  refine⟨t3,t4,_,_,rfl,rfl,m4 _ _ f3,f4,by rw[aW,aX,d6,ay];show _+1+_<=_;omega,fun t5 M5 m5 f5=>?_⟩
  have BP:=yz.trans (m4.trans m5)
  have SM:=SH.trans BP
  have SU:=tN (np SM) (hf.same SM)
  have tk:=bp.take k SU
  have dr:=bp.drop (k+1) SU
  rw[<-sL]at tk
  rw[<-mz]at dr
  refine q _ _ M5 SM (.tup (np SM _ _ f5) f5 ((tk.app (.cons (Dt.same rq BP) .nil)).app dr)) ⟨?_,fun ds e=>?_⟩
  ·show PyData.bulkAll ((aa.take k).map iK ++ [IF]++(aa.drop (k+1)).map iK)<=1000
   rw[vT,vT,show PyData.bulkAll [IF]=IF.bulk+1+0 from rfl]
   have q1:=qK (aa:=aa.take k) fun x hx=>pb x (oN hx)
   have q2:=qK (aa:=aa.drop (k+1)) fun x hx=>pb x (mE hx)
   rw[aX]at q1
   rw[d6]at q2
   have:min k aa.length=k:=Cf (by omega)
   rw[this]at q1
   omega
  ·cases e
   rw[aW,aW,ar,ar,aX,d6]
   show _+1+_<=15
   omega
end
end bc
namespace bc
open PySem L2 PySem.W HT
theorem boot_bool:bootBuiltins "bool" = some (.type "bool"):=by decide +kernel
theorem NA {p:Addr}{H H':Hp} (pk:gr p H) (pa:cg p H H'):∀b xs,H b=some (.tup xs)->H' b=some (.tup xs):=fun b xs e=>by
 obtain⟨x,y,e0,_⟩:=pk
 exact pa.kp b _ e (bZ e e0 (by intro z;cases z))
theorem zo {p b:Addr}{xs:List V}{H:Hp} (h:gr p H) (e:H b=some (.tup xs)):b≠p:=by
 obtain⟨x,y,e0,_⟩:=h
 exact bZ e e0 (by intro z;cases z)
theorem MK {x:Str} (h:Nm x):d3 x=true:=by
 obtain⟨a,b,c⟩:=h
 simp only[d3,gY,oM,fo]
 exact⟨a,b,fun z hz=>by have:=c z hz;simpa using this⟩
theorem V6 (aa:bV):cH (aa.map iK)=aa:=by
 unfold cH
 rw[my]
 refine(Ce fun p _=>?_).trans (List.map_id aa)
 show(p.1,(p.2.map PyData.str).map strOf)=p
 rw[zm]
theorem aad {ks:List Str}{L Ps:Str->List Str}{aa:bV} (nm:∀x∈ks,Nm x) (F:Fm ks L Ps) (pm:aa.Perm (i6 Ps ks)) (so:(aa.map (·.1)).Pairwise fun a b=>eT a b=true):jX (.tuple (aa.map iK))=true:=by
 have ex:∀q∈aa,∃x∈ks,q=(x,Ps x):=fun q hq=>by
  obtain⟨x,hx,rfl⟩:=bj.mp (pm.mem_iff.mp hq)
  exact⟨x,hx,rfl⟩
 have kx:∀x∈ks,x∈keysOf aa:=fun x hx=>bj.mpr ⟨(x,Ps x),pm.mem_iff.mpr (bj.mpr ⟨x,hx,rfl⟩),rfl⟩
 rw[zH,V6]
 refine eV.mpr ⟨fo.mpr fun d hd=>?_,eV.mpr ⟨cF so,eV.mpr ⟨fo.mpr fun q hq=>?_,?_⟩⟩⟩
 ·obtain⟨q,hq,rfl⟩:=bj.mp hd
  obtain⟨x,hx,rfl⟩:=ex q hq
  obtain⟨n1,_,n3⟩:=F.ps x hx
  refine eV.mpr ⟨MK (nm x hx),eV.mpr ⟨fo.mpr fun d hd=>?_,cF (by rw[zm];exact n1)⟩⟩
  obtain⟨y,hy,rfl⟩:=bj.mp hd
  exact MK (nm y (n3 y hy))
 ·obtain⟨x,hx,rfl⟩:=ex q hq
  obtain⟨_,n2,n3⟩:=F.ps x hx
  exact eV.mpr ⟨cF n2,fo.mpr fun y hy=>cF (kx y (n3 y hy))⟩
 ·exact @cF _ (Classical.propDecidable _) (F.all pm)
theorem aae {ks:List Str}{L Ps:Str->List Str}{aa:bV} (nm:∀x∈ks,Nm x) (F:Fm ks L Ps) (pm:aa.Perm (i6 Ps ks)):∀q∈aa,PB 4 8 q:=fun q hq=>by
 obtain⟨x,hx,rfl⟩:=bj.mp (pm.mem_iff.mp hq)
 obtain⟨_,n2,n3⟩:=F.ps x hx
 exact⟨(nm x hx).hi,n2,fun y hy=>(nm y (n3 y hy)).hi⟩
def jK (H:Hp) (ws:List V):Prop:= ∀x∈ws,∃ (a:Addr) (i j:Int),x = .ref a/\H a=some (.tup [.int i,.int j])/\0<=i/\0<=j
theorem jK.yl {p:Addr}{H H':Hp}{ws:List V} (h:jK H ws) (pk:gr p H) (g:cg p H H'):jK H' ws:=fun x hx=>by
 obtain⟨a,i,j,e,r,i0,j0⟩:=h x hx
 exact⟨a,i,j,e,NA pk g _ _ r,i0,j0⟩
theorem jK.same {H H':Hp}{ws:List V} (h:jK H ws) (S:aq H H'):jK H' ws:=fun x hx=>by
 obtain⟨a,i,j,e,r,i0,j0⟩:=h x hx
 exact⟨a,i,j,e,S _ _ r,i0,j0⟩
theorem jK.snoc {p c t:Addr}{J J2:Hp}{zs:List V}{x y:Int} (pk:gr p J) (g:cg p J J2) (hz:J c=some (.lst zs)) (n:p≠c) (ht:J2 t=none) (pr:jK J zs) (x0:0<=x) (y0:0<=y):jK (upd (upd J2 t (.tup [.int x,.int y])) c (.lst (zs ++ [.ref t]))) (zs ++ [.ref t]):=fun u hu=>by
 rcases cz.mp hu with h | h
 ·obtain⟨a,i,j,rfl,e,i0,j0⟩:=pr u h
  refine⟨a,i,j,rfl,?_,i0,j0⟩
  rw[aj (bZ e hz (by intro z;cases z))];exact ak ht _ _ (NA pk g _ _ e)
 ·rw[eL.mp h]
  refine⟨t,x,y,rfl,?_,x0,y0⟩
  rw[aj (aT (ax (g.kp _ _ hz (aT n)) ht))];exact af
section
variable {P : Program} {w : World} {K : Frag} {mg : Str -> Option Value} {base : Heap} {f : Addr} {fd : FuncData}
theorem aaf {a:Addr}{ns:List Int}{k:Int}{H:Hp}{Q:VK}{E:XK} (h:ai K H a (ns.map V.int)) (k0:0<=k) (k1:k<=100) (hl:ns.length<=63) (q:∀p H',H p=none->gr p H'->aq H H'->Q (.ref p) H'):ua K [.ref a,.int k] H Q E:=by
 unfold ua
 exact⟨a,ns,k,rfl,h,k0,k1,hl,fun p x y hp x0 y0 y1=>q p _ hp ⟨x,y,af,x0,y0,y1⟩ (ak hp)⟩
theorem Yk {p:Addr}{m:Nat}{H:Hp}{Q:VK}{E:XK} (h:gr p H) (hm:m<=20) (q:∀ (l:Addr) (ys:List Str) (H':Hp),H l=none->ys.length=m->(∀y∈ys,Nm y)->ys.Nodup->cg p H H'->H' l=some (.lst (ys.map V.str))->Q (.ref l) H'):tL [.ref p,.int m] H Q E:=by
 unfold tL;exact⟨p,m,rfl,h,hm,q⟩
theorem Yl {H H':Hp}{a:Addr}{xs:List V} (h:ai K H a xs) (s:aq H H'):ai K H' a xs:=by
 rcases h with(h | ⟨o,h⟩)|h
 ·exact .inl (.inl (s _ _ h))
 ·exact .inl (.inr ⟨o,s _ _ h⟩)
 ·exact .inr h
@[irreducible] def rb (K:Frag):Sp:=fun vs H Q _=>∃ (a:Addr) (ns:List Int),vs = [.ref a]/\ai K H a (ns.map V.int)/\ns.length<=63 /\ ∀H',Q (.bl true) H'
abbrev wX:List Str:= ["_law_script", "_law_k", "_law_pot_here", "_law_spoils", "_law_odd_here", "_law_family_here", "_law_lines", "_law_parents_here", "_law_rows", "_law_way", "_law_number", "_law_thing", "_law_told"]
theorem hJ:cO wX ["_law_script"] (aH i8):=⟨rfl,rfl,rfl,by decide +kernel,rfl,by decide +kernel,by decide +kernel⟩
abbrev Aq:List Stmt:=lI (cj (aU i8) 0)
abbrev eW1:Expr:=eF (cj Aq 1)
abbrev eW2:Expr:=eF (cj Aq 2)
abbrev eW3:Expr:=eF (cj Aq 5)
abbrev eW4:Expr:=fH (eF (cj Aq 7))
theorem PX:cp wX (aH i8) ["_law_turn", "_law_pot_here"] [none,some 2] (cD eW1):=⟨rfl,by decide +kernel,by decide +kernel,rfl,cR (by decide +kernel),by decide +kernel⟩
theorem PY:cp wX (aH i8) ["_law_turn", "_law_pot_here"] [none,some 2] (cD eW2):=⟨rfl,by decide +kernel,by decide +kernel,rfl,cR (by decide +kernel),by decide +kernel⟩
theorem EM:cp wX (aH i8) ["_law_kind", "_law_own"] [none,none] (cD eW3):=⟨rfl,by decide +kernel,by decide +kernel,rfl,cR (by decide +kernel),by decide +kernel⟩
theorem EN:cp wX (aH i8) ["_law_kind", "_law_own"] [none,none] (cD eW4):=⟨rfl,by decide +kernel,by decide +kernel,rfl,cR (by decide +kernel),by decide +kernel⟩
theorem aag {fP fD fN fF fI fJ fS fO:Addr}{dP dD dN dF dI dJ dS dO:FuncData} (F:bw K "law" "law" i8 f fd) (B:c7 mg) (B2:lj mg) (bi:mg "int" = none) (bb:mg "bool" = none)
  (GP:aN P w K mg base aS 1 fP dP ["_law_script", "_law_k"] (ua K)) (kP:keepIn K (.ref fP)=true) (bP:Binds K dP ["_law_script", "_law_k"] []) (mP:mg "_law_pot" = some (.ref fP))
  (GD:aN P w K mg base aS 1 fD dD ["_law_pot_here", "_law_many"] o3) (kD:keepIn K (.ref fD)=true) (bD:Binds K dD ["_law_pot_here", "_law_many"] []) (mD:mg "_law_digit" = some (.ref fD))
  (GN:aN P w K mg base aS 3 fN dN ["_law_pot_here", "_law_many"] tL) (kN:keepIn K (.ref fN)=true) (bN:Binds K dN ["_law_pot_here", "_law_many"] []) (mN:mg "_law_names" = some (.ref fN))
  (GF:aN P w K mg base aS 3 fF dF ["_law_pot_here", "_law_kinds"] ug) (kF:keepIn K (.ref fF)=true) (bF:Binds K dF ["_law_pot_here", "_law_kinds"] []) (mF:mg "_law_family" = some (.ref fF))
  (GI:aN P w K mg base aS 6 fI dI ["thing"] lP) (kI:keepIn K (.ref fI)=true) (bI:Binds K dI ["thing"] []) (mI:mg "is_family" = some (.ref fI))
  (GJ:aN P w K mg base aS 3 fJ dJ ["_law_thing"] lP) (kJ:keepIn K (.ref fJ)=true) (bJ:Binds K dJ ["_law_thing"] []) (mJ:mg "_law_is_family" = some (.ref fJ))
  (GS:aN P w K mg base aS 4 fS dS ["_law_rows", "_law_way", "_law_number"] uF) (kS:keepIn K (.ref fS)=true) (bS:Binds K dS ["_law_rows", "_law_way", "_law_number"] []) (mS:mg "_law_spoilt" = some (.ref fS))
  (GO:aN P w K mg base aS 1 fO dO ["_law_thing", "_law_way", "_law_number"] uh) (kO:keepIn K (.ref fO)=true) (bO:Binds K dO ["_law_thing", "_law_way", "_law_number"] []) (mO:mg "_law_odd" = some (.ref fO)) :
  aN P w K mg base aS 7 f fd ["_law_script"] (rb K):=by
 refine F.ok hJ (fun vs H Q E h=>?_) (fun aQ A outer s H vs Q E hr h=>?_)
 ·unfold rb at h;obtain⟨a,ns,rfl,_⟩:=h;rfl
 ·unfold rb at h
  obtain⟨a,sc,rfl,hS,pT,q⟩:=h
  have yA:bQ 6 _:=hr
  have hr4:bQ 4 _:=yA.mono (by decide)
  have mf:bQ 3 _:=yA.mono (by decide)
  have cY:bQ 1 _:=yA.mono (by decide)
  refine⟨_,aF (iw iH rfl (lG rfl B.range (ae (aV (vG rfl) rfl B.max boot_max (ae aD (ae (aV (Ls rfl) rfl B.min boot_min (ae aD (ae (aV eW rfl B.len dz (ae (pv 0) ah)) ah))) ah))) ah)) (aR (i:=1) hJ.nd rfl (Or.inl rfl))
    (aF (ba (i:=2) hJ.nd rfl (Or.inr rfl) (bG GP cY rfl mP kP bP .nil bE (ae (pv 0) (ae (pv 1) ah))))
    (aF (qJ (i:=3) rfl PX hJ.nd rfl rfl (lG rfl B.range (ae (bG GD cY rfl mD kD bD .nil bE (ae (pv 2) (ae aD ah))) ah)) (fun s H fp=>⟨aR (i:=0) PX.nd rfl (Or.inl rfl),dh,gN (ae (bG GD cY rfl mD kD bD .nil bE (ae (pv 1) (ae aD ah))) (ae (bG GD cY rfl mD kD bD .nil bE (ae (pv 1) (ae (aL Dn aD aD) ah))) ah))⟩))
    (aF (qJ (i:=4) rfl PY hJ.nd rfl rfl (lG rfl B.range (ae (eX Lu rfl bi boot_int (ae (jq iL (bG GD cY rfl mD kD bD .nil bE (ae (pv 2) (ae aD ah))) aD (cB _)) ah)) ah)) (fun s H fp=>⟨aR (i:=0) PY.nd rfl (Or.inl rfl),dh,gN (ae (bG GD cY rfl mD kD bD .nil bE (ae (pv 1) (ae aD ah))) (ae (bG GD cY rfl mD kD bD .nil bE (ae (pv 1) (ae (aL Dn aD aD) ah))) ah))⟩))
    (aF (pj (bG GF mf rfl mF kF bF .nil bE (ae (pv 2) (ae (bG GN mf rfl mN kN bN .nil bE (ae (pv 2) (ae (aL gM aD (bG GD cY rfl mD kD bD .nil bE (ae (pv 2) (ae aD ah)))) ah))) ah)))
      (i4 rfl (cC (aR (i:=5) hJ.nd rfl (Or.inl rfl)) (cC (aR (i:=6) hJ.nd rfl (Or.inl rfl)) (cC (aR (i:=7) hJ.nd rfl (Or.inl rfl)) gk)))))
    (aF (eg (cG W7 (bG GI yA rfl mI kI bI .nil bE (ae (pv 5) ah)) g7 (cB _)) (aP (bu g7)) d9)
    (aF (qJ (i:=8) rfl EM hJ.nd rfl rfl (iu (pv 5)) (fun s H fp=>⟨qM (n:=2) K rfl rfl (cC (aR (i:=0) EM.nd rfl (Or.inl rfl)) (cC (aR (i:=1) EM.nd rfl (Or.inl rfl)) gk)),dh,gN (ae (pv 0) (ae (eX (Cs K rfl) rfl B.list boot_list (ae (pv 1) ah)) ah))⟩))
    (aF (iw iH rfl (fq (pv 3)) (i4 (n:=2) rfl (cC (aR (i:=9) hJ.nd rfl (Or.inl rfl)) (cC (aR (i:=10) hJ.nd rfl (Or.inl rfl)) gk)))
     (aP (ba (i:=8) hJ.nd rfl (Or.inl rfl) (bG GS hr4 rfl mS kS bS .nil bE (ae (pv 8) (ae (pv 9) (ae (pv 10) ah)))))))
    (aF (ba (i:=11) hJ.nd rfl (Or.inl rfl) (eX sN rfl B.tuple boot_tuple (ae (dg rfl EN (fq (pv 8)) (fun s H fp=>⟨qM (n:=2) K rfl rfl (cC (aR (i:=0) EN.nd rfl (Or.inl rfl)) (cC (aR (i:=1) EN.nd rfl (Or.inl rfl)) gk)),dh,gN (ae (pv 0) (ae (eX (Cm K rfl) rfl B.tuple boot_tuple (ae (pv 1) ah)) ah))⟩)) ah)))
    (aF (iw iH rfl (fq (pv 4)) (i4 (n:=2) rfl (cC (aR (i:=9) hJ.nd rfl (Or.inl rfl)) (cC (aR (i:=10) hJ.nd rfl (Or.inl rfl)) gk)))
     (aP (ba (i:=11) hJ.nd rfl (Or.inl rfl) (bG GO cY rfl mO kO bO .nil bE (ae (pv 11) (ae (pv 9) (ae (pv 10) ah)))))))
    (aF (ba (i:=12) hJ.nd rfl (Or.inl rfl) (bG GI yA rfl mI kI bI .nil bE (ae (pv 11) ah)))
    (aP (eg (PW.pt (pw_or (gL (gE (aV mX rfl B2.oj mY (ae (pv 12) (ae (m9 (v:= .ty "bool") rfl bb boot_bool rfl) ah)))))
     (pw_or1 (cG wo (pv 12) (bG GJ mf rfl mJ kJ bJ .nil bE (ae (pv 11) ah)) (cB _))))) (aP (bu g7)) d9)))))))))))))
   (aP (bu g7)),?_⟩
  have one:1<=sizeLine:=by rw[ay];decide
  have two:2<=sizeLine:=by rw[ay];decide
  refine⟨_,rfl,a,_,rfl,.inl hS,_,_,rfl,_,_,rfl,_,rfl,?_,?_,sT (fun i σ H1=>∃v1 v2 v3 v4 v5 v6 v7 v8 v9 v10 v11 BQ:Option V,σ = [some (.ref a),v1,v2,v3,v4,v5,v6,v7,v8,v9,v10,v11,BQ]/\aq H H1) ⟨none,none,none,none,none,none,none,none,none,none,none,none,rfl,aq.refl _⟩ (fun i0 σ H1 hi hP=>?_) (fun σ H1 _=>q _)⟩
  ·split <;> (try split) <;> omega
  ·split <;> (try split) <;> omega
  obtain⟨v1,v2,v3,v4,v5,v6,v7,v8,v9,v10,v11,BQ,rfl,S1⟩:=hP
  have hi6:i0 < 6:=by
   refine ig hi ?_
   split <;> (try split) <;> omega
  refine⟨_,rfl,_,rfl,aaf (Yl hS S1) (by omega) (by omega) pT fun p H2 hp pk S2=>?_⟩
  refine⟨_,rfl,jo (p:=p) (m:=4) pk (by decide) (by decide) fun dg1 H3 a0 a1 p3=>⟨dg1,rfl,by omega,by omega,fun c1 jI=>?_⟩⟩
  have BR:p≠c1:=p3.ok.ne jI
  refine zb (fun i zs τ J=>∃t0:Option V,τ = [t0,some (.ref p)]/\cg p H3 J/\J c1=some (.lst zs)/\jK J zs/\zs.length=i) ⟨none,rfl,(cg.refl p3.ok).new jI,af,(fun x hx=>by cases hx),rfl⟩ (fun i zs τ J ⟨_,_,_,z,_⟩=>z) ?_ ?_
  ·rintro j zs τ J hj ⟨t0,rfl,pJ,hz,pr,zl⟩
   refine⟨_,rfl,jo (p:=p) (m:=10) pJ.ok (by decide) (by decide) fun x J1 x0 x1 yB=>?_⟩
   refine⟨_,rfl,_,_,rfl,rfl,⟨by decide,by decide,by decide⟩,jo (p:=p) (m:=1000000) yB.ok (by decide) (by decide) fun y J2 y0 y1 IG=>⟨two,fun t ht=>?_⟩⟩
   have g:=yB.trans IG
   have pY:=g.kp _ _ hz (aT BR)
   refine⟨ak ht _ _ pY,by rw[zl,ay];omega,cw_next hj ⟨_,rfl,((pJ.trans g).new ht).write jI BR,af,jK.snoc pJ.ok g hz BR ht pr x0 y0,by rw[aW,zl];rfl⟩⟩
  rintro IH τ H4 ⟨t0,rfl,II,hH4,acP,lH4⟩
  have l1:IH.length<=3:=by omega
  refine⟨_,rfl,jo (p:=p) (m:=3) II.ok (by decide) (by decide) fun dg2 H5 b0 b1 p5=>⟨rfl,.inr ⟨_,rfl,?_⟩⟩⟩
  generalize decide (V.int dg2=V.int 1)=kb
  refine⟨_,rfl,by cases kb <;> decide,by cases kb <;> decide,fun c2 cU=>?_⟩
  have BS:p≠c2:=p5.ok.ne cU
  refine zb (fun i zs τ J=>∃t0:Option V,τ = [t0,some (.ref p)]/\cg p H5 J/\J c2=some (.lst zs)/\jK J zs/\zs.length=i) ⟨none,rfl,(cg.refl p5.ok).new cU,af,(fun x hx=>by cases hx),rfl⟩ (fun i zs τ J ⟨_,_,_,z,_⟩=>z) ?_ ?_
  ·rintro j zs τ J hj ⟨t0,rfl,pJ,hz,pr,zl⟩
   refine⟨_,rfl,jo (p:=p) (m:=9) pJ.ok (by decide) (by decide) fun x J1 x0 x1 yB=>?_⟩
   refine⟨_,rfl,_,_,rfl,rfl,⟨by decide,by decide,by decide⟩,jo (p:=p) (m:=10000) yB.ok (by decide) (by decide) fun y J2 y0 y1 IG=>⟨two,fun t ht=>?_⟩⟩
   have g:=yB.trans IG
   have pY:=g.kp _ _ hz (aT BS)
   refine⟨ak ht _ _ pY,by rw[zl,ay];cases kb <;> (first | omega | (simp at hj;omega)),cw_next hj ⟨_,rfl,((pJ.trans g).new ht).write cU BS,af,jK.snoc pJ.ok g hz BS ht pr x0 y0,by rw[aW,zl];rfl⟩⟩
  rintro sh τ H6 ⟨t0,rfl,IJ,hH6,acQ,lH6⟩
  have l2:sh.length<=1:=by rw[lH6];cases kb <;> decide
  refine⟨_,rfl,_,rfl,_,rfl,jo (p:=p) (m:=5) IJ.ok (by decide) (by decide) fun dg3 H7 d0 d1' p7=>?_⟩
  obtain⟨dn,rfl⟩:=yU d0
  refine⟨1,(dn:Int),rfl,rfl,?_⟩
  refine Yk (m:=1+dn) p7.ok (by omega) fun kl ks H8 hkl hkn ym knd p8 h8=>?_
  refine Z3 p8.ok h8 knd ym (by omega) fun r t d1 d2 ws gQ L Ps aa H9 R=>?_
  refine⟨r,_,rfl,aB.of R.hr,rfl,_,_,rfl,_,_,rfl,_,_,rfl,rfl,?_⟩
  have q2:=p7.trans (p8.trans R.pa)
  have q1:=p5.trans (IJ.trans q2)
  have q0:=p3.trans (II.trans q1)
  have h19:=q1.kp _ _ hH4 (aT BR)
  have h29:=q2.kp _ _ hH6 (aT BS)
  have pr1:=acP.yl II.ok q1
  have pr2:=acQ.yl IJ.ok q2
  have ft:=aad ym R.fm R.pm R.so
  have pb:=aae ym R.fm R.pm
  have fl:aa.length=ks.length:=by rw[R.pm.length_eq];unfold i6;rw[ar]
  have wl:=R.fv.length
  have IK:=R.pa.ok
  have hb9:=qK (aa:=aa) fun x hx=>(pb x hx).mono (by decide) (by decide)
  have S09:aq H1 H9:=fun b o z=>q0.kp b o (S2 _ _ z) (ax z hp)
  refine⟨_,rfl,DB (p:=p) (d:= .tuple (aa.map iK)) (.tup (zo IK R.ht) R.ht (tN (fun a xs e=>zo IK e) R.fv)) (by show PyData.bulkAll _<=1000;omega) (fun ds e=>by cases e;rw[ar];omega) fun A0 qq=>?_⟩
  rw[ft]
  refine⟨true,true,rfl,rfl,_,rfl,?_⟩
  have PZ:=qq _ _ R.ht
  have acR:=R.fv.same qq
  have acS:=qq _ _ h19
  have acT:=qq _ _ h29
  have abg:=pr1.same qq
  have abh:=pr2.same qq
  have acU:=(vS IK qq).ok
  have acV:=S09.trans qq
  have pm:=R.pm
  clear R
  refine⟨_,rfl,t,rfl,⟨_,aB.of PZ⟩,fun c3 ku=>?_⟩
  refine oR (xs:=ws) (fun i us τ J=>∃ (t0 t1:Option V),τ = [t0,t1]/\aq A0 J/\J c3=some (.lst us)/\Paired (fun y q=>∃a b,y=V.ref a/\J a=some (.tup [.str q.1,.ref b])/\J b=some (.lst (q.2.map V.str))/\b≠c3) us (aa.take i)) ⟨none,none,rfl,ak ku,af,.nil⟩ (fun i us τ J ⟨_,_,_,z,z2,_⟩=>⟨z2,aB.of (z _ _ PZ)⟩) ?_ ?_
  ·rintro i x us τ J hx ⟨t0,t1,rfl,T2,h2,pr⟩
   have aM:i < ws.length:=(cq.mp hx).1
   obtain⟨pp,fc,a',b',rfl,gB,cX⟩:=gm (acR.same T2) hx
   refine⟨a',_,rfl,aB.of gB,rfl,_,_,rfl,_,_,rfl,rfl,?_⟩
   refine⟨_,rfl,_,rfl,b',_,rfl,.inr (aB.of cX),fun x1 nX=>⟨two,fun x2 lx=>?_⟩⟩
   have V1:=ak (o:= .lst (pp.2.map V.str)) nX
   have V2:=V1.trans (ak (o:= .tup [V.str pp.1,V.ref x1]) lx)
   have e1:upd (upd J x1 (.lst (pp.2.map V.str))) x2 (.tup [V.str pp.1,V.ref x1]) x1=some (.lst (pp.2.map V.str)):=by rw[aj (ax af lx)];exact af
   have e2:upd (upd J x1 (.lst (pp.2.map V.str))) x2 (.tup [V.str pp.1,V.ref x1]) x2=some (.tup [V.str pp.1,V.ref x1]):=af
   have h4:=V2 _ _ h2
   have m1:x1≠c3:=aT (ax h2 nX)
   have m2:x2≠c3:=aT (ax (V1 _ _ h2) lx)
   generalize upd (upd J x1 (.lst (pp.2.map V.str))) x2 (.tup [V.str pp.1,V.ref x1])=J4 at V2 e1 e2 h4 ⊢
   have ul:=jL pr
   refine⟨h4,by rw[ul,aX,ay];omega,cw_next aM ⟨_,_,rfl,fun b o e=>?_,af,?_⟩⟩
   ·rw[aj (ax e ku)];exact V2 _ _ (T2 _ _ e)
   ·rw[de,fc]
    refine DD (Paired.imp' (fun y q ⟨a,b,e,r1,r2,n⟩=>⟨a,b,e,by rw[aj (bZ r1 h2 (by intro z;cases z))];exact V2 _ _ r1,by rw[aj n];exact V2 _ _ r2,n⟩) pr) (.cons ⟨x2,x1,rfl,?_,?_,m1⟩ .nil)
    ·rw[aj m2];exact e2
    ·rw[aj m1];exact e1
  rintro us τ G9 ⟨t0,t1,rfl,IL,n5,P2⟩
  rw[wl,dw]at P2
  have acW:cI G9 us aa:=Paired.imp' (fun y q ⟨a,b,e,r1,r2,_⟩=>⟨a,b,e,r1,r2⟩) P2
  have P4:=IL _ _ acS
  have abi:=abg.same IL
  refine⟨_,rfl,c1,rfl,⟨_,ai.of P4⟩,tf (xs:=IH) (fun i σ J=>∃ (w9 qr:Option V) (rl:Addr) (us:List V) (rows:bV),σ = [some (.ref a),some (.int (0+(i0:Int))),some (.ref p),some (.ref c1),some (.ref c2),some (.ref t),some (.ref d1),some (.ref d2),some (.ref rl),w9,qr,v11,BQ]/\aq G9 J/\J rl=some (.lst us)/\cI J us rows/\0 < rows.length/\rows.length<=5+i /\ ∀q∈rows,PB (4+i) (8+i) q) ⟨v9,v10,c3,us,aa,rfl,aq.refl _,n5,acW,by omega,by omega,pb⟩ (fun i σ J hi ⟨_,_,_,_,_,_,z,_⟩=>ai.of (z _ _ P4)) (fun i x σ J hx hP=>?_) (fun σ J hP=>?_)⟩
  ·obtain⟨w9,qr,rl,us,rows,rfl,SJ,gV,oq,pos,le,IM⟩:=hP
   have aM:i < IH.length:=(cq.mp hx).1
   obtain⟨b,x,y,rfl,e,x0,y0⟩:=abi x (gj hx)
   refine⟨b,_,rfl,aB.of (SJ _ _ e),rfl,_,_,rfl,_,_,rfl,rfl,?_⟩
   refine⟨_,rfl,_,rfl,_,rfl,abc (no:=4+i) (ns:=8+i) y0 gV oq pos (by omega) IM (by omega) (by omega) (by omega) fun l lB rs J2 T2 fh hw2 z2 le2 pb2=>?_⟩
   exact⟨_,_,l,lB,rs,rfl,SJ.trans T2,fh,hw2,z2,by omega,pb2⟩
  obtain⟨w9,qr,rl,SV,rows,rfl,SJ,gV,oq,pos,le,IM⟩:=hP
  have SW:∀q∈rows,PB 7 11 q:=fun q hq=>(IM q hq).mono (by omega) (by omega)
  have le8:rows.length<=8:=by omega
  have ul:=oq.length
  refine⟨_,rfl,rl,rfl,⟨_,ai.of gV⟩,fun c4 kh=>?_⟩
  refine gK (xs:=SV) (fun i zs τ J1=>∃ (t0 t1:Option V),τ = [t0,t1]/\aq J J1/\J1 c4=some (.lst zs)/\cM J1 zs (rows.take i)) ⟨none,none,rfl,ak kh,af,.nil⟩ (fun i zs τ J1 ⟨_,_,_,z,z2,_⟩=>⟨z2,ai.of (z _ _ gV)⟩) ?_ ?_
  ·rintro i x zs τ J1 hx ⟨t0,t1,rfl,T2,h2,pr⟩
   have aM:i < SV.length:=(cq.mp hx).1
   obtain⟨pp,fc,a',b',rfl,gB,cX⟩:=gm (oq.same T2) hx
   refine⟨a',_,rfl,aB.of gB,rfl,_,_,rfl,_,_,rfl,rfl,?_⟩
   refine⟨_,rfl,_,rfl,b',_,rfl,.inl ⟨ai.of cX,fun x1 nX=>⟨two,fun x2 lx=>?_⟩⟩⟩
   have V1:=ak (o:= .tup (pp.2.map V.str)) nX
   have V2:=V1.trans (ak (o:= .tup [V.str pp.1,V.ref x1]) lx)
   have e1:upd (upd J1 x1 (.tup (pp.2.map V.str))) x2 (.tup [V.str pp.1,V.ref x1]) x1=some (.tup (pp.2.map V.str)):=by rw[aj (ax af lx)];exact af
   have e2:upd (upd J1 x1 (.tup (pp.2.map V.str))) x2 (.tup [V.str pp.1,V.ref x1]) x2=some (.tup [V.str pp.1,V.ref x1]):=af
   have h4:=V2 _ _ h2
   have m1:x1≠c4:=aT (ax h2 nX)
   have m2:x2≠c4:=aT (ax (V1 _ _ h2) lx)
   generalize upd (upd J1 x1 (.tup (pp.2.map V.str))) x2 (.tup [V.str pp.1,V.ref x1])=J4 at V2 e1 e2 h4 ⊢
   have ul':=pr.length
   refine⟨h4,by rw[ul',aX,ay];omega,cw_next aM ⟨_,_,rfl,fun b o e=>?_,af,?_⟩⟩
   ·rw[aj (ax e kh)];exact V2 _ _ (T2 _ _ e)
   ·rw[de,fc]
    refine cM.append (a:=x2) (b:=x1) (p:=pp) (pr.keep fun b xs e=>?_) ?_ ?_
    ·rw[aj (bZ e h2 (by intro z;cases z))];exact V2 _ _ e
    ·rw[aj m2];exact e2
    ·rw[aj m1];exact e1
  rintro zs τ J1 ⟨t0,t1,rfl,T1,h1,fv⟩
  rw[ul,dw]at fv
  refine⟨c4,_,rfl,.inl ⟨ai.of h1,fun th xI=>?_⟩⟩
  have T2:=ak (o:= .tup zs) xI
  have BU:upd J1 th (.tup zs) th=_:=af
  generalize upd J1 th (.tup zs)=J2 at T2 BU ⊢
  have U:=IL.trans (SJ.trans (T1.trans T2))
  have IP:=(vS acU U).ok
  have SX:=U _ _ acT
  have acX:=abh.same U
  have SY:=fv.same T2
  have pV:=qK SW
  refine⟨_,rfl,c2,rfl,⟨_,ai.of SX⟩,tf (xs:=sh) (fun i σ J3=>∃ (w9 qr:Option V) (u:V) (d:PyData),σ = [some (.ref a),some (.int (0+(i0:Int))),some (.ref p),some (.ref c1),some (.ref c2),some (.ref t),some (.ref d1),some (.ref d2),some (.ref rl),w9,qr,some u,BQ]/\aq J2 J3/\Dt p J3 u d/\Sd 1000 d/\(i=0->u = .ref th)) ⟨w9,qr,.ref th,.tuple (rows.map iK),rfl,aq.refl _,.tup (zo IP BU) BU (tN (fun a xs e=>zo IP e) SY),⟨by show PyData.bulkAll _<=1000;omega,fun ds e=>by cases e;rw[ar];omega⟩,fun _=>rfl⟩ (fun i σ J3 hi ⟨_,_,_,_,_,z,_⟩=>ai.of (z _ _ SX)) (fun i x σ J3 hx hP=>?_) (fun σ J3 hP=>?_)⟩
  ·obtain⟨w9,qr,u,d,rfl,S3,ru,sd,hu0⟩:=hP
   have aM:i < sh.length:=(cq.mp hx).1
   obtain rfl:=hu0 (by omega)
   obtain⟨b,x,y,rfl,e,x0,y0⟩:=acX x (gj hx)
   obtain⟨px,py,ep,_⟩:=IP
   refine⟨b,_,rfl,aB.of (S3 _ _ e),rfl,_,_,rfl,_,_,rfl,rfl,?_⟩
   refine⟨_,rfl,_,rfl,_,rfl,aab y0 x0 (S3 _ _ ep) (S3 _ _ BU) (SY.same S3) le8 SW fun u' d' J4 S4 r4 s4=>?_⟩
   exact⟨_,_,u',d',rfl,S3.trans S4,r4,s4,fun z=>absurd z (Nat.succ_ne_zero _)⟩
  obtain⟨w9,qr,u,d,rfl,S3,ru,sd,_⟩:=hP
  refine⟨_,rfl,DB ru sd.bulk sd.bg fun J5 S5=>?_⟩
  refine⟨_,rfl,nh XX (.bl (p:=p) (jX d)) ⟨_,rfl,?_⟩⟩
  refine⟨_,rfl,_,rfl,DB (Dt.same ru S5) sd.bulk sd.bg fun J6 S6=>⟨rfl,_,rfl,?_⟩⟩
  rw[cF (rfl:V.bl (jX d)=V.bl (jX d))]
  exact⟨_,_,_,_,_,_,_,_,_,_,_,_,rfl,S1.trans (acV.trans (U.trans (S3.trans (S5.trans S6))))⟩
end
end bc
namespace bc
open PySem L2 PySem.W
def acY (K:Frag) (LE:Addr):Bool:=readsIn K LE (.type "type") && (specialIn K (.ref LE) "__getattribute__" == some (some (.builtin "type.__getattribute__")))
def nsOk (K:Frag) (C:Addr):Bool:=findIn K (.ref C) "kind" == some none && (findIn K (.ref C) "ring" == some none && (keepIn K (.ref C) && mroIn K C (.ref C)==some true))
theorem all_mk {l:OpenLaw}{w:World}{K:Frag}{h:Heap}{mg:Str->Option Value}{fa C LE fI fM IQ IS IT IU IV IW IX IY IZ I0 Ja Jb fP fD fN Jc Jd Je Jf Jg Jh Ji Jj Jk Jl Jm Jn Jo fL:Addr} (X:K.In h) (G:h.Ns mainGlobals mg) (kr:mg "law" = some (.ref fa))
  {odI S':Option Addr}{slI:Array (Option Value)}{ocI Ta Tb Tc Jp Td:Value}
  {odM anM:Option Addr}{slM:Array (Option Value)}{ocM kVM dcM pmM Te ctM:Value}
  {acZ ac0:Option Addr}{ac1:Array (Option Value)}{ac2 ac3 ac4 ac5 P6 ac6:Value}
  {ac7 ac8:Option Addr}{ac9:Array (Option Value)}{ada adb ade adf P7 adg:Value}
  {adh adi:Option Addr}{adj:Array (Option Value)}{adk adm adn ado P8 adp:Value}
  {adq adt:Option Addr}{adu:Array (Option Value)}{adv adw adx ady P9 adz:Value}
  {adA adB:Option Addr}{adC:Array (Option Value)}{adD adE adF adG Qa adH:Value}
  {adI adJ:Option Addr}{adK:Array (Option Value)}{adL adM adN adO Qb adP:Value}
  {adQ adR:Option Addr}{adS:Array (Option Value)}{adT adU adV adW Qc adX:Value}
  {adY adZ:Option Addr}{ad0:Array (Option Value)}{ad1 ad2 ad3 ad4 Qd ad5:Value}
  {ad6 ad7:Option Addr}{ad8:Array (Option Value)}{ad9 aea aeb aec Qe aed:Value}
  {aee aef:Option Addr}{aeg:Array (Option Value)}{aeh aei aej aek Qf ael:Value}
  {aem aen:Option Addr}{aeo:Array (Option Value)}{aep aeq aer aes Qg aet:Value}
  {aeu aev:Option Addr}{aew:Array (Option Value)}{aex aey aez aeA Qh aeB:Value}
  {odP anP:Option Addr}{slP:Array (Option Value)}{ocP kVP dcP pmP Tf ctP:Value}
  {odD anD:Option Addr}{slD:Array (Option Value)}{ocD kVD dcD pmD Tg ctD:Value}
  {odN anN:Option Addr}{slN:Array (Option Value)}{ocN kVN dcN pmN Th ctN:Value}
  {aeC aeD:Option Addr}{aeE:Array (Option Value)}{aeF aeG aeH aeI Qi aeJ:Value}
  {aeK aeL:Option Addr}{aeM:Array (Option Value)}{aeN aeO aeP aeQ Qj aeR:Value}
  {aeS aeT:Option Addr}{aeU:Array (Option Value)}{aeV aeW aeX aeY Qk aeZ:Value}
  {ae0 ae1:Option Addr}{ae2:Array (Option Value)}{ae3 ae4 ae5 ae6 Ql ae7:Value}
  {ae8 ae9:Option Addr}{afa:Array (Option Value)}{afb afc afd afe Qm aff:Value}
  {afg afh:Option Addr}{afi:Array (Option Value)}{afj afk afl afm Qn afn:Value}
  {afo afp:Option Addr}{afq:Array (Option Value)}{afr afs aft afu Qo afv:Value}
  {afw afx:Option Addr}{afy:Array (Option Value)}{afz afA afB afC Qp afD:Value}
  {afE afF:Option Addr}{afG:Array (Option Value)}{afH afI afJ afK Qq afL:Value}
  {afM afN:Option Addr}{afO:Array (Option Value)}{afP afQ afR afS Qr afT:Value}
  {afU afV:Option Addr}{afW:Array (Option Value)}{afX afY afZ af0 Qs af1:Value}
  {af2 af3:Option Addr}{af4:Array (Option Value)}{af5 af6 af7 af8 Qt af9:Value}
  {aga agb:Option Addr}{agc:Array (Option Value)}{agd age agf agg Qu agh:Value}
  {odL Ti:Option Addr}{slL:Array (Option Value)}{ocL Tj To Tp Jq Tq:Value}
  {tkM:Tok}
  (aC:nsIn K mainGlobals "Ring" = some (some (.ref C)))
  (Jr:nsIn K mainGlobals "LineError" = some (some (.ref LE)))
  (Tr:findIn K (.ref C) "__init__" = some (some (.ref fI)))
  (Js:isFn K (.ref fI)=true)
  (BV:gq K C (some (.ref fI))=true)
  (Jt:K.lookup fI=some ⟨ocI,odI,.func (fnOf "__init__" "Ring.__init__" (cK lb) (aU lb) (aH lb) .none Ta Tb Tc S' Jp Td),slI⟩)
  (Ju:codeIn K Jp "Ring.__init__" = true)
  (Jv:keepIn K (.ref fI)=true)
  (Jw:nsIn K mainGlobals "merged" = some (some (.ref fM)))
  (Jx:K.lookup fM=some ⟨ocM,odM,.func (fnOf "merged" "merged" (cK oY) (aU oY) (aH oY) .none kVM dcM pmM anM Te ctM),slM⟩)
  (Jy:codeIn K Te "merged" = true)
  (BW:keepIn K (.ref fM)=true)
  (EO:nsIn K mainGlobals "least_free" = some (some (.ref IQ)))
  (ER:K.lookup IQ=some ⟨ac2,acZ,.func (fnOf "least_free" "least_free" (cK qQ) (aU qQ) (aH qQ) .none ac3 ac4 ac5 ac0 P6 ac6),ac1⟩)
  (ES:codeIn K P6 "least_free" = true)
  (ET:keepIn K (.ref IQ)=true)
  (EU:nsIn K mainGlobals "wish_against" = some (some (.ref IS)))
  (EV:K.lookup IS=some ⟨ada,ac7,.func (fnOf "wish_against" "wish_against" (cK nz) (aU nz) (aH nz) .none adb ade adf ac8 P7 adg),ac9⟩)
  (EW:codeIn K P7 "wish_against" = true)
  (EX:keepIn K (.ref IS)=true)
  (EY:nsIn K mainGlobals "ring_within" = some (some (.ref IT)))
  (EZ:K.lookup IT=some ⟨adk,adh,.func (fnOf "ring_within" "ring_within" (cK nj) (aU nj) (aH nj) .none adm adn ado adi P8 adp),adj⟩)
  (E1:codeIn K P8 "ring_within" = true)
  (E3:keepIn K (.ref IT)=true)
  (E4:nsIn K mainGlobals "is_name" = some (some (.ref IU)))
  (E5:K.lookup IU=some ⟨adv,adq,.func (fnOf "is_name" "is_name" (cK oX) (aU oX) (aH oX) .none adw adx ady adt P9 adz),adu⟩)
  (E6:codeIn K P9 "is_name" = true)
  (uG:keepIn K (.ref IU)=true)
  (E7:nsIn K mainGlobals "are_rising" = some (some (.ref IV)))
  (E8:K.lookup IV=some ⟨adD,adA,.func (fnOf "are_rising" "are_rising" (cK tZ) (aU tZ) (aH tZ) .none adE adF adG adB Qa adH),adC⟩)
  (E9:codeIn K Qa "are_rising" = true)
  (Ar:keepIn K (.ref IV)=true)
  (Fb:nsIn K mainGlobals "is_row" = some (some (.ref IW)))
  (Fc:K.lookup IW=some ⟨adL,adI,.func (fnOf "is_row" "is_row" (cK pq) (aU pq) (aH pq) .none adM adN adO adJ Qb adP),adK⟩)
  (Fd:codeIn K Qb "is_row" = true)
  (wY:keepIn K (.ref IW)=true)
  (Fe:nsIn K mainGlobals "is_family" = some (some (.ref IX)))
  (Ff:K.lookup IX=some ⟨adT,adQ,.func (fnOf "is_family" "is_family" (cK jR) (aU jR) (aH jR) .none adU adV adW adR Qc adX),adS⟩)
  (Fg:codeIn K Qc "is_family" = true)
  (As:keepIn K (.ref IX)=true)
  (Fh:nsIn K mainGlobals "is_pair" = some (some (.ref IY)))
  (Fi:K.lookup IY=some ⟨ad1,adY,.func (fnOf "is_pair" "is_pair" (cK tH) (aU tH) (aH tH) .none ad2 ad3 ad4 adZ Qd ad5),ad0⟩)
  (Fj:codeIn K Qd "is_pair" = true)
  (Au:keepIn K (.ref IY)=true)
  (Fl:nsIn K mainGlobals "is_kind" = some (some (.ref IZ)))
  (Fn:K.lookup IZ=some ⟨ad9,ad6,.func (fnOf "is_kind" "is_kind" (cK tI) (aU tI) (aH tI) .none aea aeb aec ad7 Qe aed),ad8⟩)
  (Fo:codeIn K Qe "is_kind" = true)
  (Av:keepIn K (.ref IZ)=true)
  (Fp:nsIn K mainGlobals "are_parents" = some (some (.ref I0)))
  (Fq:K.lookup I0=some ⟨aeh,aee,.func (fnOf "are_parents" "are_parents" (cK pH) (aU pH) (aH pH) .none aei aej aek aef Qf ael),aeg⟩)
  (Fs:codeIn K Qf "are_parents" = true)
  (Aw:keepIn K (.ref I0)=true)
  (Ft:nsIn K mainGlobals "lines_of" = some (some (.ref Ja)))
  (Fu:K.lookup Ja=some ⟨aep,aem,.func (fnOf "lines_of" "lines_of" (cK nt) (aU nt) (aH nt) .none aeq aer aes aen Qg aet),aeo⟩)
  (Fv:codeIn K Qg "lines_of" = true)
  (Ax:keepIn K (.ref Ja)=true)
  (Fw:nsIn K mainGlobals "line_from" = some (some (.ref Jb)))
  (Fx:K.lookup Jb=some ⟨aex,aeu,.func (fnOf "line_from" "line_from" (cK oP) (aU oP) (aH oP) .none aey aez aeA aev Qh aeB),aew⟩)
  (Fy:codeIn K Qh "line_from" = true)
  (Ay:keepIn K (.ref Jb)=true)
  (Jz:nsIn K mainGlobals "_law_pot" = some (some (.ref fP)))
  (JA:K.lookup fP=some ⟨ocP,odP,.func (fnOf "_law_pot" "_law_pot" (cK uk) (aU uk) (aH uk) .none kVP dcP pmP anP Tf ctP),slP⟩)
  (JB:codeIn K Tf "_law_pot" = true)
  (BX:keepIn K (.ref fP)=true)
  (JC:nsIn K mainGlobals "_law_digit" = some (some (.ref fD)))
  (JD:K.lookup fD=some ⟨ocD,odD,.func (fnOf "_law_digit" "_law_digit" (cK pz) (aU pz) (aH pz) .none kVD dcD pmD anD Tg ctD),slD⟩)
  (JE:codeIn K Tg "_law_digit" = true)
  (BY:keepIn K (.ref fD)=true)
  (JF:nsIn K mainGlobals "_law_names" = some (some (.ref fN)))
  (JG:K.lookup fN=some ⟨ocN,odN,.func (fnOf "_law_names" "_law_names" (cK jS) (aU jS) (aH jS) .none kVN dcN pmN anN Th ctN),slN⟩)
  (JH:codeIn K Th "_law_names" = true)
  (BZ:keepIn K (.ref fN)=true)
  (Fz:nsIn K mainGlobals "_law_merged" = some (some (.ref Jc)))
  (FA:K.lookup Jc=some ⟨aeF,aeC,.func (fnOf "_law_merged" "_law_merged" (cK iY) (aU iY) (aH iY) .none aeG aeH aeI aeD Qi aeJ),aeE⟩)
  (FC:codeIn K Qi "_law_merged" = true)
  (FE:keepIn K (.ref Jc)=true)
  (FF:nsIn K mainGlobals "_law_line" = some (some (.ref Jd)))
  (FG:K.lookup Jd=some ⟨aeN,aeK,.func (fnOf "_law_line" "_law_line" (cK nu) (aU nu) (aH nu) .none aeO aeP aeQ aeL Qj aeR),aeM⟩)
  (FH:codeIn K Qj "_law_line" = true)
  (wZ:keepIn K (.ref Jd)=true)
  (FJ:nsIn K mainGlobals "_law_parents" = some (some (.ref Je)))
  (FK:K.lookup Je=some ⟨aeV,aeS,.func (fnOf "_law_parents" "_law_parents" (cK sV) (aU sV) (aH sV) .none aeW aeX aeY aeT Qk aeZ),aeU⟩)
  (FO:codeIn K Qk "_law_parents" = true)
  (Az:keepIn K (.ref Je)=true)
  (FQ:nsIn K mainGlobals "_law_family" = some (some (.ref Jf)))
  (FT:K.lookup Jf=some ⟨ae3,ae0,.func (fnOf "_law_family" "_law_family" (cK oS) (aU oS) (aH oS) .none ae4 ae5 ae6 ae1 Ql ae7),ae2⟩)
  (FU:codeIn K Ql "_law_family" = true)
  (AA:keepIn K (.ref Jf)=true)
  (FX:nsIn K mainGlobals "_law_sign" = some (some (.ref Jg)))
  (FY:K.lookup Jg=some ⟨afb,ae8,.func (fnOf "_law_sign" "_law_sign" (cK t8) (aU t8) (aH t8) .none afc afd afe ae9 Qm aff),afa⟩)
  (FZ:codeIn K Qm "_law_sign" = true)
  (AB:keepIn K (.ref Jg)=true)
  (F0:nsIn K mainGlobals "_law_misspelt" = some (some (.ref Jh)))
  (F1:K.lookup Jh=some ⟨afj,afg,.func (fnOf "_law_misspelt" "_law_misspelt" (cK um) (aU um) (aH um) .none afk afl afm afh Qn afn),afi⟩)
  (F4:codeIn K Qn "_law_misspelt" = true)
  (w6:keepIn K (.ref Jh)=true)
  (F6:nsIn K mainGlobals "_law_put_in" = some (some (.ref Ji)))
  (F7:K.lookup Ji=some ⟨afr,afo,.func (fnOf "_law_put_in" "_law_put_in" (cK tQ) (aU tQ) (aH tQ) .none afs aft afu afp Qo afv),afq⟩)
  (F8:codeIn K Qo "_law_put_in" = true)
  (AD:keepIn K (.ref Ji)=true)
  (F9:nsIn K mainGlobals "_law_other_parents" = some (some (.ref Jj)))
  (Ga:K.lookup Jj=some ⟨afz,afw,.func (fnOf "_law_other_parents" "_law_other_parents" (cK pA) (aU pA) (aH pA) .none afA afB afC afx Qp afD),afy⟩)
  (Gb:codeIn K Qp "_law_other_parents" = true)
  (AE:keepIn K (.ref Jj)=true)
  (Gd:nsIn K mainGlobals "_law_leads" = some (some (.ref Jk)))
  (Ge:K.lookup Jk=some ⟨afH,afE,.func (fnOf "_law_leads" "_law_leads" (cK pB) (aU pB) (aH pB) .none afI afJ afK afF Qq afL),afG⟩)
  (Gf:codeIn K Qq "_law_leads" = true)
  (AF:keepIn K (.ref Jk)=true)
  (Gg:nsIn K mainGlobals "_law_spoilt" = some (some (.ref Jl)))
  (Gh:K.lookup Jl=some ⟨afP,afM,.func (fnOf "_law_spoilt" "_law_spoilt" (cK oZ) (aU oZ) (aH oZ) .none afQ afR afS afN Qr afT),afO⟩)
  (Gi:codeIn K Qr "_law_spoilt" = true)
  (AG:keepIn K (.ref Jl)=true)
  (Gj:nsIn K mainGlobals "_law_odd" = some (some (.ref Jm)))
  (Gk:K.lookup Jm=some ⟨afX,afU,.func (fnOf "_law_odd" "_law_odd" (cK jW) (aU jW) (aH jW) .none afY afZ af0 afV Qs af1),afW⟩)
  (Gm:codeIn K Qs "_law_odd" = true)
  (AH:keepIn K (.ref Jm)=true)
  (Gn:nsIn K mainGlobals "_law_is_name" = some (some (.ref Jn)))
  (Gp:K.lookup Jn=some ⟨af5,af2,.func (fnOf "_law_is_name" "_law_is_name" (cK pC) (aU pC) (aH pC) .none af6 af7 af8 af3 Qt af9),af4⟩)
  (Gq:codeIn K Qt "_law_is_name" = true)
  (AI:keepIn K (.ref Jn)=true)
  (Gr:nsIn K mainGlobals "_law_is_family" = some (some (.ref Jo)))
  (Gs:K.lookup Jo=some ⟨agd,aga,.func (fnOf "_law_is_family" "_law_is_family" (cK jr) (aU jr) (aH jr) .none age agf agg agb Qu agh),agc⟩)
  (Gu:codeIn K Qu "_law_is_family" = true)
  (AJ:keepIn K (.ref Jo)=true)
  (JI:nsIn K mainGlobals "law" = some (some (.ref fL)))
  (JJ:K.lookup fL=some ⟨ocL,odL,.func (fnOf "law" "law" (cK i8) (aU i8) (aH i8) .none Tj To Tp Ti Jq Tq),slL⟩)
  (JK:codeIn K Jq "law" = true)
  (JL:keepIn K (.ref fL)=true)
  (JM:DA K C=true)
  (pT:nsOk K C=true)
  (B0:acY K LE=true)
  (DV:nsIn K mainGlobals "MOST_PARENTS" = some (some (.int 4 tkM)))
  (JN:findCls K (.ref LE) (.type "type") "__init__" = some (.val (.builtin "ValueError.__init__")))
  (Gv:nsIn K mainGlobals "len" = some none)
  (Gw:nsIn K mainGlobals "max" = some none)
  (Gx:nsIn K mainGlobals "min" = some none)
  (Gy:nsIn K mainGlobals "abs" = some none)
  (DE:nsIn K mainGlobals "range" = some none)
  (Gz:nsIn K mainGlobals "any" = some none)
  (GB:nsIn K mainGlobals "all" = some none)
  (DW:nsIn K mainGlobals "list" = some none)
  (DF:nsIn K mainGlobals "tuple" = some none)
  (CF:nsIn K mainGlobals "enumerate" = some none)
  (Ct:nsIn K mainGlobals "isinstance" = some none)
  (GC:nsIn K mainGlobals "str" = some none)
  (DX:nsIn K mainGlobals "dict" = some none)
  (Dk:nsIn K mainGlobals "sorted" = some none)
  (AK:nsIn K mainGlobals "int" = some none)
  (DY:nsIn K mainGlobals "bool" = some none)
  (GG:nsIn K mainGlobals "set" = some none)
  (GH:nsIn K mainGlobals "zip" = some none) :
  ∃fd:FuncData,(∀ (s:Shared) (v:Value),BindsTo s fd ⟨[v],[]⟩ [("_law_script", v)]) /\ ∀base:Heap,K.In base->base.Ns mainGlobals mg->aN l.prog w K mg base aS 7 fa fd ["_law_script"] (rb K):=by
 have e:=kr.symm.trans (df X G JI)
 cases e
 have Bl:c7 mg:=⟨gZ X G Gv,gZ X G Gw,gZ X G Gx,gZ X G Gy,gZ X G DE,gZ X G Gz,gZ X G GB,gZ X G DW,gZ X G DF,gZ X G CF⟩
 have n1:=eV.mp pT
 have n2:=eV.mp n1.2
 have n3:=eV.mp n2.2
 have bs:wc K LE:=⟨(eV.mp B0).1,eN.mp (eV.mp B0).2,JN⟩
 have FI:=dq (st:=lb) Jt Ju Jv
 have FM:=dq (st:=oY) Jx Jy BW
 have Ts:=dq (st:=qQ) ER ES ET
 have Tt:=dq (st:=nz) EV EW EX
 have Tu:=dq (st:=nj) EZ E1 E3
 have Tv:=dq (st:=oX) E5 E6 uG
 have Tw:=dq (st:=tZ) E8 E9 Ar
 have Tx:=dq (st:=pq) Fc Fd wY
 have Tz:=dq (st:=jR) Ff Fg As
 have TB:=dq (st:=tH) Fi Fj Au
 have TC:=dq (st:=tI) Fn Fo Av
 have TF:=dq (st:=pH) Fq Fs Aw
 have TH:=dq (st:=nt) Fu Fv Ax
 have TJ:=dq (st:=oP) Fx Fy Ay
 have FP:=dq (st:=uk) JA JB BX
 have FD:=dq (st:=pz) JD JE BY
 have FN:=dq (st:=jS) JG JH BZ
 have JO:=dq (st:=iY) FA FC FE
 have JP:=dq (st:=nu) FG FH wZ
 have TK:=dq (st:=sV) FK FO Az
 have TL:=dq (st:=oS) FT FU AA
 have TM:=dq (st:=t8) FY FZ AB
 have TN:=dq (st:=um) F1 F4 w6
 have TQ:=dq (st:=tQ) F7 F8 AD
 have TR:=dq (st:=pA) Ga Gb AE
 have TU:=dq (st:=pB) Ge Gf AF
 have TV:=dq (st:=oZ) Gh Gi AG
 have TX:=dq (st:=jW) Gk Gm AH
 have TY:=dq (st:=pC) Gp Gq AI
 have TZ:=dq (st:=jr) Gs Gu AJ
 have FL:=dq (st:=i8) JJ JK JL
 have bI:=FI.binds (ps:= ["self", "kind", "ring"]) fun _ _ _ _ _ _ us hl=>match us,hl with | [_,_,_],_=>rfl
 have bM:=FM.binds (ps:= ["rows"]) fun _ _ _ _ _ _ us hl=>match us,hl with | [_],_=>rfl
 have bLf:=Ts.binds (ps:= ["rest"]) fun _ _ _ _ _ _ us hl=>match us,hl with | [_],_=>rfl
 have bWa:=Tt.binds (ps:= ["rest", "name"]) fun _ _ _ _ _ _ us hl=>match us,hl with | [_,_],_=>rfl
 have bRw:=Tu.binds (ps:= ["rest"]) fun _ _ _ _ _ _ us hl=>match us,hl with | [_],_=>rfl
 have JQ:=Tv.binds (ps:= ["thing"]) fun _ _ _ _ _ _ us hl=>match us,hl with | [_],_=>rfl
 have bRi:=Tw.binds (ps:= ["names"]) fun _ _ _ _ _ _ us hl=>match us,hl with | [_],_=>rfl
 have T6:=Tx.binds (ps:= ["thing"]) fun _ _ _ _ _ _ us hl=>match us,hl with | [_],_=>rfl
 have bIf:=Tz.binds (ps:= ["thing"]) fun _ _ _ _ _ _ us hl=>match us,hl with | [_],_=>rfl
 have bIp:=TB.binds (ps:= ["thing"]) fun _ _ _ _ _ _ us hl=>match us,hl with | [_],_=>rfl
 have bKd:=TC.binds (ps:= ["family", "thing"]) fun _ _ _ _ _ _ us hl=>match us,hl with | [_,_],_=>rfl
 have bAp:=TF.binds (ps:= ["family", "thing"]) fun _ _ _ _ _ _ us hl=>match us,hl with | [_,_],_=>rfl
 have bLo:=TH.binds (ps:= ["family"]) fun _ _ _ _ _ _ us hl=>match us,hl with | [_],_=>rfl
 have bFr:=TJ.binds (ps:= ["lines", "kind", "parents"]) fun _ _ _ _ _ _ us hl=>match us,hl with | [_,_,_],_=>rfl
 have bP:=FP.binds (ps:= ["_law_script", "_law_k"]) fun _ _ _ _ _ _ us hl=>match us,hl with | [_,_],_=>rfl
 have bD:=FD.binds (ps:= ["_law_pot_here", "_law_many"]) fun _ _ _ _ _ _ us hl=>match us,hl with | [_,_],_=>rfl
 have bN:=FN.binds (ps:= ["_law_pot_here", "_law_many"]) fun _ _ _ _ _ _ us hl=>match us,hl with | [_,_],_=>rfl
 have T7:=JO.binds (ps:= ["_law_rows"]) fun _ _ _ _ _ _ us hl=>match us,hl with | [_],_=>rfl
 have T8:=JP.binds (ps:= ["_law_lines", "_law_kind", "_law_own"]) fun _ _ _ _ _ _ us hl=>match us,hl with | [_,_,_],_=>rfl
 have bYp:=TK.binds (ps:= ["_law_pot_here", "_law_made"]) fun _ _ _ _ _ _ us hl=>match us,hl with | [_,_],_=>rfl
 have bYf:=TL.binds (ps:= ["_law_pot_here", "_law_kinds"]) fun _ _ _ _ _ _ us hl=>match us,hl with | [_,_],_=>rfl
 have bSg:=TM.binds (ps:= ["_law_number"]) fun _ _ _ _ _ _ us hl=>match us,hl with | [_],_=>rfl
 have T9:=TN.binds (ps:= ["_law_name", "_law_number"]) fun _ _ _ _ _ _ us hl=>match us,hl with | [_,_],_=>rfl
 have bPi:=TQ.binds (ps:= ["_law_own", "_law_some", "_law_number"]) fun _ _ _ _ _ _ us hl=>match us,hl with | [_,_,_],_=>rfl
 have bOt:=TR.binds (ps:= ["_law_rows", "_law_at", "_law_way", "_law_number"]) fun _ _ _ _ _ _ us hl=>match us,hl with | [_,_,_,_],_=>rfl
 have bLd:=TU.binds (ps:= ["_law_rows", "_law_kind"]) fun _ _ _ _ _ _ us hl=>match us,hl with | [_,_],_=>rfl
 have bSp:=TV.binds (ps:= ["_law_rows", "_law_way", "_law_number"]) fun _ _ _ _ _ _ us hl=>match us,hl with | [_,_,_],_=>rfl
 have bOd:=TX.binds (ps:= ["_law_thing", "_law_way", "_law_number"]) fun _ _ _ _ _ _ us hl=>match us,hl with | [_,_,_],_=>rfl
 have bLn:=TY.binds (ps:= ["_law_thing"]) fun _ _ _ _ _ _ us hl=>match us,hl with | [_],_=>rfl
 have bYi:=TZ.binds (ps:= ["_law_thing"]) fun _ _ _ _ _ _ us hl=>match us,hl with | [_],_=>rfl
 have mM:=df X G Jw
 have mLf:=df X G EO
 have mWa:=df X G EU
 have mRw:=df X G EY
 have JR:=df X G E4
 have mRi:=df X G E7
 have Ua:=df X G Fb
 have mIf:=df X G Fe
 have mIp:=df X G Fh
 have mKd:=df X G Fl
 have mAp:=df X G Fp
 have mLo:=df X G Ft
 have mFr:=df X G Fw
 have mP:=df X G Jz
 have mD:=df X G JC
 have mN:=df X G JF
 have Ub:=df X G Fz
 have Uc:=df X G FF
 have mYp:=df X G FJ
 have mYf:=df X G FQ
 have mSg:=df X G FX
 have Ud:=df X G F0
 have mPi:=df X G F6
 have mOt:=df X G F9
 have mLd:=df X G Gd
 have mSp:=df X G Gg
 have mOd:=df X G Gj
 have mLn:=df X G Gn
 have mYi:=df X G Gr
 have xc:=YZ JM
 have T:DR K mg LE C fI (fnOf "__init__" "Ring.__init__" (cK lb) (aU lb) (aH lb) .none Ta Tb Tc S' Jp Td):=⟨df X G aC,BV,Js,n3.1,FI,bs,df X G Jr,bI,xc,eN.mp n1.1,eN.mp n2.1⟩
 have B2:lj mg:=⟨gZ X G Ct,gZ X G GC,gZ X G DX,gZ X G Dk⟩
 have JS:=gZ X G GG
 exact⟨fnOf "law" "law" (cK i8) (aU i8) (aH i8) .none Tj To Tp Ti Jq Tq,fun s v=>.of_eq rfl,fun base _ _ =>
  let me:=eN.mp n3.2
  let GDg:=C4 FD
  let JT:=Yb Tv Bl B2
  let Ue:=ZT Tx Bl B2 JS JT uG JQ JR
  let GIp:=Y8 TB Bl B2 JT uG JQ JR Ue wY T6 Ua
  let GIk:=aaT TC B2 JT uG JQ JR
  let GAp:=aaV TF Bl (df X G DV) Ue wY T6 Ua GIk Av bKd mKd
  let GM:=Xb FM Bl T Tt bWa mWa Ts bLf mLf Tu bRw mRw
  let GFr:=aaO TJ Bl T me GM BW bM mM
  let GLo:=Ya TH Bl GFr Ay bFr mFr
  let GIf:=ZZ Tz Bl B2 (df X G aC) BV me GIp Au bIp mIp (Y' Tw B2 JS) Ar bRi mRi GAp Aw bAp mAp GLo Ax bLo mLo
  let GYf:=Z4 TL Bl B2 (Z1 TK Bl FD bD mD) Az bYp mYp (aaX JP Bl JO T7 Ub) wZ T8 Uc
  let Ug:=Z9 TN Bl (Zg TM Bl) AB bSg mSg
  let GOt:=aa9 TR Bl (aa7 TQ Bl) AD bPi mPi Ug w6 T9 Ud
  let GSp:=abd TV Bl (gZ X G AK) GOt AE bOt mOt Ug w6 T9 Ud (abb TU Bl) AF bLd mLd
  let GYi:=Z8 TZ Bl B2 JS (gZ X G GH) (Yd TY Bl B2) AI bLn mLn (aa2 JP Bl JO T7 Ub) wZ T8 Uc
  aag FL Bl B2 (gZ X G AK) (gZ X G DY) (ZL FP Bl) BX bP mP GDg BY bD mD (X6 FN Bl FD bD mD) BZ bN mN GYf AA bYf mYf GIf As bIf mIf GYi AJ bYi mYi GSp AG bSp mSp (aac TX Bl) AH bOd mOd⟩
theorem walk {l:OpenLaw}{q:Program}{loose:List Str}{XP:(Str->Option Value)->Heap->Prop}{YP:World->Heap->Prop}{d:DefRec}{K:Params->Frag} (hn:l.most=some 63) (xr:d.params.defaults = [])
  (hY:∀ (w:World) (h:Heap),YP w h->(K w.params).In h)
  (F:∀ (w:World) (mg:Str->Option Value) (fa:Addr) (h:Heap),(K w.params).In h->h.Ns mainGlobals mg->mg d.name=some (.ref fa) ->
   ∃fd:FuncData,(∀ (s:Shared) (u:Value),BindsTo s fd ⟨[u],[]⟩ [("_law_script", u)]) /\ ∀base:Heap,(K w.params).In base->base.Ns mainGlobals mg->aN l.prog w (K w.params) mg base aS 7 fa fd ["_law_script"] (rb (K w.params))) :
  WalkO q loose XP YP l.row.toRowW d [] (fun f vs=>PySem.call f vs):=
 L2.Yu (n:=63) (k:=7) (x:= "_law_script") (CX:=fun _=>aS) (sp:=fun w=>rb (K w.params)) hn (by decide) xr ⟨rfl,by decide,by decide,rfl⟩ hY F (fun _ _ a ns hl _ hS=>by unfold rb;exact⟨a,ns,rfl,hS,hl,fun _=>rfl⟩) fun _ _ _ _ _ z=>z
end bc
def PySem.W.Fast.tw18138169169110465507:Nat:=0
def PySem.W.Fast.tw3968930202996230853:Nat:=0
def PySem.W.Fast.tw2771909482350570160:Nat:=0
def PySem.W.Fast.tw4808258944917595423:Nat:=0
def PySem.W.Fast.tw11910798032680322968:Nat:=0
def PySem.W.Fast.tw842066025120240060:Nat:=0
def PySem.W.Fast.tw465806017258455124:Nat:=0
def PySem.W.Fast.tw4276697040741819029:Nat:=0
def PySem.W.Fast.tw8127545881029669989:Nat:=0
def PySem.W.Fast.tw1112385807209452063:Nat:=0
def PySem.W.Fast.tw9735024525414248836:Nat:=0
def PySem.W.Fast.tw4092980849903177273:Nat:=0
def PySem.W.Fast.tw11895160525724047855:Nat:=0
def PySem.W.Fast.tw4521697836264461951:Nat:=0
def PySem.W.Fast.tw12625191639714189522:Nat:=0
def PySem.W.Fast.tw5269610528981437973:Nat:=0
def PySem.W.Fast.tw14756732954063405024:Nat:=0
def PySem.W.Fast.tw14035739198782075483:Nat:=0
def PySem.W.Fast.tw3929440127259900068:Nat:=0
def PySem.W.Fast.tw6028243706860521696:Nat:=0
def PySem.W.Fast.tw14792535185312634621:Nat:=0
def PySem.W.Fast.tw8541377731669754358:Nat:=0
def PySem.W.Fast.tw1522137468678580639:Nat:=0
def PySem.W.Fast.tw17712188936985612101:Nat:=0
def PySem.W.Fast.tw17562388959648319196:Nat:=0
def PySem.W.Fast.tw10269927301128410391:Nat:=0
def PySem.W.Fast.tw11518956088690938907:Nat:=0
def PySem.W.Fast.tw9676281271603292062:Nat:=0
def PySem.W.Fast.tw11219542603488395655:Nat:=0
def PySem.W.Fast.tw5591948624072681250:Nat:=0
def PySem.W.Fast.tw14365209053080086100:Nat:=0
def PySem.W.Fast.tw13203058183043737418:Nat:=0
def PySem.W.Fast.tw2022061924492766283:Nat:=0
def PySem.W.Fast.tw2453826401920935024:Nat:=0
def PySem.W.Fast.tw5003343700309080873:Nat:=0
def PySem.W.Fast.tw5418153900648678908:Nat:=0
def PySem.W.Fast.tw11908161402800341270:Nat:=0
def PySem.W.Fast.tw5789482820572504444:Nat:=0
def PySem.W.Fast.tw544148006158913428:Nat:=0
def PySem.W.Fast.tw231802570434755899:Nat:=0
def PySem.W.Fast.tw980315356985929607:Nat:=0
def PySem.W.Fast.tw2696921008452709994:Nat:=0
def PySem.W.Fast.tw11685800742220868828:Nat:=0
def PySem.W.Fast.tw12330824041800277837:Nat:=0
def PySem.W.Fast.tw12925613250156199453:Nat:=0
def PySem.W.Fast.tw9727603476796379067:Nat:=0
def PySem.W.Fast.tw2141506697247042630:Nat:=0
def PySem.W.Fast.tw12264531688820441922:Nat:=0
def PySem.W.Fast.tw12184707301491744801:Nat:=0
def PySem.W.Fast.tw15446547548779769185:Nat:=0
def PySem.W.Fast.tw2694378241927348331:Nat:=0
def PySem.W.Fast.tw74520274419619821:Nat:=0
def PySem.W.Fast.tw5860223230643770945:Nat:=0
def PySem.W.Fast.tw10340149451483956391:Nat:=0
def PySem.W.Fast.tw950176040028543559:Nat:=0
def PySem.W.Fast.tw2741527630918203201:Nat:=0
def PySem.W.Fast.tw14694849142006380648:Nat:=0
def PySem.W.Fast.tw16505325351036653620:Nat:=0
def PySem.W.Fast.tw9978152488437442878:Nat:=0
def PySem.W.Fast.tw13917900031144796515:Nat:=0
def PySem.W.Fast.tw530457713459123376:Nat:=0
def PySem.W.Fast.tw11876993374279117217:Nat:=0
def PySem.W.Fast.tw12630022316934602082:Nat:=0
def PySem.W.Fast.tw10116362939512590320:Nat:=0
def PySem.W.Fast.tw6810663106465785916:Nat:=0
def PySem.W.Fast.tw125945674369285300:Nat:=0
def PySem.W.Fast.tw6908859299456195274:Nat:=0
def PySem.W.Fast.tw17969278614090871295:Nat:=0
def PySem.W.Fast.tw7764708785090724499:Nat:=0
def PySem.W.Fast.tw8711204174285478:Nat:=0
def PySem.W.Fast.tw3259673407315470099:Nat:=0
def PySem.W.Fast.tw16383589178257654224:Nat:=0
def PySem.W.Fast.tw11258648953767966235:Nat:=0
def PySem.W.Fast.tw17173844036280109911:Nat:=0
def PySem.W.Fast.tw17122450822555270247:Nat:=0
def PySem.W.Fast.tw8750836553692902121:Nat:=0
def PySem.W.Fast.tw16358299447647763182:Nat:=0
def PySem.W.Fast.tw15685361572664398125:Nat:=0
def PySem.W.Fast.tw11939396572185404343:Nat:=0
def PySem.W.Fast.tw10018239865351657777:Nat:=0
def PySem.W.Fast.tw3261579525999767358:Nat:=0
def PySem.W.Fast.tw16330637175735458236:Nat:=0
def PySem.W.Fast.tw15832268626909288807:Nat:=0
def PySem.W.Fast.tw2329092003765884133:Nat:=0
def PySem.W.Fast.tw15020467781755515311:Nat:=0
def PySem.W.Fast.tw2865828315605037317:Nat:=0
def PySem.W.Fast.tw16000631883840013484:Nat:=0
def PySem.W.Fast.tw12090929198460974817:Nat:=0
def PySem.W.Fast.tw15749228131141752942:Nat:=0
def PySem.W.Fast.tw13695368028133608993:Nat:=0
def PySem.W.Fast.tw18017766909031126354:Nat:=0
def PySem.W.Fast.tw387987848536589903:Nat:=0
def PySem.W.Fast.tw16412198083452360775:Nat:=0
def PySem.W.Fast.tw5902729125554562903:Nat:=0
def PySem.W.Fast.tw10237464779521348874:Nat:=0
def PySem.W.Fast.tw11138174865696657009:Nat:=0
def PySem.W.Fast.tw4923400254877512858:Nat:=0
def PySem.W.Fast.tw9975248261463297594:Nat:=0
def PySem.W.Fast.tw10741178471611455239:Nat:=0
def PySem.W.Fast.tw6430764646704323812:Nat:=0
def PySem.W.Fast.tw14943498752724162651:Nat:=0
def PySem.W.Fast.tw15637742444213050242:Nat:=0
def PySem.W.Fast.tw8066642531608914822:Nat:=0
def PySem.W.Fast.tw4518479783864293902:Nat:=0
def PySem.W.Fast.tw6468731192684078353:Nat:=0
def PySem.W.Fast.tw1752027643766201905:Nat:=0
def PySem.W.Fast.tw17874589961891368821:Nat:=0
def PySem.W.Fast.tw7934562092457128736:Nat:=0
def PySem.W.Fast.tw8663136581885209342:Nat:=0
def PySem.W.Fast.tw6816448180650753906:Nat:=0
def PySem.W.Fast.tw4282682335406470097:Nat:=0
def PySem.W.Fast.tw744024823699943234:Nat:=0
def PySem.W.Fast.tw5002423703538636014:Nat:=0
def PySem.W.Fast.tw14465432480696469615:Nat:=0
def PySem.W.Fast.tw12295612980024213192:Nat:=0
def PySem.W.Fast.tw4870799474797638395:Nat:=0
def PySem.W.Fast.tw13981701961574480776:Nat:=0
def PySem.W.Fast.tw8186039881608099476:Nat:=0
def PySem.W.Fast.tw9135058039192804393:Nat:=0
def PySem.W.Fast.tw11474303547873720558:Nat:=0
def PySem.W.Fast.tw829675354949580037:Nat:=0
def PySem.W.Fast.tw2058024654372642097:Nat:=0
def PySem.W.Fast.tw3766349768045972446:Nat:=0
def PySem.W.Fast.tw16214737396762951112:Nat:=0
def PySem.W.Fast.tw12041777165479215861:Nat:=0
def PySem.W.Fast.tw17133258759740210939:Nat:=0
open PySem PySem.W PyProof.Rows
set_option maxRecDepth 100000 in
set_option maxHeartbeats 0 in
theorem PySem.Challenge.cw_parentlines_k24_whole_families_told_apar_holds : PySem.Challenge.rw_parentlines_k24_whole_families_told_apar.Holds := by
 w_on;o_law;k_head;(case hw=>w_witness2)
 k_fill
 refine bc.walk (l:=PySem.Challenge.rw_parentlines_k24_whole_families_told_apar) rfl rfl (fun w h Y=>PySem.W.kIn_of Y) ?F
 case F =>
  intro w mg fa h KX G rQ
  refine' bc.all_mk KX G rQ ?aC ?Jr ?Tr ?Js ?BV ?Jt ?Ju ?Jv ?Jw ?Jx ?Jy ?BW ?EO ?ER ?ES ?ET ?EU ?EV ?EW ?EX ?EY ?EZ ?E1 ?E3 ?E4 ?E5 ?E6 ?uG ?E7 ?E8 ?E9 ?Ar ?Fb ?Fc ?Fd ?wY ?Fe ?Ff ?Fg ?As ?Fh ?Fi ?Fj ?Au ?Fl ?Fn ?Fo ?Av ?Fp ?Fq ?Fs ?Aw ?Ft ?Fu ?Fv ?Ax ?Fw ?Fx ?Fy ?Ay ?Jz ?JA ?JB ?BX ?JC ?JD ?JE ?BY ?JF ?JG ?JH ?BZ ?Fz ?FA ?FC ?FE ?FF ?FG ?FH ?wZ ?FJ ?FK ?FO ?Az ?FQ ?FT ?FU ?AA ?FX ?FY ?FZ ?AB ?F0 ?F1 ?F4 ?w6 ?F6 ?F7 ?F8 ?AD ?F9 ?Ga ?Gb ?AE ?Gd ?Ge ?Gf ?AF ?Gg ?Gh ?Gi ?AG ?Gj ?Gk ?Gm ?AH ?Gn ?Gp ?Gq ?AI ?Gr ?Gs ?Gu ?AJ ?JI ?JJ ?JK ?JL ?JM ?pT ?B0 ?DV ?JN ?Gv ?Gw ?Gx ?Gy ?DE ?Gz ?GB ?DW ?DF ?CF ?Ct ?GC ?DX ?Dk ?AK ?DY ?GG ?GH
  (case aC=>k_is)
  (case Jr=>k_is)
  (case Tr=>k_is)
  (case Js=>k_is)
  (case Jt=>k_is)
  (case Ju=>k_is)
  (case Jv=>k_is)
  (case Jw=>k_is)
  (case Jx=>k_is)
  (case Jy=>k_is)
  (case BW=>k_is)
  (case EO=>k_is)
  (case ER=>k_is)
  (case ES=>k_is)
  (case ET=>k_is)
  (case EU=>k_is)
  (case EV=>k_is)
  (case EW=>k_is)
  (case EX=>k_is)
  (case EY=>k_is)
  (case EZ=>k_is)
  (case E1=>k_is)
  (case E3=>k_is)
  (case E4=>k_is)
  (case E5=>k_is)
  (case E6=>k_is)
  (case uG=>k_is)
  (case E7=>k_is)
  (case E8=>k_is)
  (case E9=>k_is)
  (case Ar=>k_is)
  (case Fb=>k_is)
  (case Fc=>k_is)
  (case Fd=>k_is)
  (case wY=>k_is)
  (case Fe=>k_is)
  (case Ff=>k_is)
  (case Fg=>k_is)
  (case As=>k_is)
  (case Fh=>k_is)
  (case Fi=>k_is)
  (case Fj=>k_is)
  (case Au=>k_is)
  (case Fl=>k_is)
  (case Fn=>k_is)
  (case Fo=>k_is)
  (case Av=>k_is)
  (case Fp=>k_is)
  (case Fq=>k_is)
  (case Fs=>k_is)
  (case Aw=>k_is)
  (case Ft=>k_is)
  (case Fu=>k_is)
  (case Fv=>k_is)
  (case Ax=>k_is)
  (case Fw=>k_is)
  (case Fx=>k_is)
  (case Fy=>k_is)
  (case Ay=>k_is)
  (case Jz=>k_is)
  (case JA=>k_is)
  (case JB=>k_is)
  (case BX=>k_is)
  (case JC=>k_is)
  (case JD=>k_is)
  (case JE=>k_is)
  (case BY=>k_is)
  (case JF=>k_is)
  (case JG=>k_is)
  (case JH=>k_is)
  (case BZ=>k_is)
  (case Fz=>k_is)
  (case FA=>k_is)
  (case FC=>k_is)
  (case FE=>k_is)
  (case FF=>k_is)
  (case FG=>k_is)
  (case FH=>k_is)
  (case wZ=>k_is)
  (case FJ=>k_is)
  (case FK=>k_is)
  (case FO=>k_is)
  (case Az=>k_is)
  (case FQ=>k_is)
  (case FT=>k_is)
  (case FU=>k_is)
  (case AA=>k_is)
  (case FX=>k_is)
  (case FY=>k_is)
  (case FZ=>k_is)
  (case AB=>k_is)
  (case F0=>k_is)
  (case F1=>k_is)
  (case F4=>k_is)
  (case w6=>k_is)
  (case F6=>k_is)
  (case F7=>k_is)
  (case F8=>k_is)
  (case AD=>k_is)
  (case F9=>k_is)
  (case Ga=>k_is)
  (case Gb=>k_is)
  (case AE=>k_is)
  (case Gd=>k_is)
  (case Ge=>k_is)
  (case Gf=>k_is)
  (case AF=>k_is)
  (case Gg=>k_is)
  (case Gh=>k_is)
  (case Gi=>k_is)
  (case AG=>k_is)
  (case Gj=>k_is)
  (case Gk=>k_is)
  (case Gm=>k_is)
  (case AH=>k_is)
  (case Gn=>k_is)
  (case Gp=>k_is)
  (case Gq=>k_is)
  (case AI=>k_is)
  (case Gr=>k_is)
  (case Gs=>k_is)
  (case Gu=>k_is)
  (case AJ=>k_is)
  (case JI=>k_is)
  (case JJ=>k_is)
  (case JK=>k_is)
  (case JL=>k_is)
  (case DV=>k_is)
  (case JN=>k_is)
  (case Gv=>k_is)
  (case Gw=>k_is)
  (case Gx=>k_is)
  (case Gy=>k_is)
  (case DE=>k_is)
  (case Gz=>k_is)
  (case GB=>k_is)
  (case DW=>k_is)
  (case DF=>k_is)
  (case CF=>k_is)
  (case Ct=>k_is)
  (case GC=>k_is)
  (case DX=>k_is)
  (case Dk=>k_is)
  (case AK=>k_is)
  (case DY=>k_is)
  (case GG=>k_is)
  (case GH=>k_is)
  (case BV=>kernel_rfl)
  (case JM=>kernel_rfl)
  (case pT=>kernel_rfl)
  (case B0=>kernel_rfl)
