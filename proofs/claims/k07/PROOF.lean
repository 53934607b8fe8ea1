import PyProof.Rows.All
import Wide.All
import OpenK.AllK
import Wide.FinOn
import Lean
import PyProof.EqAt
import PyProof.EqKinds
import PyProof.TupleCall
import PySem.Challenge.RW_bedsheet_k07_refused
set_option Elab.async false
set_option linter.all false
set_option maxRecDepth 100000
noncomputable section
def zA2{G:Prop}(f:A->B->G)(h:A∧B):G:=f h.1 h.2
def zA3{G:Prop}(f:A->B->C->G)(h:A∧B∧C):G:=f h.1 h.2.1 h.2.2
def zA4{G:Prop}(f:A->B->C->D->G)(h:A∧B∧C∧D):G:=f h.1 h.2.1 h.2.2.1 h.2.2.2
def zA5{G:Prop}(f:A->B->C->D->F->G)(h:A∧B∧C∧D∧F):G:=f h.1 h.2.1 h.2.2.1 h.2.2.2.1 h.2.2.2.2
def zA6{G:Prop}(f:A->B->C->D->F->H->G)(h:A∧B∧C∧D∧F∧H):G:=f h.1 h.2.1 h.2.2.1 h.2.2.2.1 h.2.2.2.2.1 h.2.2.2.2.2
def zA7{G:Prop}(f:A->B->C->D->F->H->I->G)(h:A∧B∧C∧D∧F∧H∧I):G:=f h.1 h.2.1 h.2.2.1 h.2.2.2.1 h.2.2.2.2.1 h.2.2.2.2.2.1 h.2.2.2.2.2.2
def zA8{G:Prop}(f:A->B->C->D->F->H->I->J->G)(h:A∧B∧C∧D∧F∧H∧I∧J):G:=f h.1 h.2.1 h.2.2.1 h.2.2.2.1 h.2.2.2.2.1 h.2.2.2.2.2.1 h.2.2.2.2.2.2.1 h.2.2.2.2.2.2.2
def zA9{G:Prop}(f:A->B->C->D->F->H->I->J->K->G)(h:A∧B∧C∧D∧F∧H∧I∧J∧K):G:=f h.1 h.2.1 h.2.2.1 h.2.2.2.1 h.2.2.2.2.1 h.2.2.2.2.2.1 h.2.2.2.2.2.2.1 h.2.2.2.2.2.2.2.1 h.2.2.2.2.2.2.2.2
def zE1{A:α->Prop}{G:Prop}(f:∀x,A x->G)(h:∃x,A x):G:=h.elim λx h=>f x h
def zE2{A B:α->Prop}{G:Prop}(f:∀x,A x->B x->G)(h:∃x,A x∧B x):G:=h.elim λx h=>zA2 (f x) h
def zE3{A B C:α->Prop}{G:Prop}(f:∀x,A x->B x->C x->G)(h:∃x,A x∧B x∧C x):G:=h.elim λx h=>zA3 (f x) h
def zE4{A B C D:α->Prop}{G:Prop}(f:∀x,A x->B x->C x->D x->G)(h:∃x,A x∧B x∧C x∧D x):G:=h.elim λx h=>zA4 (f x) h
def zE5{A B C D F:α->Prop}{G:Prop}(f:∀x,A x->B x->C x->D x->F x->G)(h:∃x,A x∧B x∧C x∧D x∧F x):G:=h.elim λx h=>zA5 (f x) h
def zE6{A B C D F H:α->Prop}{G:Prop}(f:∀x,A x->B x->C x->D x->F x->H x->G)(h:∃x,A x∧B x∧C x∧D x∧F x∧H x):G:=h.elim λx h=>zA6 (f x) h
def zE7{A B C D F H I:α->Prop}{G:Prop}(f:∀x,A x->B x->C x->D x->F x->H x->I x->G)(h:∃x,A x∧B x∧C x∧D x∧F x∧H x∧I x):G:=h.elim λx h=>zA7 (f x) h
def zE8{A B C D F H I J:α->Prop}{G:Prop}(f:∀x,A x->B x->C x->D x->F x->H x->I x->J x->G)(h:∃x,A x∧B x∧C x∧D x∧F x∧H x∧I x∧J x):G:=h.elim λx h=>zA8 (f x) h
local macro_rules|`(tactic|obtain ⟨$p,*⟩:=$e)=>do
 let n:=p.getElems.size
 let r<-p.getElems.mapM λq=>do `(rintroPat|$(<-`(rcasesPat|($q))):rcasesPat)
 let c(s:String)(i:Nat):=Lean.mkCIdent (.mkSimple s!"{s}{i}")
 let z<-if e.raw.isIdent then `(tactic|try clear $e) else `(tactic|skip)
 let mut t<-`(tactic|rcases $e:term with ⟨$p,*⟩)
 if n>2&&n<11 then t<-`(tactic|first|(refine $(c "zE" 1) ?_ $e;$z;rintro $(r[0]!);refine $(c "zE" (n-2)) ?_;rintro $(r.extract 1 n)*)|($t:tactic))
 if n>1&&n<10 then t<-`(tactic|first|(refine $(c "zE" (n-1)) ?_ $e;$z;rintro $r*)|($t:tactic))
 if n>1&&n<10 then t<-`(tactic|first|(refine $(c "zA" n) ?_ $e;$z;rintro $r*)|($t:tactic))
 return t
def T1:=@if_pos
def T2:=@if_neg
def T3:=@PySem.wpAny_bind
def T4:=@List.mem_cons
def T5:=@List.getElem?_cons_zero
def T6:=@List.getElem?_eq_some_iff
def T7:=@List.set_cons_succ
def T8:=@Nat.le_refl
def T9:=@List.set_cons_zero
def T_:=@Bool.and_eq_true
def T':=@List.getElem?_cons_succ
def Ua:=@Option.some.inj
def Ub:=@List.length_map
def Uc:=@List.any_eq_true
def Ud:=@List.not_mem_nil
def Ue:=@or_false
def Ug:=@Nat.le_trans
def Uh:=@List.size_toArray
def Ui:=@PySem.Heap.lt_size
def Uj:=@PySem.wpAny_pure
def Uk:=@Bool.false_ne_true
def Ul:=@if_true
def Um:=@Nat.lt_of_lt_of_le
def Uo:=@List.map_cons
def Up:=@List.mem_cons_of_mem
def Uq:=@Ne.symm
def Ur:=@List.length_append
def Us:=@List.mem_map
def Ut:=@decide_eq_false
def Uu:=@List.mem_append_right
def Uv:=@PySem.wpAny_mono
def Uw:=@PySem.Heap.get?_push_of_some
def Ux:=@List.IsPrefix.trans
def Uy:=@Int.toNat_natCast
def Uz:=@List.getElem?_set_ne
def UA:=@decide_eq_true
def UB:=@Nat.ne_of_lt
def UC:=@List.mem_cons_self
def UD:=@of_decide_eq_true
def UE:=@List.length_cons
def UG:=@if_false
def UH:=@List.getElem?_set_self
def UI:=@congrArg
def UJ:=@Nat.mul_le_mul
def UK:=@List.nil_append
def UL:=@List.mem_range
def UM:=@Bool.false_eq_true
def UN:=@Bool.eq_false_iff
def UO:=@List.all_eq_true
def UP:=@Bool.not_eq_true'
def UQ:=@decide_eq_true_eq
def UR:=@PySem.Heap.get?_push_size
def US:=@beq_iff_eq
def UT:=@List.mem_filter
def UU:=@List.getElem?_append_left
def UW:=@List.getElem?_map
def UX:=@List.take_length
def UY:=@Nat.lt_irrefl
def UZ:=@List.append_nil
def U0:=@List.map_nil
def U1:=@List.length_set
def U2:=@PySem.W.mg_none_of
def U3:=@Bool.eq_iff_iff
def U4:=@List.any_cons
def U5:=@List.append_assoc
def U6:=@Nat.le_of_lt
def U7:=@decide_eq_true_iff
def U8:=@List.mem_filterMap
def U9:=@List.nodup_cons
def U_:=@List.length_nil
def U':=@List.cons_append
def Va:=@beq_eq_false_iff_ne
def Vb:=@List.mem_append
def Vc:=@Nat.zero_le
def Vd:=@PySem.mem_of_lookup
def Ve:=@List.getElem?_append_right
def Vf:=@List.all_cons
def Vg:=@List.filter_cons
def Vh:=@List.length_filter_le
def Vi:=@of_decide_eq_false
def Vj:=@Bool.or_eq_false_iff
def Vk:=@decide_eq_false_iff_not
def Vl:=@PySem.wpAny_holding
def Vm:=@List.length_take
def Vn:=@List.mem_of_getElem?
def Vo:=@Bool.and_false
def Vp:=@List.replicate_succ
def Vq:=@List.countP_cons
def Vr:=@Int.emod_nonneg
def Vs:=@List.lookup_cons
def Vt:=@PySem.wpAny_truthy_bool
def Vu:=@PySem.call_meets
def Vv:=@List.find?_cons
def Vw:=@Bool.false_or
def Vx:=@PySem.call_meetsIn
def Vy:=@List.replicate_zero
def Vz:=@Int.emod_lt_of_pos
def VA:=@PySem.wpAny_passesOwn
def VB:=@PySem.Calls.spliced_cons
def VC:=@PySem.wpAny_Call_Name_kw
def VD:=@PySem.Calls.callWith_builtin
def VE:=@List.drop_length
def VF:=@List.drop_eq_getElem_cons
def VG:=@List.getElem_mem
def VH:=@List.mem_singleton
def VI:=@Option.map_some
def VJ:=@Bool.true_and
def VL:=@Bool.or_eq_true
def VN:=@PySem.F.plain_min_loop
def VO:=@PySem.Paired.length
def VP:=@PySem.wpAny_execs_nil
def VQ:=@Nat.ne_of_gt
def VR:=@Bool.false_and
def VS:=@PySem.Calls.evalArgs_plain
def VT:=@Nat.le_of_not_lt
def VU:=@Bool.true_or
def VV:=@PySem.F.slot_dict_get
def VW:=@List.getElem?_eq_getElem
def VX:=@Nat.mul_pos
def VY:=@Nat.mod_lt
def VZ:=@List.take_succ
def V0:=@beq_self_eq_true
def V1:=@PySem.W.mg_of
def V2:=@PySem.wpAny_tryCatch
def V3:=@PyProof.Rows.callWith_type1
def V4:=@Nat.le_of_eq
def V5:=@PySem.Calls.spliced_nil
def V6:=@PySem.codeAny_mono
def V7:=@PySem.W.callWith_K
def V8:=@List.length_drop
def V9:=@PySem.wpAny_newObj_type
def V_:=@PySem.tupleKind_room_in1
def V':=@PySem.wpAny_Call_method
def Wa:=@PySem.F.plainAttrs_dict
def Wb:=@List.map_append
def Wc:=@List.foldl_nil
def Wd:=@List.map_map
def We:=@Bool.and_true
def Wf:=@Int.natCast_nonneg
def Wg:=@List.foldl_cons
def Wh:=@Bool.not_true
def Wi:=@List.getElem_of_mem
def Wj:=@List.filter_eq_nil_iff
def Wl:=@Sum.inl.inj
def Wm:=@PySem.W.looks_findIn
def Wn:=@PySem.Heap.size_push
def Wo:=@PySem.wpAny_call
def Wq:=@PyProof.Rows.slot_tuple_getitem
def Wr:=@List.length_singleton
def Ws:=@PySem.F.slot_list_pop
def Wt:=@Option.isSome_some
def Wu:=@PySem.F.entry_dict_get
def Wv:=@List.map_congr_left
def Ww:=@Int.natCast_mul
def Wx:=@Bool.not_eq_false'
def Wy:=@Int.eq_ofNat_of_zero_le
def Wz:=@Nat.succ_pos
def WA:=@List.countP_congr
def WB:=@Nat.mul_one
def WC:=@Nat.mul_assoc
def WD:=@PySem.wpAny_updateSeq
def WE:=@PySem.W.Looks.ld
def WG:=@PySem.codeAny_builtin
def WH:=@PySem.wpAny_letGo
def WI:=@PySem.plainId_quiet
def WJ:=@PySem.W.hideAll_get
def WK:=@List.filterMap_cons
def WL:=@PySem.Heap.get?_none_of_le
def WM:=@Array.length_toList
def WN:=@PySem.wpAny_execs_cons
def WO:=@PySem.W.plainGet_of
def WQ:=@Nat.lt_succ_self
def WR:=@List.of_mem_zip
def WS:=@Option.isSome_iff_exists
def WT:=@List.length_replicate
def WU:=@Bool.or_false
def WV:=@PySem.Heap.get?_update_other
def WW:=@PySem.F.slot_list_append
def WX:=@PySem.F.slot_list_extend
def WY:=@Array.getElem?_toList
def WZ:=@Option.isSome_map
def W2:=@List.range_succ
def W3:=@List.flatMap_append
def W4:=@List.any_map
def W5:=@Nat.succ_mul
def W6:=@Nat.div_lt_of_lt_mul
def W7:=@Nat.add_sub_cancel_left
def W8:=@List.set_append_right
def W9:=@List.set_append_left
def W_:=@List.map_set
def W':=@List.mem_or_eq_of_mem_set
def Xa:=@Int.natAbs_natCast
def Xb:=@decide_true
def Xc:=@List.mem_of_find?_eq_some
def Xd:=@List.find?_some
def Xe:=@Int.natCast_ediv
def Xf:=@Bool.or_assoc
def Xg:=@List.filter_map
def Xh:=@List.map_id
def Xi:=@List.filter_congr
def Xj:=@Bool.not_false
def Xk:=@List.filter_filter
def Xl:=@List.getElem?_eq_none
def Xm:=@PySem.wpAny_comprehension_free
def Xn:=@Nat.le_add_right
def Xo:=@PySem.F.typeOf_object_class
def Xp:=@PySem.F.entry_min_loop
def Xq:=@PySem.Around.under_plainId
def Xr:=@PySem.wpAny_seqItems
def Xs:=@PySem.Heap.SameBut.update
def Xt:=@PySem.PassesOwn.never
def Xu:=@List.mem_append_left
def Xv:=@PySem.Calls.Name_function_global
def Xw:=@PySem.W.methodCall_KW
def Xx:=@PySem.W.cellsFrom_some
def Xy:=@List.getElem?_replicate
def Xz:=@List.getElem?_take_of_lt
def XA:=@List.eraseIdxIfInBounds_toArray
def XB:=@Option.map_eq_some_iff
def XC:=@PySem.F.slot_dict_delitem
def XD:=@PySem.F.slot_dict_pop
def XE:=@PySem.F.args_dict_get_2
def XF:=@PySem.F.args_dict_get_3
def XG:=@PySem.F.type_dict_get
def XH:=@List.nodup_iff_pairwise_ne
def XI:=@Classical.byContradiction
def XJ:=@List.countP_cons_of_neg
def XM:=@List.countP_cons_of_pos
def XN:=@List.getElem?_zipWith
def XO:=@List.dropLast_eq_take
def XP:=@PySem.F.plainAttrs_list
def XQ:=@List.take_of_length_le
def XR:=@PySem.F.slot_dict_setdefault
def XS:=@PySem.F.slot_dict_items
def XT:=@List.length_eq_zero_iff
def XU:=@PySem.F.type_list_pop
open Option renaming some->aa,none->ae
open Bool renaming true->af,false->ag
open PySem renaming Value->ah
open Decidable renaming decide->ai
namespace L2
open PySem PySem.Spec PyProof.Rows
noncomputable abbrev Key:=Sum Int Str
noncomputable def nr:Key->ah->Bool
 |.inl k,v=>Value.isInt k v
 |.inr x,v=>Value.isStrOf x v
noncomputable def MG(w:World):Key->Int
 |.inl k=>hashInt k
 |.inr x=>hashStr w x
theorem iC:∀{k:Key} {v:ah},nr k v=af->(∃i t,k=Sum.inl i/\v=Value.int i t)\/(∃x t,k=Sum.inr x/\v=Value.str x t)
 |.inl i,v,h=>by obtain⟨t,e⟩:=Value.isInt_shape (k:=i) (v:=v) h;exact .inl ⟨i,t,rfl,e⟩
 |.inr x,v,h=>by obtain⟨t,e⟩:=Value.isStrOf_shape (x:=x) (v:=v) h;exact .inr ⟨x,t,rfl,e⟩
def DG(i:Int)(t:Tok):nr (.inl i) (.int i t)=af:=by simp[nr,Value.isInt]
def DH(x:Str)(t:Tok):nr (.inr x) (.str x t)=af:=by simp[nr,Value.isStrOf]
def Jh(a b:Int):ai ((Sum.inl a:Key)=Sum.inl b)=(a==b):=by
 by_cases e:a=b
 ·subst e;simp
 ·have h:¬(Sum.inl a:Key)=Sum.inl b:=λq=>e (Wl q)
  rw[Ut h];exact(Va.mpr e).symm
def Ji(a b:Str):ai ((Sum.inr a:Key)=Sum.inr b)=ai (a=b):=by
 by_cases e:a=b
 ·subst e;simp
 ·have h:¬(Sum.inr a:Key)=Sum.inr b:=λq=>e (Sum.inr.inj q)
  rw[Ut h,Ut e]
def Jj(a:Int)(b:Str):ai ((Sum.inl a:Key)=Sum.inr b)=ag:=Ut<|λq=>nomatch q
def Jk(a:Str)(b:Int):ai ((Sum.inr a:Key)=Sum.inl b)=ag:=Ut<|λq=>nomatch q
noncomputable def cY(prog:Program)(w:World):PySem.KeyKind prog w Key where
 is:=nr
 hash:=MG w
 inj:=λv a b l f=>by
  rcases iC l with⟨i,t,rfl,rfl⟩|⟨x,t,rfl,rfl⟩
  ·rcases iC f with⟨j,u,rfl,e⟩|⟨y,u,rfl,e⟩
   ·injection e with c _;rw[c]
   ·exact nomatch e
  ·rcases iC f with⟨j,u,rfl,e⟩|⟨y,u,rfl,e⟩
   ·exact nomatch e
   ·injection e with c _;rw[c]
 byValue:=λk v h=>by rcases iC h with⟨i,t,rfl,rfl⟩|⟨x,t,rfl,rfl⟩<;>rfl
 pyHash:=λd h=>by
  rcases iC d with⟨i,t,rfl,rfl⟩|⟨x,t,rfl,rfl⟩
  ·exact wpAny_pyHash_int h
  ·exact wpAny_pyHash_str h
 eqBool:=λg d h=>by
  rcases iC g with⟨i,t,rfl,rfl⟩|⟨x,t,rfl,rfl⟩
  ·rcases iC d with⟨j,u,rfl,rfl⟩|⟨y,u,rfl,rfl⟩
   ·rw[Jh] at h;exact wpAny_eqBool_int h
   ·rw[Jj] at h;exact SeqAt.EqAt.int_str i t y u _ _ _ _ h
  ·rcases iC d with⟨j,u,rfl,rfl⟩|⟨y,u,rfl,rfl⟩
   ·rw[Jk] at h;exact SeqAt.EqAt.str_int x t j u _ _ _ _ h
   ·rw[Ji] at h;exact wpAny_eqBool_str h
 «strs»:=λk x t v h=>by
  rcases iC h with⟨i,u,rfl,e⟩|⟨y,u,rfl,e⟩
  ·exact nomatch e
  ·injection e with c _;subst c;cases v<;>rfl
def Cz(prog:Program)(w:World)(i:Int)(t:Tok):(cY prog w).is (.inl i) (.int i t)=af:=DG i t
def CA(prog:Program)(w:World)(x:Str)(t:Tok):(cY prog w).is (.inr x) (.str x t)=af:=DH x t
inductive V where
 |aw|bl (b:Bool)|int (i:Int)|str (x:Str)|gj (b:Array UInt8)|iX (b:UInt64)|ref (a:Addr)|ty (n:String)
 deriving DecidableEq
noncomputable def RelV:V->ah->Prop
 |.aw,u=>u=Value.none
 |.bl b,u=>u=Value.bool b
 |.int i,u=>∃t,u=Value.int i t
 |.str x,u=>∃t,u=Value.str x t
 |.gj b,u=>∃t,u=Value.bytes b t
 |.iX b,u=>∃t,u=Value.float b t
 |.ref a,u=>u=Value.ref a
 |.ty n,u=>u=Value.type n
noncomputable abbrev Vals:List V->List ah->Prop:=Paired RelV
def Vals.length{xs:List V}{us:List ah}(r:Vals xs us):xs.length=us.length:=VO r
theorem Vals.get:∀{xs:List V} {us:List ah} {i:Nat} {x:V},Vals xs us->xs[i]? =aa x->∃u,us[i]? =aa u/\RelV x u
 |_,_,_,_,.nil,e=>by simp at e
 |_,_,0,_,.cons r _,e=>by simp at e;subst e;exact⟨_,rfl,r⟩
 |_,_,i+1,x,.cons _ t,e=>by
  obtain⟨u,b,a⟩:=Vals.get (i:=i) (x:=x) t<|by simpa using e
  exact⟨u,by simpa using b,a⟩
theorem Vals.set{x:V}{u:ah}(r:RelV x u):∀{xs:List V} {us:List ah} (i:Nat),Vals xs us->Vals (xs.set i x) (us.set i u)
 |_,_,_,.nil=>.nil
 |_,_,0,.cons _ t=>.cons r t
 |_,_,i+1,.cons q t=>.cons q<|Vals.set r i t
theorem Vals.append:∀{xs ys:List V} {us a:List ah},Vals xs us->Vals ys a->Vals (xs++ys) (us++a)
 |_,_,_,_,.nil,s=>s
 |_,_,_,_,.cons r t,s=>.cons r<|Vals.append t s
theorem Vals.take:∀{xs:List V} {us:List ah} (n:Nat),Vals xs us->Vals (xs.take n) (us.take n)
 |_,_,0,_=>.nil
 |_,_,_+1,.nil=>.nil
 |_,_,n+1,.cons r t=>.cons r<|Vals.take n t
theorem Vals.drop:∀{xs:List V} {us:List ah} (n:Nat),Vals xs us->Vals (xs.drop n) (us.drop n)
 |_,_,0,r=>r
 |_,_,_+1,.nil=>.nil
 |_,_,n+1,.cons _ t=>Vals.drop n t
noncomputable def dX:Option V->Option ah->Prop
 |some v,aa u=>RelV v u
 |none,ae=>True
 |_,_=>False
noncomputable def KV{a:Type}:List (a×V)->List (a×ah)->Prop:=Paired λ(p:a×V) (q:a×ah)=>p.1=q.1/\RelV p.2 q.2
noncomputable def kV:Key->V
 |.inl i=>.int i
 |.inr x=>.str x
inductive HO where
  |lst (xs:List V)
  |tup (xs:List V)
  |dK (kvs:List<|Key×V)|dT (kvs:List<|List Key×V)
  |set (S:Int->Bool) (n:Nat)
  |ins (C dx:Addr) (fs:List<|Str×V)
  |own (x:Addr)
  |xd (fs:List<|Str×V)
  |met (f x:Addr)
  |cV (lo hi:Int)
  |aU (o:Obj) (u:HO)
  |cS (ps:Array ah)
  |ext (φ:Heap->Prop)
noncomputable abbrev Hp:=Addr->Option HO
noncomputable def upd(H:Hp)(a:Addr)(o:HO):Hp:=λb=>if b=a then aa o else H b
def bW{H:Hp}{a:Addr}{o:HO}:upd H a o a=aa o:=by unfold upd;rw[T1 rfl]
def aL{H:Hp}{a b:Addr}{o:HO}(h:b≠a):upd H a o b=H b:=by unfold upd;rw[T2 h]
def Lx{H:Hp}{a b:Addr}{o u:HO}(h:H a=aa o)(h':H b=aa u)(d:o≠u):a≠b:=by intro e;subst e;rw[h] at h';exact d<|Ua h'
def cP{H:Hp}{a b:Addr}{o:HO}(h:H a=aa o)(h':H b=ae):a≠b:=by intro e;subst e;rw[h] at h';cases h'
section
variable(P:Program)(w:World)
noncomputable def c6(H:Hp)(h:Heap)(a:Addr):HO->Prop
 |.lst d=>d.length<=sizeLine/\∃(b:List ah) (n:Nat),Vals d b/\h.get? a=aa {cls:=.type "list",data:=.seq b.toArray n}
 |.tup d=>d.length<=sizeLine/\∃b:List ah,Vals d b/\IsTup h a b.toArray
 |.dK c=>c.length<=sizeLine/\(a==sysModules)=ag/\∃l,KV c l/\h.DictOf (cY P w) a l
 |.dT c=>c.length<=sizeLine/\(a==sysModules)=ag/\∃d:List (List Key×Addr×ah),
  Paired (λ(p:List Key×V) (q:List Key×Addr×ah)=>p.1=q.1/\H q.2.1=aa (.tup<|p.1.map kV)/\RelV p.2 q.2.2) c d/\
  ∃o k y,h.get? a=aa o/\o.ExactDict/\o.data=.dict k y/\k.toList=d.map (entryOfKey<|tupleKind<|cY P w)/\(d.map (·.1)).Nodup
 |.set S n=>h.SetOf (intKind P w) a S n
 |.ins C i g=>H i=aa (.own a)/\g.length<=1000/\i≠a/\h.get? a=aa (PySem.W.instObj C i)/\
  ∃e,h.Ns1 i e/\(∀f,dX (g.lookup f)<|e f)/\PySem.Within e (g.map (·.1))
 |.own _=>∃o,h.get? a=aa o
 |.xd g=>∃e,h.Ns1 a e/\∀f,dX (g.lookup f) (e f)
 |.cV lo z=>∃t u v,h.get? a=aa {cls:=.type "range",data:=.fields #[.int lo t,.int z u,.int 1 v]}
 |.aU o u=>h.get? a=aa o/\c6 H h a u
 |.cS s=>h.get? a=aa {cls:=.none,data:=.fields s}
 |.met f x=>h.get? a=aa (PySem.W.methodObj (.ref f)<|.ref x)
 |.ext j=>j h/\(∃o,h.get? a=aa o)/\∀r m:Heap,j r->(∀o,r.get? a=aa o->m.get? a=aa o)->j m
noncomputable def bS(H:Hp)(h:Heap):Prop:=∀a o,H a=aa o->c6 P w H h a o
end
section
variable{P:Program}{w:World}{H H':Hp}{h h':Heap}{a:Addr}{o:HO}
def c6.lt(x:c6 P w H h a o):a<h.objs.size:=by
 cases o with
 |lst xs=>obtain⟨_,_,_,_,e⟩:=x;exact Ui e
 |tup xs=>obtain⟨_,_,_,p⟩:=x;exact p.lt
 |dK b=>obtain⟨_,_,_,_,o,_,_,e,_⟩:=x;exact Ui e
 |dT b=>obtain⟨_,_,_,_,o,_,_,e,_⟩:=x;exact Ui e
 |set S n=>obtain⟨o,_,_,_,e,_⟩:=x;exact Ui e
 |ins C g c=>obtain⟨_,_,_,e,_⟩:=x;exact Ui e
 |own y=>obtain⟨_,e⟩:=x;exact Ui e
 |xd c=>obtain⟨_,⟨_,_,_,e,_⟩,_⟩:=x;exact Ui e
 |cV lo k=>obtain⟨_,_,_,e⟩:=x;exact Ui e
 |aU j u=>obtain⟨e,_⟩:=x;exact Ui e
 |cS d=>exact Ui<|show h.get? a=aa _ from x
 |met f y=>exact Ui<|show h.get? a=aa _ from x
 |ext i=>obtain⟨_,⟨_,e⟩,_⟩:=x;exact Ui e
theorem Paired.wa{e g:Type}{F G:e->g->Prop}:∀{c:List e} {d:List g},Paired F c d->(∀a b,F a b->G a b)->Paired G c d
 |_,_,.nil,_=>.nil
 |_,_,.cons r t,f=>.cons (f _ _ r)<|Paired.wa t f
def c6.eE(x:c6 P w H h a o)(k:∀b u,(b=a\/H b=aa (.own a))->h.get? b=aa u->h'.get? b=aa u)(K:∀b,H b=aa (.own a)->H' b=aa (.own a))(G:∀b xs,H b=aa (.tup xs)->H' b=aa (.tup xs)):c6 P w H' h' a o:=by
 induction o with
 |lst xs=>obtain⟨z,l,n,r,e⟩:=x;exact⟨z,l,n,r,k _ _ (.inl rfl) e⟩
 |tup xs=>obtain⟨z,l,r,g,e,c⟩:=x;exact⟨z,l,r,g,k _ _ (.inl rfl) e,c⟩
 |dK A=>obtain⟨z,y,L,r,g,i,j,e,c⟩:=x;exact⟨z,y,L,r,g,i,j,k _ _ (.inl rfl) e,c⟩
 |dT A=>obtain⟨z,y,xs,r,g,i,j,e,c⟩:=x;exact⟨z,y,xs,Paired.wa r λp q z=>⟨z.1,G _ _ z.2.1,z.2.2⟩,g,i,j,k _ _ (.inl rfl) e,c⟩
 |set S n=>obtain⟨g,i,j,t,e,c⟩:=x;exact⟨g,i,j,t,k _ _ (.inl rfl) e,c⟩
 |ins C O E=>obtain⟨d,z,J,e,m,⟨s,i,j,F,c⟩,r⟩:=x;exact⟨K _ d,z,J,k _ _ (.inl rfl) e,m,⟨s,i,j,k _ _ (.inr d) F,c⟩,r⟩
 |own y=>obtain⟨g,e⟩:=x;exact⟨g,k _ _ (.inl rfl) e⟩
 |xd E=>obtain⟨m,⟨s,i,j,e,c⟩,r⟩:=x;exact⟨m,⟨s,i,j,k _ _ (.inl rfl) e,c⟩,r⟩
 |cV lo N=>obtain⟨t,u,v,e⟩:=x;exact⟨t,u,v,k _ _ (.inl rfl) e⟩
 |aU g u I=>obtain⟨e,q⟩:=x;exact⟨k _ _ (.inl rfl) e,I q⟩
 |cS B=>have e:h.get? a=aa {cls:=.none,data:=.fields B}:=x;show h'.get? a=aa {cls:=.none,data:=.fields B};exact k a _ (.inl rfl) e
 |met f y=>have e:h.get? a=aa (PySem.W.methodObj (.ref f)<|.ref y):=x;show h'.get? a=aa (PySem.W.methodObj (.ref f)<|.ref y);exact k a _ (.inl rfl) e
 |ext M=>obtain⟨p,⟨o,e⟩,D⟩:=x;exact⟨D _ _ p λo q=>k _ _ (.inl rfl) q,⟨o,k _ _ (.inl rfl) e⟩,D⟩
def bS.lt(x:bS P w H h)(e:H a=aa o):a<h.objs.size:=(x a o e).lt
def bS.fresh(x:bS P w H h)(e:h.objs.size<=a):H a=ae:=by
 cases q:H a with
 |none=>rfl
 |some u=>exact absurd (Um (x.lt q) e)<|UY _
def bS.kept(x:bS P w H h)(k:∀b u,h.get? b=aa u->h'.get? b=aa u):bS P w H h':=λa o e=>(x a o e).eE (λb u _ q=>k b u q) (λ_ q=>q) λ_ _ q=>q
def bS.laid(x:bS P w H h)(k:∀b u,h.get? b=aa u->h'.get? b=aa u)(i:h.objs.size<=a)(d:c6 P w (upd H a o) h' a o):bS P w (upd H a o) h':=λb u e=>by
 have g:=x.fresh i;by_cases f:b=a
 ·subst f;rw[bW] at e;cases e;exact d
 ·rw[aL f] at e;exact(x b u e).eE (λc v _ q=>k c v q) (λc q=>by rw[aL<|cP q g];exact q) λc j q=>by rw[aL<|cP q g];exact q
end
noncomputable def Rd(H:Hp)(a:Addr)(u:HO):Prop:=H a=aa u\/∃o,H a=aa (.aU o u)
def Rd.ok{P:Program}{w:World}{H:Hp}{h:Heap}{a:Addr}{u:HO}(r:Rd H a u)(x:bS P w H h):c6 P w H h a u:=by
 rcases r with r|⟨o,r⟩
 ·exact x a u r
 ·obtain⟨_,q⟩:=x a _ r;exact q
noncomputable def pU:Option HO->Prop
 |some (.lst _)=>True
 |some (.dK _)=>True
 |some (.dT _)=>True
 |some (.set _ _)=>True
 |some (.ins _ _ _)=>True
 |some (.ext _)=>True
 |_=>False
section
variable{P:Program}{w:World}{H:Hp}{h h':Heap}{x e:Addr}{o':HO}
def bS.write(ok:bS P w H h)(i:pU<|H x)(o:e=x\/H e=aa (.own x))(k:∀b u,b≠e->h.get? b=aa u->h'.get? b=aa u)(m:∃u,h'.get? e=aa u)(new:c6 P w (upd H x o') h' x o'):bS P w (upd H x o') h':=λb u q=>by
 have d:∀c y,H c=aa (.own y)->c≠x:=λc y r z=>by subst z;rw[r] at i;exact i
 have f:∀c g,H c=aa (.tup g)->c≠x:=λc g r z=>by subst z;rw[r] at i;exact i
 by_cases l:b=x
 ·subst l;rw[bW] at q;cases q;exact new
 ·rw[aL l] at q;by_cases a:b=e
  ·have n:H b=aa (.own x):=by
    rcases o with z|z
    ·exact absurd (a.trans z) l
    ·rw[a];exact z
   rw[q] at n;cases n;obtain⟨v,p⟩:=m;exact⟨v,by rw[a];exact p⟩
  ·refine(ok b u q).eE (λc v j r=>k c v ?_ r) (λc r=>by rw[aL<|d c b r];exact r) λc g r=>by rw[aL<|f c g r];exact r
   rcases j with rfl|j
   ·exact a
   ·rintro rfl;rcases o with z|z
    ·exact d c b j z
    ·rw[j] at z;cases z;exact l rfl
end
structure Un(fs ex:List Addr)(H H':Hp)(h h':Heap):Prop where
 keep:∀b o,h.get? b=aa o->H b=ae->b∉fs->b∉ex->h'.get? b=aa o
 slot:∀b o,h.get? b=aa o->H b=ae->b∈fs->b∉ex->∃sl,h'.get? b=aa {o with slots:=sl}
 free:∀b o,h.get? b=aa o->H b=ae->b∉ex->H' b=ae
 there:∀b o,h.get? b=aa o->b∉ex->∃o',h'.get? b=aa o'
 fq:∀b xs,H b=aa (.tup xs)->H' b=aa (.tup xs)
 fJ:∀b o u,H b=aa (.aU o u)->H' b=aa (.aU o u)
 gc:∀b ps,H b=aa (.cS ps)->∃more,H' b=aa (.cS<|ps++more)
section
variable{fs NL ex Sa:List Addr}{H H1 H2:Hp}{h h1 h2 h':Heap}{a x e:Addr}{o:HO}
def Un.any(u:Un fs ex H H1 h h1){b:Addr}{c:Obj}(q:h.get? b=aa c)(n:H b=ae)(d:b∉ex):∃g,h1.get? b=aa {c with slots:=g}:=by
 by_cases f:b∈fs
 ·exact u.slot b c q n f d
 ·exact⟨c.slots,u.keep b c q n f d⟩
def Un.kept(k:∀b u,h.get? b=aa u->h'.get? b=aa u):Un fs ex H H h h':=
 ⟨λb c q _ _ _=>k b c q,λb c q _ _ _=>⟨c.slots,k b c q⟩,λ_ _ _ n _=>n,λb c q _=>⟨c,k b c q⟩,λ_ _ q=>q,λ_ _ _ q=>q,λ_ d q=>⟨#[],by rw[q];simp⟩⟩
def Un.refl:Un fs ex H H h h:=Un.kept λ_ _ q=>q
def Un.laid(k:∀b u,h.get? b=aa u->h'.get? b=aa u)(f:h.objs.size<=a)(c:H a=ae):Un fs ex H (upd H a o) h h' where
 keep:=λb u q _ _ _=>k b u q
 slot:=λb u q _ _ _=>⟨u.slots,k b u q⟩
 free:=λb u q n _=>by rw[aL<|UB<|Um (Ui q) f];exact n
 there:=λb u q _=>⟨u,k b u q⟩
 fq:=λb d q=>by rw[aL<|cP q c];exact q
 fJ:=λb u d q=>by rw[aL<|cP q c];exact q
 gc:=λb g q=>⟨#[],by rw[aL<|cP q c,q];simp⟩
def Un.write(d:pU<|H x)(m:e=x\/H e=aa (.own x))(k:∀b u,b≠e->h.get? b=aa u->h'.get? b=aa u)(g:∃u,h'.get? e=aa u):Un fs ex H (upd H x o) h h':=by
 have j:∀b,H b=ae->b≠x:=λb n z=>by subst z;rw[n] at d;exact d
 have i:∀b,H b=ae->b≠e:=λb n z=>by
  subst z;rcases m with r|r
  ·exact j b n r
  ·rw[n] at r;cases r
 have f:∀b u,H b=aa u->¬pU (aa u)->b≠x:=λb u q p z=>by subst z;rw[q] at d;exact p d
 refine⟨λb u q n _ _=>k b u (i b n) q,λb u q n _ _=>⟨u.slots,k b u (i b n) q⟩,λb u q n _=>by rw[aL<|j b n];exact n,λb u q _=>?_,
  λb l q=>by rw[aL (f b _ q λz=>z)];exact q,λb u l q=>by rw[aL (f b _ q λz=>z)];exact q,λb s q=>⟨#[],by rw[aL (f b _ q λz=>z),q];simp⟩⟩
 by_cases c:b=e
 ·subst c;exact g
 ·exact⟨u,k b u c q⟩
end
noncomputable def rZ(h:Heap)(H:Hp):List Addr:=(List.range h.objs.size).filter λa=>(H a).isSome
noncomputable def jr(h:Heap)(H:Hp):Heap:=PySem.W.hideAll h<|rZ h H
def DI(h:Heap)(H:Hp):(jr h H).objs.size=h.objs.size:=PySem.W.hideAll_size _ _
def E5{h:Heap}{H:Hp}{b:Addr}{o:Obj}(e:h.get? b=aa o)(n:H b=ae):(jr h H).get? b=aa o:=
 WJ _ e λa=>by have q:(H b).isSome=af:=(UT.mp a).2;rw[n] at q;simp at q
def G8{h:Heap}{H:Hp}{b:Addr}{o:Obj}(e:(jr h H).get? b=aa o):h.get? b=aa o/\H b=ae:=by
 have a:h.get? b=aa o:=PySem.W.of_hideAll (rZ h H) e;refine⟨a,?_⟩;cases q:H b with
 |none=>rfl
 |some x=>have c:b∈rZ h H:=UT.mpr ⟨UL.mpr<|Ui a,by simp[q]⟩;have z:(jr h H).get? b=ae:=PySem.W.hideAll_none (rZ h H) c;rw[z] at e;cases e
noncomputable def G9(g h:Heap)(L:Addr):List (Addr×Obj):=(List.range h.objs.size).filterMap λa=>if a=L\/(g.get? a).isSome=af then ae else(h.get? a).map λo=>(a,o)
noncomputable def rest(g h:Heap)(L d:Addr):List (Addr×Obj):=(G9 g h L).filter λp=>ai<|p.1≠d
structure Mod(K:PySem.W.Frag)(mg:Str->Option ah)(base:Heap):Prop where
 kJ:K.In base
 glob:base.Ns mainGlobals mg
 blt:∃mb,base.Ns builtinsNs mb/\∀x:Str,x≠"__name__"->mb x=bootBuiltins x
 nolimit:base.NoLimit
structure Cx where
 prog:Program
 w:World
 K:PySem.W.Frag
 mg:Str->Option ah
 base:Heap
 A:Around
 N:List Str
 c7:Shared
 lW:Hp
 env:Env
 outer:List Env
 stack:List Env
 ex:List Addr
 fn:Str->Bool
 calm:Bool
 pn:List (Addr×Obj)
 xe:ah->Shared->Prop
noncomputable def cA(l:List Env):List Addr:=l.filterMap (·.frame)
noncomputable abbrev Cx.fs(X:Cx):List Addr:=cA X.outer
noncomputable def nV(sc:Scope)(x:Str):Prop:=sc.names.lookup x=aa .local\/sc.names.lookup x=aa .cell\/sc.names.lookup x=aa .free
noncomputable def Loc(sc:Scope)(x:Str):Prop:=sc.names.lookup x=aa .local\/sc.names.lookup x=aa .cell
noncomputable def Look(env:Env)(h:Heap)(m:Str->Option ah)(x:Str)(u:ah):Prop:=
 (env.kindOf x=aa .local/\m x=aa u)\/((env.kindOf x=aa .cell\/env.kindOf x=aa .free)/\∃c,env.cells.lookup x=aa c/\h.IsCell c (aa u))
structure Cx.Ok(X:Cx):Prop where
 mod:Mod X.K X.mg X.base
 kind:X.env.scope.kind=.function
 glob:X.env.globals=mainGlobals
 blt:X.env.builtins=builtinsNs
 above:X.c7.heap.objs.size<=X.env.locals
 inj:∀x y c,X.env.cells.lookup x=aa c->X.env.cells.lookup y=aa c->x=y
 has:∀x,(X.env.kindOf x=aa .cell\/X.env.kindOf x=aa .free)->∃c,X.env.cells.lookup x=aa c
 md:∀x c,X.fn x=af->X.env.cells.lookup x=aa c->X.c7.heap.objs.size<=c
 hd:X.calm=af->X.A.handled=ae
 frames:X.A.frames=aa X.stack
 nW:X.stack=X.outer\/(X.stack=X.env::X.outer/\X.env.frame=aa X.env.locals)
 r0:∀b∈X.ex,b≠X.env.locals/\∀x c,X.env.cells.lookup x=aa c->c≠b
 bs:∀b o,X.base.get? b=aa o->X.c7.heap.get? b=aa o/\X.lW b=ae
 ij:X.base.objs.size<=X.c7.heap.objs.size
 cJ:∀b o,X.base.get? b=aa o->b∉X.ex
 nC:∀b∈X.ex,b∉X.fs
 fK:X.c7.heap.FunFrames X.base X.outer
 jy:∀b∈X.fs,X.lW b=ae
structure Inv(X:Cx)(pins:List<|Addr×Obj)(σ:List<|Option V)(H:Hp)(s:Shared):Prop where
 ok:X.Ok
 os:s.os=X.c7.os
 bare:AllBare s.gens
 base:Un X.fs X.ex X.lW H X.c7.heap s.heap
 loc:∃m,s.heap.Ns X.env.locals m/\∀(i:Nat) (x:Str) (v:V),X.N[i]? =aa x->σ[i]? =aa (aa v)->nV X.env.scope x->∃u,RelV v u/\Look X.env s.heap m x u
 cell:∀x c,X.env.cells.lookup x=aa c->∃v,s.heap.IsCell c v
 free:H X.env.locals=ae
 eA:∀x c,X.env.cells.lookup x=aa c->H c=ae
 pin:∀p∈X.pn++pins,s.heap.get? p.1=aa p.2/\H p.1=ae/\p.1≠X.env.locals/\p.1∉X.fs/\∀v,p.2.data≠.cell v
 aF:bS X.prog X.w H s.heap
 len:σ.length=X.N.length
section
variable{X:Cx}{pins:List (Addr×Obj)}{σ:List (Option V)}{H H':Hp}{s:Shared}{h':Heap}
def Cx.Ok.MH(ok:X.Ok){b:Addr}{o:Obj}(e:X.base.get? b=aa o):b∉X.fs:=λa=>by have:=(ok.fK.mem a).1;rw[e] at this;cases this
def Inv.bs(I:Inv X pins σ H s):∀b o,X.base.get? b=aa o->s.heap.get? b=aa o/\H b=ae:=λb o e=>⟨I.base.keep b o (I.ok.bs b o e).1 (I.ok.bs b o e).2 (I.ok.MH e)<|I.ok.cJ b o e,I.base.free b o (I.ok.bs b o e).1 (I.ok.bs b o e).2<|I.ok.cJ b o e⟩
def Inv.bk(I:Inv X pins σ H s):∀b o,X.base.get? b=aa o->s.heap.get? b=aa o:=λb o e=>(I.bs b o e).1
def Inv.mod(I:Inv X pins σ H s):Mod X.K X.mg X.base:=I.ok.mod
def Inv.dz(I:Inv X pins σ H s):X.K.In s.heap:=I.ok.mod.kJ.keeps I.bk
def Inv.nolimit(I:Inv X pins σ H s):s.heap.NoLimit:=I.ok.mod.nolimit.keeps I.bk
def Inv.lt(I:Inv X pins σ H s):X.env.locals<s.heap.objs.size:=let⟨_,a,_⟩:=I.loc;a.lt
def Inv.sz(I:Inv X pins σ H s):X.c7.heap.objs.size<=s.heap.objs.size:=Ug I.ok.above<|U6 I.lt
def Inv.rM(I:Inv X pins σ H s){a:Addr}(h:s.heap.objs.size<=a):a∉X.fs:=λc=>by obtain⟨_,o,b,_⟩:=I.ok.fK.mem c;exact absurd (Um (Ui b)<|Ug I.sz h)<|UY _
def Inv.pV(I:Inv X pins σ H s):∀x c,X.env.cells.lookup x=aa c->c≠X.env.locals:=λx c e z=>by obtain⟨v,o,f,d⟩:=I.cell x c e;obtain⟨m,⟨g,h,i,a,b,_⟩,_⟩:=I.loc;rw[z,a] at f;cases f;rw[b] at d;cases d
def Inv.fK(I:Inv X pins σ H s):s.heap.FunFrames X.base X.outer:=by
 have d:∀(l:List Env),(∀b∈cA l,b∈X.fs)->X.c7.heap.FunFrames X.base l->s.heap.FunFrames X.base l:=by
  intro l;induction l with
  |nil=>intro _ _;trivial
  |cons env r m=>
   intro g j;obtain⟨i,⟨L,o,a,k,p,h⟩,n⟩:=j;have f:L∈X.fs:=g L (by unfold cA;rw[WK,a];exact UC);obtain⟨q,e⟩:=I.base.slot L o p (I.ok.jy L f) f λz=>I.ok.nC L z f
   exact⟨i,⟨L,_,a,k,e,h⟩,m (λb c=>g b (by unfold cA;rw[WK,a];exact Up _ c)) n⟩
 exact d X.outer (λ_ c=>c) I.ok.fK
def Inv.stack(I:Inv X pins σ H s):s.heap.FunFrames X.base X.stack:=by
 rcases I.ok.nW with e|⟨e,hf⟩
 ·rw[e];exact I.fK
 ·rw[e];obtain⟨m,a,_⟩:=I.loc;refine .cons (by rw[I.ok.kind];decide) hf a ?_ I.fK;exact WL<|Ug I.ok.ij I.ok.above
def Inv.rd(I:Inv X pins σ H s):∀b∈cA X.stack,b∈X.env.locals::X.fs:=λb a=>by
 rcases I.ok.nW with e|⟨e,hf⟩
 ·rw[e] at a;exact Up _ a
 ·rw[e] at a;unfold cA at a;rw[WK,hf] at a;exact a
def Inv.qT(I:Inv X pins σ H s):∀b∈cA X.stack,H b=ae:=λb a=>by
 rcases T4.mp (I.rd b a) with e|a
 ·rw[e];exact I.free
 ·obtain⟨_,o,c,_⟩:=I.ok.fK.mem a;exact I.base.free b o c (I.ok.jy b a) λz=>I.ok.nC b z a
def Inv.step{g':Array GenState}{t':Nat}{d':Drawn}{ch:List Addr}(I:Inv X pins σ H s)(j:∀b∈ch,(b∈X.ex\/X.c7.heap.objs.size<=b)/\b≠X.env.locals/\(∀x c,X.env.cells.lookup x=aa c->c≠b)/\∀p∈X.pn++pins,p.1≠b)(keep:∀b o,b≠X.env.locals->b∉X.fs->b∉ch->s.heap.get? b=aa o->H b=ae->h'.get? b=aa o)(slot:∀b o,b≠X.env.locals->b∈X.fs->b∉ch->s.heap.get? b=aa o->H b=ae->∃O,h'.get? b=aa {o with slots:=O})(f:∀b o,b∉ch->s.heap.get? b=aa o->H b=ae->H' b=ae)(there:∀b o,b∉ch->s.heap.get? b=aa o->∃o',h'.get? b=aa o')(E:∀b xs,H b=aa (.tup xs)->H' b=aa (.tup xs))(J:∀b o u,H b=aa (.aU o u)->H' b=aa (.aU o u))(F:∀b K,H b=aa (.cS K)->∃G,H' b=aa (.cS<|K++G))(ns:∀m,s.heap.Ns X.env.locals m->h'.Ns X.env.locals m)(M:bS X.prog X.w H' h')(hg:AllBare g'):
 Inv X pins σ H' {s with heap:=h',gens:=g',drawn:=d',toks:=t'}:=by
 have C:∀b o,X.c7.heap.get? b=aa o->b≠X.env.locals:=λb o e=>UB<|Um (Ui e) I.ok.above
 have t:∀b o,X.c7.heap.get? b=aa o->b∉X.ex->b∉ch:=λb o e a A=>by
  rcases(j b A).1 with z|z
  ·exact a z
  ·exact absurd (Um (Ui e) z)<|UY _
 have h:∀x c,X.env.cells.lookup x=aa c->∀v,s.heap.IsCell c v->h'.IsCell c v:=λx c e v ⟨o,B,L⟩=>by
  have g:c∉ch:=λz=>(j c z).2.2.1 x c e rfl
  by_cases P:c∈X.fs
  ·obtain⟨O,q⟩:=slot c o (I.pV x c e) P g B (I.eA x c e);exact⟨_,q,L⟩
  ·exact⟨o,keep c o (I.pV x c e) P g B<|I.eA x c e,L⟩
 refine⟨I.ok,I.os,hg,⟨λb o e n A a=>?_,λb o e n A a=>?_,λb o e n a=>?_,λb o e a=>?_,λb xs e=>E b xs<|I.base.fq b xs e,λb o xs e=>J b o xs<|I.base.fJ b o xs e,λb K e=>?_⟩,?_,λx c e=>?_,?_,λx c e=>?_,λp S=>?_,M,I.len⟩
 ·exact keep b o (C b o e) A (t b o e a) (I.base.keep b o e n A a)<|I.base.free b o e n a
 ·obtain⟨O,y⟩:=I.base.slot b o e n A a;obtain⟨N,D⟩:=slot b _ (C b o e) A (t b o e a) y<|I.base.free b o e n a;exact⟨N,D⟩
 ·obtain⟨o',y⟩:=I.base.there b o e a;exact f b o' (t b o e a) y<|I.base.free b o e n a
 ·obtain⟨o',y⟩:=I.base.there b o e a;exact there b o' (t b o e a) y
 ·obtain⟨T,y⟩:=I.base.gc b K e;obtain⟨Z,D⟩:=F b _ y;exact⟨T++Z,by rw[D,Array.append_assoc]⟩
 ·obtain⟨m,Y,W⟩:=I.loc;refine⟨m,ns m Y,λi x v y D U=>?_⟩;obtain⟨u,r,l⟩:=W i x v y D U;refine⟨u,r,?_⟩;rcases l with l|⟨k,c,e,z⟩
  ·exact .inl l
  ·exact .inr ⟨k,c,e,h x c e _ z⟩
 ·obtain⟨v,z⟩:=I.cell x c e;exact⟨v,h x c e v z⟩
 ·obtain⟨m,⟨o,_,_,B,_⟩,_⟩:=I.loc;exact f _ o (λz=>(j _ z).2.1 rfl) B I.free
 ·obtain⟨v,o,B,L⟩:=I.cell x c e;exact f c o (λz=>(j c z).2.2.1 x c e rfl) B<|I.eA x c e
 ·obtain⟨e,n,Q,R,d⟩:=I.pin p S;have g:p.1∉ch:=λz=>(j p.1 z).2.2.2 p S rfl
  exact⟨keep p.1 p.2 Q R g e n,f p.1 p.2 g e n,Q,R,d⟩
def Inv.un{t':Nat}(I:Inv X pins σ H s)(u:Un X.fs [] H H' s.heap h')(d:bS X.prog X.w H' h'):Inv X pins σ H' {s with heap:=h',toks:=t'}:=by
 obtain⟨m,⟨o,p,q,h,r⟩,_⟩:=id I.loc;obtain⟨v,j⟩:=u.any h I.free<|by simp
 exact I.step (g':=s.gens) (d':=s.drawn) (ch:=[]) (λ_ z=>nomatch z) (λb o _ c _ e n=>u.keep b o e n c<|by simp) (λb o _ c _ e n=>u.slot b o e n c<|by simp) (λb o _ e n=>u.free b o e n<|by simp) (λb o _ e=>u.there b o e<|by simp) u.fq u.fJ u.gc (λt k=>by obtain⟨l,g,f,a,i⟩:=k;rw[h] at a;cases a;exact⟨_,g,f,j,i⟩) d I.bare
def Inv.call{g':Array GenState}{t':Nat}{d':Drawn}{ch:List Addr}(I:Inv X pins σ H s)(u:Un (cA X.stack) ch H H' s.heap h')(g:bS X.prog X.w H' h')(v:AllBare g')(d:∀b∈ch,(b∈X.ex\/X.c7.heap.objs.size<=b)/\b≠X.env.locals/\(∀x c,X.env.cells.lookup x=aa c->c≠b)/\∀p∈X.pn++pins,p.1≠b):
 Inv X pins σ H' {s with heap:=h',gens:=g',drawn:=d',toks:=t'}:=by
 obtain⟨m,⟨o,A,B,k,r⟩,_⟩:=id I.loc;obtain⟨D,h⟩:=u.any k I.free λz=>(d _ z).2.1 rfl
 exact I.step (ch:=ch) d (λb o h q a e n=>u.keep b o e n (λz=>(T4.mp<|I.rd b z).elim h q) a) (λb o _ _ a e n=>u.any e n a) (λb o a e n=>u.free b o e n a) (λb o a e=>u.there b o e a) u.fq u.fJ u.gc (λC t=>by obtain⟨y,j,i,f,l⟩:=t;rw[k] at f;cases f;exact⟨_,j,i,h,l⟩) g v
def Inv.turned{t':Nat}{it:Addr}(I:Inv X pins σ H s)(k:∀b o,b≠it->s.heap.get? b=aa o->h'.get? b=aa o)(j:H it=ae)(f:it≠X.env.locals)(y:it∈X.ex\/X.c7.heap.objs.size<=it)(w:∀x c,X.env.cells.lookup x=aa c->c≠it)(h3:∀p∈X.pn++pins,p.1≠it):Inv X pins σ H {s with heap:=h',toks:=t'}:=by
 have d:∀b u,H b=aa u->b≠it:=λb u e z=>by rw[z,j] at e;cases e
 refine I.step (g':=s.gens) (d':=s.drawn) (ch:=[it]) (λb g=>?_) (λb o _ _ a e _=>k b o (λz=>a<|by simp[z]) e) (λb o _ _ a e _=>⟨o.slots,k b o (λz=>a<|by simp[z]) e⟩) (λ_ _ _ _ n=>n) (λb o a e=>⟨o,k b o (λz=>a<|by simp[z]) e⟩) (λ_ _ e=>e) (λ_ _ _ e=>e) (λb A e=>⟨#[],by rw[e];simp⟩) (λm t=>?_) (λb u e=>?_) I.bare
 ·have e:b=it:=by simpa using g
  subst e;exact⟨y,f,w,h3⟩
 ·obtain⟨o,h,i,l,r⟩:=t;exact⟨o,h,i,k _ o (Uq f) l,r⟩
 ·refine(I.aF b u e).eE (λc v a q=>k c v ?_ q) (λ_ q=>q) λ_ _ q=>q
  rcases a with z|z
  ·rw[z];exact d b u e
  ·exact d c _ z
def Inv.tok(I:Inv X pins σ H s)(t:Nat):Inv X pins σ H {s with toks:=t}:=I.un (h':=s.heap) (t':=t) Un.refl I.aF
def Inv.kept{t':Nat}(I:Inv X pins σ H s)(k:∀b u,s.heap.get? b=aa u->h'.get? b=aa u):Inv X pins σ H {s with heap:=h',toks:=t'}:=I.un (Un.kept k)<|I.aF.kept k
def Inv.laid{a:Addr}{o:HO}{t':Nat}(I:Inv X pins σ H s)(k:∀b u,s.heap.get? b=aa u->h'.get? b=aa u)(d:s.heap.objs.size<=a)(c:c6 X.prog X.w (upd H a o) h' a o):
 Inv X pins σ (upd H a o) {s with heap:=h',toks:=t'}:=I.un (Un.laid k d<|I.aF.fresh d)<|I.aF.laid k d c
def Inv.write{x e:Addr}{o:HO}{t':Nat}(I:Inv X pins σ H s)(c:pU<|H x)(d:e=x\/H e=aa (.own x))(k:∀b u,b≠e->s.heap.get? b=aa u->h'.get? b=aa u)(a:∃u,h'.get? e=aa u)(new:c6 X.prog X.w (upd H x o) h' x o):Inv X pins σ (upd H x o) {s with heap:=h',toks:=t'}:=I.un (Un.write c d k a)<|I.aF.write c d k a new
def Inv.j0{a:List (Addr×Obj)}(I:Inv X pins σ H s)(h:∀p∈a,s.heap.get? p.1=aa p.2/\H p.1=ae/\p.1≠X.env.locals/\p.1∉X.fs/\∀v,p.2.data≠.cell v):Inv X a σ H s:=
 ⟨I.ok,I.os,I.bare,I.base,I.loc,I.cell,I.free,I.eA,λp b=>(Vb.mp b).elim (λz=>I.pin p<|Xu _ z)<|h p,I.aF,I.len⟩
def uD{N:List Str}(e:N.Nodup){i j:Nat}{x:Str}(a:N[i]? =aa x)(b:N[j]? =aa x):i=j:=by obtain⟨g,d⟩:=T6.mp a;obtain⟨f,c⟩:=T6.mp b;exact(List.getElem_inj e).mp<|d.trans c.symm
def DJ{M:Model}{A:Around}{E:ah->Shared->Prop}{i:Nat}{x:Str}{v:V}{u:ah}{Q:Unit->Shared->Prop}(I:Inv X pins σ H s)(hN:X.N.Nodup)(S:X.N[i]? =aa x)(B:Loc X.env.scope x)(r:RelV v u)(h:∀s',Inv X pins (σ.set i<|aa v) H s'->(∃a,Heap.SameBut a s.heap s'.heap/\(a=X.env.locals\/X.env.cells.lookup x=aa a))->Q () s')(hf:X.fn x=af\/X.env.scope.names.lookup x=aa .local:=by first|exact .inl rfl|exact .inr rfl|assumption):wpAny M A (storeName X.env x u) Q E s:=by
 obtain⟨m,hn,hl⟩:=id I.loc;have R:(X.env.scope.kind==.class||(X.env.scope.kind==.module&&X.env.locals != X.env.globals))=ag:=by rw[I.ok.kind];rfl
 have G:i<σ.length:=by rw[I.len];exact(T6.mp S).1
 have O:=I.pV;have g:∀{a:Addr} {h':Heap},(∃o,s.heap.get? a=aa o/\H a=ae)->Heap.SameBut a s.heap h'->bS X.prog X.w H h':=λ{a h'} ha f b ob e=>by
  obtain⟨_,_,C⟩:=ha;refine(I.aF b ob e).eE (λc Y t q=>(f.2 c ?_).trans q) (λ_ q=>q) λ_ _ q=>q
  rintro rfl;rcases t with rfl|t
  ·rw[C] at e;cases e
  ·rw[C] at t;cases t
 rcases B with F|F
 ·refine wpAny_storeName_local F hn (λh' wz f=>?_) R;obtain⟨oL,_,_,NM,_⟩:=id hn;refine h _ ⟨I.ok,I.os,I.bare,⟨λb o e n J B=>?_,λb o e n J B=>?_,I.base.free,λb o e B=>?_,I.base.fq,I.base.fJ,I.base.gc⟩,⟨_,wz,λj y v' l D e3=>?_⟩,λy c e=>?_,I.free,I.eA,λp hp=>?_,g ⟨oL,NM,I.free⟩ f,by simpa using I.len⟩ ⟨_,f,.inl rfl⟩
  ·exact(f.2 b<|UB<|Um (Ui e) I.ok.above).trans<|I.base.keep b o e n J B
  ·obtain⟨sl,l⟩:=I.base.slot b o e n J B;exact⟨sl,(f.2 b<|UB<|Um (Ui e) I.ok.above).trans l⟩
  ·obtain⟨o',l⟩:=I.base.there b o e B;exact⟨o',(f.2 b<|UB<|Um (Ui e) I.ok.above).trans l⟩
  ·by_cases K:j=i
   ·subst K;rw[S] at l;cases l;rw[UH G] at D;cases D;exact⟨u,r,.inl ⟨F,by simp⟩⟩
   ·rw[Uz<|Uq K] at D;obtain⟨u',r',q⟩:=hl j y v' l D e3;refine⟨u',r',?_⟩;rcases q with⟨k,e⟩|⟨k,c,e,z⟩
    ·refine .inl ⟨k,?_⟩;have:y≠x:=λe=>K<|uD hN l<|e▸S
     simp[this,e]
    ·exact .inr ⟨k,c,e,z.sameBut f<|O y c e⟩
  ·obtain⟨Y,z⟩:=I.cell y c e;exact⟨Y,z.sameBut f<|O y c e⟩
  ·obtain⟨e,n,Z,nf,d⟩:=I.pin p hp;exact⟨(f.2 p.1 Z).trans e,n,Z,nf,d⟩
 ·have L:X.fn x=af:=by
   rcases hf with z|z
   ·exact z
   ·rw[z] at F;cases F
  obtain⟨c,t⟩:=I.ok.has x<|.inl F;obtain⟨Y,z⟩:=I.cell x c t;refine wpAny_storeName_cell I.ok.kind F t z<|λh' W f=>?_
  obtain⟨oc,T,U⟩:=id z;refine h {s with heap:=h'} ⟨I.ok,I.os,I.bare,⟨λb o e n J B=>?_,λb o e n J B=>?_,I.base.free,λb o e B=>?_,I.base.fq,I.base.fJ,I.base.gc⟩,⟨m,hn.sameBut f<|Uq<|O x c t,λj y v' l D e3=>?_⟩,λy c' e=>?_,I.free,I.eA,λp hp=>?_,g ⟨oc,T,I.eA x c t⟩ f,by simpa using I.len⟩ ⟨c,f,.inr t⟩
  ·exact(f.2 b<|UB<|Um (Ui e)<|I.ok.md x c L t).trans<|I.base.keep b o e n J B
  ·obtain⟨sl,l⟩:=I.base.slot b o e n J B;exact⟨sl,(f.2 b<|UB<|Um (Ui e)<|I.ok.md x c L t).trans l⟩
  ·obtain⟨o',l⟩:=I.base.there b o e B;exact⟨o',(f.2 b<|UB<|Um (Ui e)<|I.ok.md x c L t).trans l⟩
  ·by_cases K:j=i
   ·subst K;rw[S] at l;cases l;rw[UH G] at D;cases D;exact⟨u,r,.inr ⟨.inl F,c,t,W⟩⟩
   ·rw[Uz<|Uq K] at D;obtain⟨u',r',q⟩:=hl j y v' l D e3;refine⟨u',r',?_⟩;rcases q with q|⟨k,c',e,z'⟩
    ·exact .inl q
    ·refine .inr ⟨k,c',e,z'.sameBut f ?_⟩;rintro rfl;exact K<|uD hN l<|I.ok.inj _ _ _ e t▸S
  ·by_cases P:c'=c
   ·subst P;exact⟨_,W⟩
   ·obtain⟨w2,z2⟩:=I.cell y c' e;exact⟨w2,z2.sameBut f P⟩
  ·obtain⟨e,n,Z,nf,d⟩:=I.pin p hp;refine⟨(f.2 p.1 ?_).trans e,n,Z,nf,d⟩;intro q;rw[q,T] at e;have q':oc=p.2:=Ua e;exact d Y (by rw[<-q'];exact U)
def uE{M:Model}{A:Around}{E:ah->Shared->Prop}{i:Nat}{x:Str}{v:V}{u:ah}{Q:Unit->Shared->Prop}(I:Inv X pins σ H s)(d:X.N.Nodup)(e:X.N[i]? =aa x)(a:Loc X.env.scope x)(r:RelV v u)(h:∀s',Inv X pins (σ.set i<|aa v) H s'->Q () s')(b:X.fn x=af\/X.env.scope.names.lookup x=aa .local:=by first|exact .inl rfl|exact .inr rfl|assumption):wpAny M A (storeName X.env x u) Q E s:=
 DJ I d e a r (λs' c _=>h s' c) b
def Inv.AS{s':Shared}{ch:List Addr}(I:Inv X pins σ H s)(k:s'.os=s.os)(u:Un (cA X.stack) ch H H' s.heap s'.heap)(a:bS X.prog X.w H' s'.heap)(j:AllBare s'.gens)(d:∀b∈ch,(b∈X.ex\/X.c7.heap.objs.size<=b)/\b≠X.env.locals/\(∀x c,X.env.cells.lookup x=aa c->c≠b)/\∀p∈X.pn++pins,p.1≠b):Inv X pins σ H' s':=by obtain⟨h',f,h,g,i⟩:=s';have e:i=s.os:=k;subst e;exact I.call (g':=f) (t':=g) (d':=h) u a j d
end
noncomputable abbrev XK:=ah->Option Addr->Hp->Prop
noncomputable abbrev St:=List<|Option V
noncomputable abbrev VK:=V->Hp->Prop
noncomputable abbrev TE:=St->Hp->VK->Prop
noncomputable abbrev TT:=St->Hp->(Bool->Hp->Prop)->Prop
noncomputable abbrev TA:=St->Hp->(List V->Hp->Prop)->Prop
structure Ends where
 nx:St->Hp->Prop
 rt:VK
 bk:St->Hp->Prop:=λ_ _=>False
 ct:St->Hp->Prop:=λ_ _=>False
noncomputable abbrev TS:=Ends->St->Hp->Prop
noncomputable def EP(X:Cx)(pins:List<|Addr×Obj)(σ:St)(Q:VK)(u:ah)(s':Shared):Prop:=∃v a,Inv X pins σ a s'/\RelV v u/\Q v a
noncomputable def TP(X:Cx)(pins:List<|Addr×Obj)(σ:St)(Q:Bool->Hp->Prop)(b:Bool)(s':Shared):Prop:=∃a,Inv X pins σ a s'/\Q b a
noncomputable def AP(X:Cx)(pins:List<|Addr×Obj)(σ:St)(Q:List V->Hp->Prop)(us:List ah)(s':Shared):Prop:=∃a b,Inv X pins σ b s'/\Vals a us/\Q a b
noncomputable def SP(X:Cx)(pins:List<|Addr×Obj)(D:Ends)(f:Flow)(s':Shared):Prop:=
 match f with
 |.next=>∃a b,Inv X pins a b s'/\D.nx a b
 |.brk=>∃a b,Inv X pins a b s'/\D.bk a b
 |.cont=>∃a b,Inv X pins a b s'/\D.ct a b
 |.ret u=>∃v a b,Inv X pins a b s'/\RelV v u/\D.rt v b
noncomputable def PE(X:Cx)(e:Expr)(t:TE):Prop:=
 ∀(a:List<|Addr×Obj) (s:Shared) (b:St) (H:Hp) (Q:VK),Inv X a b H s->t b H Q->wpAny (model X.prog X.w) X.A (eval e X.env) (EP X a b Q) X.xe s
noncomputable def PT(X:Cx)(e:Expr)(t:TT):Prop:=
 ∀(a:List<|Addr×Obj) (s:Shared) (b:St) (H:Hp) (Q:Bool->Hp->Prop),Inv X a b H s->t b H Q->wpAny (model X.prog X.w) X.A (isTrue e X.env<|eval e X.env) (TP X a b Q) X.xe s
noncomputable def PW(X:Cx)(e:Expr)(t:TT):Prop:=
 ∀(b:Sem ah) (a:List<|Addr×Obj) (s:Shared) (c:St) (H:Hp) (Q:Bool->Hp->Prop),Inv X a c H s->t c H Q->wpAny (model X.prog X.w) X.A (isTrue e X.env b) (TP X a c Q) X.xe s
def PW.pt{X:Cx}{e:Expr}{t:TT}(h:PW X e t):PT X e t:=h _
noncomputable def PA(X:Cx)(d:List Expr)(t:TA):Prop:=
 ∀(b:Pos) (a:List<|Addr×Obj) (s:Shared) (c:St) (H:Hp) (Q:List V->Hp->Prop),Inv X a c H s->t c H Q->wpAny (model X.prog X.w) X.A (spliced<|backTo b<|starEach d X.env) (AP X a c Q) X.xe s
noncomputable def PS(X:Cx)(st:Stmt)(t:TS):Prop:=
 ∀(a:List<|Addr×Obj) (s:Shared) (b:St) (H:Hp) (D:Ends),Inv X a b H s->t D b H->wpAny (model X.prog X.w) X.A (exec st X.env) (SP X a D) X.xe s
noncomputable def fy(X:Cx)(st:List Stmt)(t:TS):Prop:=
 ∀(a:List<|Addr×Obj) (s:Shared) (b:St) (H:Hp) (D:Ends),Inv X a b H s->t D b H->wpAny (model X.prog X.w) X.A (execs st X.env) (SP X a D) X.xe s
def aN{b:Type}{t:Sem b}{Q c:b->Shared->Prop}{M:Model}{A:Around}{E:ah->Shared->Prop}{s:Shared}(h:wpAny M A t Q E s)(d:∀a s,Q a s->c a s):wpAny M A t c E s:=Uv h d λ_ _ x=>x
section
variable{X:Cx}
def bin{a b:Expr}{k l:TE}(n:PE X a k)(o:PE X b l){pins:List (Addr×Obj)}{s:Shared}{σ:St}{H:Hp}{R:V->V->Hp->Prop}(I:Inv X pins σ H s)(h:k σ H λx i=>l σ i λy c=>R x y c){j:Type}{Q:j->Shared->Prop}{f:ah->ah->Sem j}(hf:∀v u g x y c,Inv X pins σ c g->RelV x v->RelV y u->R x y c->wpAny (model X.prog X.w) X.A (f v u) Q X.xe g):
 wpAny (model X.prog X.w) X.A (eval a X.env) (λv d=>wpAny (model X.prog X.w) X.A (eval b X.env) (λu e=>wpAny (model X.prog X.w) X.A (f v u) Q X.xe e) X.xe d) X.xe s:=by
 refine aN (n pins s σ H _ I h) λv z ⟨x,i,B,p,q⟩=>?_
 refine aN (o pins z σ i _ B q) λu g ⟨y,c,r,m,t⟩=>?_
 exact hf v u g x y c r p m t
noncomputable def wb(i:Nat):TE:=λa H Q=>∃v,a[i]? =aa (aa v)/\Q v H
noncomputable def tC(v:V):TE:=λ_ H Q=>Q v H
def ng{i:Nat}{x:Str}{pos:Pos}(o:X.N[i]? =aa x)(n:nV X.env.scope x)(f:(x==("__debug__":Str))=ag:=by decide)(g:(x==("__classdict__":Str))=ag:=by decide):PE X (.Name x pos) (wb i):=by
 intro d s q H Q I h;obtain⟨v,e,h⟩:=h;obtain⟨m,k,j⟩:=I.loc;obtain⟨u,r,l⟩:=j i x v o e n;have b:EP X d q Q u s:=⟨v,H,I,r,h⟩;rcases l with⟨a,p⟩|⟨a,c,hc,nt⟩
 ·exact wpAny_Name (wpAny_loadName_local I.ok.kind a k p b) f
 ·rcases a with a|a
  ·exact wpAny_Name (wpAny_loadName_cell I.ok.kind a hc nt b) f
  ·exact wpAny_Name (wpAny_loadName_free I.ok.kind a hc nt b g) f
def Jl{i j pos}:PE X (.Constant (.int i) j pos) (tC<|.int i):=λ_ _ _ H _ I h=>wpAny_Constant_int ⟨.int i,H,I.tok _,⟨_,rfl⟩,h⟩
def Ly{b j pos}:PE X (.Constant (.bool b) j pos) (tC<|.bl b):=λ_ _ _ H _ I h=>Constant_bool ⟨.bl b,H,I,rfl,h⟩
def Jm{j pos}:PE X (.Constant .none j pos) (tC .aw):=λ_ _ _ H _ I h=>Constant_none ⟨.aw,H,I,rfl,h⟩
def z7{x j pos}:PE X (.Constant (.str x) j pos) (tC<|.str x):=λ_ _ _ H _ I h=>Calls.Constant_str ⟨.str x,H,I.tok _,⟨_,rfl⟩,h⟩
noncomputable def Gl(X:Cx)(x:Str):Prop:=X.env.kindOf x=aa .globalImplicit
def m5{E:ah->Shared->Prop}{pins:List (Addr×Obj)}{s:Shared}{σ:St}{H:Hp}{x:Str}{u:ah}{pos:Pos}{Q:ah->Shared->Prop}(I:Inv X pins σ H s)(a:Gl X x)(b:X.mg x=aa u)(h:Q u s)(hd:(x==("__debug__":Str))=ag:=by decide):wpAny (model X.prog X.w) X.A (eval (.Name x pos) X.env) Q E s:=
 Xv I.ok.kind a (Calls.loadGlobal_global (by rw[I.ok.glob];exact I.mod.glob.keeps I.bk) b h) hd
def j9{E:ah->Shared->Prop}{pins:List (Addr×Obj)}{s:Shared}{σ:St}{H:Hp}{x:Str}{u:ah}{pos:Pos}{Q:ah->Shared->Prop}(I:Inv X pins σ H s)(d:Gl X x)(a:X.mg x=ae)(e:bootBuiltins x=aa u)(h:Q u s)(f:x≠"__name__":=by decide)(b:(x==("__debug__":Str))=ag:=by decide):wpAny (model X.prog X.w) X.A (eval (.Name x pos) X.env) Q E s:=by obtain⟨i,g,c⟩:=I.mod.blt;exact Xv I.ok.kind d (Calls.loadGlobal_builtin (by rw[I.ok.glob];exact I.mod.glob.keeps I.bk) a (by rw[I.ok.blt];exact g.keeps I.bk) ((c x f).trans e) h) b
def uY{x:Str}{v:V}{u:ah}{pos:Pos}(c:Gl X x)(a:X.mg x=aa u)(r:RelV v u)(b:(x==("__debug__":Str))=ag:=by decide):PE X (.Name x pos) (tC v):=
 λ_ _ _ H _ I h=>m5 I c a ⟨v,H,I,r,h⟩ b
def uZ{x:Str}{v:V}{u:ah}{pos:Pos}(c:Gl X x)(a:X.mg x=ae)(d:bootBuiltins x=aa u)(r:RelV v u)(e:x≠"__name__":=by decide)(b:(x==("__debug__":Str))=ag:=by decide):PE X (.Name x pos) (tC v):=
 λ_ _ _ H _ I h=>j9 I c a d ⟨v,H,I,r,h⟩ e b
variable{a b:Expr}{ta tb:TE}{pos:Pos}
noncomputable def PC(X:Cx)(op:CmpOp)(a b:Expr)(t:TE):Prop:=
 ∀(c:List<|Addr×Obj) (s:Shared) (f:St) (H:Hp) (Q:VK),Inv X c f H s->t f H Q->
  wpAny (model X.prog X.w) X.A (eval a X.env) (λv d=>wpAny (model X.prog X.w) X.A (eval b X.env) (λu e=>wpAny (model X.prog X.w) X.A (compareOp op v u) (EP X c f Q) X.xe e) X.xe d) X.xe s
def E6(b:Expr){op:CmpOp}(h:op≠.In)(c:op≠.NotIn):behindInMarks op b=ag:=by
 have e:(op==CmpOp.In)=ag:=by cases op<;>first|rfl|exact absurd rfl h
 have d:(op==CmpOp.NotIn)=ag:=by cases op<;>first|rfl|exact absurd rfl c
 cases b<;>simp[behindInMarks,e,d]
noncomputable def MI(ta:TE):TE:=λd H Q=>ta d H λx c=>Q (.bl<|ai<|x=.aw) c
noncomputable def Lz(ta:TE):TE:=λd H Q=>ta d H λx c=>Q (.bl<|!ai (x=.aw)) c
def RelV.yq{x:V}{v:ah}(r:RelV x v):(v==Value.none)=ai (x=.aw):=by
 cases x with
 |aw=>cases r;rfl
 |bl _=>cases r;rfl
 |int _=>obtain⟨t,rfl⟩:=r;rfl
 |str _=>obtain⟨t,rfl⟩:=r;rfl
 |gj _=>obtain⟨t,rfl⟩:=r;rfl
 |iX _=>obtain⟨t,rfl⟩:=r;rfl
 |ref _=>cases r;rfl
 |ty _=>cases r;rfl
def Jn{j pos'}(k:PE X a ta):PC X .Is a (.Constant .none j pos') (MI ta):=by
 intro c s e H Q I h;refine aN (k c s e H _ I h) λv l ⟨x,d,i,f,g⟩=>?_
 exact Constant_none<|is_none_gen ⟨.bl _,d,i,by rw[f.yq];rfl,g⟩
def G_{j pos'}(k:PE X a ta):PC X .IsNot a (.Constant .none j pos') (Lz ta):=by
 intro c s e H Q I h;refine aN (k c s e H _ I h) λv l ⟨x,d,i,f,g⟩=>?_
 exact Constant_none<|isnot_none_gen ⟨.bl _,d,i,by rw[f.yq];rfl,g⟩
noncomputable def tB(t:TE):TT:=λe H Q=>t e H λx d=>∃c,x=.bl c/\Q c d
def z8{op:CmpOp}{t:TE}(h:PC X op a b t)(f:behindInMarks op b=ag:=by first|exact E6 _ (by decide) (by decide)|rfl):PT X (.Compare a [op] [b] pos) (tB t):=by intro e s n H Q I k;refine wpAny_isTrue_Compare1 (aN (h e s n H _ I k) λv p f=>aN f λu r l=>aN l λc o ⟨x,m,g,i,j⟩=>?_) f;obtain⟨d,rfl,q⟩:=j;cases i;exact Vt ⟨m,g,q⟩
def Jo{e:Expr}{t:TE}(h:PE X e t)(m:∀c,isTrue e X.env c=(do let v<-c;standAt e.pos;holding [v] (truthy v)):=by intro _;rfl):PT X e (tB t):=by intro f s j H Q I g;refine isTrue_plain (aN (h f s j H _ I g) λv o ⟨x,i,n,k,l⟩=>?_)<|m _;obtain⟨d,rfl,q⟩:=l;cases k;exact Vt ⟨i,n,q⟩
variable{tA r6:TT}{rest:List Expr}
noncomputable def nE(t u:TT):TT:=λe H Q=>t e H λc d=>if c=af then u e d Q else Q ag d
noncomputable def cW(t u:TT):TT:=λe H Q=>t e H λc d=>if c=af then Q af d else u e d Q
noncomputable def cz(t:TT):TT:=λe H Q=>t e H λc d=>Q (!c) d
def G'(f:PT X a tA):PW X (.BoolOp .And [a] pos) tA:=by
 intro j d s g H Q I h;refine isTrue_and<|aN (f d s g H Q I h) λc i e=>?_
 cases c with
 |true=>exact isTrue_and_nil e
 |false=>exact e
def Jp(f:PT X a tA):PW X (.BoolOp .Or [a] pos) tA:=by
 intro j d s g H Q I h;refine isTrue_or<|aN (f d s g H Q I h) λc i e=>?_
 cases c with
 |false=>exact isTrue_or_nil e
 |true=>exact e
def Jq(j:PT X a tA)(k:PW X (.BoolOp .And (b::rest) pos) r6):PW X (.BoolOp .And (a::b::rest) pos) (nE tA r6):=by
 intro m d s f H Q I h;refine isTrue_and<|aN (j d s f H _ I h) λc l ⟨e,i,g⟩=>?_
 cases c with
 |true=>exact k m d l f e Q i g
 |false=>exact⟨e,i,g⟩
def LA(j:PT X a tA)(k:PW X (.BoolOp .Or (b::rest) pos) r6):PW X (.BoolOp .Or (a::b::rest) pos) (cW tA r6):=by
 intro m d s f H Q I h;refine isTrue_or<|aN (j d s f H _ I h) λc l ⟨e,i,g⟩=>?_
 cases c with
 |true=>exact⟨e,i,g⟩
 |false=>exact k m d l f e Q i g
def Jr(g:PT X a tA):PT X (.UnaryOp .Not a pos) (cz tA):=by intro d s f H Q I h;exact isTrue_not<|g d s f H (λc e=>Q (!c) e) I h
noncomputable def LB(ta tb:TE):TE:=λe H Q=>ta e H λx d=>∃c,x=.bl c/\if c=af then tb e d Q else Q (.bl ag) d
noncomputable def MJ(ta tb:TE):TE:=λe H Q=>ta e H λx d=>∃c,x=.bl c/\if c=af then Q (.bl af) d else tb e d Q
noncomputable def LC(ta:TE):TE:=λe H Q=>ta e H λx d=>∃c,x=.bl c/\Q (.bl<|!c) d
def Js{op}{t:TE}(h:PE X a t):PE X (.BoolOp op [a] pos) t:=λc s e H Q I d=>BoolOp_one<|h c s e H Q I d
def Jt(m:PE X a ta)(j:PE X (.BoolOp .And (b::rest) pos) tb):PE X (.BoolOp .And (a::b::rest) pos) (LB ta tb):=by
 intro d s g H Q I h;refine BoolOp_and<|aN (m d s g H _ I h) λv l ⟨x,f,i,k,e⟩=>?_
 obtain⟨c,rfl,e⟩:=e;cases k;refine Vt ?_;cases c with
 |true=>exact j d l g f Q i e
 |false=>exact⟨.bl ag,f,i,rfl,e⟩
def LD(m:PE X a ta)(j:PE X (.BoolOp .Or (b::rest) pos) tb):PE X (.BoolOp .Or (a::b::rest) pos) (MJ ta tb):=by
 intro d s g H Q I h;refine BoolOp_or<|aN (m d s g H _ I h) λv l ⟨x,f,i,k,e⟩=>?_
 obtain⟨c,rfl,e⟩:=e;cases k;refine Vt ?_;cases c with
 |false=>exact j d l g f Q i e
 |true=>exact⟨.bl af,f,i,rfl,e⟩
def Ju(k:PE X a ta):PE X (.UnaryOp .Not a pos) (LC ta):=by
 intro d s g H Q I h;refine UnaryOp_<|aN (k d s g H _ I h) λv l ⟨x,f,j,i,e⟩=>?_
 obtain⟨c,rfl,e⟩:=e;cases i;exact not_of<|Vt ⟨.bl<|!c,f,j,rfl,e⟩
end
noncomputable def bg(K:PySem.W.Frag)(H:Hp)(a:Addr)(xs:List V):Prop:=
 Rd H a (.lst xs)\/
  ∃(o:Obj) (b:Array ah) (n:Nat),K.lookup a=aa o/\o.cls=.type "list"/\o.dict=ae/\o.data=.seq b n/\b.size<=sizeLine/\Vals xs b.toList
noncomputable def dA(K:PySem.W.Frag)(H:Hp)(a:Addr)(xs:List V):Prop:=
 Rd H a (.tup xs)\/
  ∃(o:Obj) (b:Array ah) (n:Nat),K.lookup a=aa o/\o.cls=.type "tuple"/\o.data=.seq b n/\b.size<=sizeLine/\Vals xs b.toList
noncomputable def MK:ah->Option V
 |.none=>aa .aw
 |.bool b=>aa<|.bl b
 |.int i _=>aa<|.int i
 |.str x _=>aa<|.str x
 |.bytes b _=>aa<|.gj b
 |.float b _=>aa<|.iX b
 |.ref a=>aa<|.ref a
 |.type n=>aa<|.ty n
 |_=>ae
def RelV.abs{x:V}{u:ah}(r:RelV x u):MK u=aa x:=by
 cases x with
 |aw=>cases r;rfl
 |bl _=>cases r;rfl
 |int _=>obtain⟨t,rfl⟩:=r;rfl
 |str _=>obtain⟨t,rfl⟩:=r;rfl
 |gj _=>obtain⟨t,rfl⟩:=r;rfl
 |iX _=>obtain⟨t,rfl⟩:=r;rfl
 |ref _=>cases r;rfl
 |ty _=>cases r;rfl
def RelV.inj{x y:V}{u:ah}(r:RelV x u)(q:RelV y u):x=y:=Ua<|r.abs.symm.trans q.abs
theorem Vals.inj:∀{xs ys:List V} {us:List ah},Vals xs us->Vals ys us->xs=ys
 |_,_,_,.nil,.nil=>rfl
 |_,_,_,.cons r t,.cons a b=>by rw[r.inj a,Vals.inj t b]
section
variable{X:Cx}{pins:List (Addr×Obj)}{σ:St}{H:Hp}{s:Shared}{a:Addr}{xs ys:List V}
def bg.of{K:PySem.W.Frag}(h:H a=aa (.lst xs)):bg K H a xs:=.inl<|.inl h
def dA.of{K:PySem.W.Frag}(h:H a=aa (.tup xs)):dA K H a xs:=.inl<|.inl h
def Inv.list(I:Inv X pins σ H s)(h:bg X.K H a xs):∃b:List ah,Vals xs b/\PlainL s.heap a b.toArray/\xs.length<=sizeLine:=by
 rcases h with h|⟨o,b,n,hk,hc,hd,hs,hz,r⟩
 ·obtain⟨z,b,n,r,e⟩:=h.ok I.aF;exact⟨b,r,⟨_,n,e,rfl,rfl,rfl⟩,z⟩
 ·refine⟨b.toList,r,⟨o,n,I.dz a o hk,hc,hd,by simpa using hs⟩,?_⟩;have e:=r.length;simp only[WM] at e;omega
def Inv.tuple(I:Inv X pins σ H s)(h:dA X.K H a xs):∃b:List ah,Vals xs b/\IsTup s.heap a b.toArray/\xs.length<=sizeLine:=by
 rcases h with h|⟨o,b,n,hk,hc,hs,hz,r⟩
 ·obtain⟨z,b,r,p⟩:=h.ok I.aF;exact⟨b,r,p,z⟩
 ·refine⟨b.toList,r,⟨o,I.dz a o hk,hc,n,by simpa using hs⟩,?_⟩;have e:=r.length;simp only[WM] at e;omega
def Inv.qG(I:Inv X pins σ H s)(h:bg X.K H a xs)(h':bg X.K H a ys):xs=ys:=by
 obtain⟨c,r,⟨o,n,e,_,_,d⟩,_⟩:=I.list h;obtain⟨b,i,⟨k,l,f,_,_,g⟩,_⟩:=I.list h';rw[e] at f;cases f;rw[d] at g;injection g with j _;have:c=b:=by simpa using UI Array.toList j
 subst this;exact r.inj i
def Inv.DK(I:Inv X pins σ H s)(h:dA X.K H a xs)(h':dA X.K H a ys):xs=ys:=by
 obtain⟨c,r,⟨o,e,_,n,d⟩,_⟩:=I.tuple h;obtain⟨b,i,⟨k,f,_,l,g⟩,_⟩:=I.tuple h';rw[e] at f;cases f;rw[d] at g;injection g with j _;have:c=b:=by simpa using UI Array.toList j
 subst this;exact r.inj i
end
noncomputable abbrev Cx.fL(X:Cx)(E:ah->Shared->Prop):Cx:={X with xe:=E}
noncomputable abbrev Cx.cX(X:Cx):Cx:=X.fL λ_ _=>False
def Cx.Ok.fL{X:Cx}(ok:X.Ok)(E:ah->Shared->Prop):(X.fL E).Ok:=
 ⟨ok.mod,ok.kind,ok.glob,ok.blt,ok.above,ok.inj,ok.has,ok.md,ok.hd,ok.frames,ok.nW,ok.r0,ok.bs,ok.ij,ok.cJ,ok.nC,ok.fK,ok.jy⟩
def Cx.Ok.gv{X:Cx}{E:ah->Shared->Prop}(ok:(X.fL E).Ok):X.Ok:=
 ⟨ok.mod,ok.kind,ok.glob,ok.blt,ok.above,ok.inj,ok.has,ok.md,ok.hd,ok.frames,ok.nW,ok.r0,ok.bs,ok.ij,ok.cJ,ok.nC,ok.fK,ok.jy⟩
section
variable{X:Cx}{pins:List (Addr×Obj)}{σ:St}{H:Hp}{s:Shared}{E:ah->Shared->Prop}
def Inv.fL(I:Inv X pins σ H s)(E:ah->Shared->Prop):Inv (X.fL E) pins σ H s:=⟨I.ok.fL E,I.os,I.bare,I.base,I.loc,I.cell,I.free,I.eA,I.pin,I.aF,I.len⟩
def Inv.gv(I:Inv (X.fL E) pins σ H s):Inv X pins σ H s:=⟨I.ok.gv,I.os,I.bare,I.base,I.loc,I.cell,I.free,I.eA,I.pin,I.aF,I.len⟩
def SP.gv{D:Ends}{f:Flow}{s':Shared}(h:SP (X.fL E) pins D f s'):SP X pins D f s':=by
 cases f with
 |next=>obtain⟨a,b,I,q⟩:=h;exact⟨a,b,I.gv,q⟩
 |brk=>obtain⟨a,b,I,q⟩:=h;exact⟨a,b,I.gv,q⟩
 |cont=>obtain⟨a,b,I,q⟩:=h;exact⟨a,b,I.gv,q⟩
 |ret u=>obtain⟨v,a,b,I,r,q⟩:=h;exact⟨v,a,b,I.gv,r,q⟩
def PT.cX{e:Expr}{t:TT}(h:PT X.cX e t):PT X e t:=λpins s σ H Q I b=>Uv (h pins s σ H Q (I.fL _) b) (λ_ _ ⟨a,c,q⟩=>⟨a,c.gv,q⟩) λ_ _ z=>False.elim z
def fy.cX{st:List Stmt}{t:TS}(h:fy X.cX st t):fy X st t:=λpins s σ H D I a=>Uv (h pins s σ H D (I.fL _) a) (λ_ _ q=>q.gv) λ_ _ z=>False.elim z
end
section
variable{X:Cx}{st:Stmt}{rest:List Stmt}{t u:TS}{e:Expr}{te:TE}{pos:Pos}
noncomputable def LF:TS:=λD a H=>D.nx a H
noncomputable def ML(t u:TS):TS:=λD a H=>t {D with nx:=u D} a H
def zc:fy X [] LF:=λ_ _ a H _ I h=>VP ⟨a,H,I,h⟩
def yr(k:PS X st t)(d:fy X rest u):fy X (st::rest) (ML t u):=by
 intro a s g H D I h;refine WN<|aN (k a s g H {D with nx:=u D} I h) λf i q=>?_
 cases f with
 |next=>obtain⟨b,c,j,q⟩:=q;exact d a i b c D j q
 |ret v=>exact q
 |brk=>exact q
 |cont=>exact q
def zd(c:PS X st t):fy X [st] t:=by
 intro a s b H D I h;refine WN<|aN (c a s b H D I h) λf d q=>?_
 cases f with
 |next=>exact VP q
 |ret v=>exact q
 |brk=>exact q
 |cont=>exact q
noncomputable def Jv:TS:=λD a H=>D.bk a H
def E7:PS X (.Break pos) Jv:=λ_ _ a H _ I h=>wpAny_Break ⟨a,H,I,h⟩
def Inv.quiet{pins:List (Addr×Obj)}{σ:St}{H:Hp}{s:Shared}(I:Inv X pins σ H s):interactive X.env=ag:=by simp[interactive,I.ok.kind]
noncomputable def LG(te:TE):TS:=λD a H=>te a H λ_ b=>D.nx a b
def ze(he:PE X e te)(f:swapsWith e ae pos.line X.env=pure ag:=by rfl):PS X (.Expr e pos) (LG te):=by intro a s b H D I h;exact wpAny_Expr_any (aN (he a s b H _ I h) λv i ⟨x,c,g,j,d⟩=>⟨b,c,g,d⟩) I.quiet f
noncomputable def MM(te:TE):TS:=λD a H=>te a H D.rt
def z9(he:PE X e te):PS X (.Return (aa e) pos) (MM te):=by intro a s b H D I h;exact wpAny_Return_some<|aN (he a s b H _ I h) λv i ⟨x,c,g,d,f⟩=>⟨x,b,c,g,d,f⟩
noncomputable def MN(c:TT)(t u:TS):TS:=λD a H=>c a H λb d=>if b=af then t D a d else u D a d
def AU{c:Expr}{a b:List Stmt}{i:TT}(n:PT X c i)(p:fy X a t)(o:fy X b u):PS X (.If c a b pos) (MN i t u):=by
 intro f s g H D I h;refine wpAny_If<|aN (n f s g H _ I h) λd l ⟨j,m,k⟩=>?_
 cases d with
 |true=>exact p f l g j D m k
 |false=>exact o f l g j D m k
end
noncomputable abbrev TG:=V->St->Hp->(St->Hp->Prop)->Prop
noncomputable abbrev mf:=List V->St->Hp->(St->Hp->Prop)->Prop
noncomputable def PG(X:Cx)(a:Expr)(t:TG):Prop:=
 ∀(b:List<|Addr×Obj) (s:Shared) (e:St) (H:Hp) (v:V) (u:ah) (Q:St->Hp->Prop),Inv X b e H s->RelV v u->t v e H Q->
  wpAny (model X.prog X.w) X.A (assign a X.env u) (λ_ f=>∃c d,Inv X b c d f/\Q c d) X.xe s
noncomputable def pW(X:Cx)(g:List Expr)(t:mf):Prop:=
 ∀(a:List<|Addr×Obj) (s:Shared) (e:St) (H:Hp) (f:List V) (c:List ah) (Q:St->Hp->Prop),Inv X a e H s->Vals f c->t f e H Q->
  wpAny (model X.prog X.w) X.A (assignInOrder ((assignEach g X.env).map (·.2)) c) (λ_ h=>∃b d,Inv X a b d h/\Q b d) X.xe s
noncomputable abbrev wc:=V->V->V->Hp->(Hp->Prop)->Prop
noncomputable def A8(X:Cx)(t:wc):Prop:=
 ∀(a:List<|Addr×Obj) (s:Shared) (c:St) (H:Hp) (o i v:V) (e d u:ah) (Q:Hp->Prop),Inv X a c H s->RelV o e->RelV i d->RelV v u->t o i v H Q->
  wpAny (model X.prog X.w) X.A (setItem e d u) (λ_ f=>∃b,Inv X a c b f/\Q b) X.xe s
section
variable{X:Cx}{pos:Pos}
noncomputable def ay(i:Nat):TG:=λv a H Q=>Q (a.set i<|aa v) H
def zf{i:Nat}{x:Str}(e:X.N.Nodup)(f:X.N[i]? =aa x)(b:Loc X.env.scope x)(c:X.fn x=af\/X.env.scope.names.lookup x=aa .local:=by first|exact .inl rfl|exact .inr rfl|assumption):PG X (.Name x pos) (ay i):=by intro a s j H v u Q I r h;exact wpAny_assign_Name<|uE I e f b r (λg d=>⟨_,H,d,h⟩) c
noncomputable def MO:mf:=λa b H Q=>a=[]/\Q b H
noncomputable def LH(t:TG)(u:mf):mf:=λd c H Q=>∃v r,d=v::r/\t v c H λa b=>u r a b Q
def Ha:pW X [] MO:=by intro a s b H d c Q I r h;obtain⟨e,h⟩:=h;subst e;cases r;exact assignInOrder_nil ⟨b,H,I,h⟩
def E8{e:Expr}{b:List Expr}{t:TG}{u:mf}(o:PG X e t)(l:pW X b u)(k:(assignEach (e::b) X.env).map (·.2)=assign e X.env::(assignEach b X.env).map (·.2):=by rfl):pW X (e::b) (LH t u):=by
 intro a s n H q p Q I r h;obtain⟨v,w,i,h⟩:=h;subst i;cases r with
 |cons r d=>
  rw[k];refine assignInOrder_cons<|aN (o a s n H _ _ _ I r h) λ_ g ⟨c,m,f,j⟩=>?_
  exact l a g c m _ _ Q f d j
noncomputable def cB(K:PySem.W.Frag)(n:Nat)(t:mf):TG:=λv c H Q=>∃a b,v=.ref a/\dA K H a b/\b.length=n/\t b c H Q
def Jw{d:List Expr}{k:Nat}{t:mf}{n:Nat}(w:X.calm=af)(h:pW X d t)(z:(assignEach d X.env).length=n:=by rfl)(f:(assignEach d X.env).findIdx? (·.1)=ae:=by rfl):PG X (.Tuple d k pos) (cB X.K n t):=by
 intro c s l H v u Q I r g;obtain⟨a,m,D,p,A,g⟩:=g;subst D;cases r;obtain⟨B,i,x,E⟩:=I.tuple p;refine assign_Tuple_tuple (I.ok.hd w) x (by simp[z,<-A,i.length]) f λC y=>?_
 have q:Inv X c l H {s with heap:=C}:=I.kept (t':=s.toks) λb o e=>y b o (UB<|Ui e) e
 exact h c _ l H m _ Q q (by simpa using i) g
noncomputable def js(d c:TE)(t:wc):TG:=λv a H Q=>d a H λo b=>c a b λi f=>t o i v f λe=>Q a e
def Jx{o i:Expr}{e f:TE}{t:wc}(z:PE X o e)(p:PE X i f)(w:A8 X t)(F:∀v,assign (.Subscript o i pos) X.env v=(do
  let b<-holding [v] (eval o X.env)
  let c<-holding [v,b] (eval i X.env)
  standAt pos
  holding [v,b,c] (setItem b c v)
  release [v,b,c] []):=by intro _;rfl):PG X (.Subscript o i pos) (js e f t):=by
 intro a s d H v u Q I r h;rw[F];refine T3<|Vl<|aN (z a s d H _ I h) λb n ⟨x,B,j,l,q⟩=>?_
 refine T3<|Vl<|aN (p a n d B _ j q) λc G ⟨y,k,g,C,m⟩=>?_
 refine T3<|wpAny_standAt<|T3<|Vl<|aN (w a G d k x y v b c u _ g l C r m) λ_ J ⟨E,A,D⟩=>?_
 exact wpAny_release ⟨d,E,A,D⟩
noncomputable def A9(c:TE)(g:TG):TS:=λD a H=>c a H λx b=>g x a b D.nx
def Jy{b e:Expr}{c:TE}{g:TG}(f:PE X e c)(p:PG X b g)(m:swapsWithSole [b] e pos.line X.env=pure ag:=by rfl)(n:swappedStores [b] e X.env=pure ae:=by rfl)(r:(assignEach [b] X.env).map (·.2)=[assign b X.env]:=by rfl):PS X (.Assign [b] e pos) (A9 c g):=by intro a s d H D I h;refine wpAny_Assign_stores (aN (f a s d H _ I h) λv k ⟨x,o,i,j,l⟩=>?_) m n;rw[r];exact aN (p a k d o x v _ i j l) λ_ t q=>q
def z_{i:Nat}{x:Str}{e:Expr}{c:TE}{a:Pos}(p:X.N.Nodup)(m:X.N[i]? =aa x)(k:Loc X.env.scope x)(f:PE X e c)(o:swapsWith e (aa<|.Name x a) pos.line X.env=pure ag:=by rfl)(g:X.fn x=af\/X.env.scope.names.lookup x=aa .local:=by first|exact .inl rfl|exact .inr rfl|assumption):
 PS X (.Assign [.Name x a] e pos) (A9 c<|ay i):=by
 intro b s r H D I h;refine wpAny_Assign_Name (aN (f b s r H _ I h) λv t ⟨y,q,j,l,n⟩=>?_) o;exact uE j p m k l (λu d=>⟨_,q,d,n⟩) g
end
section
variable{X:Cx}{pos:Pos}
noncomputable def Jz(c:TT)(h:TS):TS:=λD a H=>∃W:Nat->St->Hp->Prop,(∃m,W m a H)/\∀m a H,W m a H->
 c a H λb f=>if b=af then∃N:St->Hp->Prop,(∀d e,N d e->∃g,g<m/\W g d e)/\h {D with nx:=N,ct:=N,bk:=D.nx} a f else D.nx a f
def E9{c:Expr}{e:List Stmt}{y:TT}{C:TS}(z:PassesOwn (model X.prog X.w) X.A X.env X.xe)(G:PT X c y)(J:fy X e C):PS X (.While c e [] pos) (Jz y C):=by
 intro a s M H D I h;obtain⟨W,⟨L,E⟩,i⟩:=h;refine wpAny_While<|codeAny_whileLoop (λn F=>∃g t,Inv X a g t F/\W n g t) ?_ L ⟨M,H,I,E⟩;rintro n K ⟨bN,H1,I1,w1⟩;refine VA z<|aN (G a K bN H1 _ I1<|i n bN H1 w1) λb O ⟨x,u,k⟩=>?_
 cases b with
 |true=>
  obtain⟨N,B,k⟩:=k;rw[T1 rfl];refine VA z<|aN (J a O bN x _ u k) λf P l=>?_
  cases f with
  |next=>obtain⟨d,j,r,o⟩:=l;obtain⟨p,q,m⟩:=B d j o;exact⟨p,q,d,j,r,m⟩
  |cont=>obtain⟨d,j,r,o⟩:=l;obtain⟨p,q,m⟩:=B d j o;exact⟨p,q,d,j,r,m⟩
  |brk=>exact l
  |ret v=>exact l
 |false=>rw[T2 Uk];exact VP ⟨bN,x,u,k⟩
end
structure It where
 go:Nat->Hp->Prop
 jz:Nat->Hp->V->Hp->Prop
 stop:Nat->Hp->Prop
noncomputable def eW(X:Cx)(pins:List<|Addr×Obj)(H:Hp)(b:Addr):Prop:=
 H b=ae/\b≠X.env.locals/\b∉X.fs/\(b∈X.ex\/X.c7.heap.objs.size<=b)/\(∀x c,X.env.cells.lookup x=aa c->c≠b)/\∀p∈X.pn++pins,p.1≠b
def Inv.kD{X:Cx}{pins:List (Addr×Obj)}{σ:St}{H d:Hp}{s:Shared}{b:Addr}(I:Inv X pins σ H s)(a:s.heap.objs.size<=b)(f:d b=ae):eW X pins d b:=by
 refine⟨f,VQ<|Um I.lt a,I.rM a,.inr<|Ug I.sz a,λx c e z=>?_,λp g z=>?_⟩
 ·obtain⟨v,q⟩:=I.cell x c e;exact absurd (Um q.lt (by rw[z];exact a))<|UY _
 ·exact absurd (Um (Ui (I.pin p g).1) (by rw[z];exact a))<|UY _
structure Turn(P:Program)(w:World)(K:PySem.W.Frag)(tg:Expr)(J:It)(fp:List Addr)(it:Addr)(tn:Nat->Heap->Prop):Prop where
 mem:it∈fp
 obj:∀i h,tn i h->∀b∈fp,∃o,h.get? b=aa o/\∀v,o.data≠.cell v
 keep:∀i h h',tn i h->(∀b∈fp,∀o,h.get? b=aa o->h'.get? b=aa o)->tn i h'
 item:∀(X:Cx),X.prog=P->X.w=w->X.K=K->X.calm=af->∀(i:Nat) (pins:List<|Addr×Obj) (s:Shared) (σ:St) (H:Hp) (E:ah->Shared->Prop),Inv X pins σ H s->(∀b∈fp,eW X pins H b)->tn i s.heap->J.go i H->
  wpAny (model P w) X.A (pyNext<|.ref it) (λr s1=>∃u,r=aa u/\
   wpAny (model P w) X.A (letOwnedTupleGo tg (.ref it) u) (λ_ s2=>∃x H',Inv X pins σ H' s2/\RelV x u/\J.jz i H x H'/\tn (i+1) s2.heap/\∀b∈fp,H' b=ae) E s1) E s
 done:∀(X:Cx),X.prog=P->X.w=w->X.K=K->X.calm=af->∀(i:Nat) (pins:List<|Addr×Obj) (s:Shared) (σ:St) (H:Hp) (E:ah->Shared->Prop),Inv X pins σ H s->(∀b∈fp,eW X pins H b)->tn i s.heap->J.stop i H->
  wpAny (model P w) X.A (pyNext<|.ref it) (λr s1=>r=ae/\Inv X pins σ H s1) E s
 self:∀(A:Around) (i:Nat) (s:Shared) (Q:ah->Shared->Prop) (E:ah->Shared->Prop),tn i s.heap->Q (.ref it) s->wpAny (model P w) A (pyIter<|.ref it) Q E s
noncomputable abbrev TI:=St->Hp->(It->Hp->Prop)->Prop
noncomputable def Br(X:Cx)(pins:List<|Addr×Obj)(σ:St)(h:Expr)(R:It->Hp->Prop)(c:ah)(f:Shared):Prop:=
 ∃(d:Addr) (e:List Addr) (g:Nat->Heap->Prop) (J:It) (a:Hp),c=.ref d/\Inv X pins σ a f/\Turn X.prog X.w X.K h J e d g/\g 0 f.heap/\(∀b∈e,eW X pins a b)/\R J a
noncomputable def PI(X:Cx)(f b:Expr)(e:TI):Prop:=
 ∀(a:List<|Addr×Obj) (s:Shared) (c:St) (H:Hp) (R:It->Hp->Prop),Inv X a c H s->e c H R->
  wpAny (model X.prog X.w) X.A (eval b X.env) (λv d=>wpAny (model X.prog X.w) X.A (pyIter v) (Br X a c f R) X.xe d) X.xe s
def vL{M:Model}{A:Around}{E:ah->Shared->Prop}{s:Shared}{b:Expr}{it:Addr}{u:ah}{o:Obj}{n:String}{vs:Array ah}{Q:Unit->Shared->Prop}(f:s.heap.get? it=aa o)(d:o.cls=.type n)(c:o.data=.fields vs)(e:["enumerate","zip","dict_itemiterator","dict_reverseitemiterator","odict_iterator","itertools.zip_longest","itertools.pairwise"].contains n=ag)(a:Q () s):wpAny M A (letOwnedTupleGo b (.ref it) u) Q E s:=by
 unfold letOwnedTupleGo;cases b<;>first
  |exact Uj a
  |(cases u<;>first
   |exact Uj a
   |(refine T3 (wpAny_load f ?_)
     rw[d,c];show wpAny M A (if(["enumerate","zip","dict_itemiterator","dict_reverseitemiterator","odict_iterator","itertools.zip_longest","itertools.pairwise"].contains n&&vs[0]? ==aa (rawInt _))=af then _ else _) Q E s;rw[T2 (by intro h;rw[e,VR] at h;cases h)];exact Uj a))
noncomputable def wA(K:PySem.W.Frag)(a:Addr):It:=
 ⟨λi H=>∃b x,bg K H a b/\b[i]? =aa x,λi H x c=>c=H/\∀b,bg K H a b->b[i]? =aa x,λi H=>∃b,bg K H a b/\b.length<=i⟩
noncomputable def wC(K:PySem.W.Frag)(a:Addr):It:=
 ⟨λi H=>∃b x,dA K H a b/\b[i]? =aa x,λi H x c=>c=H/\∀b,dA K H a b->b[i]? =aa x,λi H=>∃b,dA K H a b/\b.length<=i⟩
noncomputable def pX(lo:Int)(n:Nat):It:=⟨λi _=>i<n,λi H x a=>a=H/\x=.int (lo+i),λi _=>n<=i⟩
def DL{P:Program}{w:World}{K:PySem.W.Frag}{tg:Expr}(a it:Addr):Turn P w K tg (wA K a) [it] it (λi h=>h.IsListIter it a i) where
 mem:=by simp
 obj:=λi h f b j=>by
  have e:b=it:=by simpa using j
  subst e;obtain⟨o,e,c,d⟩:=f;exact⟨o,e,λv z=>by rw[d] at z;cases z⟩
 keep:=λi h r f k=>f.at λo e=>k it (by simp) o e
 item:=by
  intro X L M A O i g s Q H E I q f N;subst L M A;obtain⟨R,x,n,C⟩:=N;obtain⟨G,y,p,U⟩:=I.list n;obtain⟨u,hu,Y⟩:=y.get C;obtain⟨D,J,Z,t,B,F⟩:=q it<|by simp
  refine wpAny_pyNext_list_item f p.isList (x:=u) (by simpa using hu) λr l sb=>?_
  have S:Inv X g Q H {s with heap:=r}:=I.turned (t':=s.toks) (λb o j e=>(sb.2 b j).trans e) D J t B F;obtain⟨o,e,c,d⟩:=id l;exact⟨u,rfl,vL (s:={s with heap:=r}) e c d (by decide) ⟨x,H,S,Y,⟨rfl,λys V=>by rw[I.qG V n];exact C⟩,l,λb j=>(q b j).1⟩⟩
 done:=by
  intro X L M A O i g s Q H E I q f N;subst L M A;obtain⟨R,n,C⟩:=N;obtain⟨G,y,p,U⟩:=I.list n;obtain⟨D,J,Z,t,B,F⟩:=q it<|by simp
  have hl:=y.length;exact wpAny_pyNext_list_end (I.ok.hd O) f p.isList (by simp;omega) λr T=>⟨rfl,I.turned (t':=s.toks) (λb o j e=>T b o j e) D J t B F⟩
 self:=λ_ _ _ _ _ f h=>wpAny_pyIter_listiter f h
def CV{P:Program}{w:World}{K:PySem.W.Frag}{tg:Expr}(a it:Addr):Turn P w K tg (wC K a) [it] it (λi h=>h.IsTupleIter it a i) where
 mem:=by simp
 obj:=λi h f b j=>by
  have e:b=it:=by simpa using j
  subst e;obtain⟨o,e,c,d⟩:=f;exact⟨o,e,λv z=>by rw[d] at z;cases z⟩
 keep:=λi h t f k=>f.at λo e=>k it (by simp) o e
 item:=by
  intro X L M B O i g s Q H E I r f N;subst L M B;obtain⟨R,x,q,D⟩:=N;obtain⟨l,A,p,U⟩:=I.tuple q;obtain⟨u,hu,Y⟩:=A.get D;obtain⟨F,J,Z,y,C,G⟩:=r it<|by simp
  refine wpAny_pyNext_tuple_item f (show s.heap.IsTuple a l.toArray from p) (x:=u) (by simpa using hu) λt m sb=>?_
  have S:Inv X g Q H {s with heap:=t}:=I.turned (t':=s.toks) (λb o j e=>(sb.2 b j).trans e) F J y C G;obtain⟨o,e,c,d⟩:=id m;exact⟨u,rfl,vL (s:={s with heap:=t}) e c d (by decide) ⟨x,H,S,Y,⟨rfl,λys V=>by rw[I.DK V q];exact D⟩,m,λb j=>(r b j).1⟩⟩
 done:=by
  intro X L M B O i g s Q H E I r f N;subst L M B;obtain⟨R,q,D⟩:=N;obtain⟨l,A,p,U⟩:=I.tuple q;obtain⟨F,J,Z,y,C,G⟩:=r it<|by simp
  have hl:=A.length;exact wpAny_pyNext_tuple_end (I.ok.hd O) f (show s.heap.IsTuple a l.toArray from p) (by simp;omega) λt T=>⟨rfl,I.turned (t':=s.toks) (λb o j e=>T b o j e) F J y C G⟩
 self:=λ_ _ _ _ _ f h=>wpAny_pyIter_tupleiter f h
def CW{P:Program}{w:World}{K:PySem.W.Frag}{O:Expr}(it:Addr)(lo:Int)(n:Nat):Turn P w K O (pX lo n) [it] it (λi h=>IsRangeIter h it (lo+(i:Nat)*1) ((n:Int)-(i:Nat)) 1) where
 mem:=by simp
 obj:=λi h a b d=>by
  have e:b=it:=by simpa using d
  subst e;exact⟨_,a,λv z=>by have G:Data.fields _=Data.cell v:=z;cases G⟩
 keep:=λi h l a k=>k it (by simp) _ a
 item:=by
  intro X A B p q i c s F H E I j a C;subst A B p;obtain⟨u,y,N,m,r,x⟩:=j it<|by simp
  have W:=Walks.range (prog:=X.prog) (w:=X.w) (I.ok.hd q) it lo 1 n;refine W.item i s _ _ C a λv l D Q f M=>?_
  obtain⟨t,rfl⟩:=Q;have J:Inv X c F H {s with heap:=l,toks:=D}:=I.turned (λb o d e=>M b o (by simpa using d) e) u y m r x;refine⟨_,rfl,vL (s:={s with heap:=l,toks:=D}) (n:="range_iterator") f rfl rfl (by decide) ⟨.int<|lo+i,H,J,⟨t,?_⟩,⟨rfl,rfl⟩,f,λb d=>(j b d).1⟩⟩;rw[Int.mul_one]
 done:=by
  intro X A B p q i c s F H E I j a C;subst A B p;obtain⟨u,y,N,m,r,x⟩:=j it<|by simp
  exact wpAny_pyNext_range_end (I.ok.hd q) a (by have:n<=i:=C;omega) λl L=>⟨rfl,I.turned (t':=s.toks) (λb o d e=>L b o d e) u y m r x⟩
 self:=λ_ _ _ _ _ a h=>wpAny_pyIter_rangeiter a h
section
variable{X:Cx}{tg:Expr}
noncomputable def LI(K:PySem.W.Frag)(c:TE):TI:=λe H R=>c e H λx b=>∃a,x=.ref a/\(∃d,bg K b a d)/\R (wA K a) b
noncomputable def MP(K:PySem.W.Frag)(c:TE):TI:=λe H R=>c e H λx b=>∃a,x=.ref a/\(∃d,dA K b a d)/\R (wC K a) b
def Hb{l:Expr}{g:TE}(m:PE X l g):PI X tg l (LI X.K g):=by
 intro c s u H R I h;refine aN (m c s u H _ I h) λv f ⟨x,t,d,k,r⟩=>?_
 obtain⟨a,e,⟨w,i⟩,q⟩:=r;subst e;cases k;obtain⟨n,y,p,z⟩:=d.list i;refine wpAny_pyIter_list p.isList ?_;refine⟨f.heap.objs.size,[f.heap.objs.size],_,_,t,rfl,d.kept (t':=f.toks) λb o e=>Uw _ e,DL a _,⟨_,UR _ rfl,rfl,rfl⟩,λb j=>?_,q⟩;have e:b=f.heap.objs.size:=by simpa using j
 subst e;exact d.kD (T8 _)<|d.aF.fresh<|T8 _
def JA{l:Expr}{i:TE}(n:PE X l i):PI X tg l (MP X.K i):=by
 intro c s u H R I h;refine aN (n c s u H _ I h) λv d ⟨x,t,f,m,r⟩=>?_
 obtain⟨a,e,⟨w,j⟩,q⟩:=r;subst e;cases m;obtain⟨g,y,p,z⟩:=f.tuple j;refine wpAny_pyIter_tuple (show d.heap.IsTuple a g.toArray from p) ?_;refine⟨d.heap.objs.size,[d.heap.objs.size],_,_,t,rfl,f.kept (t':=d.toks) λb o e=>Uw _ e,CV a _,⟨_,UR _ rfl,rfl,rfl⟩,λb k=>?_,q⟩;have e:b=d.heap.objs.size:=by simpa using k
 subst e;exact f.kD (T8 _)<|f.aF.fresh<|T8 _
def yt{pins:List (Addr×Obj)}{σ:St}{H:Hp}{s:Shared}{R:It->Hp->Prop}{E:ah->Shared->Prop}{lo a:Int}{t u v:Tok}{tk:Nat}(I:Inv X pins σ H s)(j: -(2 ^ 62)<=lo)(f:lo<2 ^ 62)(h3: -(2 ^ 62)<=a)(d:a<2 ^ 62)(q:R (pX lo (a-lo).toNat) H):wpAny (model X.prog X.w) X.A (pyIter<|.ref s.heap.objs.size) (Br X pins σ tg R) E {s with heap:=s.heap.push {cls:=.type "range",data:=.fields #[.int lo t,.int a u,.int 1 v]},toks:=tk}:=by
 refine wpAny_pyIter_range (IsRange.new ..) (small_one j f h3 d) ?_;have c:Inv X pins σ H {s with heap:=s.heap.push {cls:=.type "range",data:=.fields #[.int lo t,.int a u,.int 1 v]},toks:=tk}:=I.kept λb o e=>Uw _ e
 refine⟨(s.heap.push {cls:=.type "range",data:=.fields #[.int lo t,.int a u,.int 1 v]}).objs.size,[(s.heap.push {cls:=.type "range",data:=.fields #[.int lo t,.int a u,.int 1 v]}).objs.size],_,_,H,rfl,
  c.kept (t':=tk) λb o e=>Uw _ e,CW _ lo (a-lo).toNat,?_,λb h=>?_,q⟩
 ·have i:lo+((0:Nat):Int)*1=lo:=by simp
  have g:(((a-lo).toNat:Nat):Int)-((0:Nat):Int)=Builtin.Range.rangeSize lo a 1:=by rw[rangeSize_one];split<;>omega
  show IsRangeIter _ _ (lo+((0:Nat):Int)*1) ((((a-lo).toNat:Nat):Int)-((0:Nat):Int)) 1;rw[i,g];exact UR _ rfl
 ·have e:b=(s.heap.push {cls:=.type "range",data:=.fields #[.int lo t,.int a u,.int 1 v]}).objs.size:=by simpa using h
  subst e;exact c.kD (T8 _)<|c.aF.fresh<|T8 _
noncomputable def cQ(d:TA):TI:=λb H R=>d b H λc a=>∃j:Int,c=[.int j]/\ -(2 ^ 62)<=j/\j<2 ^ 62/\R (pX 0 j.toNat) a
noncomputable def f7(d:TA):TI:=λb H R=>d b H λc a=>∃i j:Int,c=[.int i,.int j]/\(-(2 ^ 62)<=i/\i<2 ^ 62/\ -(2 ^ 62)<=j/\j<2 ^ 62)/\R (pX i (j-i).toNat) a
def DM{a:Expr}{d:TA}{p pos:Pos}(o:Gl X "range")(m:X.mg "range"=ae)(u:PA X [a] d)(l:starEach [a] X.env=[(ag,eval a X.env)]:=by rfl):PI X tg (.Call (.Name "range" p) [a] [] pos) (cQ d):=by
 intro b s n H R I h;refine Call_<|j9 I o m boot_range<|V3 (aN (u pos b s n H _ I h) λv w ⟨x,y,g,i,c⟩=>?_) l rfl;obtain⟨j,e,c,k,q⟩:=c;subst e;cases i with
 |cons r f=>cases f;obtain⟨t,rfl⟩:=r;exact call_range_1<|yt g (by omega) (by omega) c k<|by simpa using q
def DN{a b:Expr}{k:TA}{p pos:Pos}(z:Gl X "range")(v:X.mg "range"=ae)(A:PA X [a,b] k)(u:starEach [a,b] X.env=[(ag,eval a X.env),(ag,eval b X.env)]:=by rfl)(d:starEach [b] X.env=[(ag,eval b X.env)]:=by rfl):
 PI X tg (.Call (.Name "range" p) [a,b] [] pos) (f7 k):=by
 intro c s x H R I h;refine Call_<|j9 I z v boot_range<|V3 (aN (A pos c s x H _ I h) λB C ⟨D,E,l,n,g⟩=>?_) (by rw[u,d]) (by rw[d];rfl);obtain⟨i,j,e,⟨g,o,w,y⟩,q⟩:=g;subst e;cases n with
 |cons r f=>
  cases f with
  |cons m f=>cases f;obtain⟨t,rfl⟩:=r;obtain⟨F,rfl⟩:=m;exact call_range_2<|yt l g o w y q
noncomputable def A_(h:TI)(g:TG)(j:TS):TS:=λD a H=>h a H λJ f=>∃W:Nat->Nat->St->Hp->Prop,(∃m,W 0 m a f)/\∀i m a H,W i m a H-> (J.stop i H/\D.nx a H)\/(J.go i H/\∃N:St->Hp->Prop,(∀b c,N b c->∃e,e<m/\W (i+1) e b c)/\∀x c,J.jz i H x c->g x a c λd k=>j {D with nx:=N,ct:=N,bk:=D.nx} d k)
noncomputable def j_(a:List Addr)(h:Heap):List (Addr×Obj):=a.filterMap λb=>(h.get? b).map λo=>(b,o)
def qp{a:List Addr}{h:Heap}{b:Addr}{o:Obj}(c:b∈a)(e:h.get? b=aa o):(b,o)∈j_ a h:=U8.mpr ⟨b,c,by rw[e];rfl⟩
def xO{a:List Addr}{h:Heap}{p:Addr×Obj}(f:p∈j_ a h):p.1∈a/\h.get? p.1=aa p.2:=by
 obtain⟨b,d,e⟩:=U8.mp f;cases q:h.get? b with
 |none=>rw[q] at e;cases e
 |some o=>rw[q] at e;have c:(b,o)=p:=Ua e;subst c;exact⟨d,q⟩
def Inv.pinned{pins:List (Addr×Obj)}{σ:St}{H:Hp}{s:Shared}{a:List Addr}(I:Inv X pins σ H s)(j:∀b∈a,eW X pins H b)(i:∀b∈a,∃o,s.heap.get? b=aa o/\∀v,o.data≠.cell v):Inv X (pins++j_ a s.heap) σ H s:=
 I.j0 λp k=>(Vb.mp k).elim (λz=>I.pin p<|Uu _ z) λz=>by obtain⟨f,e⟩:=xO z;obtain⟨l,g,h,_⟩:=j p.1 f;obtain⟨o,c,d⟩:=i p.1 f;rw[e] at c;cases c;exact⟨e,l,g,h,d⟩
def Inv.oy{pins pl:List (Addr×Obj)}{σ:St}{H:Hp}{s:Shared}(I:Inv X (pins++pl) σ H s):Inv X pins σ H s:=I.j0 λp a=>I.pin p<|Uu _<|Xu _ a
def vn{p:Expr}{E:List Stmt}{wi:TI}{g:TG}{tb:TS}{pos:Pos}(G:PassesOwn (model X.prog X.w) X.A X.env X.xe)(hc:X.calm=af)(hi:PI X tg p wi)(hg:PG X tg g)(l:fy X E tb)(hs:∀x,foldedSetIterable p X.env x=pure x:=by intro _;rfl):PS X (.For tg p E [] pos) (A_ wi g tb):=by
 intro a s σ H D I h;refine wpAny_For (aN (hi a s σ H _ I h) λv s1 h1=>aN h1 λBt s2 h2=>?_) hs;obtain⟨it,M,Y,J,H2,e,I2,T,Q,f2,W,⟨m0,w0⟩,K⟩:=h2;subst e;have y:∀{B:Hp},(∀b∈M,B b=ae)->∀b∈M,eW X a B b:=λhn b l=>⟨hn b l,(f2 b l).2⟩
 refine codeAny_forLoop_any (λn s'=>∃i t B,Inv X a t B s'/\Y i s'.heap/\(∀b∈M,B b=ae)/\W i n t B) ?_ m0 ⟨0,σ,H2,I2,Q,λb l=>(f2 b l).1,w0⟩;rintro n s3 ⟨i,z,O,Z,wD,F,w3⟩;rcases K i n z O w3 with⟨stop,qn⟩|⟨go,N,hN,step⟩
 ·refine VA G (aN (T.done X rfl rfl rfl hc i a s3 z O X.xe Z (y F) wD stop) λr s4 ⟨V,I4⟩=>?_);subst V;exact VP ⟨z,O,I4,qn⟩
 ·refine VA G (aN (T.item X rfl rfl rfl hc i a s3 z O X.xe Z (y F) wD go) λr s4 ⟨u,V,h4⟩=>?_);subst V;refine VA G<|aN h4 λ_ s5 ⟨x,H5,I5,r5,y5,cT,P⟩=>?_
  have U:=I5.pinned (y P)<|T.obj _ _ cT;refine VA G<|aN (hg _ s5 z H5 x u _ U r5<|step x H5 y5) λ_ s6 ⟨S,H6,I6,q6⟩=>?_
  refine VA G<|aN (l _ s6 S H6 _ I6 q6) λf R C=>?_
  have q:∀{c:St} {j:Hp},Inv X (a++j_ M s5.heap) c j R->N c j->∃m,m<n/\∃i t B,Inv X a t B R/\Y i R.heap/\(∀b∈M,B b=ae)/\W i m t B:=λ{c j} k L=>by obtain⟨m',hm,w7⟩:=hN c j L;refine⟨m',hm,i+1,c,j,k.oy,T.keep _ _ _ cT λb l o e=>(k.pin (b,o)<|Uu _<|Uu _<|qp l e).1,λb l=>?_,w7⟩;obtain⟨o,e,d⟩:=T.obj _ _ cT b l;exact(k.pin (b,o)<|Uu _<|Uu _<|qp l e).2.1
  cases f with
  |next=>obtain⟨c,j,k,L⟩:=C;exact q k L
  |cont=>obtain⟨c,j,k,L⟩:=C;exact q k L
  |brk=>obtain⟨c,j,k,C⟩:=C;exact⟨c,j,k.oy,C⟩
  |ret v=>obtain⟨x7,c,j,k,r7,C⟩:=C;exact⟨x7,c,j,k.oy,r7,C⟩
end
noncomputable abbrev R2:=V->V->Hp->VK->Prop
noncomputable def bO(X:Cx)(f:ah->ah->Sem ah)(r:R2):Prop:=
 ∀(a:List<|Addr×Obj) (s:Shared) (b:St) (H:Hp) (x y:V) (v u:ah) (Q:VK),Inv X a b H s->RelV x v->RelV y u->r x y H Q->
  wpAny (model X.prog X.w) X.A (f v u) (EP X a b Q) X.xe s
noncomputable def wF(X:Cx)(f:ah->Sem ah)(r:V->Hp->VK->Prop):Prop:=
 ∀(a:List<|Addr×Obj) (s:Shared) (b:St) (H:Hp) (x:V) (v:ah) (Q:VK),Inv X a b H s->RelV x v->r x H Q->
  wpAny (model X.prog X.w) X.A (f v) (EP X a b Q) X.xe s
noncomputable def f9(X:Cx)(f:ah)(r:List V->Hp->VK->Prop):Prop:=
 ∀(a:List<|Addr×Obj) (s:Shared) (d:St) (H:Hp) (c:List V) (b:List ah) (Q:VK),Inv X a d H s->Vals c b->r c H Q->
  wpAny (model X.prog X.w) X.A (call f b) (EP X a d Q) X.xe s
noncomputable def r8(r:R2)(d c:TE):TE:=λa H Q=>d a H λx b=>c a b λy e=>r x y e Q
noncomputable def NN(r:V->Hp->VK->Prop)(c:TE):TE:=λb H Q=>c b H λx a=>r x a Q
noncomputable def rI(C:Int->Int->Prop)(g:Int->Int->V):R2:=λx y H Q=>∃i j,x=.int i/\y=.int j/\C i j/\Q (g i j) H
noncomputable def jA(g:Int->Int->V):R2:=λx y H Q=>∃i j,x=.int i/\y=.int j/\Q (g i j) H
noncomputable def rU(g:Int->V):V->Hp->VK->Prop:=λx H Q=>∃i,x=.int i/\Q (g i) H
section
variable{X:Cx}{a b c:Expr}{ta tb tc:TE}{pos:Pos}
def wd(l:PE X a ta)(m:PE X b tb){pins:List (Addr×Obj)}{s:Shared}{σ:St}{H:Hp}{R:V->V->Hp->Prop}(I:Inv X pins σ H s)(h:ta σ H λx j=>tb σ j λy d=>R x y d){Q:ah->Shared->Prop}{f:ah->ah->Sem ah}(hf:∀v u i x y d,Inv X pins σ d i->RelV x v->RelV y u->R x y d->wpAny (model X.prog X.w) X.A (f v u) Q X.xe i):
 wpAny (model X.prog X.w) X.A (eval a X.env) (λv e=>wpAny (model X.prog X.w) X.A (eval b X.env) (λu g=>wpAny (model X.prog X.w) X.A (f v u) Q X.xe g) X.xe e) X.xe s:=by
 refine aN (l pins s σ H _ I h) λv r ⟨x,j,t,n,o⟩=>?_
 refine aN (m pins r σ j _ t o) λu i ⟨y,d,p,k,q⟩=>?_
 exact hf v u i x y d p n k q
def LJ{op:Operator}{r:R2}(k:bO X (binaryOp op) r)(m:PE X a ta)(g:PE X b tb):PE X (.BinOp a op b pos) (r8 r ta tb):=by intro d s l H Q I h;exact wpAny_BinOp<|wd m g I h λv u n x y f e j i q=>k d n l f x y v u Q e j i q
def LK{op:UnaryOp}{r:V->Hp->VK->Prop}(k:wF X (unaryOp op) r)(m:PE X a ta):PE X (.UnaryOp op a pos) (NN r ta):=by intro d s e H Q I h;exact UnaryOp_<|aN (m d s e H _ I h) λv f ⟨x,g,l,i,j⟩=>k d f e g x v Q l i j
def r9{f:ah->ah->Sem ah}{C:Int->Int->Prop}{g:Int->Int->Int}(rule:∀(i j:Int) (t u:Tok) (s:Shared) (Q:ah->Shared->Prop) (E:ah->Shared->Prop),C i j->Q (.int (g i j) s.toks) {s with toks:=s.toks+1}->wpAny (model X.prog X.w) X.A (f (.int i t)<|.int j u) Q E s):
 bO X f (rI C λi j=>.int<|g i j):=by
 intro d s n H x y v u Q I m l h;obtain⟨i,j,rfl,rfl,e,q⟩:=h;obtain⟨t,rfl⟩:=m;obtain⟨k,rfl⟩:=l;exact rule i j t k s _ _ e ⟨.int<|g i j,H,I.tok _,⟨_,rfl⟩,q⟩
def Ba{f:ah->ah->Sem ah}{g:Int->Int->Int}(rule:∀(i j:Int) (t u:Tok) (s:Shared) (Q:ah->Shared->Prop) (E:ah->Shared->Prop),Q (.int (g i j) s.toks) {s with toks:=s.toks+1}->wpAny (model X.prog X.w) X.A (f (.int i t)<|.int j u) Q E s):
 bO X f (jA λi j=>.int<|g i j):=by
 intro d s m H x y v u Q I l k h;obtain⟨i,j,rfl,rfl,q⟩:=h;obtain⟨t,rfl⟩:=l;obtain⟨e,rfl⟩:=k;exact rule i j t e s _ _ ⟨.int<|g i j,H,I.tok _,⟨_,rfl⟩,q⟩
def rN{f:ah->ah->Sem ah}{g:Int->Int->Bool}(rule:∀(i j:Int) (t u:Tok) (s:Shared) (Q:ah->Shared->Prop) (E:ah->Shared->Prop),Q (.bool<|g i j) s->wpAny (model X.prog X.w) X.A (f (.int i t)<|.int j u) Q E s):
 bO X f (jA λi j=>.bl<|g i j):=by
 intro d s m H x y v u Q I l k h;obtain⟨i,j,rfl,rfl,q⟩:=h;obtain⟨t,rfl⟩:=l;obtain⟨e,rfl⟩:=k;exact rule i j t e s _ _ ⟨.bl<|g i j,H,I,rfl,q⟩
noncomputable def Bb(i j:Int):Prop:=0<j/\j<1073741824
noncomputable def Bc(i j:Int):Prop:=0<=j/\j<=1000000/\i.natAbs<2 ^ 64
noncomputable def rO(i j:Int):Prop:=(-(2 ^ 64)<i/\i<2 ^ 64)\/(-(2 ^ 64)<j/\j<2 ^ 64)
def rO.ok{i j:Int}(h:rO i j):IntMulOk i j:=by
 rcases h with⟨e,d⟩|⟨e,d⟩
 ·exact .of_left<|intBits_le_64 e d
 ·exact .of_right<|intBits_le_64 e d
def JB:bO X (binaryOp .Add) (jA λi j=>.int<|i+j):=Ba λ_ _ _ _ _ _ _ q=>add_int q
def JC:bO X (binaryOp .Sub) (jA λi j=>.int<|i-j):=Ba λ_ _ _ _ _ _ _ q=>sub_int q
def JD:bO X (binaryOp .Mult) (rI rO λi j=>.int<|i*j):=r9 λ_ _ _ _ _ _ _ d q=>mul_int q d.ok
def Hc:bO X (binaryOp .FloorDiv) (rI Bb λi j=>.int<|i / j):=r9 λi j _ _ _ _ _ d q=>by have e:(0:Int)<j:=d.1;have f:j<1073741824:=d.2;exact floordiv_int (by omega) (by rw[Int.fdiv_eq_ediv_of_nonneg i<|by omega];exact q)<|.inl<|PyProof.noPylong_small<|by omega
def JE:bO X (binaryOp .Mod) (rI (λ_ j=>0<j) λi j=>.int<|i % j):=r9 λi j _ _ _ _ _ d q=>by have e:(0:Int)<j:=d;exact mod_int' (by omega) (by rw[Int.fmod_eq_emod_of_nonneg i<|by omega];exact q)
def JF:bO X (binaryOp .Pow) (rI Bc λi j=>.int<|i ^ j.toNat):=r9 λ_ _ _ _ _ _ _ d q=>pow_int_small d.1 d.2.1 d.2.2 q
def NO{f:ah->Sem ah}{g:Int->Int}(rule:∀(i:Int) (t:Tok) (s:Shared) (Q:ah->Shared->Prop) (E:ah->Shared->Prop),Q (.int (g i) s.toks) {s with toks:=s.toks+1}->wpAny (model X.prog X.w) X.A (f<|.int i t) Q E s):
 wF X f (rU λi=>.int<|g i):=by
 intro d s j H x v Q I e h;obtain⟨i,rfl,q⟩:=h;obtain⟨t,rfl⟩:=e;exact rule i t s _ _ ⟨.int<|g i,H,I.tok _,⟨_,rfl⟩,q⟩
def JG:wF X (unaryOp .USub) (rU λi=>.int (-i)):=NO λ_ _ _ _ _ q=>neg_int q
end
noncomputable def dQ:V->V->Bool
 |.aw,.aw=>af|.aw,.int _=>af|.int _,.aw=>af|.aw,.bl _=>af|.bl _,.aw=>af|.aw,.str _=>af|.str _,.aw=>af
 |.int _,.int _=>af|.bl _,.bl _=>af|.str _,.str _=>af|.gj _,.gj _=>af
 |.int _,.str _=>af|.str _,.int _=>af|.bl _,.str _=>af|.str _,.bl _=>af
 |_,_=>ag
noncomputable def Bu:R2:=λx y H Q=>dQ x y=af/\Q (.bl<|ai<|x=y) H
noncomputable def Bv:R2:=λx y H Q=>dQ x y=af/\Q (.bl<|!ai (x=y)) H
def zg{i j:Int}:ai (V.int i=V.int j)=(i==j):=by rw[U3];simp
def Aa{i j:Bool}:ai (V.bl i=V.bl j)=(i==j):=by rw[U3];simp
def zh{i j:Str}:ai (V.str i=V.str j)=(i==j):=by rw[U3];simp
def zi{i j:Array UInt8}:ai (V.gj i=V.gj j)=(i.toList==j.toList):=by rw[U3];cases i;cases j;simp
section
variable{X:Cx}{a b c:Expr}{ta tb tc:TE}{pos:Pos}
def cp{pins:List (Addr×Obj)}{σ:St}{H:Hp}{s:Shared}{Q:VK}{k d:Bool}(I:Inv X pins σ H s)(q:Q (.bl k) H)(e:k=d):EP X pins σ Q (.bool d) s:=by subst e;exact⟨.bl k,H,I,rfl,q⟩
def LM:bO X (compareOp .Eq) Bu:=by
 intro k s l H x y v u Q I g d h;obtain⟨f,q⟩:=h;cases x with
 |aw=>
  cases g;cases y with
  |aw=>cases d;exact PySem.EqNone.eq_none_none<|cp I q<|by simp
  |bl j=>cases d;exact PySem.EqNone.eq_none_bool<|cp I q<|by simp
  |int j=>obtain⟨e,rfl⟩:=d;exact PySem.EqNone.eq_none_int<|cp I q<|by simp
  |str j=>obtain⟨e,rfl⟩:=d;exact PySem.EqNone.eq_none_str<|cp I q<|by simp
  |_=>exact absurd (show ag=af from f) Uk
 |bl i=>
  cases g;cases y with
  |aw=>cases d;exact PySem.EqNone.eq_bool_none<|cp I q<|by simp
  |bl j=>cases d;exact eq_bool<|cp I q Aa
  |str j=>obtain⟨e,rfl⟩:=d;exact PySem.EqMixed.eq_bool_str<|cp I q<|by simp
  |_=>exact absurd (show ag=af from f) Uk
 |int i=>
  obtain⟨t,rfl⟩:=g;cases y with
  |aw=>cases d;exact PySem.EqNone.eq_int_none<|cp I q<|by simp
  |int j=>obtain⟨e,rfl⟩:=d;exact eq_int<|cp I q zg
  |str j=>obtain⟨e,rfl⟩:=d;exact PySem.EqMixed.eq_int_str<|cp I q<|by simp
  |_=>exact absurd (show ag=af from f) Uk
 |str i=>
  obtain⟨t,rfl⟩:=g;cases y with
  |aw=>cases d;exact PySem.EqNone.eq_str_none<|cp I q<|by simp
  |bl j=>cases d;exact PySem.EqMixed.eq_str_bool<|cp I q<|by simp
  |int j=>obtain⟨e,rfl⟩:=d;exact PySem.EqMixed.eq_str_int<|cp I q<|by simp
  |str j=>obtain⟨e,rfl⟩:=d;exact eq_str<|cp I q zh
  |_=>exact absurd (show ag=af from f) Uk
 |gj i=>
  obtain⟨t,rfl⟩:=g;cases y with
  |gj j=>obtain⟨e,rfl⟩:=d;exact PySem.W.eq_bytes<|cp I q zi
  |_=>exact absurd (show ag=af from f) Uk
 |_=>cases y<;>exact absurd (show ag=af from f) Uk
def LN:bO X (compareOp .NotEq) Bv:=by
 intro k s l H x y v u Q I g d h;obtain⟨f,q⟩:=h;cases x with
 |aw=>
  cases g;cases y with
  |aw=>cases d;exact PySem.EqNone.ne_none_none<|cp I q<|by simp
  |bl j=>cases d;exact PySem.EqNone.ne_none_bool<|cp I q<|by simp
  |int j=>obtain⟨e,rfl⟩:=d;exact PySem.EqNone.ne_none_int<|cp I q<|by simp
  |str j=>obtain⟨e,rfl⟩:=d;exact PySem.EqNone.ne_none_str<|cp I q<|by simp
  |_=>exact absurd (show ag=af from f) Uk
 |bl i=>
  cases g;cases y with
  |aw=>cases d;exact PySem.EqNone.ne_bool_none<|cp I q<|by simp
  |bl j=>cases d;exact ne_bool<|cp I q<|UI not Aa
  |str j=>obtain⟨e,rfl⟩:=d;exact PySem.EqMixed.ne_bool_str<|cp I q<|by simp
  |_=>exact absurd (show ag=af from f) Uk
 |int i=>
  obtain⟨t,rfl⟩:=g;cases y with
  |aw=>cases d;exact PySem.EqNone.ne_int_none<|cp I q<|by simp
  |int j=>obtain⟨e,rfl⟩:=d;exact ne_int<|cp I q<|UI not zg
  |str j=>obtain⟨e,rfl⟩:=d;exact PySem.EqMixed.ne_int_str<|cp I q<|by simp
  |_=>exact absurd (show ag=af from f) Uk
 |str i=>
  obtain⟨t,rfl⟩:=g;cases y with
  |aw=>cases d;exact PySem.EqNone.ne_str_none<|cp I q<|by simp
  |bl j=>cases d;exact PySem.EqMixed.ne_str_bool<|cp I q<|by simp
  |int j=>obtain⟨e,rfl⟩:=d;exact PySem.EqMixed.ne_str_int<|cp I q<|by simp
  |str j=>obtain⟨e,rfl⟩:=d;exact ne_str<|cp I q<|UI not zh
  |_=>exact absurd (show ag=af from f) Uk
 |gj i=>
  obtain⟨t,rfl⟩:=g;cases y with
  |gj j=>obtain⟨e,rfl⟩:=d;exact PySem.W.ne_bytes<|cp I q<|UI not zi
  |_=>exact absurd (show ag=af from f) Uk
 |_=>cases y<;>exact absurd (show ag=af from f) Uk
def LP:bO X (compareOp .Lt) (jA λi j=>.bl<|ai<|i<j):=rN λ_ _ _ _ _ _ _ q=>lt_int q
def LQ:bO X (compareOp .LtE) (jA λi j=>.bl<|ai<|i<=j):=rN λ_ _ _ _ _ _ _ q=>le_int q
def LR:bO X (compareOp .Gt) (jA λi j=>.bl<|ai<|j<i):=rN λ_ _ _ _ _ _ _ q=>gt_int q
def LU:bO X (compareOp .GtE) (jA λi j=>.bl<|ai<|j<=i):=rN λ_ _ _ _ _ _ _ q=>ge_int q
noncomputable def isObj:HO->Bool
 |.lst _=>af
 |.ins _ _ _=>af
 |_=>ag
def qy{pins:List (Addr×Obj)}{s:Shared}{σ:St}{H:Hp}{a:Addr}{o:HO}(I:Inv X pins σ H s)(h:H a=aa o)(p:isObj o=af):∃f,s.heap.get? a=aa f/\f.cls≠.type "tuple":=by
 cases o with
 |lst xs=>obtain⟨_,d,n,_,e⟩:xs.length<=sizeLine/\∃(d:List ah) (n:Nat),Vals xs d/\s.heap.get? a=aa {cls:=.type "list",data:=.seq d.toArray n}:=I.aF a _ h;exact⟨_,e,(by show Value.type "list"≠.type "tuple";decide+kernel)⟩
 |ins C g i=>have x:=I.aF a _ h;obtain⟨_,_,_,e,_⟩:=x;exact⟨_,e,(by show Value.ref C≠.type "tuple";exactλz=>by cases z)⟩
 |_=>exact absurd (show ag=af from p) Uk
def bO.or{f:ah->ah->Sem ah}{r e:R2}(h:bO X f r)(h':bO X f e):bO X f (λx y H Q=>r x y H Q\/e x y H Q):=by
 intro d s g H x y v u Q I j i q;rcases q with q|q
 ·exact h d s g H x y v u Q I j i q
 ·exact h' d s g H x y v u Q I j i q
def zj{op:CmpOp}{r:R2}(k:bO X (compareOp op) r)(n:PE X a ta)(g:PE X b tb)(l:behindInMarks op b=ag):PE X (.Compare a [op] [b] pos) (r8 r ta tb):=by intro d s m H Q I h;exact wpAny_Compare1 (wd n g I h λv u o x y f e j i q=>k d o m f x y v u Q e j i q) l
noncomputable def LW(t:TE):TT:=λe H Q=>t e H λx d=>∃k,x=.bl k/\Q k d
def zk{op:CmpOp}{r:R2}(t:bO X (compareOp op) r)(F:PE X a ta)(m:PE X b tb)(w:behindInMarks op b=ag):PT X (.Compare a [op] [b] pos) (LW<|r8 r ta tb):=by
 intro d s f H Q I h;refine wpAny_isTrue_Compare1 (aN (F d s f H _ I h) λv p ⟨x,B,j,n,q⟩=>aN (m d p f B _ j q) λu G ⟨y,l,i,C,o⟩=>aN (t d G f l x y v u _ i n C o) λc J ⟨z,E,A,g,k,e,D⟩=>?_) w
 subst e;cases g;exact Vt ⟨E,A,D⟩
noncomputable def Ab(r f:R2)(ta tb tc:TE):TE:=λd H Q=>ta d H λx i=>tb d i λy g=>r x y g λz e=>∃k,z=.bl k/\ (if k=af then tc d e λh j=>f y h j Q else Q (.bl ag) e)
def E_{op op':CmpOp}{r j:R2}(O:bO X (compareOp op) r)(i:bO X (compareOp op') j)(T:PE X a ta)(E:PE X b tb)(D:PE X c tc)(hm:lastMarks [op,op'] [b,c]=ag:=by with_unfolding_all rfl):PE X (.Compare a [op,op'] [b,c] pos) (Ab r j ta tb tc):=by
 intro f s g H Q I h;refine Compare_chain (aN (T f s g H _ I h) λv K ⟨x,P,A,F,N⟩=>chain_link (aN (E f K g P _ A N) λu U ⟨y,B,t,m,J⟩=>aN (O f U g B x y v u _ t F m J) λd G ⟨z,o,l,p,k,e,n⟩=>?_)) hm
 subst e;cases p;refine Vt ?_;cases k with
 |false=>exact ite_ff ⟨.bl ag,o,l,rfl,n⟩
 |true=>exact ite_tt<|chain_last<|aN (D f G g o _ l n) λq C ⟨w,L,S,M,R⟩=>i f C g L y w u q Q S m M R
def oX:(sizeLine:Nat)<2 ^ 63:=by rw[sizeLine_eq];decide
def vals1{x:V}{us:List ah}(r:Vals [x] us):∃u,us=[u]/\RelV x u:=by
 cases r with
 |cons d e=>cases e;exact⟨_,rfl,d⟩
def DO:f9 X (.type "int") (λxs H Q=>(∃i,xs=[.int i]/\Q (.int i) H)\/∃k,xs=[.bl k]/\Q (.int<|if k then 1 else 0) H):=by
 intro d s g H xs f Q I r h;rcases h with⟨i,rfl,q⟩|⟨k,rfl,q⟩
 ·obtain⟨u,rfl,t,rfl⟩:=vals1 r;exact call_int_int ⟨.int i,H,I,⟨_,rfl⟩,q⟩
 ·obtain⟨u,rfl,e⟩:=vals1 r;cases e;exact call_int_bool ⟨.int<|if k then 1 else 0,H,I.tok _,⟨_,rfl⟩,q⟩
end
structure lX(h:Heap)(x dx C:Addr)(mA:Str->Option ah):Prop where
 obj:h.get? x=aa (PySem.W.instObj C dx)
 ns:h.Ns1 dx mA
 ne:dx≠x
def DP{h:Heap}{f:Addr}{c:Str->Option ah}(n:h.Ns1 f c):∃g,h.get? f=aa g/\∀name,PySem.W.lookIn name g=aa (c name):=by
 obtain⟨o,d,r,m,i,k,_,p⟩:=n;refine⟨o,m,λname=>?_⟩;have e:=p name;unfold nsFind findBy at e;rw[<-Array.find?_toList] at e;unfold PySem.W.lookIn;rw[i];dsimp only;split
 ·rename_i y q
  rw[q] at e;exact UI aa e
 ·rename_i q
  rw[q] at e;have a:d.toList.any (·.refKey)=ag:=by rw[List.any_eq_false];intro y l;obtain⟨z,t,b⟩:=k y<|Array.mem_toList_iff.mp l;simp[DictEntry.refKey,b]
  have j:¬d.toList.any (·.refKey)=af:=by rw[a];exact Uk
  rw[T2 j];exact UI aa e
def lX.look{h:Heap}{x b C:Addr}{c:Str->Option ah}(I:lX h x b C c):∃a,PySem.W.InstAt h x (PySem.W.instObj C b) C (aa a)/\∀name,PySem.W.lookIn name a=aa (c name):=
 let⟨a,e,d⟩:=DP I.ns
 ⟨a,⟨I.obj,rfl,rfl,e⟩,d⟩
section
variable{prog:Program}{w:World}{A:Around}{E:ah->Shared->Prop}{s:Shared}{K:PySem.W.Frag}{x dx C f:Addr}{mA:Str->Option ah}{name:Str}{v:ah}
def get_map{a:Bool}{Q:ah->Shared->Prop}(X:K.In s.heap)(I:lX s.heap x dx C mA)(d:PySem.W.plainGet K C name=af)(c:PySem.W.hasDictIn K C=af)(i:PySem.W.findIn K (.ref C) name=aa ae)(e:mA name=aa v)(b:PySem.W.handedIn v=af)(h:Q v {s with toks:=s.toks+1}):
 wpAny (model prog w) A (getAttr (.ref x) name a) Q E s:=by
 obtain⟨j,J,g⟩:=I.look;exact PySem.W.get_value X J (WO d).1 (PySem.W.findObj_own c i rfl<|by rw[g,e]) b h
def E'{pl:Sem Bool}{Q:ah×List ah->Shared->Prop}(X:K.In s.heap)(I:lX s.heap x dx C mA)(a:PySem.W.plainGet K C name=af)(hf:PySem.W.findIn K (.ref C) name=aa (aa<|.ref f))(c:PySem.W.isFn K (.ref f)=af)(d:mA name=ae)(h:Q (.ref f,[.ref x]) s):
 wpAny (model prog w) A (getMethod (.ref x) name pl) Q E s:=by
 obtain⟨b,J,e⟩:=I.look;exact PySem.W.method_fn X J (WO a).1 (WO a).2 hf (US.mp c) (by show(PySem.W.lookIn name b).map (·.isSome)=aa ag;rw[e,d];rfl) h
def Hd{k:List Str}{Q:Unit->Shared->Prop}(X:K.In s.heap)(I:lX s.heap x dx C mA)(p:PySem.W.findIn K (.ref C) "__setattr__"=aa (aa<|.builtin "object.__setattr__"))(q:PySem.W.plainOver K C=af)(n:PySem.W.takerIn K C name=aa ae)(t:PySem.W.hasDictIn K C=af)(hw:PySem.Within mA k)(hsz:k.length<=sizeLine)(h:∀h',lX h' x dx C (λy=>if y=name then aa v else mA y)->Heap.SameBut dx s.heap h'->Q () {s with heap:=h',toks:=s.toks+2}):
 wpAny (model prog w) A (setAttr (.ref x) name v) Q E s:=by
 obtain⟨D,J,B⟩:=I.look;refine PySem.W.set_plain X J p<|PySem.W.osa_open (s:={s with toks:=s.toks+1}) (r:=ae) X J q n λb=>?_
 obtain⟨z,m,e⟩:=PySem.W.any_some t;have o:s.heap.get? x=aa ⟨.ref C,aa dx,.plain,#[]⟩:=I.obj;refine T3<|Uj<|T3<|T3<|wpAny_loadPart o<|T3<|PySem.W.Looks.here (s:={s with toks:=s.toks+1}) (PySem.W.looks_clsIn X m) ?_;rw[e];refine Uj (a:=aa dx)<|T3<|Uj<|T3 ?_;refine wpAny_nsSet1 (s:={s with toks:=s.toks+1}) I.ns λh' c d=>?_
 obtain⟨F,l,u,i,g,j⟩:=c.count<|PySem.Within.cons name v hw;refine T3<|wpAny_lookBehind i (by rw[g];exact pastItsLine_dict<|Ug j (by rw[UE];omega)) ?_;exact Uj<|h _ ⟨(d.2 _<|Uq I.ne).trans I.obj,c,I.ne⟩ d
def Fb{R:Result->Shared->Prop}{vs:List ah}{a:List (Str×ah)}(X:K.In s.heap)(b:PySem.W.makesIn K C=af)(e:PySem.W.findIn K (.ref C) "__init__"=aa (aa<|.ref f))(c:PySem.W.typeIn K (.ref f)=aa (.type "function"))(h:codeAny (model prog w) (A.under<|.builtin "type.__call__" ⟨.ref C::vs,a⟩) (.call (.ref f) ⟨.ref (s.heap.objs.size+1)::vs,a⟩) (PySem.W.InitBack (s.heap.objs.size+1) R) {s with heap:=(s.heap.push PySem.W.emptyDict).push (PySem.W.instObj C s.heap.objs.size)}):
 codeAny (model prog w) A (.call (.ref C) ⟨vs,a⟩) R s:=by
 obtain⟨i,g,d,t,j⟩:=s;exact PySem.W.make_core (PySem.W.makes_of X b) (Wm X e) (λself=>PySem.W.bind_fn X self c) (.inl rfl) h
end
noncomputable def bH(f:Str)(v:V):List (Str×V)->List (Str×V)
 |[]=>[(f,v)]
 |(g,x)::r=>if g=f then(g,v)::r else(g,x)::bH f v r
theorem xr(f g:Str)(v:V):∀fs:List (Str×V),(bH f v fs).lookup g=if g=f then aa v else fs.lookup g
 |[]=>by
  show List.lookup g [(f,v)]=_;by_cases h:g=f
  ·have a:(g==f)=af:=US.mpr h;simp only[List.lookup,a,T1 h]
  ·have a:(g==f)=ag:=Va.mpr h;simp only[List.lookup,a,T2 h]
 |(k,x)::r=>by
  have c:=xr f g v r;rw[show bH f v ((k,x)::r)=(if k=f then(k,v)::r else(k,x)::bH f v r) from rfl];by_cases b:k=f
  ·rw[T1 b];by_cases h:g=k
   ·have a:(g==k)=af:=US.mpr h;simp only[List.lookup,a,T1<|h.trans b]
   ·have a:(g==k)=ag:=Va.mpr h;simp only[List.lookup,a,T2 (λe:g=f=>h<|e.trans b.symm)]
  ·rw[T2 b];by_cases h:g=k
   ·have a:(g==k)=af:=US.mpr h;simp only[List.lookup,a,T2 (λe:g=f=>b<|h.symm.trans e)]
   ·have a:(g==k)=ag:=Va.mpr h;simp only[List.lookup,a];exact c
theorem ui(f:Str)(v:V):∀fs:List (Str×V),f∈(bH f v fs).map (·.1)/\∀g,g∈fs.map (·.1)->g∈(bH f v fs).map (·.1)
 |[]=>⟨by simp[bH],λg h=>by simp at h⟩
 |(k,x)::r=>by
  obtain⟨b,c⟩:=ui f v r;rw[show bH f v ((k,x)::r)=(if k=f then(k,v)::r else(k,x)::bH f v r) from rfl];by_cases a:k=f
  ·rw[T1 a];subst a;exact⟨by simp,λg h=>by simpa using h⟩
  ·rw[T2 a];refine⟨?_,λg h=>?_⟩
   ·rw[Uo];exact Up _ b
   ·rw[Uo] at h⊢;rcases T4.mp h with e|e
    ·exact T4.mpr<|.inl e
    ·exact Up _<|c g e
theorem xt(f:Str)(v:V):∀fs:List (Str×V),(bH f v fs).length<=fs.length+1
 |[]=>by simp[bH]
 |(k,x)::r=>by
  have b:=xt f v r;rw[show bH f v ((k,x)::r)=(if k=f then(k,v)::r else(k,x)::bH f v r) from rfl];by_cases a:k=f
  ·rw[T1 a,UE,UE];omega
  ·rw[T2 a,UE,UE];omega
def dX.some_of{v:V}{o:Option ah}(r:dX (aa v) o):∃u,o=aa u/\RelV v u:=by
 cases o with
 |none=>exact(show False from r).elim
 |some u=>exact⟨u,rfl,r⟩
def dX.none_of{o:Option ah}(r:dX ae o):o=ae:=by
 cases o with
 |none=>rfl
 |some u=>exact(show False from r).elim
def DQ{v:V}{u:ah}(r:RelV v u):PySem.W.handedIn u=af:=by
 cases v with
 |aw=>cases(show u=Value.none from r);rfl
 |bl b=>cases(show u=Value.bool b from r);rfl
 |int i=>obtain⟨t,e⟩:=(show∃t,u=Value.int i t from r);cases e;rfl
 |str x=>obtain⟨t,e⟩:=(show∃t,u=Value.str x t from r);cases e;rfl
 |gj b=>obtain⟨t,e⟩:=(show∃t,u=Value.bytes b t from r);cases e;rfl
 |iX b=>obtain⟨t,e⟩:=(show∃t,u=Value.float b t from r);cases e;rfl
 |ref a=>cases(show u=Value.ref a from r);rfl
 |ty n=>cases(show u=Value.type n from r);rfl
section
variable{P:Program}{w:World}{H H':Hp}{h h':Heap}{a C dx:Addr}{fs NL:List (Str×V)}
def u1(c:bS P w H h)(e:H a=aa (.ins C dx fs)):∃b,lX h a dx C b/\(∀f,dX (fs.lookup f)<|b f)/\PySem.Within b (fs.map (·.1))/\fs.length<=1000/\H dx=aa (.own a):=by obtain⟨d,z,i,g,b,n,r,q⟩:=(show c6 P w H h a (.ins C dx fs) from c a _ e);exact⟨b,⟨g,n,i⟩,r,q,z,d⟩
end
structure d_(K:PySem.W.Frag)(C:Addr):Prop where
 pg:PySem.W.plainGet K C Str.empty=af
 hd:PySem.W.hasDictIn K C=af
 po:PySem.W.plainOver K C=af
 sa:PySem.W.findIn K (.ref C) "__setattr__"=aa (aa<|.builtin "object.__setattr__")
def d_.get{K:PySem.W.Frag}{C:Addr}(c:d_ K C)(f:Str):PySem.W.plainGet K C f=af:=c.pg
noncomputable def fe(K:PySem.W.Frag)(C:Addr)(f:Str):Prop:=PySem.W.findIn K (.ref C) f=aa ae
def fe.LX{K:PySem.W.Frag}{C:Addr}{f:Str}(n:fe K C f):PySem.W.takerIn K C f=aa ae:=by unfold PySem.W.takerIn;rw[show PySem.W.findIn K (.ref C) f=aa ae from n];rfl
structure Meth(K:PySem.W.Frag)(C:Addr)(m:Str)(f:Addr):Prop where
 at_:PySem.W.findIn K (.ref C) m=aa (aa<|.ref f)
 fn:PySem.W.isFn K (.ref f)=af
 kp:PySem.W.keepIn K (.ref f)=af
section
variable{X:Cx}{pins:List (Addr×Obj)}{σ:St}{H:Hp}{s:Shared}{a C dx:Addr}{fs:List (Str×V)}{f:Str}{v:V}{A:Around}{E:ah->Shared->Prop}
def CY{b:Bool}{Q:ah->Shared->Prop}(I:Inv X pins σ H s)(e:H a=aa (.ins C dx fs))(c:d_ X.K C)(n:fe X.K C f)(l:fs.lookup f=aa v)(h:∀u s',Inv X pins σ H s'->RelV v u->Q u s'):wpAny (model X.prog X.w) A (getAttr (.ref a) f b) Q E s:=by obtain⟨i,O,r,_,_,_⟩:=u1 I.aF e;obtain⟨u,g,d⟩:=dX.some_of (v:=v) (o:=i f) (by rw[<-l];exact r f);exact get_map I.dz O (c.get f) c.hd n g (DQ d)<|h u _ (I.tok _) d
def xx{m:Str}{g:Addr}{pl:Sem Bool}{Q:ah×List ah->Shared->Prop}(I:Inv X pins σ H s)(e:H a=aa (.ins C dx fs))(c:d_ X.K C)(k:Meth X.K C m g)(l:fs.lookup m=ae)(h:Q (.ref g,[.ref a]) s):wpAny (model X.prog X.w) A (getMethod (.ref a) m pl) Q E s:=by obtain⟨d,O,r,_,_,_⟩:=u1 I.aF e;have b:d m=ae:=dX.none_of (by rw[<-l];exact r m);exact E' I.dz O (c.get m) k.at_ k.fn b h
def CZ{y:V}{u:ah}{Q:Unit->Shared->Prop}(I:Inv X pins σ H s)(e:H a=aa (.ins C dx fs))(c:d_ X.K C)(n:fe X.K C f)(G:fs.length<1000)(t:RelV y u)(h:∀s',Inv X pins σ (upd H a<|.ins C dx<|bH f y fs) s'->Q () s'):wpAny (model X.prog X.w) A (setAttr (.ref a) f u) Q E s:=by
 obtain⟨i,O,r,j,_,k⟩:=u1 I.aF e;have p:(fs.map (·.1)).length<=sizeLine:=by rw[Ub,sizeLine_eq];omega
 refine Hd I.dz O c.sa c.po n.LX c.hd j p λD d sb=>h _ ?_
 have l:∃o,D.get? dx=aa o:=let⟨o,_,_,m,_⟩:=d.ns;⟨o,m⟩
 refine I.write (x:=a) (e:=dx) (by rw[e];exact True.intro) (.inr k) (λb q B z=>(sb.2 b B).trans z) l ?_;refine⟨by rw[aL O.ne];exact k,?_,O.ne,d.obj,_,d.ns,λg=>?_,λg F=>?_⟩
 ·have:=xt f y fs;omega
 ·show dX ((bH f y fs).lookup g) (if g=f then aa u else i g);rw[xr];by_cases q:g=f
  ·rw[T1 q,T1 q];exact t
  ·rw[T2 q,T2 q];exact r g
 ·by_cases q:g=f
  ·rw[q];exact(ui f y fs).1
  ·refine(ui f y fs).2 g (j g λz=>F ?_);show(if g=f then aa u else i g)=ae;rw[T2 q];exact z
def Inv.made(I:Inv X pins σ H s):Inv X pins σ (upd (upd H s.heap.objs.size<|.own<|s.heap.objs.size+1) (s.heap.objs.size+1)<|.ins C s.heap.objs.size []) {s with heap:=(s.heap.push PySem.W.emptyDict).push (PySem.W.instObj C s.heap.objs.size)}:=by
 have c:(s.heap.push PySem.W.emptyDict).get? s.heap.objs.size=aa PySem.W.emptyDict:=UR s.heap rfl;have i:((s.heap.push PySem.W.emptyDict).push<|PySem.W.instObj C s.heap.objs.size).get? (s.heap.objs.size+1)=aa (PySem.W.instObj C s.heap.objs.size):=by
  have:=UR (s.heap.push PySem.W.emptyDict) (o:=PySem.W.instObj C s.heap.objs.size) rfl
  rwa [Wn] at this
 have g:(s.heap.push PySem.W.emptyDict).Ns s.heap.objs.size (λ_=>ae):=⟨PySem.W.emptyDict,#[],_,c,rfl,(λe j=>absurd j<|by simp),λ_=>rfl⟩;have k:=I.laid (a:=s.heap.objs.size) (o:=.own<|s.heap.objs.size+1) (h':=s.heap.push PySem.W.emptyDict) (t':=s.toks) (λb u q=>Uw _ q) (T8 _) ⟨_,c⟩;refine k.laid (a:=s.heap.objs.size+1) (o:=.ins C s.heap.objs.size []) (t':=s.toks) (λb u q=>Uw _ q) (V4<|Wn _ _) ?_;have d:s.heap.objs.size≠s.heap.objs.size+1:=UB<|WQ _;refine⟨by rw[aL d,bW],Vc _,d,i,λ_=>ae,(Heap.Ns1.of_empty g).at λo q=>Uw _ q,λ_=>True.intro,λy h=>absurd rfl h⟩
def He{prog:Program}{w:World}{env:Env}{e:Expr}{f:Str}{pos:Pos}{s:Shared}{Q:ah->Shared->Prop}(c:attributeBase e f env (eval e env)=eval e env)(h:wpAny (model prog w) A (eval e env) (λo b=>wpAny (model prog w) A (getAttr o f af) Q E b) E s):wpAny (model prog w) A (eval (.Attribute e f pos) env) Q E s:=
 Attribute_any_ h (by rw[arm_eval_Attribute,c])
end
noncomputable def MQ(K:PySem.W.Frag)(g:TE)(f:Str):TE:=λe H Q=>g e H λx b=>∃a C d c v,x=.ref a/\b a=aa (.ins C d c)/\d_ K C/\fe K C f/\c.lookup f=aa v/\Q v b
noncomputable def fu(K:PySem.W.Frag)(i g:TE)(f:Str):TS:=λD c H=>g c H λy h=>i c h λx e=>∃a C d b,x=.ref a/\e a=aa (.ins C d b)/\d_ K C/\fe K C f/\b.length<1000/\
 D.nx c (upd e a<|.ins C d<|bH f y b)
section
variable{X:Cx}{o e value:Expr}{f:Str}{pos pos' tpos:Pos}{ta tv:TE}
def vo(he:PE X e ta)(i:attributeBase e f X.env (eval e X.env)=eval e X.env):PE X (.Attribute e f pos) (MQ X.K ta f):=by
 intro b s p H Q I h;refine He i<|aN (he b s p H _ I h) λu y ⟨x,m,g,r,a,C,z,t,v,ex,k,c,n,l,q⟩=>?_
 subst ex;obtain rfl:u=Value.ref a:=r;exact CY g k c n l λw A d j=>⟨v,m,d,j,q⟩
def JH(B:PE X o ta)(t:PE X value tv)(v:swapsWith value (aa<|.Attribute o f pos') pos.line X.env=pure ag):PS X (.Assign [.Attribute o f pos'] value pos) (fu X.K ta tv f):=by intro b s d H D I h;refine plainObj_wpAny_Assign_Attribute (aN (t b s d H _ I h) λu p ⟨y,A,i,j,q⟩=>aN (B b p d A _ i q) λw L ⟨x,E,g,r,a,C,J,F,ex,k,c,n,l,m⟩=>?_) v;subst ex;obtain rfl:w=Value.ref a:=r;exact CZ g k c n l j λG z=>⟨d,_,z,m⟩
def Rr{pl:Sem Bool}{m:Str}{b:Pos}{args:List Expr}{pins:List (Addr×Obj)}{s:Shared}{σ:St}{H:Hp}{Q:ah->Shared->Prop}{n:TE}(z:PE X e n)(I:Inv X pins σ H s)(h:n σ H λx i=>∃a C j fs g,x=.ref a/\i a=aa (.ins C j fs)/\d_ X.K C/\Meth X.K C m g/\fs.lookup m=ae/\
  ∀d,Inv X pins σ i d->wpAny (model X.prog X.w) X.A (callWith pos (.ref g) [.ref a] (backTo pos (starEach args X.env)) (backToKw pos (keywordEach [] X.env))) Q X.xe d)
 (t:eval (.Call (.Attribute e m b) args [] pos) X.env=(do
  let r<-eval e X.env
  standAt b.atName
  let(f,first)<-holding [r] (getMethod r m pl)
  callWith pos f first (backTo pos (starEach args X.env)) (backToKw pos (keywordEach [] X.env)))):
 wpAny (model X.prog X.w) X.A (eval (.Call (.Attribute e m b) args [] pos) X.env) Q X.xe s:=by
 refine Xw (pl:=pl) (aN (z pins s σ H _ I h) λu d ⟨x,i,p,v,a,C,j,fs,g,ex,y,c,k,l,q⟩=>?_) t;subst ex;obtain rfl:u=Value.ref a:=v;exact xx p y c k l<|q d p
end
section
variable{X:Cx}{pins:List (Addr×Obj)}{σ:St}{H:Hp}{s:Shared}{A:Around}{E:ah->Shared->Prop}{Q:ah->Shared->Prop}{c:ah}{b:Bool}
inductive dR(K:PySem.W.Frag)(H:Hp):V->ah->Prop where
 |aw:dR K H .aw (.type "NoneType")
 |bl (x:Bool):dR K H (.bl x) (.type "bool")
 |int (i:Int):dR K H (.int i) (.type "int")
 |str (x:Str):dR K H (.str x) (.type "str")
 |iX (x:UInt64):dR K H (.iX x) (.type "float")
 |lst {a:Addr} {xs:List V} (e:H a=aa (.lst xs)):dR K H (.ref a) (.type "list")
 |aU {a:Addr} {o:Obj} {xs:List V} (e:H a=aa (.aU o<|.lst xs)):dR K H (.ref a) (.type "list")
 |tup {a:Addr} {xs:List V} (e:H a=aa (.tup xs)):dR K H (.ref a) (.type "tuple")
 |dK {a:Addr} {kvs:List (Key×V)} (e:H a=aa (.dK kvs)):dR K H (.ref a) (.type "dict")
 |dT {a:Addr} {kvs:List (List Key×V)} (e:H a=aa (.dT kvs)):dR K H (.ref a) (.type "dict")
 |ins {a C dx:Addr} {fs:List (Str×V)} (e:H a=aa (.ins C dx fs)) (cl:d_ K C) (ha:PySem.W.findIn K (.ref C) "__class__"=aa (aa<|.builtin "object.__class__")) (hn:PySem.W.specialIn K (.builtin "object.__class__") "__get__"=aa (aa<|.builtin "getset_descriptor.__get__")) (Sb:PySem.W.takesIn K (.builtin "object.__class__")=aa af) (hm:PySem.W.mroIn K C (.type "object")=aa af):dR K H (.ref a) (.ref C)
end
structure bA(k:Nat)(A:Around):Prop where
 hd:A.handled=ae
 dp:A.depth+3*k+5<recursionLimit
 un:A.units+16*k+200<cLine
def bA.deeper{k:Nat}{A:Around}(r:bA (k+1) A)(env:Env):bA k (A.deeper env):=
 ⟨r.hd,by have:=r.dp;show A.depth+1+3*k+5<_;omega,by have:=r.un;show A.units+3+16*k+200<_;omega⟩
def C0{A:Around}{C:Addr}{us:List ah}{a:List (Str×ah)}:(A.under<|.builtin "type.__call__" ⟨.ref C::us,a⟩).depth=A.depth+1:=by first|rfl|simp[Around.under,Code.weight,Code.isCreation,Code.isGuard,Code.isCaller,Code.frames,Code.isFrame,guardIds]
def C1{A:Around}{C:Addr}{us:List ah}{a:List (Str×ah)}:(A.under<|.builtin "type.__call__" ⟨.ref C::us,a⟩).units=A.units+1:=by first|rfl|simp[Around.under,Code.cUnits,Code.frames,Code.isFrame]
def bA.make{k:Nat}{A:Around}(r:bA (k+1) A)(C:Addr)(us:List ah)(a:List<|Str×ah):bA k (A.under<|.builtin "type.__call__" ⟨.ref C::us,a⟩):=
 ⟨r.hd,by have:=r.dp;rw[C0];omega,by have:=r.un;rw[C1];omega⟩
def bA.depth{k:Nat}{A:Around}(r:bA k A):A.depth<recursionLimit:=by have:=r.dp;omega
def bA.units{k:Nat}{A:Around}(r:bA k A):A.units+64<cLine:=by have:=r.un;omega
def bA.oY{k:Nat}{A:Around}(r:bA k A):A.units<cLine:=by have:=r.un;omega
noncomputable def MR:TA:=λ_ H Q=>Q [] H
noncomputable def LY(e:TE)(d:TA):TA:=λa H Q=>e a H λx c=>d a c λb f=>Q (x::b) f
section
variable{X:Cx}{e:Expr}{es:List Expr}{te:TE}{t:TA}{pos:Pos}
def fi:PA X [] MR:=λ_ _ _ _ H Q I h=>V5 ⟨[],H,I,.nil,h⟩
def dE(q:PE X e te)(l:PA X es t)(n:starEach (e::es) X.env=(ag,eval e X.env)::starEach es X.env:=by rfl):PA X (e::es) (LY te t):=by
 intro pos a s b H Q I h;rw[n];show wpAny _ _ (spliced<|(ag,eval e X.env)::backTo pos (starEach es X.env)) _ _ s;refine VB<|aN (q a s b H _ I h) λu k ⟨x,o,f,i,m⟩=>?_
 exact aN (l pos a k b o _ f m) λr v ⟨c,g,d,p,j⟩=>⟨x::c,g,d,.cons i p,j⟩
noncomputable def MS(t:TA):TE:=λc H Q=>t c H λa b=>a.length<=sizeLine/\∀p,b p=ae->Q (.ref p) (upd b p<|.tup a)
noncomputable def MT(t:TA):TE:=λc H Q=>t c H λa b=>a.length<=sizeLine/\∀p,b p=ae->Q (.ref p) (upd b p<|.lst a)
def Ac{x1}(h:PA X es t):PE X (.Tuple es x1 pos) (MS t):=by
 intro a s k H Q I j;refine wpAny_Tuple_spliced<|aN (h pos a s k H _ I j) λg c ⟨i,d,f,r,z,q⟩=>⟨by rw[<-r.length];exact z,?_⟩
 have l:d c.heap.objs.size=ae:=f.aF.fresh<|T8 _;refine⟨.ref c.heap.objs.size,upd d c.heap.objs.size<|.tup i,f.laid (t':=c.toks) (λb u e=>Uw _ e) (T8 _) ?_,rfl,q _ l⟩;exact⟨z,g,r,⟨_,UR _ rfl,rfl,_,rfl⟩⟩
def JI(h:PA X es t):PE X (.List es pos) (MT t):=by
 intro a s k H Q I j;refine wpAny_List_spliced<|aN (h pos a s k H _ I j) λg c ⟨i,d,f,r,z,q⟩=>⟨by rw[<-r.length];exact z,?_⟩
 have l:d c.heap.objs.size=ae:=f.aF.fresh<|T8 _;refine⟨.ref c.heap.objs.size,upd d c.heap.objs.size<|.lst i,f.laid (t':=c.toks) (λb u e=>Uw _ e) (T8 _) ?_,rfl,q _ l⟩;exact⟨z,g,0,r,UR _ rfl⟩
end
noncomputable abbrev Sp:=List V->Hp->VK->XK->Prop
noncomputable abbrev gm:=List Env->Hp->Shared->XK->ah->Shared->Prop
structure lY(P:Program)(w:World)(K:PySem.W.Frag)(mg:Str->Option ah)(base:Heap)(A:Around)(outer:List Env)(s:Shared)(H:Hp):Prop where
 frames:A.frames=aa outer
 mod:Mod K mg base
 bs:∀b o,base.get? b=aa o->s.heap.get? b=aa o/\H b=ae
 ij:base.objs.size<=s.heap.objs.size
 fK:s.heap.FunFrames base outer
 jy:∀b∈cA outer,H b=ae
 aF:bS P w H s.heap
 bare:AllBare s.gens
noncomputable def CE(outer:List Env)(P:Program)(w:World)(H:Hp)(s:Shared)(Q:VK)(u:ah)(s':Shared):Prop:=
 ∃v a,s'.os=s.os/\AllBare s'.gens/\Un (cA outer) [] H a s.heap s'.heap/\bS P w a s'.heap/\RelV v u/\Q v a
noncomputable def CR(a:gm)(outer:List Env)(P:Program)(w:World)(H:Hp)(s:Shared)(Q:VK)(E:XK)(r:Result)(s':Shared):Prop:=
 match r with
 |.ok (.ret u)=>CE outer P w H s Q u s'
 |.ok _=>False
 |.error e=>a outer H s E e s'
structure dS(P:Program)(w:World)(K:PySem.W.Frag)(mg:Str->Option ah)(base:Heap)(CX:gm)(k:Nat)(f:Addr)(fd:FuncData)(ps:List Str)(sp:Sp):Prop where
 len:∀vs H Q E,sp vs H Q E->vs.length=ps.length
 run:∀(A:Around) (outer:List Env) (s:Shared) (H:Hp) (args:Args) (us:List ah) (vs:List V) (Q:VK) (E:XK),bA k A->lY P w K mg base A outer s H->BindsTo s fd args (ps.zip us)->Vals vs us->sp vs H Q E->
  codeAny (model P w) A (.call (.ref f) args) (CR CX outer P w H s Q E) s
def dS.imp{P:Program}{w:World}{K:PySem.W.Frag}{e:Str->Option ah}{base:Heap}{g:gm}{k:Nat}{f:Addr}{d:FuncData}{c:List Str}{sp b:Sp}(F:dS P w K e base g k f d c sp)(h:∀vs H Q E,b vs H Q E->sp vs H Q E):dS P w K e base g k f d c b:=
 ⟨λvs H Q E q=>F.len vs H Q E<|h _ _ _ _ q,λA a s H args i vs Q E j n l m o=>F.run A a s H args i vs Q E j n l m<|h _ _ _ _ o⟩
def lY.make{P:Program}{w:World}{K:PySem.W.Frag}{a:Str->Option ah}{base:Heap}{A:Around}{outer:List Env}{s:Shared}{H:Hp}(e:lY P w K a base A outer s H)(C:Addr)(us:List ah)(b:List<|Str×ah):
 lY P w K a base (A.under<|.builtin "type.__call__" ⟨.ref C::us,b⟩) outer s H:=⟨by first|exact e.frames|(simpa[Around.under,Code.envs,Code.isFrame,pushEnvs] using e.frames),e.mod,e.bs,e.ij,e.fK,e.jy,e.aF,e.bare⟩
section
variable{X:Cx}{pins:List (Addr×Obj)}{σ:St}{H:Hp}{s s':Shared}
def Inv.we(I:Inv X pins σ H s):lY X.prog X.w X.K X.mg X.base X.A X.stack s H:=
 ⟨I.ok.frames,I.ok.mod,I.bs,Ug I.ok.ij I.sz,I.stack,I.qT,I.aF,I.bare⟩
def Inv.after{Q:VK}{u:ah}(I:Inv X pins σ H s)(h:CE X.stack X.prog X.w H s Q u s'):EP X pins σ Q u s':=by obtain⟨v,f,k,a,i,c,r,q⟩:=h;obtain⟨j,g,d,t,e⟩:=s';obtain rfl:e=s.os:=k;exact⟨v,f,I.call (h':=j) (g':=g) (d':=d) (t':=t) (ch:=[]) i c a<|λb z=>absurd z<|by simp,r,q⟩
end
noncomputable def LZ(sp:Sp)(a:List V)(E:XK)(t:TA):TE:=λc H Q=>t c H λd b=>sp (d++a) b Q E
noncomputable def L0(C:Addr)(m:Str)(sp:Sp)(b:List V)(E:XK)(h:TE)(t:TA):TE:=λe H Q=>h e H λx c=>∃a f d,x=.ref a/\c a=aa (.ins C f d)/\d.lookup m=ae/\
 t e c λg i=>sp (x::(g++b)) i Q E
noncomputable def L1(C:Addr)(sp:Sp)(b:List V)(E:XK)(t:TA):TE:=λd H Q=>t d H λe c=>∀x a,c x=ae->c a=ae->a≠x->
 sp (.ref x::(e++b)) (upd (upd c a<|.own x) x<|.ins C a []) (λv f=>v=.aw/\Q (.ref x) f) E
noncomputable def Binds(K:PySem.W.Frag)(d:FuncData)(b:List Str)(c:List ah):Prop:=
 ∀(s:Shared) (a:List ah),K.In s.heap->(a++c).length=b.length->BindsTo s d ⟨a,[]⟩ (b.zip<|a++c)
def Binds.all{K:PySem.W.Frag}{b:FuncData}{a:List Str}(h:∀us:List ah,us.length=a.length->bindArgs b ⟨us,[]⟩=pure (a.zip us)):Binds K b a []:=λs us _ c=>by rw[UZ] at c⊢;exact .of_eq<|h us c
noncomputable def Passes(c:gm)(X:Cx)(E:XK):Prop:=∀(a:List<|Addr×Obj) (d:St) (H:Hp) (s:Shared) (e:ah) (b:Shared),Inv X a d H s->c X.stack H s E e b->X.xe e b
section
variable{X:Cx}{CX:gm}{k:Nat}{f C:Addr}{fd:FuncData}{ps:List Str}{sp:Sp}{gn:List V}{ds:List ah}{E:XK}{x m:Str}{p pos apos:Pos}{e o:Expr}{es:List Expr}{ta:TE}{t:TA}
def vp{pins:List (Addr×Obj)}{σ:St}{H:Hp}{s:Shared}{Q:VK}{us:List ah}{vs:List V}(F:dS X.prog X.w X.K X.mg X.base CX k f fd ps sp)(i:bA k X.A)(j:Binds X.K fd ps ds)(d:Vals gn ds)(l:Passes CX X E)(I:Inv X pins σ H s)(r:Vals vs us)(h:sp (vs++gn) H Q E):wpAny (model X.prog X.w) X.A (call (.ref f) us) (EP X pins σ Q) X.xe s:=by
 have b:Vals (vs++gn) (us++ds):=r.append d;have n:(us++ds).length=ps.length:=by rw[<-b.length];exact F.len _ _ _ _ h
 refine Wo<|V6 (F.run X.A X.stack s H ⟨us,[]⟩ (us++ds) (vs++gn) Q E i I.we (j s us I.dz n) b h) λr c a=>?_
 cases r with
 |error e=>exact l pins σ H s e c I a
 |ok g=>
  cases g with
  |ret u=>exact I.after a
  |next=>exact False.elim a
  |brk=>exact False.elim a
  |cont=>exact False.elim a
def u3(F:dS X.prog X.w X.K X.mg X.base CX k f fd ps sp)(u:bA k X.A)(z:Gl X x)(v:X.mg x=aa (.ref f))(j:PySem.W.keepIn X.K (.ref f)=af)(l:Binds X.K fd ps ds)(g:Vals gn ds)(n:Passes CX X E)(B:PA X (e::es) t)(c:(x==("__debug__":Str))=ag:=by decide)(i:starEach (e::es) X.env=(ag,eval e X.env)::starEach es X.env:=by rfl)(b:(backTo pos<|starEach es X.env).any (·.1)=ag:=by rfl):
 PE X (.Call (.Name x p) (e::es) [] pos) (LZ sp gn E t):=by
 intro a s y H Q I h;refine VC<|m5 I z v ?_ c;refine V7 (h₀:=X.base) I.ok.mod.kJ j (aN (B pos a s y H _ I h) λD G ⟨J,L,d,r,q⟩=>⟨d.dz,?_⟩) i b;exact vp F u l g n d r q
def Hf{pl:Sem Bool}(G:PE X o ta)(c:d_ X.K C)(z:Meth X.K C m f)(F:dS X.prog X.w X.K X.mg X.base CX k f fd ps sp)(R:bA k X.A)(J:Binds X.K fd ps ds)(D:Vals gn ds)(M:Passes CX X E)(U:PA X (e::es) t)(g:starEach (e::es) X.env=(ag,eval e X.env)::starEach es X.env:=by rfl)(d:(backTo pos<|starEach es X.env).any (·.1)=ag:=by rfl)(L:eval (.Call (.Attribute o m apos) (e::es) [] pos) X.env=(do
  let y<-eval o X.env
  standAt apos.atName
  let(f,first)<-holding [y] (getMethod y m pl)
  callWith pos f first (backTo pos (starEach (e::es) X.env)) (backToKw pos (keywordEach [] X.env))):=by rfl):
 PE X (.Call (.Attribute o m apos) (e::es) [] pos) (L0 C m sp gn E ta t):=by
 intro b s B H Q I h;refine Xw (pl:=pl) (aN (G b s B H _ I h) λu P ⟨x,T,n,S,a,dx,Z,ex,N,l,q⟩=>?_) L;subst ex;obtain rfl:u=Value.ref a:=S;refine xx n N c z l ?_;refine V7 (first:=[.ref a]) (h₀:=X.base) I.ok.mod.kJ z.kp (aN (U pos b P B T _ n q) λi s2 ⟨v,Y,j,r,O⟩=>⟨j.dz,?_⟩) g d;exact vp (us:=.ref a::i) (vs:=.ref a::v) F R J D M j (.cons rfl r) O
structure Mk(K:PySem.W.Frag)(C f:Addr):Prop where
 makes:PySem.W.makesIn K C=af
 init:PySem.W.findIn K (.ref C) "__init__"=aa (aa<|.ref f)
 fn:PySem.W.isFn K (.ref f)=af
 kp:PySem.W.keepIn K (.ref C)=af
def Fc{pins:List (Addr×Obj)}{σ:St}{H:Hp}{s:Shared}{Q:VK}{us:List ah}{vs:List V}(M:Mk X.K C f)(F:dS X.prog X.w X.K X.mg X.base CX k f fd ps sp)(J:bA (k+1) X.A)(z:Binds X.K fd ps ds)(j:Vals gn ds)(B:Passes CX X E)(I:Inv X pins σ H s)(r:Vals vs us)(h:∀x c,H x=ae->H c=ae->c≠x->sp (.ref x::(vs++gn)) (upd (upd H c<|.own x) x<|.ins C c []) (λv q=>v=.aw/\Q (.ref x) q) E):
 wpAny (model X.prog X.w) X.A (call (.ref C) us) (EP X pins σ Q) X.xe s:=by
 have d:=h (s.heap.objs.size+1) s.heap.objs.size (I.aF.fresh<|Nat.le_succ _) (I.aF.fresh<|T8 _)<|UB<|WQ _;have b:=Inv.made (C:=C) I;have g:Vals (V.ref (s.heap.objs.size+1)::(vs++gn)) (Value.ref (s.heap.objs.size+1)::(us++ds)):=.cons rfl<|r.append j;have D:(Value.ref (s.heap.objs.size+1)::us++ds).length=ps.length:=by have e:=g.length;rw[F.len _ _ _ _ d] at e;exact e.symm
 refine Wo (Fb (f:=f) I.dz M.makes M.init (US.mp M.fn) (V6 (F.run _ X.stack _ _ ⟨Value.ref (s.heap.objs.size+1)::us,[]⟩ (Value.ref (s.heap.objs.size+1)::(us++ds)) _ _ E (J.make C us []) (b.we.make C us []) (z _ (Value.ref (s.heap.objs.size+1)::us) b.dz D) g d) λr y a=>?_))
 cases r with
 |error e=>exact B pins σ _ _ e y b a
 |ok l=>
  cases l with
  |ret u=>obtain⟨v,i,L,n,G,N⟩:=b.after a;subst G;exact⟨n,⟨V.ref<|s.heap.objs.size+1,i,L,rfl,N⟩⟩
  |next=>exact False.elim a
  |brk=>exact False.elim a
  |cont=>exact False.elim a
def Hg(M:Mk X.K C f)(F:dS X.prog X.w X.K X.mg X.base CX k f fd ps sp)(n:bA (k+1) X.A)(y:Gl X x)(u:X.mg x=aa (.ref C))(j:Binds X.K fd ps ds)(g:Vals gn ds)(l:Passes CX X E)(z:PA X (e::es) t)(c:(x==("__debug__":Str))=ag:=by decide)(i:starEach (e::es) X.env=(ag,eval e X.env)::starEach es X.env:=by rfl)(b:(backTo pos<|starEach es X.env).any (·.1)=ag:=by rfl):
 PE X (.Call (.Name x p) (e::es) [] pos) (L1 C sp gn E t):=by
 intro a s v H Q I h;refine VC<|m5 I y u ?_ c;refine V7 (h₀:=X.base) I.ok.mod.kJ M.kp (aN (z pos a s v H _ I h) λB D ⟨G,J,d,r,q⟩=>⟨d.dz,?_⟩) i b;exact Fc M F n j g l d r q
end
section
variable{X:Cx}{CX:gm}{k:Nat}{f C:Addr}{fd:FuncData}{ps ks:List Str}{sp:Sp}{E:XK}{x m:Str}{p pos apos RW:Pos}{e o:Expr}{es:List Expr}{Sd:List Keyword}{te ta:TE}{t tk:TA}{nm:Option Str}
variable{g:List ah->List ah->List ah}{gV:List V->List V->List V}
end
structure fV(N P:List Str)(sc:Scope):Prop where
 kind:sc.kind=.function
 co:sc.isCoroutine=ag
 gen:sc.isGenerator=ag
 nd:N.Nodup
 pre:N.take P.length=P
 par:∀x∈P,sc.names.lookup x=aa .local\/sc.names.lookup x=aa .cell
 JJ:∀y∈sc.names,y.2≠.free
theorem xP{b:Str->Option NameKind}{x:Str}:∀{a:List (Str×ah)} {m:Str->Option ah},(∀v,(x,v)∉a)->bindL b a m x=m x
 |[],_,_=>rfl
 |(n,v)::r,m,h=>by
  unfold bindL;rw[xP λw c=>h w (Up _ c)];split
  ·have:x≠n:=by rintro rfl;exact h v UC
   simp[this]
  ·rfl
theorem xQ{b:Str->Option NameKind}{x:Str}:∀{a:List (Str×ah)} {m:Str->Option ah},(∀v,(x,v)∉a)->bindC b a m x=m x
 |[],_,_=>rfl
 |(n,v)::r,m,h=>by
  unfold bindC;rw[xQ λw c=>h w (Up _ c)];split
  ·rfl
  ·have:x≠n:=by rintro rfl;exact h v UC
   simp[this]
theorem xR{a:Str->Option NameKind}{x:Str}{v:ah}:∀{P:List Str} {vs:List ah} {i:Nat} {m:Str->Option ah},P.Nodup->P[i]? =aa x->vs[i]? =aa v->a x=aa .local->
 bindL a (P.zip vs) m x=aa v
 |[],_,_,_,_,h,_,_=>by simp at h
 |_::_,[],_,_,_,_,h,_=>by simp at h
 |p::P,w::vs,0,m,e,c,b,d=>by simp at c b;subst c;subst b;show bindL a ((p,w)::P.zip vs) m p=_;unfold bindL;rw[xP λv f=>(U9.mp e).1 (WR f).1,T1 d];simp
 |p::P,w::vs,i+1,m,e,c,b,d=>by show bindL a ((p,w)::P.zip vs) m x=_;unfold bindL;exact xR (i:=i) (U9.mp e).2 (by simpa using c) (by simpa using b) d
theorem xS{a:Str->Option NameKind}{x:Str}{v:ah}:∀{P:List Str} {vs:List ah} {i:Nat} {m:Str->Option ah},P.Nodup->P[i]? =aa x->vs[i]? =aa v->a x≠aa .local->
 bindC a (P.zip vs) m x=aa v
 |[],_,_,_,_,h,_,_=>by simp at h
 |_::_,[],_,_,_,_,h,_=>by simp at h
 |p::P,w::vs,0,m,e,c,b,d=>by simp at c b;subst c;subst b;show bindC a ((p,w)::P.zip vs) m p=_;unfold bindC;rw[xQ λv f=>(U9.mp e).1 (WR f).1,T2 d];simp
 |p::P,w::vs,i+1,m,e,c,b,d=>by show bindC a ((p,w)::P.zip vs) m x=_;unfold bindC;exact xS (i:=i) (U9.mp e).2 (by simpa using c) (by simpa using b) d
noncomputable def start(N:List Str)(vs:List V):St:=vs.map aa++List.replicate (N.length-vs.length) ae
noncomputable def cj(g:gm)(P:Program)(w:World)(K:PySem.W.Frag)(d:Str->Option ah)(base:Heap)(N:List Str)(a:Str)(scope:Scope)(f:Addr)(c:ah)(A:Around)(outer:List Env)(s:Shared)(H:Hp)(E:XK):Cx where
 prog:=P
 w:=w
 K:=K
 mg:=d
 base:=base
 A:=A.deeper<|envOfC a scope s.heap.objs.size f c
 N:=N
 c7:=s
 lW:=H
 env:=envOfC a scope s.heap.objs.size f c
 outer:=outer
 stack:=envOfC a scope s.heap.objs.size f c::outer
 ex:=[]
 calm:=af
 fn:=λ_=>af
 pn:=[]
 xe:=λe h=>wpAny (model P w) (A.deeper<|envOfC a scope s.heap.objs.size f c) (leaving (envOfC a scope s.heap.objs.size f c) e) (λ_ b=>g outer H s E e b) (λi b=>g outer H s E i b) h
def yu{a:Scope}{n:Nat}{x:Str}(h:a.names.lookup x=aa .cell):∃c,(cellsFrom n a.names []).lookup x=aa c:=by have q:=Xx a.names n []<|.inl h;exact WS.mp q
def DR{M:gm}{P:Program}{w:World}{K:PySem.W.Frag}{G:Str->Option ah}{base:Heap}{N l:List Str}{d:Str}{scope:Scope}{f:Addr}{C:ah}{A:Around}{outer:List Env}{s J:Shared}{H:Hp}{E:XK}{us:List ah}{vs:List V}(S:fV N l scope)(O:A.handled=ae)(j:lY P w K G base A outer s H)(U:vs.length=l.length)(r:Vals vs us)(x:InCallC s s.heap.objs.size (bindL (envOfC d scope s.heap.objs.size f C).kindOf (l.zip us) λ_=>ae) (cellsFrom (s.heap.objs.size+1) scope.names []) (bindC (envOfC d scope s.heap.objs.size f C).kindOf (l.zip us) λ_=>ae) J):
 Inv (cj M P w K G base N d scope f C A outer s H E) [] (start N vs) H J:=by
 have T:l.length<=N.length:=by have:=UI List.length S.pre;rw[Vm] at this;omega
 obtain⟨F,X,rfl,I⟩:=x.done;have o:∀b:Addr,b∉(cj M P w K G base N d scope f C A outer s H E).ex:=λb z=>absurd (show b∈([]:List Addr) from z)<|by simp
 refine⟨⟨j.mod,S.kind,rfl,rfl,T8 _,λy z c F g=>?_,λy m=>?_,λy c _ h=>?_,λ_=>O,Around.frames_deeper j.frames,.inr ⟨rfl,rfl⟩,λb z=>absurd z<|o b,j.bs,j.ij,λb _ _=>o b,λb z=>absurd z<|o b,j.fK,j.jy⟩,
  rfl,j.bare,Un.kept I,⟨_,x.toInCall.ns,λi y v F g h3=>?_⟩,λy c h=>⟨_,x.cell y c h⟩,j.aF.fresh (T8 _),λy c h=>?_,λp B=>absurd (show p∈([]:List (Addr×Obj)) from B) (by simp),j.aF.kept I,?_⟩
 ·exact name_of_addr x.apart (Vd F)<|Vd g
 ·have m:scope.names.lookup y=aa .cell\/scope.names.lookup y=aa .free:=m;rcases m with m|m
  ·exact yu m
  ·exact absurd rfl<|S.JJ _<|Vd m
 ·exact U6<|x.above y c<|Vd h
 ·have D:i<vs.length:=by
   unfold start at g;by_cases D:i<vs.length
   ·exact D
   ·rw[Ve<|by simpa using D] at g;rw[Xy] at g;split at g<;>cases g
  have R:vs[i]? =aa v:=by
   unfold start at g;rw[UU<|by simpa using D,UW] at g;cases e:vs[i]? with
   |none=>rw[e] at g;cases g
   |some a=>rw[e] at g;cases g;rfl
  obtain⟨u,L,Q⟩:=r.get R;have B:l[i]? =aa y:=by rw[<-S.pre,Xz<|by omega];exact F
  have t:l.Nodup:=by rw[<-S.pre];exact S.nd.sublist<|List.take_sublist _ _
  refine⟨u,Q,?_⟩;rcases S.par y (Vn B) with k|k
  ·exact .inl ⟨k,xR t B L k⟩
  ·obtain⟨c,e⟩:=yu (n:=s.heap.objs.size+1) k;refine .inr ⟨.inl k,c,e,?_⟩;have q:=x.cell y c e;rw[xS t B L (by show scope.names.lookup y≠_;rw[k];decide)] at q;exact q
 ·exact j.aF.fresh<|U6<|x.above y c<|Vd h
 ·unfold start;show _=N.length;rw[Ur,Ub,WT];omega
def rC{G:gm}{P:Program}{w:World}{K:PySem.W.Frag}{F:Str->Option ah}{base:Heap}{k:Nat}{f:Addr}{name a:Str}{d:Arguments}{g:List Stmt}{scope:Scope}{X kV z pm c ct oc:ah}{U od:Option Addr}{R:Array (Option ah)}{N D:List Str}{sp:Sp}(lk:K.lookup f=aa ⟨oc,od,.func<|PySem.W.fnOf name a d g scope X kV z pm U c ct,R⟩)(L:PySem.W.codeIn K c a=af)(S:fV N D scope)(len:∀vs H Q E,sp vs H Q E->vs.length=D.length)(l:∀(A:Around) (outer:List Env) (s:Shared) (H:Hp) (vs:List V) (Q:VK) (E:XK),bA k (A.deeper<|envOfC a scope s.heap.objs.size f c)->sp vs H Q E->
  ∃t,fy (cj G P w K F base N a scope f c A outer s H E) g t/\t {nx:=λ_ i=>Q .aw i,rt:=Q} (start N vs) H):
 dS P w K F base G (k+1) f (PySem.W.fnOf name a d g scope X kV z pm U c ct) D sp:=by
 refine⟨len,λA outer s H args us vs Q E T p hb r B=>?_⟩;have hl:=len _ _ _ _ B;have Z:K.In s.heap:=p.mod.kJ.keeps λb o e=>(p.bs b o e).1
 have lim:s.heap.NoLimit:=p.mod.nolimit.keeps λb o e=>(p.bs b o e).1
 have j:∀y∈D.zip us,scope.names.lookup y.1=aa .local\/(scope.names.lookup y.1=aa .cell/\((cellsFrom (s.heap.objs.size+1) scope.names []).lookup y.1).isSome=af):=λ⟨n,v⟩ hy=>by
  rcases S.par n (WR hy).1 with q|q
  ·exact .inl q
  ·exact .inr ⟨q,Xx _ _ _<|.inl q⟩
 refine codeAny_call_function T.depth (Z _ _ lk) rfl S.co S.gen rfl (PySem.W.codeRec_of Z L)<|hb _ _ _ _ ?_;refine wpAny_newFunctionEnv_cells S.kind j λenv he Y x=>?_
 subst he;refine⟨lim.keeps x.toInCall.keep,codeAny_func ?_⟩;obtain⟨t,ht,hq⟩:=l A outer s H vs Q E (T.deeper _) B;have I:Inv (cj G P w K F base N a scope f c A outer s H E) [] (start N vs) H Y:=DR S T.hd p hl r x;refine Uv (ht [] Y (start N vs) H _ I hq) (λfl O m=>?_) λe O m=>m
 have C:∀{h:St} {i:Hp} {v:V} {u:ah},Inv (cj G P w K F base N a scope f c A outer s H E) [] h i O->RelV v u->Q v i->CE outer P w H s Q u O:=
  λ{h i v u} J M q=>⟨v,i,J.os,J.bare,J.base,J.aF,M,q⟩
 cases fl with
 |ret u=>obtain⟨v,h,i,J,M,q⟩:=m;exact C J M q
 |next=>obtain⟨h,i,J,q⟩:=m;exact C (v:=V.aw) (u:=Value.none) J rfl q
 |brk=>obtain⟨_,_,_,q⟩:=m;exact False.elim q
 |cont=>obtain⟨_,_,_,q⟩:=m;exact False.elim q
section
variable{X:Cx}{x:Str}{p pos:Pos}{e:Expr}{es:List Expr}{t:TA}{id T:String}{r:List V->Hp->VK->Prop}
noncomputable def Bw(r:List V->Hp->VK->Prop)(t:TA):TE:=λb H Q=>t b H λc a=>r c a Q
def mP(i:f9 X (.builtin id) r)(v:Gl X x)(q:X.mg x=ae)(n:bootBuiltins x=aa (.builtin id))(w:PA X (e::es) t)(k:x≠"__name__":=by decide)(c:(x==("__debug__":Str))=ag:=by decide)(he:starEach (e::es) X.env=(ag,eval e X.env)::starEach es X.env:=by rfl)(b:(backTo pos<|starEach es X.env).any (·.1)=ag:=by rfl):PE X (.Call (.Name x p) (e::es) [] pos) (Bw r t):=by intro a s d H Q I h;refine VC<|j9 I v q n ?_ k c;exact PyProof.Rows.callWith_builtin1 (aN (w pos a s d H _ I h) λf l ⟨o,u,g,j,m⟩=>i a l d u o f Q g j m) he b
def uj(i:f9 X (.type T) r)(v:Gl X x)(q:X.mg x=ae)(n:bootBuiltins x=aa (.type T))(w:PA X (e::es) t)(k:x≠"__name__":=by decide)(c:(x==("__debug__":Str))=ag:=by decide)(he:starEach (e::es) X.env=(ag,eval e X.env)::starEach es X.env:=by rfl)(b:(backTo pos<|starEach es X.env).any (·.1)=ag:=by rfl):PE X (.Call (.Name x p) (e::es) [] pos) (Bw r t):=by intro a s d H Q I h;refine VC<|j9 I v q n ?_ k c;exact V3 (aN (w pos a s d H _ I h) λf l ⟨o,u,g,j,m⟩=>i a l d u o f Q g j m) he b
end
end L2
namespace HT
open PySem PyProof.Rows
section
open PySem.SeqAt
open PySem.AutoSeq1 (wpAny_loadPart')
open PySem.MeetsSeq PySem.MeetsSeq2 PySem.MeetsSeq3
end
section
variable{prog:Program}{w:World}{A:Around}{E:ah->Shared->Prop}{s:Shared}
noncomputable def a_(n d:Nat):Option Int->Nat
 |none=>d
 |some v=>if v<0 then(v+(n:Int)).toNat else min v.toNat n
def JK(n d:Nat)(b:d<=n)(o:Option Int):a_ n d o<=n:=by
 cases o with
 |none=>exact b
 |some v=>
  show(if v<0 then(v+(n:Int)).toNat else min v.toNat n)<=n;by_cases a:v<0
  ·rw[T1 a];omega
  ·rw[T2 a];exact Nat.min_le_right _ _
def zl(v:Int)(n d:Nat):(if v<0 then max (v+(n:Int)) 0 else min v (n:Int))=((a_ n d (aa v):Nat):Int):=by
 show(if v<0 then max (v+(n:Int)) 0 else min v (n:Int))=(((if v<0 then(v+(n:Int)).toNat else min v.toNat n):Nat):Int);by_cases a:v<0
 ·simp only[T1 a];omega
 ·simp only[T2 a];omega
def C2(lo a:Option Int)(n:Nat):Builtin.Slice.sliceAdjust lo a 1 (n:Int)=(((a_ n 0 lo:Nat):Int),((a_ n n a:Nat):Int)):=by
 have b:¬((1:Int)<0):=by omega
 unfold Builtin.Slice.sliceAdjust;simp only[b,UG];refine Prod.ext ?_ ?_
 ·cases lo with
  |none=>rfl
  |some v=>exact zl v n 0
 ·cases a with
  |none=>rfl
  |some v=>exact zl v n n
def C3(i j:Nat):Builtin.Slice.slicePlaces (i:Int) (j:Int) 1=j-i:=by
 unfold Builtin.Slice.slicePlaces;have a:(1:Int)>0:=by omega
 simp only[a,Ul,Int.ediv_one];split<;>omega
def xy{v:ah}{o:Option Int}{Q:Option Int->Shared->Prop}(p:IsPart v o)(h:Q o s):wpAny (model prog w) A (Builtin.Slice.slicePartIndex v) Q E s:=by
 cases p with
 |none=>exact slicePart_none h
 |int i t=>exact slicePart_int h
def Cc{f:Addr}{d e:ah}{lo c:Option Int}{n:Nat}{Q:Int×Int×Nat->Shared->Prop}(i:s.heap.IsSliceOf f d e .none)(pl:IsPart d lo)(j:IsPart e c)(h:Q (((a_ n 0 lo:Nat):Int),1,a_ n n c-a_ n 0 lo) s):wpAny (model prog w) A (Builtin.Slice.sliceApplied (.ref f)<|pure (n:Int)) Q E s:=by obtain⟨k,a,g,b⟩:=id i;unfold Builtin.Slice.sliceApplied Builtin.Slice.sliceFields;refine T3<|T3<|wpAny_field a b (x:=d) rfl<|T3<|wpAny_field a b (x:=e) rfl<|T3<|wpAny_field a b (x:=.none) rfl<|Uj ?_;refine T3<|slicePart_none ?_;show wpAny _ _ (if((1:Int)==0)=af then _ else _) _ _ s;rw[T2<|by decide];refine T3<|xy pl<|T3<|xy j<|T3<|Uj ?_;show wpAny _ _ (match Builtin.Slice.sliceAdjust lo c 1 (n:Int) with|(lo,c)=>pure (lo,(1:Int),Builtin.Slice.slicePlaces lo c 1)) _ _ s;rw[C2 lo c n];show wpAny _ _ (pure (((a_ n 0 lo:Nat):Int),(1:Int),Builtin.Slice.slicePlaces ((a_ n 0 lo:Nat):Int) ((a_ n n c:Nat):Int) 1)) _ _ s;rw[C3];exact Uj h
def Fd(xs:Array ah)(i k:Nat):((List.range k).filterMap λ(m:Nat)=>xs[((i:Int)+(m:Int)*1).toNat]?).toArray=((xs.toList.drop i).take k).toArray:=by
 have e:(λ(m:Nat)=>xs[((i:Int)+(m:Int)*1).toNat]?)=λm=>xs[i+m]? :=by
  funext m;have:((i:Int)+(m:Int)*1).toNat=i+m:=by omega
  rw[this]
 rw[e];have:=pick_run xs i k;rw[List.filterMap_map] at this;have a:((λx=>xs[x]?)∘λx=>i+x)=λm=>xs[i+m]? :=rfl
 rw[a] at this;rw[this]
def B_{t i:Addr}{a:Array ah}{k l:ah}{lo c:Option Int}{Q:ah->Shared->Prop}(d:IsTup s.heap t a)(n:s.heap.IsSliceOf i k l .none)(pl:IsPart k lo)(r:IsPart l c)(hw:¬(a_ a.size 0 lo=0/\a_ a.size a.size c=a.size))(h:Q (.ref s.heap.objs.size) {s with heap:=s.heap.push {cls:=.type "tuple",data:=.seq ((a.toList.drop<|a_ a.size 0 lo).take<|a_ a.size a.size c-a_ a.size 0 lo).toArray}})(hsz:a.size<=sizeLine):wpAny (model prog w) A (getItem (.ref t)<|.ref i) Q E s:=by
 have b:sizeOk (.seq ((a.toList.drop<|a_ a.size 0 lo).take<|a_ a.size a.size c-a_ a.size 0 lo).toArray):=by show((a.toList.drop<|a_ a.size 0 lo).take<|a_ a.size a.size c-a_ a.size 0 lo).toArray.size<=sizeLine;rw[Uh,Vm,V8,WM];omega
 have u:a_ a.size a.size c<=a.size:=JK _ _ (T8 _) c;obtain⟨p,j,e,o⟩:=id n;have f:s.TypeIs (.ref i) "slice":=⟨p,j,e⟩;unfold getItem;try with_reducible refine Vl ?_
 first|refine T3 (Uj ?_)|skip
 refine T3<|wpAny_sequenceKey d.typeIs (by decide) ?_;refine T3 (wpAny_callSpecial?_slot (name:=Str.ofString "__getitem__") d.typeIs Wq (wpAny_call_entry Wq d.typeIs entry_tuple_getitem ?_ (args_tuple_getitem _ _)))
 show wpAny _ _ (Builtin.Tuple.tupleItemsOf (.ref t) >>= _) _ _ s;refine T3<|tupleItemsOf_ d ?_;refine T3<|wpAny_typeOf f ?_;rw[T1<|by decide];refine T3<|Cc n pl r ?_;have g:¬((((a_ a.size 0 lo:Nat):Int)==0&&(1:Int)==1&&(a_ a.size a.size c-a_ a.size 0 lo)==a.size)=af):=by intro q;rw[T_,T_] at q;have x:((a_ a.size 0 lo:Nat):Int)=0:=eq_of_beq q.1.1;have v:a_ a.size a.size c-a_ a.size 0 lo=a.size:=eq_of_beq q.2;exact hw ⟨by omega,by omega⟩
 show wpAny _ _ (if(((a_ a.size 0 lo:Nat):Int)==0&&(1:Int)==1&&(a_ a.size a.size c-a_ a.size 0 lo)==a.size)=af then _ else _) _ _ s;rw[T2 g,Fd];first
  |exact T3 (m:=Builtin.Tuple.tupleExact _)<|V9 (Uj ⟨_,rfl,Uj h⟩) b
  |exact T3 (m:=Builtin.Tuple.tupleExact _)<|V9 (T3<|Uj<|Uj ⟨_,rfl,Uj h⟩) b
  |exact T3<|T3 (m:=Builtin.Tuple.tupleExact _)<|V9 (Uj<|Uj ⟨_,rfl,Uj h⟩) b
  |exact T3<|T3 (m:=Builtin.Tuple.tupleExact _)<|V9 (Uj ⟨_,rfl,Uj h⟩) b
end
end HT
namespace L2
open PySem PySem.Spec PyProof.Rows
noncomputable abbrev TO:=St->Hp->(Option Int->Hp->Prop)->Prop
noncomputable def PO(X:Cx)(e:Option Expr)(t:TO):Prop:=
 ∀(a:List<|Addr×Obj) (s:Shared) (b:St) (H:Hp) (Q:Option Int->Hp->Prop),Inv X a b H s->t b H Q->
  wpAny (model X.prog X.w) X.A (evalPart e X.env) (λu d=>∃o c,Inv X a b c d/\IsPart u o/\Q o c) X.xe s
noncomputable def Hh:TO:=λ_ H Q=>Q ae H
noncomputable def L3(t:TE):TO:=λb H Q=>t b H λx a=>∃i,x=.int i/\Q (aa i) a
def intsAre_of{a:List Int}:∀{us:List ah},Vals (a.map V.int) us->IntsAre us a:=by
 induction a with
 |nil=>intro us r;rw[U0] at r;cases r;exact .nil
 |cons n a d=>
  intro us r;rw[Uo] at r;cases r with
  |cons c b=>obtain⟨t,e⟩:=c;subst e;exact .cons n t<|d b
section
variable{X:Cx}{e:Expr}{te:TE}{lo hi:Option Expr}{tl th:TO}{pos p2:Pos}
def Hi:PO X ae Hh:=by intro a s b H Q I h;rw[evalPart_none];exact Uj ⟨ae,H,I,.none,h⟩
def Hj(h:PE X e te):PO X (aa e) (L3 te):=by
 intro a s d H Q I b;rw[evalPart_some];refine aN (h a s d H _ I b) λu k ⟨x,c,j,g,f⟩=>?_
 obtain⟨i,rfl,q⟩:=f;obtain⟨t,rfl⟩:=g;exact⟨aa i,c,j,.int i t,q⟩
noncomputable def kK(X:Cx)(r:V->Option Int->Option Int->Hp->VK->Prop):Prop:=
 ∀(a:List<|Addr×Obj) (s:Shared) (c:St) (H:Hp) (x:V) (v b d:ah) (lo hi:Option Int) (f:Addr) (Q:VK),Inv X a c H s->RelV x v->s.heap.IsSliceOf f b d .none->IsPart b lo->IsPart d hi->r x lo hi H Q->
  ∃T g,typeLookup (.type T) "__getitem__"=pure (aa<|.builtin g)/\s.TypeIs v T/\wpAny (model X.prog X.w) X.A (getItem v<|.ref f) (EP X a c Q) X.xe s
def kK.or{r b:V->Option Int->Option Int->Hp->VK->Prop}(h:kK X r)(h':kK X b):kK X (λx lo hi H Q=>r x lo hi H Q\/b x lo hi H Q):=by
 intro a s f H x v c d lo hi j Q I g k i l q;rcases q with q|q
 ·exact h a s f H x v c d lo hi j Q I g k i l q
 ·exact h' a s f H x v c d lo hi j Q I g k i l q
noncomputable def NP(r:V->Option Int->Option Int->Hp->VK->Prop)(te:TE)(tl th:TO):TE:=λa H Q=>te a H λx b=>tl a b λl d=>th a d λu c=>r x l u c Q
def Fe{r:V->Option Int->Option Int->Hp->VK->Prop}(D:kK X r)(m:PE X e te)(z:PO X lo tl)(J:PO X hi th):PE X (.Subscript e (.Slice lo hi ae p2) pos) (NP r te tl th):=by
 intro a s f H Q I h;refine Subscript_<|aN (m a s f H _ I h) λv C ⟨x,K,n,y,E⟩=>?_
 refine wpAny_Slice<|aN (z a C f K _ n E) λg P ⟨l,o,k,F,B⟩=>aN (J a P f o _ k B) λi c ⟨u,j,G,O,L⟩=>?_
 rw[evalPart_none];refine Uj ?_;have N:Inv X a f j {c with heap:=c.heap.push {cls:=.type "slice",data:=.fields #[g,i,.none]}}:=G.kept (t':=c.toks) λb S q=>Uw _ q
 obtain⟨T,R,p,t,M⟩:=D a {c with heap:=c.heap.push {cls:=.type "slice",data:=.fields #[g,i,.none]}} f j x v g i l u c.heap.objs.size Q N y (Heap.IsSliceOf.new ..) F O L;show wpAny (model X.prog X.w) X.A (subscriptTail e (.Slice lo hi ae p2) v<|.ref c.heap.objs.size) (EP X a f Q) X.xe {c with heap:=c.heap.push {cls:=.type "slice",data:=.fields #[g,i,.none]}};exact tail_any (ops:=[.ref c.heap.objs.size,v]) t p M<|by with_unfolding_all rfl
noncomputable def kE(xs:List V)(lo hi:Option Int):List V:=(xs.drop<|HT.a_ xs.length 0 lo).take<|HT.a_ xs.length xs.length hi-HT.a_ xs.length 0 lo
def xu(xs:List V)(lo hi:Option Int):(kE xs lo hi).length<=xs.length:=by unfold kE;rw[Vm,V8];omega
noncomputable def MU(K:PySem.W.Frag):V->Option Int->Option Int->Hp->VK->Prop:=λx lo hi H Q=>∃a b,x=.ref a/\dA K H a b/\
 ¬(HT.a_ b.length 0 lo=0/\HT.a_ b.length b.length hi=b.length)/\∀p,H p=ae->Q (.ref p) (upd H p<|.tup<|kE b lo hi)
def JL:kK X (MU X.K):=by
 intro g s z H x v u y lo hi A Q I t m l p h;obtain⟨a,d,rfl,k,n,q⟩:=h;cases t;obtain⟨f,r,j,i⟩:=I.tuple k;have c:f.toArray.size=d.length:=by rw[Uh];exact r.length.symm
 refine⟨"tuple",_,Wq.lookup,j.typeIs,?_⟩;refine HT.B_ j m l p (by rw[c];exact n) ?_ (by rw[c];exact i);rw[c];refine⟨.ref s.heap.objs.size,_,I.laid (t':=s.toks) (o:=.tup<|kE d lo hi) (λb w q=>Uw _ q) (T8 _) ?_,rfl,q _<|I.aF.fresh<|T8 _⟩;exact⟨Ug (xu d lo hi) i,_,(r.drop<|HT.a_ d.length 0 lo).take<|HT.a_ d.length d.length hi-HT.a_ d.length 0 lo,IsTup.new _ _⟩
end
noncomputable def ck(n:Nat)(i:Int):Option Nat:=if 0<=i then(if i<n then aa i.toNat else ae) else if-(n:Int)<=i then aa (i+n).toNat else ae
noncomputable def cH{a:Type}(xs:List a)(i:Int):Option a:=(ck xs.length i).bind λj=>xs[j]?
def zm{n:Nat}{i:Int}{j:Nat}(h:ck n i=aa j):seqIndex? i n=aa j/\j<n/\ -(n:Int)<=i/\i<n:=by
 unfold ck at h;by_cases b:0<=i
 ·rw[T1 b] at h;by_cases a:i<n
  ·rw[T1 a] at h;have e:i.toNat=j:=Ua h;exact⟨by rw[seqIndex_of b a,e],by omega,by omega,a⟩
  ·rw[T2 a] at h;cases h
 ·rw[T2 b] at h;by_cases a: -(n:Int)<=i
  ·rw[T1 a] at h;have e:(i+n).toNat=j:=Ua h;exact⟨by rw[seqIndex_neg (by omega) a,e],by omega,a,by omega⟩
  ·rw[T2 a] at h;cases h
def u4{a:Type}{xs:List a}{i:Int}{v:a}(h:cH xs i=aa v):∃j,seqIndex? i xs.length=aa j/\xs[j]? =aa v/\j<xs.length/\ -(xs.length:Int)<=i/\i<xs.length:=by
 unfold cH at h;cases e:ck xs.length i with
 |none=>rw[e] at h;cases h
 |some j=>rw[e] at h;obtain⟨d,c,h3,b⟩:=zm e;exact⟨j,d,h,c,h3,b⟩
noncomputable def zo(b:Expr):Prop:=∀o i,subscripted b ag o i=operate [o,i] (getItem o i)
noncomputable def jB(X:Cx)(r:R2):Prop:=
 ∀(c a:Expr) (b:List<|Addr×Obj) (s:Shared) (d:St) (H:Hp) (x y:V) (v u:ah) (Q:VK),Inv X b d H s->RelV x v->RelV y u->r x y H Q->
  subscripted a ag v u=operate [v,u] (getItem v u)->wpAny (model X.prog X.w) X.A (subscriptTail c a v u) (EP X b d Q) X.xe s
noncomputable def iY(X:Cx)(e:String)(r:V->List V->Hp->VK->Prop):Prop:=
 ∀(a:List<|Addr×Obj) (s:Shared) (d:St) (H:Hp) (x:V) (c:List V) (v:ah) (b:List ah) (Q:VK),Inv X a d H s->RelV x v->Vals c b->r x c H Q->
  wpAny (model X.prog X.w) X.A (call (.builtin e)<|v::b) (EP X a d Q) X.xe s
section
variable{X:Cx}{a b:Expr}{ta tb:TE}{pos:Pos}
def jB.or{r f:R2}(h:jB X r)(h':jB X f):jB X (λx y H Q=>r x y H Q\/f x y H Q):=by
 intro d c e s i H x y v u Q I j g q k;rcases q with q|q
 ·exact h d c e s i H x y v u Q I j g q k
 ·exact h' d c e s i H x y v u Q I j g q k
def iY.or{d:String}{r e:V->List V->Hp->VK->Prop}(h:iY X d r)(h':iY X d e):iY X d (λx xs H Q=>r x xs H Q\/e x xs H Q):=by
 intro c s g H x xs v f Q I j i q;rcases q with q|q
 ·exact h c s g H x xs v f Q I j i q
 ·exact h' c s g H x xs v f Q I j i q
def L4{r:R2}(i:jB X r)(m:PE X a ta)(f:PE X b tb)(k:zo b):PE X (.Subscript a b pos) (r8 r ta tb):=by intro c s l H Q I h;exact Subscript_<|wd m f I h λv u n x y e d j g q=>i a b c n l e x y v u Q d j g q<|k _ _
noncomputable def Bd(K:PySem.W.Frag):R2:=λx y H Q=>∃p c i v,x=.ref p/\y=.int i/\bg K H p c/\cH c i=aa v/\Q v H
noncomputable def Be(K:PySem.W.Frag):R2:=λx y H Q=>∃p c i v,x=.ref p/\y=.int i/\dA K H p c/\cH c i=aa v/\Q v H
noncomputable def Bf:R2:=λx y H Q=>∃z i c,x=.str z/\y=.int i/\z.length<=sizeLine/\cH z.cps.toList i=aa c/\Q (.str ⟨#[c]⟩) H
def zp:jB X (Bd X.K):=by
 intro l n c s A H x y v u Q I N J h o;obtain⟨p,P,i,z,rfl,rfl,E,F,q⟩:=h;cases N;obtain⟨t,rfl⟩:=J;obtain⟨k,r,m,R⟩:=I.list E;obtain⟨j,e,O,h3,D,M⟩:=u4 F;obtain⟨w,C,f⟩:=r.get O;have L:=r.length;have S:=oX;have d:EP X c A Q w s:=⟨z,H,I,f,q⟩;by_cases B:0<=i
 ·have g:i.toNat=j:=by rw[seqIndex_of B M] at e;exact Ua e
  exact item_listR m.isList B (by omega) (by rw[g];simpa using C) d o
 ·have g:(i+(k.toArray.size:Int)).toNat=j:=by rw[seqIndex_neg (by omega) D] at e;rw[Uh,<-L];exact Ua e
  exact subscriptTail_builtinR (x:=w) m.isList.typeIs slot_list_getitem.lookup (wpAny_getItem_list_neg (Q:=λr G=>r=w/\EP X c A Q r G) m.isList (by omega) (by rw[Uh]<;>omega) (by omega) (by rw[g];simpa using C) ⟨rfl,d⟩) o
def Ad:jB X (Be X.K):=by intro e f c s l H x y v u Q I D A h E;obtain⟨p,L,i,z,rfl,rfl,m,n,q⟩:=h;cases D;obtain⟨t,rfl⟩:=A;obtain⟨C,r,k,N⟩:=I.tuple m;obtain⟨j,J,F,h3,M,P⟩:=u4 n;obtain⟨w,G,d⟩:=r.get F;have B:=r.length;have O:=oX;have g:EP X c l Q w s:=⟨z,H,I,d,q⟩;exact subscriptTail_builtinR (x:=w) k.typeIs Wq.lookup (getItem_tuple (j:=j) (Q:=λr o=>r=w/\EP X c l Q r o) k (by omega) (by omega) (by rw[Uh,<-B];exact J) (by simpa using G) ⟨rfl,g⟩) E
def JM:jB X Bf:=by
 intro d e f s F H x y v u Q I B n h w;obtain⟨z,i,c,rfl,rfl,C,l,q⟩:=h;obtain⟨t,rfl⟩:=B;obtain⟨E,rfl⟩:=n;obtain⟨j,g,A,h3,k,p⟩:=u4 l;have o:z.cps.toList.length=z.length:=by simp[Str.length]
 rw[o] at g k p;have D:=oX;exact tail_any (typeIs_str s z t) slot_str_getitem.lookup (getItem_str (c:=c) (by
  have r:ai (i< -(2 ^ 63:Int))=ag:=Ut<|by omega
  have m:ai (i>=2 ^ 63)=ag:=Ut<|by omega
  rw[r,m,WU]) (by rw[g];simpa using A) ⟨.str ⟨#[c]⟩,H,I.tok _,⟨_,rfl⟩,q⟩) w
noncomputable def NQ(K:PySem.W.Frag):R2:=λx y H Q=>Bd K x y H Q\/Be K x y H Q\/Bf x y H Q
def Ae:jB X (NQ X.K):=zp.or<|Ad.or JM
def C4(c:List ah)(n j:Nat)(u:ah):Obj.mapSeq (·.setIfInBounds j u) {cls:=.type "list",data:=.seq c.toArray n}={cls:=.type "list",data:=.seq (c.set j u).toArray n}:=by simp[Obj.mapSeq]
def Inv.lst{pins:List (Addr×Obj)}{σ:St}{H:Hp}{s:Shared}{p:Addr}{xs:List V}(I:Inv X pins σ H s)(h:H p=aa (.lst xs)):
 ∃(c:List ah) (n:Nat),Vals xs c/\s.heap.get? p=aa {cls:=.type "list",data:=.seq c.toArray n}/\xs.length<=sizeLine:=by
 obtain⟨z,c,n,r,e⟩:=I.aF p _ h;exact⟨c,n,r,e,z⟩
def Inv.JN{pins:List (Addr×Obj)}{σ:St}{H:Hp}{s:Shared}{p:Addr}{xs ys:List V}{c its':List ah}{n d:Nat}{f:Obj->Obj}(I:Inv X pins σ H s)(h:H p=aa (.lst xs))(j:s.heap.get? p=aa {cls:=.type "list",data:=.seq c.toArray n})(g:f {cls:=.type "list",data:=.seq c.toArray n}={cls:=.type "list",data:=.seq its'.toArray d})(r:Vals ys its')(hz:ys.length<=sizeLine)(t:Nat):
 Inv X pins σ (upd H p<|.lst ys) {s with heap:=s.heap.update p f,toks:=t}:=by
 have e:(s.heap.update p f).get? p=aa {cls:=.type "list",data:=.seq its'.toArray d}:=by rw[Heap.get?_update_self f j<|by rw[g]<;>rfl,g]
 refine I.write (x:=p) (e:=p) (by rw[h];trivial) (.inl rfl) (λb u i q=>(WV _ _<|Uq i).trans q) ⟨_,e⟩ ?_;exact⟨hz,its',d,r,e⟩
noncomputable def L5:V->V->V->Hp->(Hp->Prop)->Prop:=λo i v H Q=>∃p c k j,o=.ref p/\i=.int k/\H p=aa (.lst c)/\ck c.length k=aa j/\Q (upd H p<|.lst<|c.set j v)
def set_list:A8 X L5:=by
 intro c s E H o i v L J u Q I F G B h;obtain⟨p,A,k,j,rfl,rfl,y,D,q⟩:=h;cases F;obtain⟨t,rfl⟩:=G;obtain⟨d,n,r,l,C⟩:=I.lst y;obtain⟨e,M,h3,m⟩:=zm D;have g:=r.length;have K:=oX;have x:Inv X c E (upd H p<|.lst<|A.set j v) {s with heap:=s.heap.update p (Obj.mapSeq (·.setIfInBounds j u))}:=
  I.JN y l (C4 d n j u) (r.set B j) (by rw[U1];exact C) s.toks
 by_cases z:0<=k
 ·have f:k.toNat=j:=by rw[seqIndex_of z m] at e;exact Ua e
  exact PySem.W.ki_setAt l z (by omega) (by rw[Uh,<-g];exact m) (by rw[f];exact⟨_,x,q⟩)
 ·have f:(k+(d.toArray.size:Int)).toNat=j:=by rw[seqIndex_neg (by omega) h3] at e;rw[Uh,<-g];exact Ua e
  exact PySem.W.ki_setBack l (by omega) (by rw[Uh,<-g];exact h3) (by omega) (by rw[f];exact⟨_,x,q⟩)
def Cp(lo c:Option Int)(n:Nat):(sliceBounds lo c ae n).1=((HT.a_ n 0 lo:Nat):Int)/\(sliceBounds lo c ae n).2.1=((HT.a_ n n c:Nat):Int)/\(sliceBounds lo c ae n).2.2=1:=by
 refine⟨?_,?_,rfl⟩
 ·cases lo with
  |none=>simp[sliceBounds,HT.a_]
  |some i=>
   simp only[sliceBounds,HT.a_,Option.getD_none,show(1:Int)>0 by decide,Ul];by_cases h:i<0
   ·simp only[h,Ul]<;>omega
   ·simp only[h,UG]<;>omega
 ·cases c with
  |none=>simp[sliceBounds,HT.a_]
  |some i=>
   simp only[sliceBounds,HT.a_,Option.getD_none,show(1:Int)>0 by decide,Ul];by_cases h:i<0
   ·simp only[h,Ul]<;>omega
   ·simp only[h,UG]<;>omega
def Ck(c:List ah)(lo d:Option Int):slicePick c.toArray lo d ae=((c.drop<|HT.a_ c.length 0 lo).take<|HT.a_ c.length c.length d-HT.a_ c.length 0 lo).toArray:=by obtain⟨f,e,h3⟩:=Cp lo d c.toArray.size;unfold slicePick;rw[f,e,h3];simp only[sliceRange_one,pick_run,Uh]<;>rfl
noncomputable def MV(K:PySem.W.Frag):V->Option Int->Option Int->Hp->VK->Prop:=λx d e H Q=>∃a c,x=.ref a/\bg K H a c/\∀p,H p=ae->Q (.ref p) (upd H p<|.lst<|kE c d e)
def Hk:kK X (MV X.K):=by
 intro g s z H x v u y e f A Q I t n m p h;obtain⟨a,c,rfl,k,q⟩:=h;cases t;obtain⟨l,r,i,j⟩:=I.list k;have d:=r.length;refine⟨"list",_,slot_list_getitem.lookup,i.isList.typeIs,?_⟩;refine wpAny_getItem_list_slice i.isList n m p .none (by simp) ?_<|by rw[Uh]<;>omega
 rw[Ck,<-d];refine⟨.ref s.heap.objs.size,_,I.laid (t':=s.toks) (o:=.lst<|kE c e f) (λb w q=>Uw _ q) (T8 _) ?_,rfl,q _<|I.aF.fresh<|T8 _⟩;exact⟨Ug (xu c e f) j,_,0,(r.drop<|HT.a_ c.length 0 e).take<|HT.a_ c.length c.length f-HT.a_ c.length 0 e,UR _ rfl⟩
noncomputable def dF:V->Bool
 |.aw=>af
 |.bl _=>af
 |.int _=>af
 |.str _=>af
 |_=>ag
noncomputable def dh:V->V->Bool
 |.aw,.aw=>af
 |.bl a,.bl b=>a==b
 |.bl a,.int b=>(if a then 1 else 0)==b
 |.int a,.bl b=>a==(if b then 1 else 0)
 |.int a,.int b=>a==b
 |.str a,.str b=>a==b
 |_,_=>ag
def rg{A:Around}{s:Shared}{y x:V}{u v:ah}(f:RelV y u)(c:RelV x v)(g:dF y=af)(e:dF x=af):SeqAt.EqAt A s u v (dh y x):=by
 cases y with
 |aw=>
  cases f;cases x with
  |aw=>cases c;exact SeqAt.EqAt.same _
  |bl b=>cases c;exact SeqAt.EqAt.none_bool b
  |int b=>obtain⟨t,rfl⟩:=c;exact SeqAt.EqAt.none_int b t
  |str b=>obtain⟨t,rfl⟩:=c;exact SeqAt.EqAt.none_str b t
  |_=>exact absurd (show ag=af from e) Uk
 |bl a=>
  cases f;cases x with
  |aw=>cases c;exact SeqAt.EqAt.bool_none a
  |bl b=>cases c;exact SeqAt.EqAt.bool_bool a b
  |int b=>obtain⟨t,rfl⟩:=c;exact SeqAt.EqAt.bool_int a b t
  |str b=>obtain⟨t,rfl⟩:=c;exact SeqAt.EqAt.bool_str a b t
  |_=>exact absurd (show ag=af from e) Uk
 |int a=>
  obtain⟨d,rfl⟩:=f;cases x with
  |aw=>cases c;exact SeqAt.EqAt.int_none a d
  |bl b=>cases c;exact SeqAt.EqAt.int_bool a d b
  |int b=>obtain⟨t,rfl⟩:=c;exact SeqAt.EqAt.int_int a d b t
  |str b=>obtain⟨t,rfl⟩:=c;exact SeqAt.EqAt.int_str a d b t
  |_=>exact absurd (show ag=af from e) Uk
 |str a=>
  obtain⟨d,rfl⟩:=f;cases x with
  |aw=>cases c;exact SeqAt.EqAt.str_none a d
  |bl b=>cases c;exact SeqAt.EqAt.str_bool a d b
  |int b=>obtain⟨t,rfl⟩:=c;exact SeqAt.EqAt.str_int a d b t
  |str b=>obtain⟨t,rfl⟩:=c;exact SeqAt.EqAt.str_str a d b t
  |_=>exact absurd (show ag=af from e) Uk
 |_=>exact absurd (show ag=af from g) Uk
noncomputable def eK(x:V)(u:ah):Bool:=match u with
 |.none=>dh .aw x
 |.bool b=>dh (.bl b) x
 |.int i _=>dh (.int i) x
 |.str z _=>dh (.str z) x
 |_=>ag
def vq{x y:V}{u:ah}(r:RelV y u)(f:dF y=af):eK x u=dh y x:=by
 cases y with
 |aw=>cases r;rfl
 |bl b=>cases r;rfl
 |int i=>obtain⟨t,rfl⟩:=r;rfl
 |str z=>obtain⟨t,rfl⟩:=r;rfl
 |_=>exact absurd (show ag=af from f) Uk
theorem oR{x:V}:∀{xs:List V} {us:List ah},Vals xs us->xs.all dF=af->us.any (eK x)=xs.any λy=>dh y x
 |_,_,.nil,_=>rfl
 |y::xs,u::us,.cons r t,f=>by rw[Vf,T_] at f;rw[U4,U4,vq r f.1,oR t f.2]
theorem mQ{A:Around}{s:Shared}{x:V}{v:ah}(e:RelV x v)(d:dF x=af):∀{xs:List V} {us:List ah},Vals xs us->xs.all dF=af->∀u∈us,SeqAt.EqAt A s u v (eK x u)
 |_,_,.nil,_=>λu c=>by cases c
 |y::xs,u::us,.cons r t,f=>λg c=>by
  rw[Vf,T_] at f;rcases T4.mp c with rfl|c
  ·rw[vq r f.1];exact rg r e f.1 d
  ·exact mQ e d t f.2 g c
noncomputable def r_(x:V)(xs:List V):Bool:=xs.any λy=>dh y x
noncomputable def Bx(K:PySem.W.Frag)(neg:Bool):R2:=λx y H Q=>∃p c,y=.ref p/\(bg K H p c\/dA K H p c)/\dF x=af/\c.all dF=af/\Q (.bl<|if neg then !r_ x c else r_ x c) H
def DS:bO X (compareOp .In) (Bx X.K ag):=by
 intro j s o H x y v u Q I k m h;obtain⟨p,n,rfl,d,i,e,q⟩:=h;cases m;rcases d with d|d
 ·obtain⟨c,r,f,l⟩:=I.list d;refine SeqAt.in_listAt (eK x) f.isList (λw g=>mQ k i r e w<|by simpa using g) ⟨.bl _,H,I,rfl,?_⟩;rw[show c.toArray.any (eK x)=c.any (eK x) by simp,oR r e];exact q
 ·obtain⟨c,r,f,l⟩:=I.tuple d;refine SeqAt.in_tupleAt (eK x) f (λw g=>mQ k i r e w<|by simpa using g) ⟨.bl _,H,I,rfl,?_⟩;rw[show c.toArray.any (eK x)=c.any (eK x) by simp,oR r e];exact q
def Cq:bO X (compareOp .NotIn) (Bx X.K af):=by
 intro j s o H x y v u Q I k m h;obtain⟨p,n,rfl,d,i,e,q⟩:=h;cases m;rcases d with d|d
 ·obtain⟨c,r,f,l⟩:=I.list d;refine SeqAt.notIn_listAt (eK x) f.isList (λw g=>mQ k i r e w<|by simpa using g) ⟨.bl _,H,I,rfl,?_⟩;rw[show c.toArray.any (eK x)=c.any (eK x) by simp,oR r e];exact q
 ·obtain⟨c,r,f,l⟩:=I.tuple d;refine SeqAt.notIn_tupleAt (eK x) f (λw g=>mQ k i r e w<|by simpa using g) ⟨.bl _,H,I,rfl,?_⟩;rw[show c.toArray.any (eK x)=c.any (eK x) by simp,oR r e];exact q
def xp:f9 X (.builtin "len") (λxs H Q=>∃p ys,xs=[.ref p]/\(bg X.K H p ys\/dA X.K H p ys)/\Q (.int ys.length) H):=by
 intro i s m H xs l Q I r h;obtain⟨p,ys,rfl,d,q⟩:=h;obtain⟨u,rfl,k⟩:=vals1 r;cases k;have n:=oX;rcases d with d|d
 ·obtain⟨f,e,g,j⟩:=I.list d;have c:=e.length;exact Calls.call_len_list g.isList (by simp only[Uh]<;>omega) ⟨.int ys.length,H,I.tok _,⟨s.toks+1,by rw[Uh,c]⟩,q⟩
 ·obtain⟨f,e,g,j⟩:=I.tuple d;have c:=e.length;exact len_tuple g (by simp only[Uh]<;>omega) ⟨.int ys.length,H,I.tok _,⟨s.toks+1,by rw[Uh,c]⟩,q⟩
def Cr:f9 X (.type "list") (λxs H Q=>∃p ys,xs=[.ref p]/\(bg X.K H p ys\/dA X.K H p ys)/\∀l,H l=ae->Q (.ref l) (upd H l<|.lst ys)):=by
 intro j s D H xs F Q I r h;obtain⟨p,ys,rfl,i,q⟩:=h;obtain⟨u,rfl,E⟩:=vals1 r;cases E;have v:∀(c:List ah),Vals ys c->ys.length<=sizeLine->∀(d:Heap) (g:Nat),(∀b B,s.heap.get? b=aa B->d.get? b=aa B)->
  d.get? s.heap.objs.size=aa {cls:=.type "list",dict:=ae,data:=.seq c.toArray g,slots:= #[]}->EP X j D Q (.ref s.heap.objs.size) {s with heap:=d}:=λc f m d g k e=>
  ⟨.ref s.heap.objs.size,_,I.laid (t':=s.toks) k (T8 _)<|show c6 X.prog X.w _ d _ (.lst ys) from⟨m,c,g,f,e⟩,rfl,q _<|I.aF.fresh<|T8 _⟩
 rcases i with i|i
 ·obtain⟨c,f,z,m⟩:=I.list i;have t:=f.length;obtain⟨o,A,y,n,x⟩:=z.isList;exact call_list_seq p (.inl rfl) A y x (λd g k e=>v c f m d g k e)<|by simp only[Uh]<;>omega
 ·obtain⟨c,f,z,m⟩:=I.tuple i;have t:=f.length;obtain⟨o,A,y,n,x⟩:=z;exact call_list_seq p (.inr rfl) A y x (λd g k e=>v c f m d g k e)<|by simp only[Uh]<;>omega
noncomputable def wG(K:PySem.W.Frag)(T:String)(x:V)(H:Hp):Prop:=match x with
 |.str _=>T="str"
 |.int _=>T="int"
 |.ref p=>(T="list"/\∃d,bg K H p d)\/(T="tuple"/\∃o,K.lookup p=aa o/\o.cls=.type "tuple"/\o.dict=ae)\/ (T="dict"/\((∃c,H p=aa (.dK c))\/∃c,H p=aa (.dT c)))\/(T="set"/\∃S n,H p=aa (.set S n))
 |_=>False
def Af{pins:List (Addr×Obj)}{σ:St}{H:Hp}{s:Shared}{T:String}{x:V}{v:ah}(I:Inv X pins σ H s)(r:RelV x v)(ty:wG X.K T x H):
 s.TypeIs v T/\∀a,v=.ref a->∃k,s.heap.get? a=aa k/\k.dict=ae:=by
 cases x with
 |str z=>obtain⟨t,rfl⟩:=r;cases(show T="str" from ty);exact⟨typeIs_str s z t,λ_ e=>nomatch e⟩
 |int i=>obtain⟨t,rfl⟩:=r;cases(show T="int" from ty);exact⟨typeIs_int s i t,λ_ e=>nomatch e⟩
 |ref p=>
  cases r;rcases ty with⟨rfl,q,m⟩|⟨rfl,o,d,hc,f⟩|⟨rfl,d⟩|⟨rfl,S,n,d⟩
  ·obtain⟨l,_,j,_⟩:=I.list m;refine⟨j.isList.typeIs,λa e=>?_⟩;cases e;obtain⟨o,n,e,c,f,_⟩:=j;exact⟨o,e,f⟩
  ·refine⟨⟨o,I.dz p o d,hc⟩,λa e=>?_⟩;cases e;exact⟨o,I.dz _ o d,f⟩
  ·have z:∃o,s.heap.get? p=aa o/\o.ExactDict:=by
    rcases d with⟨h,d⟩|⟨h,d⟩
    ·obtain⟨_,_,_,_,o,_,_,e,ex,_⟩:=I.aF p _ d;exact⟨o,e,ex⟩
    ·obtain⟨_,_,_,_,o,_,_,e,ex,_⟩:=I.aF p _ d;exact⟨o,e,ex⟩
   obtain⟨o,e,ex⟩:=z;refine⟨⟨o,e,ex.1⟩,λa g=>?_⟩;cases g;exact⟨o,e,ex.2.1⟩
  ·obtain⟨o,_,_,_,e,ex,_⟩:=I.aF p _ d;refine⟨⟨o,e,ex.1⟩,λa g=>?_⟩;cases g;exact⟨o,e,ex.2.1⟩
 |_=>exact False.elim ty
noncomputable def MW(K:PySem.W.Frag)(T:String)(r:V->List V->Hp->VK->Prop)(d:TE):TE:=λe H Q=>d e H λx c=>wG K T x c/\r x [] c Q
noncomputable def NR(K:PySem.W.Frag)(T:String)(r:V->List V->Hp->VK->Prop)(f:TE)(t:TA):TE:=λd H Q=>f d H λx c=>wG K T x c/\t d c λe g=>r x e g Q
variable{o e:Expr}{es:List Expr}{to:TE}{t:TA}{name:Str}{apos bf:Pos}{T id:String}{r:V->List V->Hp->VK->Prop}
def JO(m:PlainAttrs T)(g:Slot T name id)(i:typeOf (.builtin id)=pure (.type "method_descriptor"))(u:iY X id r)(q:PE X o to)(d:attributeBase o name X.env (eval o X.env)=eval o X.env:=by rfl)(f:(apos.endLine==bf.line)=af:=by rfl):PE X (.Call (.Attribute o name apos) [] [] bf) (MW X.K T r to):=by
 intro c s l H Q I h;refine wpAny_Call_method0_late d f<|aN (q c s l H _ I h) λv n ⟨x,w,j,k,ty,p⟩=>?_
 obtain⟨z,y⟩:=Af j k ty;exact⟨T,id,m,g,i,z,y,VD rfl<|PySem.evalArgs_none<|u c n l w x [] v [] Q j k .nil p⟩
def L6(z:PlainAttrs T)(j:Slot T name id)(k:typeOf (.builtin id)=pure (.type "method_descriptor"))(G:iY X id r)(D:PE X o to)(N:PA X (e::es) t)(f:attributeBase o name X.env (eval o X.env)=eval o X.env:=by rfl)(i:((backTo bf<|starEach (e::es) X.env).all (λx=>!x.1)&&(backToKw bf<|keywordEach [] X.env).all (λx=>x.1.isSome)
  &&ai ((e::es).length+([]:List Keyword).length+(if([]:List Keyword).isEmpty then 0 else 1)<30))=af:=by rfl)
 (g:(apos.endLine==bf.line)=af:=by rfl) (C:starEach (e::es) X.env=(ag,eval e X.env)::starEach es X.env:=by rfl) (d:(backTo bf<|starEach es X.env).any (·.1)=ag:=by rfl):
 PE X (.Call (.Attribute o name apos) (e::es) [] bf) (NR X.K T r to t):=by
 intro c s l H Q I h;refine wpAny_Call_method_late f i g rfl<|aN (D c s l H _ I h) λv A ⟨x,J,m,n,ty,B⟩=>?_
 obtain⟨F,L⟩:=Af m n ty;refine⟨T,id,z,j,k,F,L,?_⟩;have p:=N bf c A l J _ m B;rw[C] at p⊢;refine VD (by show(ag||(backTo bf<|starEach es X.env).any (·.1))=ag;rw[d]<;>rfl)<|VS ?_;exact aN p λq O ⟨E,w,u,M,y⟩=>G c O l w x E v q Q u n M y
end
noncomputable def pY(X:Cx)(e:String)(r:V->List V->Hp->VK->Prop):Prop:=
 ∀(a:List<|Addr×Obj) (s:Shared) (d:St) (H:Hp) (x:V) (c:List V) (v:ah) (b:List ah) (Q:VK),Inv X a d H s->RelV x v->Vals c b->r x c H Q->
  wpAny (model X.prog X.w) X.A (call (.builtin e)<|v::b) (EP X a d Q) X.xe s
theorem Vals.one:∀{x:V} {us:List ah},Vals [x] us->∃u,us=[u]/\RelV x u
 |_,_,.cons r .nil=>⟨_,rfl,r⟩
theorem Vals.zero:∀{us:List ah},Vals [] us->us=[]
 |_,.nil=>rfl
def Vals.dropLast{xs:List V}{us:List ah}(h:Vals xs us):Vals xs.dropLast us.dropLast:=by
 induction h with
 |nil=>exact .nil
 |cons r t a=>
  cases t with
  |nil=>exact .nil
  |cons q b=>exact .cons r a
theorem Vals.eraseIdx:∀{xs:List V} {us:List ah} (i:Nat),Vals xs us->Vals (xs.eraseIdx i) (us.eraseIdx i)
 |_,_,_,.nil=>.nil
 |_,_,0,.cons _ t=>t
 |_,_,i+1,.cons r t=>.cons r<|Vals.eraseIdx i t
def C5{c:Type}(l:List c):l.eraseIdx (l.length-1)=l.dropLast:=by
 induction l with
 |nil=>rfl
 |cons a r d=>
  cases r with
  |nil=>rfl
  |cons b r=>
   have e:(a::b::r).length-1=((b::r).length-1)+1:=by have g:(a::b::r).length=r.length+2:=rfl;have f:(b::r).length=r.length+1:=rfl;omega
   rw[e,List.eraseIdx_cons_succ,d];all_goals rfl
theorem xT{a:Type}:∀(l:List a) (i:Nat),(l.eraseIdx i).length<=l.length
 |[],_=>T8 _
 |_::_,0=>Nat.le_succ _
 |_::r,i+1=>Nat.succ_le_succ<|xT r i
section
variable{X:Cx}{pins:List (Addr×Obj)}{σ:St}{H:Hp}{s:Shared}{l b:Addr}{xs ys zs:List V}
def Inv.nF{a its':List ah}{n:Nat}{f:Array ah->Array ah}{t':Nat}(I:Inv X pins σ H s)(c:H l=aa (.lst xs))(e:s.heap.get? l=aa {cls:=.type "list",data:=.seq a.toArray n})(i:f a.toArray=its'.toArray)(h:Vals ys its')(hz:ys.length<=sizeLine):
 Inv X pins σ (upd H l<|.lst ys) {s with heap:=s.heap.update l (Obj.mapSeq f),toks:=t'}:=by
 have q:=PySem.IsL.update e f;rw[i] at q;refine I.write (x:=l) (e:=l) (by rw[c];exact trivial) (.inl rfl) (λj u g d=>(WV s.heap (Obj.mapSeq f)<|Uq g).trans d) ⟨_,q⟩ ?_;exact⟨hz,its',_,h,q⟩
def Inv.MX{a:List ah}{t':Nat}(I:Inv X pins σ H s)(c:Vals ys a)(hz:ys.length<=sizeLine):
 Inv X pins σ (upd H s.heap.objs.size<|.lst ys) {s with heap:=s.heap.push {cls:=.type "list",data:=.seq a.toArray},toks:=t'}:=
 I.laid (λ_ _ q=>Uw _ q) (T8 _) ⟨hz,a,0,c,UR _ rfl⟩
def Inv.fresh(I:Inv X pins σ H s):H s.heap.objs.size=ae:=I.aF.fresh<|T8 _
def Inv.iT(I:Inv X pins σ H s)(c:H l=aa (.lst xs)):xs.length<=sizeLine/\∃(a:List ah) (n:Nat),Vals xs a/\xs.length=a.length/\s.heap.get? l=aa {cls:=.type "list",data:=.seq a.toArray n}:=by obtain⟨z,a,n,r,e⟩:=I.aF l _ c;exact⟨z,a,n,r,r.length,e⟩
def yw{n:Nat}(h:n<=sizeLine):Builtin.List.listTooLong n=ag:=by unfold Builtin.List.listTooLong;exact Ut<|by omega
end
section
variable{X:Cx}
noncomputable def Hl:V->List V->Hp->VK->Prop:=λx b H Q=>∃l a y,x=.ref l/\b=[y]/\H l=aa (.lst a)/\a.length<sizeLine/\Q .aw (upd H l<|.lst<|a++[y])
def DT:pY X "list.append" Hl:=by intro b s p H x o v i Q I g d h;obtain⟨l,j,y,rfl,rfl,c,k,q⟩:=h;cases g;obtain⟨u,rfl,f⟩:=d.one;obtain⟨z,a,n,r,m,e⟩:=I.iT c;refine Vu WW ⟨_,e,rfl⟩ F.entry_list_append (F.args_list_append_2 _ _) (PySem.list_append l a.toArray n u (by rw[Uh];omega)) ⟨e,?_⟩;refine⟨.aw,_,I.nF (its':=a++[u]) c e (by simp) (r.append<|.cons f .nil) ?_,rfl,q⟩;rw[Ur,Wr];omega
noncomputable def Hm:V->List V->Hp->VK->Prop:=λx d H Q=>∃l b a c,x=.ref l/\d=[.ref b]/\H l=aa (.lst a)/\H b=aa (.lst c)/\a.length+c.length<=sizeLine/\Q .aw (upd H l<|.lst<|a++c)
def DU:pY X "list.extend" Hm:=by
 intro g s K H x J v A Q I y j h;obtain⟨l,b,B,C,rfl,rfl,i,w,E,q⟩:=h;cases y;obtain⟨u,rfl,m⟩:=j.one;cases m;obtain⟨z,c,n,r,G,e⟩:=I.iT i;obtain⟨D,a,o,t,p,k⟩:=I.iT w;have f:c.toArray.size+a.toArray.size<=sizeLine:=by rw[Uh,Uh];omega
 have d:¬(!c.toArray.isEmpty&&Builtin.List.listTooLong (c.toArray.size+a.toArray.size))=af:=by rw[yw f,Vo];exact Uk
 refine Vu WX ⟨_,e,rfl⟩ F.entry_list_extend (F.args_list_extend_2 _ _) (AutoSeq1.list_extend_list_list_0 l c.toArray n b a.toArray o d (by rw[Uh];omega)<|by omega) ⟨e,k,?_⟩
 refine⟨.aw,_,I.nF (its':=c++a) i e (by simp) (r.append t) ?_,rfl,q⟩;rw[Ur];omega
noncomputable def MY:V->List V->Hp->VK->Prop:=λx b H Q=>∃l a y,x=.ref l/\b=[]/\H l=aa (.lst a)/\a[a.length-1]? =aa y/\Q y (upd H l<|.lst a.dropLast)
def JP:pY X "list.pop" MY:=by
 intro d s A H x w v p Q I o g h;obtain⟨l,t,y,rfl,rfl,f,i,q⟩:=h;cases o;have c:=g.zero;subst c;obtain⟨z,a,n,r,k,e⟩:=I.iT f;obtain⟨u,m,j⟩:=r.get i;have b:a.toArray[a.toArray.size-1]? =aa u:=by show a.toArray[a.length-1]? =aa u;rw[<-WY,<-k];exact m
 refine Vu Ws ⟨_,e,rfl⟩ F.entry_list_pop (F.args_list_pop_1 _) (MeetsSeq.list_pop_last l a.toArray n u b (by rw[Uh];omega)) ⟨e,?_⟩;refine⟨y,_,I.nF (its':=a.dropLast) f e ?_ r.dropLast ?_,j,q⟩
 ·show a.toArray.eraseIdxIfInBounds (a.toArray.size-1)=a.dropLast.toArray;rw[Uh,XA,C5]
 ·rw[List.length_dropLast];omega
noncomputable def JQ:V->List V->Hp->VK->Prop:=λx b H Q=>∃l a i k y,x=.ref l/\b=[.int i]/\H l=aa (.lst a)/\ -(2 ^ 63)<=i/\i<2 ^ 63/\seqIndex? i a.length=aa k/\a[k]? =aa y/\Q y (upd H l<|.lst<|a.eraseIdx k)
def Ff:pY X "list.pop" JQ:=by
 intro c s J H x G v E Q I A g h;obtain⟨l,f,i,k,y,rfl,rfl,d,D,C,j,m,q⟩:=h;cases A;obtain⟨u,rfl,o⟩:=g.one;obtain⟨t,rfl⟩:=o;obtain⟨z,a,n,r,p,e⟩:=I.iT d;obtain⟨w,B,b⟩:=r.get m;refine Vu Ws ⟨_,e,rfl⟩ F.entry_list_pop (F.args_list_pop_2 _ _) (MeetsSeq.list_pop_at l a.toArray n i t k w (fitsIndex_both D C) (by rw[Uh,<-p];exact j) (by rw[<-WY];exact B) (by rw[Uh];omega)) ⟨e,?_⟩
 refine⟨y,_,I.nF (its':=a.eraseIdx k) d e ?_ (r.eraseIdx k) ?_,b,q⟩
 ·show a.toArray.eraseIdxIfInBounds k=(a.eraseIdx k).toArray;rw[XA]
 ·have:=xT f k;omega
noncomputable def MZ:R2:=λx y H Q=>∃l b a c,x=.ref l/\y=.ref b/\H l=aa (.lst a)/\H b=aa (.lst c)/\a.length+c.length<=sizeLine/\∀p,H p=ae->Q (.ref p) (upd H p<|.lst<|a++c)
def JR:bO X (binaryOp .Add) MZ:=by
 intro d s E H x y v u Q I p i h;obtain⟨l,b,t,w,rfl,rfl,f,o,B,q⟩:=h;cases p;cases i;obtain⟨z,c,n,r,C,e⟩:=I.iT f;obtain⟨A,a,D,m,k,g⟩:=I.iT o;refine PySem.P.add_list e g ?_ (by rw[Uh,Uh];omega);have j:c.toArray++a.toArray=(c++a).toArray:=by simp
 rw[j];exact⟨.ref _,_,I.MX (t':=s.toks) (r.append m) (by rw[Ur];omega),rfl,q _ I.fresh⟩
end
section
variable{prog:Program}{w:World}{A:Around}{E:ah->Shared->Prop}{s:Shared}
set_option maxRecDepth 100000 in
end
section
variable{X:Cx}
end
end L2
namespace By
open PySem PySem.W PySem.Calls PyProof.Rows
def Cf{P:Params}{h:Heap}:∀(c:List Int) (vs:List ah),WellAll P h vs (c.map WData.int)->IntsAre vs c:=by
 intro c;induction c with
 |nil=>intro vs w;rw[U0] at w;cases w;exact .nil
 |cons n c d=>
  intro vs w;rw[Uo] at w;cases w with
  |cons a b=>cases a;exact .cons _ _<|d _ b
def DV{l:OpenLaw}{n:Nat}(t:l.most=aa n){P:Params}{h:Heap}{args:List WData}{c:List ah}(e:l.row.toRowW.claim.pre args=af)(k:WellAll P h c args):
 ∃a vs b,c=[Value.ref a]/\args=[WData.list<|b.map WData.int]/\h.get? a=aa {cls:=.type "list",data:=.seq vs.toArray}/\IntsAre vs b/\b.length<=n:=by
 have m:WShape.hasAll [] args [.list .int]=af:=(pre_splitW e).1;have o:l.pre.holds [] {args:=args}=af:=(pre_splitW e).2;obtain⟨d,r,rfl,x,w⟩:=hasAllW_cons m;obtain rfl:=hasAllW_nil w;obtain⟨y,rfl,h3⟩:=hasW_list x;obtain⟨b,rfl⟩:=items_int h3;have f:b.length<=n:=by
  unfold OpenLaw.pre at o;have i:(WTm.not<|.lt (.lit<|.int (n:Int))<|.len<|.arg 0).holds [] {args:=[.list<|b.map .int]}=af:=by have i:=(holds_andW o).1;rw[t] at i;exact i
  have j:=condW_of i<|w_not<|w_lt w_lit<|w_len_list<|w_arg rfl;rw[Ub] at j;refine VT λq=>?_
  have s:(n:Int)<((b.length:Nat):Int):=by omega
  first
   |(rw[UA s] at j;exact absurd j<|by decide)
   |(simp at j;omega)
 cases k with
 |cons v p=>
  cases p;cases v with
  |list u g=>exact⟨_,_,b,rfl,rfl,u,Cf b _ g,f⟩
def DW(l:OpenLaw)(args:List WData):l.row.toRowW.claim.post args (.bool af) args=af:=
 postW_of (r:=l.row.toRowW) (X:=(af==af)) (show WShape.has [] (.bool af) .bool=af by first|rfl|decide|simp[WShape.has,WShape.arms,WShape.armsAll]) (show(WTm.eq .res<|.lit<|.bool af).value [] {args:=args,res:=aa (.bool af),after:=args}=aa (.bool<|af==af) from w_eq_bool (w_res rfl) w_lit) rfl
def CB{l:OpenLaw}{n:Nat}{q:Program}{c:List Str}{A:(Str->Option ah)->Heap->Prop}{C:World->Heap->Prop}{d:DefRec}(K:l.most=aa n)(u:d.params.defaults=[])(call:∀(w:World) (c7 b:Shared) (m s:Str->Option ah) (fa:Addr) (o:Obj) (y k e:ah) (a:Addr) (vs:List ah) (p:List Int),
  Ground q c [] A w c7 m s b.heap->C w b.heap->
  b.heap.get? fa=aa o->o.data=.func (docDef d.name d.params d.body d.scope y k e)->b.heap.CodeRec k d.name->m d.name=aa (.ref fa)->
  b.heap.get? a=aa {cls:=.type "list",data:=.seq vs.toArray}->IntsAre vs p->p.length<=n->b.gens= #[]->
  codeAny (model l.prog w) callerA (.call (.ref fa) ⟨[.ref a],[]⟩) (λr s'=>r=.ok (.ret (.bool af))/\OldK b.heap s'.heap/\s'.os=b.os/\AllBare s'.gens) b):
 WalkO q c A C l.row.toRowW d [] (λf vs=>PySem.call f vs):=by
 intro w c7 b m s G Y fa o y k e I kV L F t z x P args D Q j B O v J;obtain rfl:I=.none:=Dflts.none z u;obtain rfl:kV=.none:=Dflts.noKw z;obtain⟨a,vs,p,rfl,rfl,i,g,h⟩:=DV K j v;refine enter_call<|V6 (call w c7 b m s fa o y k e a vs p G Y L (fd_plain F) t x i g h P) λr s' H=>?_
 obtain⟨rfl,N,h3,E⟩:=H;exact⟨.inl ⟨.bool af,.bool af,[],rfl,λ_=>rfl,.bool af,DW l _,λ_=>⟨List.Pairwise.nil,λ_ M=>(nomatch M)⟩⟩,N,h3,E⟩
section
variable{prog:Program}{w:World}{A:Around}{E:ah->Shared->Prop}{s:Shared}{K:Frag}
end
end By
namespace L2
open PySem PySem.Spec PyProof.Rows
theorem xU:∀{vs:List ah} {a:List Int},IntsAre vs a->Vals (a.map V.int) vs
 |_,_,.nil=>.nil
 |_,_,.cons n t h=>.cons ⟨t,rfl⟩<|xU h
noncomputable def inClass(s:Stmt)(j:Nat):Stmt:=match s with
 |.ClassDef _ _ _ body _ _ _ _ _ _ _=>body.getD j<|.Pass ⟨0,0,0,0⟩
 |_=>.Pass ⟨0,0,0,0⟩
noncomputable def lG(s:Stmt):Arguments:=match s with
 |.FunctionDef _ a _ _ _ _ _ _ _ _=>a
 |_=>{posonlyargs:=[],args:=[],vararg:=ae,kwonlyargs:=[],kw_defaults:=[],kwarg:=ae,defaults:=[]}
noncomputable def fD(s:Stmt):List Stmt:=match s with
 |.FunctionDef _ _ b _ _ _ _ _ _ _=>b
 |_=>[]
noncomputable def cc(s:Stmt):Scope:=match s with
 |.FunctionDef _ _ _ _ _ _ sc _ _ _=>sc
 |_=>{kind:=.function,names:=[],isGenerator:=ag,isCoroutine:=ag}
noncomputable abbrev fz:gm:=λ_ _ _ _ _ _=>False
noncomputable abbrev E0:XK:=λ_ _ _=>False
def rD{X:Cx}:Passes fz X E0:=λ_ _ _ _ _ _ _ h=>h.elim
structure gH(K:PySem.W.Frag)(x qual:Str)(st:Stmt)(f:Addr)(fd:FuncData):Prop where
 ex:∃(oc:ah) (od:Option Addr) (kV doc pm:ah) (an:Option Addr) (wH ct:ah) (NS:Array<|Option ah),
  fd=PySem.W.fnOf x qual (lG st) (fD st) (cc st) .none kV doc pm an wH ct/\K.lookup f=aa ⟨oc,od,.func fd,NS⟩/\PySem.W.codeIn K wH qual=af
 kp:PySem.W.keepIn K (.ref f)=af
section
variable{P:Program}{w:World}{K:PySem.W.Frag}{mg:Str->Option ah}{base:Heap}
def gH.ok{x a:Str}{st:Stmt}{f:Addr}{j:FuncData}{N e:List Str}{k:Nat}{sp:Sp}(F:gH K x a st f j)(S:fV N e<|cc st)(g:∀vs H Q E,sp vs H Q E->vs.length=e.length)(c:∀(b:ah) (A:Around) (outer:List Env) (s:Shared) (H:Hp) (vs:List V) (Q:VK) (E:XK),bA k (A.deeper<|envOfC a (cc st) s.heap.objs.size f b)->sp vs H Q E->
  ∃t,fy (cj fz P w K mg base N a (cc st) f b A outer s H E).cX (fD st) t/\t {nx:=λ_ l=>Q .aw l,rt:=Q} (start N vs) H):dS P w K mg base fz (k+1) f j e sp:=by
 obtain⟨r,u,kV,n,v,p,b,ct,m,rfl,lk,d⟩:=F.ex;refine rC lk d S g λA outer s H vs Q E o i=>?_
 obtain⟨t,h,q⟩:=c b A outer s H vs Q E o i;exact⟨t,h.cX,q⟩
def gH.binds{x a:Str}{st:Stmt}{f:Addr}{i:FuncData}{d:List Str}(F:gH K x a st f i)(h:∀(kV b e:ah) (g:Option Addr) (c ct:ah) (us:List ah),us.length=d.length->bindArgs (PySem.W.fnOf x a (lG st) (fD st) (cc st) .none kV b e g c ct) ⟨us,[]⟩=pure (d.zip us)):Binds K i d []:=by obtain⟨m,l,kV,b,e,g,c,ct,k,rfl,lk,j⟩:=F.ex;exact .all<|h kV b e g c ct
def Ag{x a:Str}{st:Stmt}{f:Addr}{j:ah}{i h:Option Addr}{e:Array (Option ah)}{kV d g b ct:ah}(l:K.lookup f=aa ⟨j,i,.func<|PySem.W.fnOf x a (lG st) (fD st) (cc st) .none kV d g h b ct,e⟩)(c:PySem.W.codeIn K b a=af)(k:PySem.W.keepIn K (.ref f)=af):gH K x a st f (PySem.W.fnOf x a (lG st) (fD st) (cc st) .none kV d g h b ct):=⟨⟨j,i,kV,d,g,h,b,ct,e,rfl,l,c⟩,k⟩
end
def pf{A:Around}{k:Nat}(a:bA k A):A.units+1<cLine:=Nat.lt_of_le_of_lt (Nat.add_le_add_left (by decide:1<=64) _) a.units
section
variable{X:Cx}
def pv(i:Nat){x:Str}{pos:Pos}(d:X.N[i]? =aa x:=by rfl)(c:nV X.env.scope x:=by first|exact Or.inl rfl|exact Or.inr (Or.inl rfl)|exact Or.inr<|Or.inr rfl)(b:(x==("__debug__":Str))=ag:=by decide)(a:(x==("__classdict__":Str))=ag:=by decide):PE X (.Name x pos) (wb i):=ng d c b a
end
section
variable{κ:Type}[DecidableEq κ]
noncomputable def cC(kvs:List<|κ×V)(k:κ):Option V:=(kvs.find? λa=>ai<|a.1=k).map (·.2)
noncomputable def putK(kvs:List<|κ×V)(k:κ)(v:V):List (κ×V):=
 if(kvs.any λa=>ai<|a.1=k)=af then kvs.map (λa=>if a.1=k then(a.1,v) else a) else kvs++[(k,v)]
noncomputable def kr(kvs:List<|κ×V)(k:κ):List (κ×V):=kvs.filter λa=>ai<|a.1≠k
def oA{p:κ×V}{r:List (κ×V)}{k:κ}(e:p.1=k):cC (p::r) k=aa p.2:=by simp[cC,Vv,e]
def oB{p:κ×V}{r:List (κ×V)}{k:κ}(e:¬p.1=k):cC (p::r) k=cC r k:=by simp[cC,Vv,e]
theorem uF(k:κ):∀kvs:List (κ×V),(kvs.any λkv=>ai<|kv.1=k)=(cC kvs k).isSome
 |[]=>rfl
 |p::r=>by
  rw[U4];by_cases e:p.1=k
  ·simp only[oA e,UA e,VU,Wt]
  ·rw[oB e,Ut e,Vw];exact uF k r
def ua(kvs:List<|κ×V)(k:κ)(v:V):(putK kvs k v).length<=kvs.length+1:=by
 unfold putK;split
 ·rw[Ub];omega
 ·rw[Ur,UE,U_];omega
def dX.qz{o:Option V}{u:Option ah}(r:dX o u):o.isSome=u.isSome:=by
 cases o with
 |none=>cases u with
  |none=>rfl
  |some _=>exact(show False from r).elim
 |some _=>cases u with
  |none=>exact(show False from r).elim
  |some _=>rfl
def dX.getD{o:Option V}{u:Option ah}{d:V}{d':ah}(r:dX o u)(a:RelV d d'):RelV (o.getD d) (u.getD d'):=by
 cases o with
 |none=>cases u with
  |none=>exact a
  |some _=>exact(show False from r).elim
 |some _=>cases u with
  |none=>exact(show False from r).elim
  |some _=>exact r
def KV.val{kvs:List (κ×V)}{vs:List (κ×ah)}(r:KV kvs vs)(k:κ):dX (cC kvs k) (valueAt vs k):=by
 unfold KV at r;induction r with
 |nil=>exact True.intro
 | @cons p q i a h t g=>
   obtain⟨d,f⟩:=h;by_cases e:p.1=k
   ·have c:q.1=k:=d.symm.trans e;have b:valueAt (q::a) k=aa q.2:=by simp[valueAt,Vv,c]
    rw[oA e,b];exact f
   ·have c:¬q.1=k:=λz=>e (d.trans z)
    have b:valueAt (q::a) k=valueAt a k:=by simp[valueAt,Vv,c]
    rw[oB e,b];exact g
def KV.any{kvs:List (κ×V)}{vs:List (κ×ah)}(r:KV kvs vs)(k:κ):(kvs.any λkv=>ai<|kv.1=k)=vs.any λkv=>ai (kv.1=k):=by
 unfold KV at r;induction r with
 |nil=>rfl
 |cons h t a=>rw[U4,U4,a,h.1]
def KV.pJ{kvs:List (κ×V)}{vs:List (κ×ah)}(r:KV kvs vs)(k:κ){y:V}{u:ah}(c:RelV y u):
 KV (kvs.map λkv=>if kv.1=k then(kv.1,y) else kv) (vs.map λkv=>if kv.1=k then(kv.1,u) else kv):=by
 unfold KV at r⊢;induction r with
 |nil=>exact .nil
 | @cons p q f g h t d=>
   rw[Uo,Uo];refine .cons ?_ d;obtain⟨a,b⟩:=h;by_cases e:p.1=k
   ·rw[T1 e,T1<|a.symm.trans e];exact⟨a,c⟩
   ·rw[T2 e,T2<|λz=>e<|a.trans z];exact⟨a,b⟩
def KV.put{kvs:List (κ×V)}{vs:List (κ×ah)}(r:KV kvs vs)(k:κ){y:V}{u:ah}(a:RelV y u):KV (putK kvs k y) (stored vs k u):=by
 unfold putK stored;rw[r.any k];by_cases e:(vs.any λb=>ai<|b.1=k)=af
 ·rw[T1 e,T1 e];exact r.pJ k a
 ·rw[T2 e,T2 e];exact Paired.snoc r ⟨rfl,a⟩
def KV.drop{kvs:List (κ×V)}{vs:List (κ×ah)}(r:KV kvs vs)(k:κ):KV (kr kvs k) (without vs k):=by
 unfold KV at r⊢;unfold kr without;induction r with
 |nil=>exact .nil
 | @cons p q i j h t d=>
   obtain⟨c,f⟩:=h;rw[Vg,Vg];by_cases e:p.1=k
   ·have a:¬ai (p.1≠k)=af:=by simp[e]
    have b:¬ai (q.1≠k)=af:=by simp[c.symm.trans e]
    rw[T2 a,T2 b];exact d
   ·have g:¬q.1=k:=λz=>e (c.trans z)
    have a:ai (p.1≠k)=af:=by simp[e]
    have b:ai (q.1≠k)=af:=by simp[g]
    rw[T1 a,T1 b];exact .cons ⟨c,f⟩ d
def KV.length{kvs:List (κ×V)}{vs:List (κ×ah)}(r:KV kvs vs):kvs.length=vs.length:=VO r
def yx(kvs:List<|κ×V)(k:κ):(kr kvs k).length<=kvs.length:=Vh _ _
end
def jm{P:Program}{w:World}{k:Key}{u:ah}(r:RelV (kV k) u):(cY P w).is k u=af:=by
 cases k with
 |inl i=>obtain⟨t,e⟩:=(show∃t,u=Value.int i t from r);subst e;exact Cz P w i t
 |inr x=>obtain⟨t,e⟩:=(show∃t,u=Value.str x t from r);subst e;exact CA P w x t
theorem xV{P:Program}{w:World}:∀{a:List Key} {us:List ah},Vals (a.map kV) us->ItemsAre (cY P w) a us
 |[],_,r=>by rw[U0] at r;cases r;exact .nil
 |k::a,_,r=>by
  rw[Uo] at r;cases r with
  |cons h t=>exact .cons (jm h)<|xV t
noncomputable abbrev KT(H:Hp):List (List Key×V)->List (List Key×Addr×ah)->Prop:=Paired λp q=>p.1=q.1/\H q.2.1=aa (.tup<|p.1.map kV)/\RelV p.2 q.2.2
def KT.val{H:Hp}{kvs:List (List Key×V)}{xs:List (List Key×Addr×ah)}(r:KT H kvs xs)(k:List Key):dX (cC kvs k) ((atKey xs k).map (·.2)):=by
 induction r with
 |nil=>exact True.intro
 | @cons p q i a h t g=>
   obtain⟨d,_,f⟩:=h;by_cases e:p.1=k
   ·have c:q.1=k:=d.symm.trans e;have b:atKey (q::a) k=aa q.2:=by simp[atKey,Vv,c]
    rw[oA e,b];exact f
   ·have c:¬q.1=k:=λz=>e (d.trans z)
    have b:atKey (q::a) k=atKey a k:=by simp[atKey,Vv,c]
    rw[oB e,b];exact g
def KT.pJ{H:Hp}{kvs:List (List Key×V)}{xs:List (List Key×Addr×ah)}(r:KT H kvs xs)(k:List Key){y:V}{u:ah}(c:RelV y u):
 KT H (kvs.map λkv=>if kv.1=k then(kv.1,y) else kv) (xs.map<|putAt k u):=by
 induction r with
 |nil=>exact .nil
 | @cons p q f g h t d=>
   rw[Uo,Uo];refine .cons ?_ d;obtain⟨a,b,h3⟩:=h;unfold putAt;by_cases e:p.1=k
   ·rw[T1 e,T1<|a.symm.trans e];exact⟨a,b,c⟩
   ·rw[T2 e,T2<|λz=>e<|a.trans z];exact⟨a,b,h3⟩
def KT.put{H:Hp}{kvs:List (List Key×V)}{xs:List (List Key×Addr×ah)}(r:KT H kvs xs)(k:List Key){b:Addr}{y:V}{u:ah}(d:H b=aa (.tup<|k.map kV))(a:RelV y u):
 KT H (putK kvs k y) (storedH xs k b u):=by
 have e:(kvs.any λc=>ai<|c.1=k)=(atKey xs k).isSome:=by rw[uF,(r.val k).qz,WZ]
 unfold putK storedH;rw[e];by_cases q:(atKey xs k).isSome=af
 ·rw[T1 q,T1 q];exact r.pJ k a
 ·rw[T2 q,T2 q];exact Paired.snoc r ⟨rfl,d,a⟩
def KT.keeps{H a:Hp}{kvs:List (List Key×V)}{xs:List (List Key×Addr×ah)}(r:KT H kvs xs)(c:∀b ys,H b=aa (.tup ys)->a b=aa (.tup ys)):KT a kvs xs:=
 Paired.wa r λ_ _ z=>⟨z.1,c _ _ z.2.1,z.2.2⟩
section
variable{P:Program}{w:World}{H:Hp}{h:Heap}{a:Addr}
def AV{u:HO}(ok:bS P w H h)(e:Rd H a u):c6 P w H h a u:=e.ok ok
def lR{kvs:List (Key×V)}(ok:bS P w H h)(e:Rd H a<|.dK kvs):kvs.length<=sizeLine/\(a==sysModules)=ag/\∃vs,KV kvs vs/\h.DictOf (cY P w) a vs:=
 show c6 P w H h a (.dK kvs) from AV ok e
def pj{kvs:List (Key×V)}(ok:bS P w H h)(e:H a=aa (.dK kvs)):kvs.length<=sizeLine/\(a==sysModules)=ag/\∃vs,KV kvs vs/\h.DictOf (cY P w) a vs:=lR ok<|.inl e
def nh{c:List Key}(ok:bS P w H h)(e:H a=aa (.tup<|c.map kV)):(tupleKind<|cY P w).is h c a:=by obtain⟨_,b,r,o,f,d,n,h3⟩:=(show c6 P w H h a (.tup<|c.map kV) from ok a _ e);exact⟨o,b.toArray,n,f,d,h3,by simpa using xV r⟩
def lS{kvs:List (List Key×V)}(ok:bS P w H h)(e:Rd H a<|.dT kvs):kvs.length<=sizeLine/\(a==sysModules)=ag/\
 ∃xs,KT H kvs xs/\h.DictOfH (tupleKind<|cY P w) a xs:=by
 obtain⟨z,y,xs,r,o,g,i,s,n,h3,f,k⟩:=(show c6 P w H h a (.dT kvs) from AV ok e);refine⟨z,y,xs,r,o,g,i,s,n,h3,f,λx b=>?_,k⟩;have c:∀{l:List (List Key×V)} {m:List (List Key×Addr×ah)},KT H l m->∀x∈m,(tupleKind<|cY P w).is h x.1 x.2.1:=by
  intro l m q;induction q with
  |nil=>intro x b;exact nomatch b
  | @cons p q v u d t j=>
    intro x b;rcases T4.mp b with e|b
    ·subst e;exact nh ok (by rw[<-d.1];exact d.2.1)
    ·exact j x b
 exact c r x b
def L7{kvs:List (List Key×V)}(ok:bS P w H h)(e:H a=aa (.dT kvs)):kvs.length<=sizeLine/\(a==sysModules)=ag/\
 ∃xs,KT H kvs xs/\h.DictOfH (tupleKind<|cY P w) a xs:=lS ok<|.inl e
end
noncomputable def eF(H:Hp)(a:Addr)(y:V)(r:Option V):Prop:=
 (∃c k,Rd H a (.dK c)/\y=kV k/\r=cC c k)\/∃c k b,Rd H a (.dT c)/\y=.ref b/\H b=aa (.tup<|k.map kV)/\r=cC c k
noncomputable def pK(H:Hp)(a:Addr)(y v:V)(d:Hp):Prop:=
 (∃c k,H a=aa (.dK c)/\y=kV k/\c.length<sizeLine/\d=upd H a (.dK<|putK c k v))\/
 ∃c k b,H a=aa (.dT c)/\y=.ref b/\H b=aa (.tup<|k.map kV)/\c.length<sizeLine/\d=upd H a (.dT<|putK c k v)
def eF.k{H:Hp}{a:Addr}{kvs:List (Key×V)}{k:Key}(e:H a=aa (.dK kvs)):eF H a (kV k) (cC kvs k):=.inl ⟨kvs,k,.inl e,rfl,rfl⟩
def pK.k{H:Hp}{a:Addr}{kvs:List (Key×V)}{k:Key}{v:V}(e:H a=aa (.dK kvs))(b:kvs.length<sizeLine):pK H a (kV k) v (upd H a<|.dK<|putK kvs k v):=.inl ⟨kvs,k,e,rfl,b,rfl⟩
section
variable{X:Cx}{pins:List (Addr×Obj)}{σ:St}{H:Hp}{s:Shared}{a:Addr}{y v:V}{u r:ah}{o:Option V}{A:Around}{E:ah->Shared->Prop}
def Inv.big(I:Inv X pins σ H s):sysModules<s.heap.objs.size:=by have h:mainGlobals<s.heap.objs.size:=(I.mod.glob.keeps I.bk).lt;exact Nat.lt_trans (by decide) h
def DX{Q:ah->Shared->Prop}(F:A.units+1<cLine)(I:Inv X pins σ H s)(g:eF H a y<|aa v)(t:RelV y u)(h:∀f s',Inv X pins σ H s'->RelV v f->Q f s'):
 wpAny (model X.prog X.w) A (getItem (.ref a) u) Q E s:=by
 rcases g with⟨n,k,e,q,l⟩|⟨n,k,b,e,q,eb,l⟩
 ·subst q;obtain⟨z,B,C,d,j⟩:=lR I.aF e;obtain⟨f,m,c⟩:=dX.some_of (v:=v) (o:=valueAt C k) (by rw[l];exact d.val k);exact wpAny_getItem_of (jm t) j.mapOf m<|h f _ (I.tok _) c
 ·subst q;cases(show u=Value.ref b from t);obtain⟨z,B,x,d,j⟩:=lS I.aF e;obtain⟨f,m,c⟩:=dX.some_of (v:=v) (o:=(atKey x k).map (·.2)) (by rw[l];exact d.val k);obtain⟨p,D,i⟩:=XB.mp m;refine wpAny_getItem_heap (V_ F) (nh I.aF eb) j D ?_;rw[i];exact h f _ (I.tok _) c
def Hn{Q:ah->Shared->Prop}(n:A.units+1<cLine)(I:Inv X pins σ H s)(g:eF H a y o)(m:RelV y u)(h:∀s',Inv X pins σ H s'->Q (.bool<|!o.isSome) s'):
 wpAny (model X.prog X.w) A (compareOp .NotIn u<|.ref a) Q E s:=by
 rcases g with⟨f,k,e,i,l⟩|⟨f,k,b,e,i,eb,l⟩
 ·subst i;obtain⟨z,d,t,c,j⟩:=lR I.aF e;refine wpAny_notIn_of (jm m) d j.mapOf ?_;rw[<-(c.val k).qz,<-l];exact h _<|I.tok _
 ·subst i;cases(show u=Value.ref b from m);obtain⟨z,d,p,c,j⟩:=lS I.aF e;refine wpAny_notIn_heap (V_ n) (nh I.aF eb) d j ?_;have q:=(c.val k).qz;rw[WZ] at q;rw[<-q,<-l];exact h _<|I.tok _
def oS{h':Heap}{t':Nat}{d:HO}(I:Inv X pins σ H s)(f:pU<|H a)(h:Heap.SameBut a s.heap h')(i:∃q,h'.get? a=aa q)(c:c6 X.prog X.w (upd H a d) h' a d):
 Inv X pins σ (upd H a d) {s with heap:=h',toks:=t'}:=
 I.write (x:=a) (e:=a) f (.inl rfl) (λb q g z=>(h.2 b g).trans z) i c
def rh{P:Program}{w:World}{d:Hp}{h':Heap}{kvs:List (Key×V)}{vs:List (Key×ah)}(z:kvs.length<=sizeLine)(c:(a==sysModules)=ag)(b:KV kvs vs)(dd:h'.DictOf (cY P w) a vs):
 c6 P w d h' a (.dK kvs):=⟨z,c,vs,b,dd⟩
def DY{D:Hp}{Q:Unit->Shared->Prop}(S:A.units+1<cLine)(I:Inv X pins σ H s)(g:pK H a y v D)(G:RelV y u)(F:RelV v r)(h:∀s',Inv X pins σ D s'->Q () s'):
 wpAny (model X.prog X.w) A (setItem (.ref a) u r) Q E s:=by
 rcases g with⟨f,k,e,C,l,n⟩|⟨f,k,b,e,C,eb,l,n⟩
 ·subst C n;obtain⟨z,m,R,d,B⟩:=pj I.aF e;have p:R.length<=sizeLine:=by rw[<-d.length];exact z
  have t:(putK f k v).length<=sizeLine:=by have:=ua f k v;omega
  refine wpAny_setItem_pairs (hsz:=p) (jm G) B λJ i x=>h _ ?_
  have M:∃q,J.get? a=aa q:=let⟨q,_,_,j,_⟩:=i;⟨q,j⟩
  exact oS I (by rw[e];exact True.intro) x M<|rh t m (d.put k F) i
 ·subst C n;cases(show u=Value.ref b from G);obtain⟨z,m,K,d,B⟩:=L7 I.aF e;have p:K.length<=sizeLine:=by rw[<-VO d];exact z
  have t:(putK f k v).length<=sizeLine:=by have:=ua f k v;omega
  refine wpAny_setItem_heap (hsz:=p) (V_ S) (nh I.aF eb) B λJ i x=>h _ ?_
  obtain⟨q,O,N,j,T,h3,L,_,P⟩:=i;refine oS I (by rw[e];exact True.intro) x ⟨q,j⟩ ⟨t,m,_,(d.put k eb F).keeps λc U ec=>?_,q,O,N,j,T,h3,L,P⟩;rw[aL<|Lx ec e<|λz=>nomatch z];exact ec
end
section
variable{X:Cx}{pins:List (Addr×Obj)}{σ:St}{H:Hp}{s:Shared}{a:Addr}{kvs:List (Key×V)}{k:Key}{u:ah}{A:Around}{E:ah->Shared->Prop}
def Ru{Q:Unit->Shared->Prop}(I:Inv X pins σ H s)(e:H a=aa (.dK kvs))(j:RelV (kV k) u)(l:(cC kvs k).isSome=af)(h:∀s',Inv X pins σ (upd H a<|.dK<|kr kvs k) s'->Q () s'):
 wpAny (model X.prog X.w) A (delItem (.ref a) u) Q E s:=by
 obtain⟨z,f,o,b,d⟩:=pj I.aF e;refine wpAny_delItem_slot d.typeIs (by decide) XC (Vx XC d.typeIs PySem.F.entry_dict_delitem (PySem.F.args_dict_delitem_2 _ _) (meets_dict_delitem_pairs (cY X.prog X.w) a<|jm j) ⟨o,d,by rw[<-b.length];exact z,by rw[<-(b.val k).qz];exact l,λg c m=>h _ ?_⟩)
 have n:∃q,g.get? a=aa q:=let⟨q,_,_,i,_⟩:=c;⟨q,i⟩
 exact oS I (by rw[e];exact True.intro) m n<|rh (Ug (yx kvs k) z) f (b.drop k) c
def L8{v:V}{b:List ah}{Q:ah->Shared->Prop}(I:Inv X pins σ H s)(e:H a=aa (.dK kvs))(j:RelV (kV k) u)(l:cC kvs k=aa v)(p:b=[]\/∃x,b=[x])(h:∀d s',Inv X pins σ (upd H a<|.dK<|kr kvs k) s'->RelV v d->Q d s'):wpAny (model X.prog X.w) A (call (.builtin "dict.pop")<|.ref a::u::b) Q E s:=by
 obtain⟨z,r,m,c,n⟩:=pj I.aF e;obtain⟨d,J,g⟩:=dX.some_of (v:=v) (o:=valueAt m k) (by rw[<-l];exact c.val k);have G:(keyPart u).isSome=af:=by
  cases k with
  |inl i=>obtain⟨t,q⟩:=(show∃t,u=Value.int i t from j);subst q;rfl
  |inr x=>obtain⟨t,q⟩:=(show∃t,u=Value.str x t from j);subst q;rfl
 have K:argsOk "dict.pop" ⟨.ref a::u::b,[]⟩:=by
  rcases p with q|⟨x,q⟩
  ·subst q;exact PySem.F.args_dict_pop_2 _ _
  ·subst q;exact PySem.F.args_dict_pop_3 _ _ _
 refine Vx XD n.typeIs PySem.F.entry_dict_pop K (meets_dict_pop_there (cY X.prog X.w) a (jm j) b p G)
  ⟨m,d,n,by rw[<-c.length];exact z,J,λC f D=>h d _ ?_ g⟩
 have B:∃q,C.get? a=aa q:=let⟨q,_,_,y,_⟩:=f;⟨q,y⟩
 exact oS I (by rw[e];exact True.intro) D B<|rh (Ug (yx kvs k) z) r (c.drop k) f
end
noncomputable def wh(i:Expr):Prop:=∀b a,subscripted i ag b a=operate [b,a] (getItem b a)
def Ho{prog:Program}{w:World}{A:Around}{E:ah->Shared->Prop}{s:Shared}{env:Env}{b a:Expr}{pos:Pos}{T n:String}{Q:ah->Shared->Prop}(m:typeLookup (.type T) "__getitem__"=pure (aa<|.builtin n))(p:wh a)(h:wpAny (model prog w) A (eval b env) (λo e=>wpAny (model prog w) A (eval a env) (λi c=>c.TypeIs o T/\wpAny (model prog w) A (getItem o i) Q E c) E e) E s):
 wpAny (model prog w) A (eval (.Subscript b a pos) env) Q E s:=by
 refine Subscript_<|Uv h (λo e j=>Uv j (λi c d=>?_) λ_ _ x=>x) λ_ _ x=>x
 obtain⟨l,d⟩:=d;unfold subscriptTail;refine T3 ?_;rw[getitemInPython_of_ne l.not_modules];refine T3<|wpAny_specialOf l m ?_;have g:wpAny (model prog w) A (subscripted a ag o i) (λr f=>wpAny (model prog w) A (letTemporaryGo b o r >>= λ_=>pure r) Q E f) E c:=by rw[p o i];exact wpAny_operating<|Uv d (λr f k=>T3<|wpAny_letTemporaryGo<|Uj k) λ_ _ x=>x
 first
  |exact Uj<|T3 g
  |exact T3<|Uj<|T3 g
  |exact T3 g
def CC{X:Cx}{pins:List (Addr×Obj)}{σ:St}{H:Hp}{s:Shared}{a:Addr}{y:V}{o:Option V}(I:Inv X pins σ H s)(g:eF H a y o):s.TypeIs (.ref a) "dict":=by
 rcases g with⟨c,k,e,_,_⟩|⟨c,k,b,e,_,_,_⟩
 ·obtain⟨_,_,h,_,d⟩:=lR I.aF e;exact d.typeIs
 ·obtain⟨_,_,f,_,d⟩:=lS I.aF e;exact d.typeIs
noncomputable def L9(e ty:TE):TE:=λb H Q=>e b H λx d=>ty b d λy c=>∃a v,x=.ref a/\eF c a y (aa v)/\Q v c
noncomputable def gz(g ty d:TE):TS:=λD b H=>d b H λv f=>g b f λx e=>ty b e λy h=>∃a c,x=.ref a/\pK h a y v c/\D.nx b c
section
variable{X:Cx}{o i e value:Expr}{pos pos' tpos:Pos}{td ty tv:TE}
def zq(z:X.A.units+1<cLine)(t:PE X o td)(p:PE X i ty)(r:wh i):PE X (.Subscript o i pos) (L9 td ty):=by
 intro b s f H Q I h;refine Ho PySem.F.slot_dict_getitem.lookup r<|aN (t b s f H _ I h) λu n ⟨x,B,j,C,q⟩=>aN (p b n f B _ j q) λE J ⟨y,k,d,l,a,v,ex,g,m⟩=>?_
 subst ex;obtain rfl:u=Value.ref a:=C;exact⟨CC d g,DX z d g l λD G w c=>⟨v,k,w,c,m⟩⟩
def Hq(E:X.A.units+1<cLine)(B:PE X o td)(q:PE X i ty)(w:PE X value tv)(z:swapsWith value (aa<|.Subscript o i pos') pos.line X.env=pure ag):
 PS X (.Assign [.Subscript o i pos'] value pos) (gz td ty tv):=by
 intro b s c H D I h;refine wpAny_Assign_Subscript (aN (w b s c H _ I h) λr n ⟨v,F,j,d,t⟩=>aN (B b n c F _ j t) λu L ⟨x,k,f,K,m⟩=>aN (q b L c k _ f m) λM O ⟨y,P,C,l,a,p,ex,g,G⟩=>?_) z;subst ex;obtain rfl:u=Value.ref a:=K;exact DY E C g l d λN J=>⟨c,p,J,G⟩
end
def Fh{P:Program}{w:World}{H:Hp}(h:Heap)(a:sysModules<h.objs.size):c6 P w H (h.push {cls:=.type "dict",data:=.dict #[]}) h.objs.size (.dK []):=
 ⟨Vc _,Va.mpr<|Uq<|UB a,[],.nil,Heap.DictOf.new h⟩
noncomputable def JS:TE:=λ_ H Q=>∀p,H p=ae->Q (.ref p) (upd H p<|.dK [])
section
variable{X:Cx}{pos:Pos}
def uG:PE X (.Dict [] [] pos) JS:=λb s c H Q I h=>wpAny_Dict_empty ⟨.ref s.heap.objs.size,_,I.laid (a:=s.heap.objs.size) (o:=.dK []) (t':=s.toks) (λ_ _ q=>Uw _ q) (T8 _)<|Fh s.heap I.big,rfl,h _<|I.aF.fresh<|T8 _⟩
end
structure M1(X:Cx)(o:Expr)(m:Str)(apos:Pos)(e:Expr)(bf:Pos):Prop where
 base:attributeBase o m X.env (eval o X.env)=eval o X.env
 mj:((backTo bf<|starEach [e] X.env).all (λx=>!x.1)&&(backToKw bf<|keywordEach [] X.env).all (λx=>x.1.isSome)
  &&ai (([e]:List Expr).length+([]:List Keyword).length+(if([]:List Keyword).isEmpty then 0 else 1)<30))=af
 line:(apos.endLine==bf.line)=af
 trees:backTo bf (starEach [e] X.env)=[(ag,eval e X.env)]
structure M2(X:Cx)(o:Expr)(m:Str)(apos:Pos)(e f:Expr)(bf:Pos):Prop where
 base:attributeBase o m X.env (eval o X.env)=eval o X.env
 mj:((backTo bf<|starEach [e,f] X.env).all (λx=>!x.1)&&(backToKw bf<|keywordEach [] X.env).all (λx=>x.1.isSome)
  &&ai (([e,f]:List Expr).length+([]:List Keyword).length+(if([]:List Keyword).isEmpty then 0 else 1)<30))=af
 line:(apos.endLine==bf.line)=af
 trees:backTo bf (starEach [e,f] X.env)=[(ag,eval e X.env),(ag,eval f X.env)]
noncomputable def nX(H:Hp)(a:Addr):Prop:=(∃b,Rd H a<|.dK b)\/∃b,Rd H a (.dT b)
def oZ{X:Cx}{pins:List (Addr×Obj)}{σ:St}{H:Hp}{s:Shared}{a:Addr}(I:Inv X pins σ H s)(d:nX H a):
 s.TypeIs (.ref a) "dict"/\(∀b,Value.ref a=.ref b->∃c,s.heap.get? b=aa c/\c.dict=ae)/\(a==sysModules)=ag:=by
 rcases d with⟨i,e⟩|⟨i,e⟩
 ·obtain⟨_,g,l,_,f⟩:=lR I.aF e;refine⟨f.typeIs,λb q=>?_,g⟩;cases q;obtain⟨c,_,_,j,h,_⟩:=f;exact⟨c,j,h.2.1⟩
 ·obtain⟨_,g,k,_,f⟩:=lS I.aF e;refine⟨f.typeIs,λb q=>?_,g⟩;cases q;obtain⟨c,_,_,j,h,_⟩:=f;exact⟨c,j,h.2.1⟩
section
variable{X:Cx}{pins:List (Addr×Obj)}{σ:St}{H:Hp}{s:Shared}{a:Addr}{y d:V}{u r:ah}{o:Option V}{A:Around}{E:ah->Shared->Prop}
def JT{Q:ah->Shared->Prop}(t:A.units+1<cLine)(I:Inv X pins σ H s)(g:eF H a y o)(p:RelV y u)(h:∀n s',Inv X pins σ H s'->RelV (o.getD .aw) n->Q n s'):
 wpAny (model X.prog X.w) A (call (.builtin "dict.get") [.ref a,u]) Q E s:=by
 rcases g with⟨j,k,e,m,l⟩|⟨j,k,b,e,m,eb,l⟩
 ·subst m;obtain⟨z,i,v,c,f⟩:=lR I.aF e;refine Vx VV f.typeIs Wu (XE _ _) (meets_dict_get (cY X.prog X.w) a (jm p) i) ⟨_,f.mapOf,h _ _ (I.tok _) ?_⟩;rw[l];exact(c.val k).getD rfl
 ·subst m;cases(show u=Value.ref b from p);obtain⟨z,i,q,c,f⟩:=lS I.aF e;refine Vx VV f.typeIs Wu (XE _ _) (meetsH_dict_get (tupleKind<|cY X.prog X.w) a b i) ⟨V_ t,k,q,nh I.aF eb,f,h _ _ (I.tok _) ?_⟩;rw[l];exact(c.val k).getD rfl
def JU{Q:ah->Shared->Prop}(v:A.units+1<cLine)(I:Inv X pins σ H s)(g:eF H a y o)(q:RelV y u)(n:RelV d r)(h:∀p s',Inv X pins σ H s'->RelV (o.getD d) p->Q p s'):
 wpAny (model X.prog X.w) A (call (.builtin "dict.get") [.ref a,u,r]) Q E s:=by
 rcases g with⟨j,k,e,m,l⟩|⟨j,k,b,e,m,eb,l⟩
 ·subst m;obtain⟨z,i,x,c,f⟩:=lR I.aF e;refine Vx VV f.typeIs Wu (XF _ _ _) (meets_dict_get_default (cY X.prog X.w) a (jm q) i r) ⟨_,f.mapOf,h _ _ (I.tok _) ?_⟩;rw[l];exact(c.val k).getD n
 ·subst m;cases(show u=Value.ref b from q);obtain⟨z,i,t,c,f⟩:=lS I.aF e;refine Vx VV f.typeIs Wu (XF _ _ _) (meetsH_dict_get_default (tupleKind<|cY X.prog X.w) a b i r) ⟨V_ v,k,t,nh I.aF eb,f,h _ _ (I.tok _) ?_⟩;rw[l];exact(c.val k).getD n
end
noncomputable def JV(e ty:TE):TE:=λc H Q=>e c H λx b=>∃a,x=.ref a/\nX b a/\ty c b λy d=>∃o,eF d a y o/\Q (o.getD .aw) d
noncomputable def JW(f ty e:TE):TE:=λb H Q=>f b H λx c=>∃a,x=.ref a/\nX c a/\ty b c λy g=>e b g λz d=>∃o,eF d a y o/\Q (o.getD z) d
noncomputable def JX(f ty:TE):TE:=λe H Q=>f e H λx d=>∃a,x=.ref a/\nX d a/\ty e d λy c=>∃b k v,c a=aa (.dK b)/\y=kV k/\cC b k=aa v/\Q v (upd c a<|.dK<|kr b k)
section
variable{X:Cx}{o e f:Expr}{apos bf:Pos}{td ty tx:TE}
def Fi(C:X.A.units+1<cLine)(z:PE X o td)(l:PE X e ty)(m:M1 X o "get" apos e bf):PE X (.Call (.Attribute o "get" apos) [e] [] bf) (JV td ty):=by
 intro b s j H Q I h;refine V' m.base m.mj m.line Wa VV XG<|aN (z b s j H _ I h) λu v ⟨x,D,i,E,a,ex,d,w⟩=>?_
 subst ex;obtain rfl:u=Value.ref a:=E;obtain⟨n,q,_⟩:=oZ i d;refine⟨n,q,?_⟩;rw[m.trees];refine VD rfl<|VS<|VB<|aN (l b v j D _ i w) λJ M ⟨y,p,k,r,L,g,t⟩=>V5 ?_
 exact JT C k g r λG K B c=>⟨_,p,B,c,t⟩
def Fj(G:X.A.units+1<cLine)(C:PE X o td)(l:PE X e ty)(n:PE X f tx)(m:M2 X o "get" apos e f bf):PE X (.Call (.Attribute o "get" apos) [e,f] [] bf) (JW td ty tx):=by
 intro b s i H Q I h;refine V' m.base m.mj m.line Wa VV XG<|aN (C b s i H _ I h) λu w ⟨x,J,j,N,a,ex,d,B⟩=>?_
 subst ex;obtain rfl:u=Value.ref a:=N;obtain⟨p,r,_⟩:=oZ j d;refine⟨p,r,?_⟩;rw[m.trees];refine VD rfl (VS (VB (aN (l b w i J _ j B) λR O ⟨y,q,k,t,v⟩=>VB (aN (n b O i q _ k v) λU T ⟨z,L,E,D,V,g,K⟩=>V5 ?_))))
 exact JU G E g t D λP S M c=>⟨_,L,M,c,K⟩
def Fl(C:PE X o td)(n:PE X e ty)(m:M1 X o "pop" apos e bf):PE X (.Call (.Attribute o "pop" apos) [e] [] bf) (JX td ty):=by
 intro b s i H Q I h;refine V' m.base m.mj m.line Wa XD PySem.F.type_dict_pop<|aN (C b s i H _ I h) λu z ⟨x,E,g,B,a,ex,d,A⟩=>?_
 subst ex;obtain rfl:u=Value.ref a:=B;obtain⟨p,q,_⟩:=oZ g d;refine⟨p,q,?_⟩;rw[m.trees];refine VD rfl<|VS<|VB<|aN (n b z i E _ g A) λL O ⟨y,M,j,r,G,k,v,t,J,l,w⟩=>V5 ?_
 subst J;exact L8 j t r l (.inl rfl) λK N D c=>⟨v,_,D,c,w⟩
end
section
variable{X:Cx}{pins:List (Addr×Obj)}{σ:St}{H:Hp}{s:Shared}{a:Addr}{kvs:List (Key×V)}{A:Around}{E:ah->Shared->Prop}
end
section
variable{X:Cx}{pins:List (Addr×Obj)}{σ:St}{H:Hp}{s:Shared}{a:Addr}{y:V}{u:ah}{A:Around}{E:ah->Shared->Prop}
end
end L2
set_option maxHeartbeats 4000000
namespace VM
inductive W where
 |aw
 |bl (b:Bool)
 |int (i:Int)
 |str (x:List Nat)
 |ref (a:Nat)
 deriving DecidableEq,Inhabited
inductive O where
 |lst (xs:List W)
 |aU (xs:List W)
 |tup (xs:List W)
  |aD (kvs:List<|Int×W)
 |ins (c:List Nat) (fs:List<|List Nat×W)
 |di (x:List Nat)
  |a8 (g:Nat) (kvs:List<|Int×W)
 |bR
  |b8 (c:List Nat)
 deriving DecidableEq,Inhabited
noncomputable abbrev Mem:=List O
noncomputable abbrev St:=List<|Option W
inductive R(α:Type) where
 |ok (a:α) (M:Mem)
 |ex (v:W) (M:Mem)
 |bad
noncomputable def R.bind{b c:Type}:R b->(b->Mem->R c)->R c
 |.ok a M,f=>f a M
 |.ex v M,_=>.ex v M
 |.bad,_=>.bad
noncomputable def R.cJ{a:Type}:R a->R a
 |.ex _ _=>.bad
 |r=>r
inductive RS where
 |nx (σ:St) (M:Mem)
 |rt (v:W) (M:Mem)
 |bk (σ:St) (M:Mem)
 |ct (σ:St) (M:Mem)
 |ex (v:W) (M:Mem)
 |bad
noncomputable def R.bK{b:Type}:R b->(b->Mem->RS)->RS
 |.ok a M,f=>f a M
 |.ex v M,_=>.ex v M
 |.bad,_=>.bad
noncomputable abbrev EM:=St->Mem->R W
noncomputable abbrev TM:=St->Mem->R Bool
noncomputable abbrev AM:=St->Mem->R (List W)
noncomputable abbrev SM:=St->Mem->RS
noncomputable abbrev GM:=W->St->Mem->R St
noncomputable abbrev dB:=W->W->Mem->R W
noncomputable abbrev CM:=List W->Mem->R W
noncomputable abbrev lim:Nat:=16777216
noncomputable def hY:Nat:=18446744073709551616
noncomputable def bu(xs:List W)(M:Mem):R W:=if xs.length<=lim then .ok (.ref M.length) (M++[.lst xs]) else .bad
noncomputable def ic(xs:List W)(M:Mem):R W:=if xs.length<=lim then .ok (.ref M.length) (M++[.tup xs]) else .bad
noncomputable def a9(M:Mem):W->Option (List W)
 |.ref a=>match M[a]? with
  |some (.lst xs)=>aa xs
  |some (.aU xs)=>aa xs
  |_=>ae
 |_=>ae
noncomputable def cu(M:Mem):W->Option (List W)
 |.ref a=>match M[a]? with
  |some (.tup xs)=>aa xs
  |_=>ae
 |_=>ae
noncomputable def bD(M:Mem)(v:W):Option (List W):=match a9 M v with
 |some xs=>aa xs
 |none=>cu M v
noncomputable def bG(M:Mem):W->Option (Nat×List W)
 |.ref a=>match M[a]? with
  |some (.lst xs)=>aa (a,xs)
  |_=>ae
 |_=>ae
noncomputable def aj(i:Nat):EM:=λa M=>match a[i]? with
 |some (aa v)=>.ok v M
 |_=>.bad
noncomputable def eC(v:W):EM:=λ_ M=>.ok v M
noncomputable def ao:AM:=λ_ M=>.ok [] M
noncomputable def ak(e:EM)(a:AM):AM:=λb M=>(e b M).bind λx M1=>(a b M1).bind λc M2=>.ok (x::c) M2
noncomputable def aP(a:AM):EM:=λb M=>(a b M).bind bu
noncomputable def ba(a:AM):EM:=λb M=>(a b M).bind ic
noncomputable def aq(f:dB)(a b:EM):EM:=λc M=>(a c M).bind λx M1=>(b c M1).bind λy M2=>f x y M2
noncomputable def bz:dB
 |.int i,.int j,M=>.ok (.int<|i+j) M
 |.ref a,.ref b,M=>match bG M (.ref a),bG M (.ref b) with
  |some (_,xs),aa (_,c)=>bu (xs++c) M
  |_,_=>.bad
 |_,_,_=>.bad
noncomputable def nG:dB
 |.int i,.int j,M=>.ok (.int<|i-j) M
 |_,_,_=>.bad
noncomputable def bB:dB
 |.int i,.int j,M=>if i.natAbs<hY\/j.natAbs<hY then .ok (.int<|i*j) M else .bad
 |_,_,_=>.bad
noncomputable def oDiv:dB
 |.int i,.int j,M=>if 0<j/\j.natAbs<1073741824 then .ok (.int<|i / j) M else .bad
 |_,_,_=>.bad
noncomputable def oMod:dB
 |.int i,.int j,M=>if 0<j then .ok (.int<|i % j) M else .bad
 |_,_,_=>.bad
noncomputable def wj:dB
 |.int i,.int j,M=>if 0<=j/\j.natAbs<=1000000/\i.natAbs<hY then .ok (.int<|i ^ j.toNat) M else .bad
 |_,_,_=>.bad
noncomputable def pL(a:EM):EM:=λb M=>(a b M).bind λx M1=>match x with
 |.int i=>.ok (.int (-i)) M1
 |_=>.bad
noncomputable def dQ:W->W->Bool
 |.aw,.aw=>af|.aw,.int _=>af|.int _,.aw=>af|.aw,.bl _=>af|.bl _,.aw=>af|.aw,.str _=>af|.str _,.aw=>af
 |.int _,.int _=>af|.bl _,.bl _=>af|.str _,.str _=>af
 |.int _,.str _=>af|.str _,.int _=>af|.bl _,.str _=>af|.str _,.bl _=>af
 |_,_=>ag
noncomputable def flat:W->Bool
 |.ref _=>ag
 |_=>af
noncomputable def fA:W->W->Bool
 |.aw,.aw=>af
 |.bl a,.bl b=>a==b
 |.bl a,.int b=>(if a then 1 else 0)==b
 |.int a,.bl b=>a==(if b then 1 else 0)
 |.int a,.int b=>a==b
 |.str a,.str b=>a==b
 |_,_=>ag
noncomputable def gd:List W->List W->Bool
 |[],[]=>af
 |x::xs,y::a=>fA x y&&gd xs a
 |_,_=>ag
noncomputable def ku(xs ys:List W):Option Bool:=
 if xs.length≠ys.length then aa ag
 else if xs.all flat&&ys.all flat then aa (gd xs ys) else ae
noncomputable def AW(xs ys:List W):Option Bool:=
 if xs.all flat&&ys.all flat then aa (gd xs ys)
 else if xs.length=0\/ys.length=0 then aa (ai<|xs.length=ys.length) else ae
noncomputable def iJ:W->Bool
 |.aw=>af
 |_=>ag
noncomputable def dU(M:Mem)(x y:W):Option Bool:=
 if dQ x y then aa (ai<|x=y)
 else match a9 M x,a9 M y with
  |some xs,aa a=>ku xs a
  |_,_=>match cu M x,cu M y with
   |some xs,aa a=>AW xs a
   |_,_=>ae
noncomputable def pO(M:Mem)(x y:W):Bool:=iJ x&&(a9 M y).isSome
noncomputable def oEq:dB:=λx y M=>match dU M x y with
 |some b=>.ok (.bl b) M
 |none=>if pO M x y then .ok (.bl ag) M else .bad
noncomputable def bE:dB:=λx y M=>match dU M x y with
 |some b=>.ok (.bl<|!b) M
 |none=>.bad
noncomputable def rP(p:Int->Int->Bool):dB
 |.int i,.int j,M=>.ok (.bl<|p i j) M
 |_,_,_=>.bad
noncomputable def oLt:dB:=rP λi j=>ai<|i<j
noncomputable def oLe:dB:=rP λi j=>ai<|i<=j
noncomputable def eL:dB:=rP λi j=>ai<|j<i
noncomputable def ml:dB:=rP λi j=>ai<|j<=i
noncomputable def o3(f g:dB)(a b c:EM):EM:=λd M=>(a d M).bind λx M1=>(b d M1).bind λy M2=>(f x y M2).bind λz e=>match z with
 |.bl k=>if k then(c d e).bind λw h=>g y w h else .ok (.bl ag) e
 |_=>.bad
noncomputable def kF(a:EM):EM:=λb M=>(a b M).bind λx M1=>.ok (.bl<|iJ x) M1
noncomputable def iK(a:EM):EM:=λb M=>(a b M).bind λx M1=>.ok (.bl<|!iJ x) M1
noncomputable def kO(x:W)(xs:List W):Bool:=xs.any λy=>fA y x
noncomputable def ik:dB:=λx y M=>match bD M y with
 |some xs=>if flat x&&xs.all flat then .ok (.bl<|kO x xs) M else .bad
 |none=>.bad
noncomputable def o4:dB:=λx y M=>match bD M y with
 |some xs=>if flat x&&xs.all flat then .ok (.bl<|!kO x xs) M else .bad
 |none=>.bad
noncomputable def ck(n:Nat)(i:Int):Option Nat:=if 0<=i then(if i<n then aa i.toNat else ae) else if-(n:Int)<=i then aa (i+n).toNat else ae
noncomputable def cH{a:Type}(xs:List a)(i:Int):Option a:=(ck xs.length i).bind λj=>xs[j]?
noncomputable def aA:dB
 |x,.int i,M=>match bD M x with
  |some xs=>match cH xs i with
   |some v=>.ok v M
   |none=>.bad
  |none=>.bad
 |_,_,_=>.bad
noncomputable def a_(n d:Nat):Option Int->Nat
 |none=>d
 |some v=>if v<0 then(v+(n:Int)).toNat else min v.toNat n
noncomputable def cut{a:Type}(xs:List a)(lo b:Option Int):List a:=(xs.drop<|a_ xs.length 0 lo).take<|a_ xs.length xs.length b-a_ xs.length 0 lo
noncomputable abbrev PM:=St->Mem->R (Option Int)
noncomputable def pq:PM:=λ_ M=>.ok ae M
noncomputable def iL(e:EM):PM:=λa M=>(e a M).bind λx M1=>match x with
 |.int i=>.ok (aa i) M1
 |_=>.bad
noncomputable def wm(x:W)(lo a:Option Int)(M:Mem):R W:=match a9 M x with
 |some xs=>bu (cut xs lo a) M
 |none=>match cu M x with
  |some xs=>if a_ xs.length 0 lo=0/\a_ xs.length xs.length a=xs.length then .bad else ic (cut xs lo a) M
  |none=>.bad
noncomputable def kP(e:EM)(l h:PM):EM:=λa M=>(e a M).bind λx M1=>(l a M1).bind λc M2=>(h a M2).bind λd b=>wm x c d b
noncomputable def tB(e:EM):TM:=λa M=>(e a M).bind λx M1=>match x with
 |.bl b=>.ok b M1
 |_=>.bad
noncomputable def nE(a b:TM):TM:=λd M=>(a d M).bind λc M1=>if c then b d M1 else .ok ag M1
noncomputable def cW(a b:TM):TM:=λd M=>(a d M).bind λc M1=>if c then .ok af M1 else b d M1
noncomputable def cz(a:TM):TM:=λb M=>(a b M).bind λc M1=>.ok (!c) M1
noncomputable def eG(a b:EM):EM:=λd M=>(a d M).bind λx M1=>match x with
 |.bl c=>if c then b d M1 else .ok (.bl ag) M1
 |_=>.bad
noncomputable def nY(a b:EM):EM:=λd M=>(a d M).bind λx M1=>match x with
 |.bl c=>if c then .ok (.bl af) M1 else b d M1
 |_=>.bad
noncomputable def wo(a:EM):EM:=λb M=>(a b M).bind λx M1=>match x with
 |.bl c=>.ok (.bl<|!c) M1
 |_=>.bad
noncomputable def NT(t:TM)(a b:EM):EM:=λd M=>(t d M).bind λc M1=>if c then a d M1 else b d M1
noncomputable def ax(f:CM)(a:AM):EM:=λb M=>(a b M).bind f
noncomputable def bP:CM:=λa M=>match a with
 |[x]=>match bD M x with
  |some xs=>.ok (.int xs.length) M
  |none=>.bad
 |_=>.bad
noncomputable def hZ:CM:=λa M=>match a with
 |[x]=>match bD M x with
  |some xs=>bu xs M
  |none=>.bad
 |_=>.bad
noncomputable def gF:CM:=λa M=>match a with
 |[.int i]=>.ok (.int i) M
 |[.bl b]=>.ok (.int<|if b then 1 else 0) M
 |_=>.bad
noncomputable def intsOf:List W->Option (List Int)
 |[]=>aa []
 |.int i::r=>(intsOf r).map (i::·)
 |_=>ae
noncomputable def nH:CM:=λa M=>match a with
 |[x]=>match(a9 M x).bind intsOf with
  |some ns=>.ok (.int ns.sum) M
  |none=>.bad
 |_=>.bad
inductive Kd where
 |int|bool|str|list|tuple
 deriving DecidableEq
noncomputable def cM(M:Mem)(x:W):Kd->Option Bool:=λk=>match x with
 |.aw=>aa ag
 |.bl _=>aa<|ai<|k=.bool\/k=.int
 |.int _=>aa<|ai<|k=.int
 |.str _=>aa<|ai<|k=.str
 |.ref a=>match M[a]? with
  |some (.lst _)=>aa<|ai<|k=.list
  |some (.tup _)=>aa<|ai<|k=.tuple
  |_=>ae
noncomputable def dm(M:Mem)(x:W):List Kd->Option Bool
 |[]=>aa ag
 |k::r=>match cM M x k,dm M x r with
  |some a,aa b=>aa<|a||b
  |_,_=>ae
noncomputable def cI(d:List Kd)(a:EM):EM:=λc M=>(a c M).bind λx M1=>match dm M1 x d with
 |some b=>.ok (.bl b) M1
 |none=>.bad
noncomputable def iZ(ns:List Int):List Int:=ns.foldl (λl n=>if l.any (·==n) then l else l++[n]) []
noncomputable def u5(e:EM):EM:=λa M=>(e a M).bind λx M1=>match(a9 M1 x).bind intsOf with
 |some ns=>if ns.length<4000 then .ok (.int (iZ ns).length) M1 else .bad
 |none=>.bad
noncomputable def bo(f:W->CM)(o:EM)(a:AM):EM:=λb M=>(o b M).bind λx M1=>match a9 M1 x with
 |some _=>(a b M1).bind λc M2=>f x c M2
 |none=>.bad
noncomputable def dc(x:W):CM:=λb M=>match b,bG M x with
 |[y],aa (a,xs)=>if xs.length<lim then .ok .aw (M.set a<|.lst<|xs++[y]) else .bad
 |_,_=>.bad
noncomputable def litOf(M:Mem):W->Option (List W)
 |.ref a=>match M[a]? with
  |some (.lst xs)=>aa xs
  |some (.tup xs)=>aa xs
  |_=>ae
 |_=>ae
noncomputable def fX(x:W):CM:=λc M=>match c with
 |[y]=>match bG M x,litOf M y with
  |some (a,xs),aa b=>if xs.length+b.length<=lim then .ok .aw (M.set a<|.lst<|xs++b) else .bad
  |_,_=>.bad
 |_=>.bad
noncomputable def fM(x:W):CM:=λb M=>match b,bG M x with
 |[],aa (a,xs)=>match xs[xs.length-1]? with
  |some y=>.ok y<|M.set a<|.lst xs.dropLast
  |none=>.bad
 |_,_=>.bad
noncomputable def lK:Nat:=4611686018427387904
noncomputable def vr(x:W):CM:=λb M=>match b with
 |[.int i]=>match bG M x with
  |some (a,xs)=>match ck xs.length i with
   |some k=>match xs[k]? with
    |some y=>if i.natAbs<lK then .ok y (M.set a<|.lst<|xs.eraseIdx k) else .bad
    |none=>.bad
   |none=>.bad
  |none=>.bad
 |_=>.bad
noncomputable def jg(x:W):CM:=λa M=>match a,bG M x with
 |[y],aa (_,xs)=>if flat y&&xs.all flat then .ok (.int<|xs.countP λz=>fA z y) M else .bad
 |_,_=>.bad
noncomputable def bq(M:Mem):W->Option (Nat×List (Int×W))
 |.ref a=>match M[a]? with
  |some (.aD b)=>aa (a,b)
  |_=>ae
 |_=>ae
noncomputable def aS(kvs:List<|Int×W)(k:Int):Option W:=(kvs.find? λa=>ai<|a.1=k).map (·.2)
noncomputable def dput(kvs:List<|Int×W)(k:Int)(v:W):List (Int×W):=
 if(kvs.any λa=>ai<|a.1=k)=af then kvs.map (λa=>if a.1=k then(a.1,v) else a) else kvs++[(k,v)]
noncomputable def f_(kvs:List<|Int×W)(k:Int):List (Int×W):=kvs.filter λa=>ai<|a.1≠k
noncomputable def nu:EM:=λ_ M=>.ok (.ref M.length)<|M++[.aD []]
noncomputable def nI(x y:W)(M:Mem):R W:=match y,bq M x with
 |.int i,aa (_,a)=>match aS a i with
  |some v=>.ok v M
  |none=>.bad
 |_,_=>.bad
noncomputable def ia(d k:EM):EM:=λa M=>(d a M).bind λx M1=>(k a M1).bind λy M2=>nI x y M2
noncomputable def dg(x y z:W)(M:Mem):R W:=match y,bq M x with
 |.int i,aa (_,a)=>.ok ((aS a i).getD z) M
 |_,_=>.bad
noncomputable def gA(x y z:W)(M:Mem):R W:=match y,bq M x with
 |.int i,aa (a,b)=>match aS b i with
  |some v=>.ok v M
  |none=>if b.length<lim then .ok z (M.set a<|.aD<|dput b i z) else .bad
 |_,_=>.bad
noncomputable def nJ(x y:W)(M:Mem):R W:=match y,bq M x with
 |.int i,aa (a,b)=>match aS b i with
  |some v=>.ok v<|M.set a<|.aD<|f_ b i
  |none=>.bad
 |_,_=>.bad
noncomputable def nv(M:Mem)(x:W):Bool:=(bq M x).isSome
noncomputable def iq(f:W->W->Mem->R W)(d k:EM):EM:=λa M=>(d a M).bind λx M1=>if nv M1 x then(k a M1).bind λy M2=>f x y M2 else .bad
noncomputable def eM(f:W->W->W->Mem->R W)(d k e:EM):EM:=λa M=>(d a M).bind λx M1=>if nv M1 x then(k a M1).bind λy M2=>(e a M2).bind λz b=>f x y z b else .bad
noncomputable def kQ(neg:Bool)(y x:W)(M:Mem):R W:=match y,bq M x with
 |.int i,aa (_,a)=>.ok (.bl<|(aS a i).isSome != neg) M
 |_,_=>.bad
noncomputable abbrev nK(neg:Bool)(k d:EM):EM:=aq (kQ neg) k d
noncomputable def nL(x y v:W)(σ:St)(M:Mem):RS:=match y,bq M x with
 |.int i,aa (a,b)=>if b.length<lim then .nx σ (M.set a<|.aD<|dput b i v) else .bad
 |_,_=>.bad
noncomputable def gz(d k e:EM):SM:=λa M=>(e a M).bK λv M1=>(d a M1).bK λx M2=>(k a M2).bK λy b=>nL x y v a b
noncomputable def iM(d:EM):EM:=λb M=>(d b M).bind λx M1=>match bq M1 x with
 |some (_,a)=>.ok (.bl a.isEmpty)<|M1++[.aD []]
 |none=>.bad
noncomputable def gB(M:Mem):Int->Nat->List (Int×W)->Option Int
 |k,_,[]=>aa k
 |k,n,(i,v)::r=>match a9 M v with
  |some xs=>if xs.length<n then gB M i xs.length r else gB M k n r
  |none=>ae
noncomputable def minD(M:Mem):List (Int×W)->Option Int
 |[]=>ae
 |(i,v)::r=>match a9 M v with
  |some xs=>gB M i xs.length r
  |none=>ae
noncomputable def px(d:EM):EM:=λc M=>(d c M).bind λx M1=>match bq M1 x with
 |some (_,a)=>match minD M1 a with
  |some k=>.ok (.int k)<|M1++[.lst<|a.map λb=>.int b.1]
  |none=>.bad
 |none=>.bad
noncomputable def dO(M:Mem):W->Option (Nat×List Nat×List (List Nat×W))
 |.ref a=>match M[a]? with
  |some (.ins c b)=>aa (a,c,b)
  |_=>ae
 |_=>ae
noncomputable def bH(f:List Nat)(v:W):List (List Nat×W)->List (List Nat×W)
 |[]=>[(f,v)]
 |(g,x)::r=>if g=f then(g,v)::r else(g,x)::bH f v r
noncomputable def cD(f:List Nat):List (List Nat×W)->Option W
 |[]=>ae
 |(g,x)::r=>if g=f then aa x else cD f r
noncomputable def lZ(c f:List Nat)(x:W)(M:Mem):R W:=match dO M x with
 |some (_,a,b)=>if a=c then(match cD f b with
  |some v=>.ok v M
  |none=>.bad) else .bad
 |none=>.bad
noncomputable def aM(c f:List Nat)(o:EM):EM:=λa M=>(o a M).bind λx M1=>lZ c f x M1
noncomputable def Bg(c f:List Nat)(x v:W)(σ:St)(M:Mem):RS:=match dO M x with
 |some (a,d,b)=>if d=c/\b.length<1000 then .nx σ (M.set a<|.ins c<|bH f v b) else .bad
 |none=>.bad
noncomputable def fu(c f:List Nat)(o e:EM):SM:=λa M=>(e a M).bK λv M1=>(o a M1).bK λx M2=>Bg c f x v a M2
noncomputable def jn(c m:List Nat)(M:Mem)(x:W):Bool:=match dO M x with
 |some (_,a,b)=>ai (a=c)&&(cD m b).isNone
 |none=>ag
noncomputable def dW(c m:List Nat)(f:CM)(o:EM)(a:AM):EM:=λb M=>(o b M).bind λx M1=>if jn c m M1 x then(a b M1).bind λd M2=>f (x::d) M2 else .bad
noncomputable def jC(c:List Nat)(f:CM):CM:=λa M=>(f (.ref M.length::a)<|M++[.ins c []]).bind λv M2=>match v with
 |.aw=>.ok (.ref M.length) M2
 |_=>.bad
noncomputable def pZ(x:List Nat):EM:=λ_ M=>.ok (.ref M.length)<|M++[.di x]
noncomputable def fnOf(M:Mem):W->Option (List Nat)
 |.ref a=>match M[a]? with
  |some (.di x)=>aa x
  |_=>ae
 |_=>ae
noncomputable def pick(tab:List<|List Nat×CM)(x:W)(M:Mem):Option CM:=match fnOf M x with
 |some n=>(tab.find? λp=>ai<|p.1=n).map (·.2)
 |none=>ae
noncomputable def ri(tab:List<|List Nat×CM)(o:EM)(a:AM):EM:=λb M=>(o b M).bind λx M1=>match pick tab x M1 with
 |some c=>(a b M1).bind c
 |none=>.bad
noncomputable def ay(i:Nat):GM:=λv a M=>.ok (a.set i<|aa v) M
noncomputable def jo:List GM->List W->St->Mem->R St
 |[],[],σ,M=>.ok σ M
 |g::c,v::b,σ,M=>(g v σ M).bind λa M1=>jo c b a M1
 |_,_,_,_=>.bad
noncomputable def cB(a:List GM):GM:=λv b M=>match cu M v with
 |some xs=>if xs.length=a.length then jo a xs b M else .bad
 |none=>.bad
noncomputable def js(o i:EM):GM:=λv b M=>(o b M).bind λx M1=>(i b M1).bind λy M2=>match y,bG M2 x with
 |.int k,aa (a,xs)=>match ck xs.length k with
  |some j=>.ok b<|M2.set a<|.lst<|xs.set j v
  |none=>.bad
 |_,_=>.bad
noncomputable def aX:SM:=λa M=>.nx a M
noncomputable def pP:SM:=λ_ _=>.bad
noncomputable def wI:SM:=λa M=>.bk a M
noncomputable def aJ(e:EM)(g:GM):SM:=λb M=>(e b M).bK λx M1=>(g x b M1).bK λa M2=>.nx a M2
noncomputable def aZ(e:EM):SM:=λa M=>(e a M).bK λ_ M1=>.nx a M1
noncomputable def aG(e:EM):SM:=λa M=>(e a M).bK λx M1=>.rt x M1
noncomputable def RS.andThen:RS->(St->Mem->RS)->RS
 |.nx σ M,f=>f σ M
 |r,_=>r
noncomputable def av(a b:SM):SM:=λc M=>(a c M).andThen b
noncomputable def aK(t:TM)(a b:SM):SM:=λd M=>(t d M).bK λc M1=>if c then a d M1 else b d M1
inductive Src where
 |val (x:W)
 |pair (x y:W)
noncomputable def Src.get:Src->Mem->R W
 |.val x,M=>.ok x M
 |.pair x y,M=>ic [x,y] M
noncomputable abbrev bJ:=List<|Nat×O
noncomputable def bJ.ok(c:bJ)(M:Mem):Bool:=c.all λp=>ai<|M[p.1]? =aa p.2
noncomputable abbrev IM:=St->Mem->R (List Src×bJ)
noncomputable def b0(e:EM):IM:=λb M=>(e b M).bind λx M1=>match x with
 |.ref a=>match M1[a]? with
  |some (.lst xs)=>.ok (xs.map .val,[(a,.lst xs)]) M1
  |some (.aU xs)=>.ok (xs.map .val,[(a,.aU xs)]) M1
  |some (.tup xs)=>.ok (xs.map .val,[(a,.tup xs)]) M1
  |_=>.bad
 |_=>.bad
noncomputable def cw:Nat:=4611686018427387904
noncomputable def cV(lo:Int)(n:Nat):List Src:=(List.range n).map λ(k:Nat)=>.val<|.int<|lo+(k:Int)
noncomputable def cQ(e:EM):IM:=λa M=>(e a M).bind λx M1=>match x with
 |.int j=>if j.natAbs<cw then .ok (cV 0 j.toNat,[]) M1 else .bad
 |_=>.bad
noncomputable def f7(e f:EM):IM:=λa M=>(e a M).bind λx M1=>(f a M1).bind λy M2=>match x,y with
 |.int i,.int j=>if i.natAbs<cw/\j.natAbs<cw then .ok (cV i (j-i).toNat,[]) M2 else .bad
 |_,_=>.bad
noncomputable def eU(M:Mem):W->Option (Nat×O×List W)
 |.ref a=>match M[a]? with
  |some (.lst xs)=>aa (a,.lst xs,xs)
  |some (.aU xs)=>aa (a,.aU xs,xs)
  |_=>ae
 |_=>ae
noncomputable def pairs(xs ys:List W):List Src:=List.zipWith Src.pair xs ys
noncomputable def rQ(e f:EM):IM:=λc M=>(e c M).bind λx M1=>(f c M1).bind λy M2=>match eU M2 x,eU M2 y with
 |some (a,o,xs),aa (b,q,d)=>.ok (pairs xs d,[(a,o),(b,q)]) M2
 |_,_=>.bad
noncomputable def eV:Nat->List W->List Src
 |_,[]=>[]
 |k,x::r=>.pair (.int k) x::eV (k+1) r
noncomputable def pA(e:EM):IM:=λb M=>(e b M).bind λx M1=>match eU M1 x with
 |some (a,o,xs)=>.ok (eV 0 xs,[(a,o)]) M1
 |none=>.bad
noncomputable def kj(e:EM):IM:=λd M=>(e d M).bind λx M1=>match bq M1 x with
 |some (a,b)=>.ok (b.map λc=>.pair (.int c.1) c.2,[(a,.a8 M1.length b)])<|M1.set a (.a8 M1.length b)++[.bR]
 |none=>.bad
noncomputable def c8:bJ->Mem->Option Mem
 |[(a,.a8 g b)],M=>if M[a]? =aa (.a8 g b) then aa (M.set a<|.aD b) else ae
 |_,_=>ae
noncomputable def RS.c8(c:bJ):RS->RS
 |.nx σ M=>match VM.c8 c M with
  |some a=>.nx σ a
  |none=>.bad
 |.rt v M=>match VM.c8 c M with
  |some a=>.rt v a
  |none=>.bad
 |_=>.bad
noncomputable def loop(c:bJ)(g:GM)(b:SM):List Src->St->Mem->RS
 |[],σ,M=>if c.ok M then .nx σ M else .bad
 |x::r,σ,M=>if c.ok M then (x.get M).bK λv M1=>(g v σ M1).bK λe M2=>match b e M2 with
   |.nx a d=>loop c g b r a d
   |.ct a d=>loop c g b r a d
   |.bk a d=>.nx a d
   |.rt v d=>.rt v d
   |.ex v d=>.ex v d
   |.bad=>.bad
  else .bad
noncomputable def bM(i:IM)(g:GM)(a:SM):SM:=λb M=>(i b M).bK λp M1=>loop p.2 g a p.1 b M1
noncomputable def ny(e:EM)(g:GM)(a:SM):SM:=λb M=>(kj e b M).bK λp M1=>(loop p.2 g a p.1 b M1).c8 p.2
noncomputable def df(t:TM)(b:SM):Nat->St->Mem->RS
 |0,_,_=>.bad
 |n+1,σ,M=>(t σ M).bK λc M1=>if c then(match b σ M1 with
  |.nx a d=>df t b n a d
  |.ct a d=>df t b n a d
  |.bk a d=>.nx a d
  |.rt v d=>.rt v d
  |.ex v d=>.ex v d
  |.bad=>.bad) else .nx σ M1
noncomputable def lL(n:Nat)(t:TM)(a:SM):SM:=df t a n
noncomputable def eX(cl:List Nat)(σ:St):St:=cl.foldl (λσ j=>σ.set j ae) σ
noncomputable def comp(c:bJ)(g:GM)(t:TM)(elt:EM):List Src->St->Mem->List W->R (List W)
 |[],_,M,acc=>if c.ok M then .ok acc M else .bad
 |x::r,σ,M,acc=>if c.ok M then (x.get M).bind λv M1=>(g v σ M1).bind λa M2=>(t a M2).bind λb d=>if b then(elt a d).bind λy e=>comp c g t elt r a e (acc++[y]) else comp c g t elt r a d acc
  else .bad
noncomputable def bU(k:Nat)(cl:List Nat)(i:IM)(g:GM)(t:TM)(elt:EM):EM:=λa M=>(i a M).bind λp M1=>(comp p.2 g t elt p.1 (eX cl<|a++List.replicate k ae) M1 []).bind bu
noncomputable def lN(k:Nat)(cl:List Nat)(e:EM)(g:GM)(t:TM)(elt:EM):EM:=λa M=>(kj e a M).bind λp M1=>
 ((comp p.2 g t elt p.1 (eX cl<|a++List.replicate k ae) M1 []).bind bu).bind λv M2=>match c8 p.2 M2 with
   |some b=>.ok v b
   |none=>.bad
noncomputable def hJ(c:List Nat):SM:=λ_ M=>.ex (.str c) M
noncomputable def cF(m:SM):SM:=λa M=>match m a M with
 |.ex _ _=>.bad
 |r=>r
noncomputable def cG(t:TM):TM:=λa M=>(t a M).cJ
noncomputable def bF(c:CM)(a:AM):EM:=λb M=>(a b M).cJ.bind c
noncomputable def iU(ys d:List<|List Nat)(a:EM):EM:=λe M=>(a e M).bind λx M1=>match x with
 |.ref b=>match M1[b]? with
  |some (.b8 c)=>if ys.contains c then .ok (.bl af) M1 else if d.contains c then .ok (.bl ag) M1 else .bad
  |_=>.bad
 |_=>.bad
noncomputable def dP:TM:=λ_ M=>.ok af M
noncomputable abbrev CE:=Nat->CM
noncomputable def fn(c n:Nat)(a:SM):CM:=λargs M=>if args.length=c then(match a (args.map aa++List.replicate (n-c) ae) M with
 |.rt v b=>.ok v b
 |.nx _ b=>.ok .aw b
 |.ex v b=>.ex v b
 |_=>.bad) else .bad
noncomputable def aV(tab:CE->CE):Nat->CE
 |0=>λ_ _ _=>.bad
 |k+1=>tab<|aV tab k
def az(h:M<+:M'){a:Nat}(e:M[a]? =aa o):M'[a]? =aa o:=by obtain⟨r,rfl⟩:=h;rw[UU (T6.mp e).1];exact e
def pre_app(M:Mem)(r:Mem):M<+:M++r:=⟨r,rfl⟩
def dJ(M:Mem):M<+:M:=List.prefix_refl _
noncomputable def aR(M:Mem)(v:W)(b:List W):Prop:=∃a,v=.ref a/\M[a]? =aa (.lst b)
noncomputable def aH(M:Mem)(v:W)(b:List W):Prop:=∃a,v=.ref a/\M[a]? =aa (.tup b)
def aR.mono(h:aR M v ws)(p:M<+:M'):aR M' v ws:=by obtain⟨a,e,q⟩:=h;exact⟨a,e,az p q⟩
def aH.mono(h:aH M v ws)(p:M<+:M'):aH M' v ws:=by obtain⟨a,e,q⟩:=h;exact⟨a,e,az p q⟩
def aR.a9(h:aR M v ws):a9 M v=aa ws:=by obtain⟨a,rfl,q⟩:=h;simp only[VM.a9,q]
def aR.bD(h:aR M v ws):bD M v=aa ws:=by simp only[VM.bD,h.a9]
def aR.eU(h:aR M v ws):∃a,v=.ref a/\eU M v=aa (a,.lst ws,ws)/\M[a]? =aa (.lst ws):=by obtain⟨a,rfl,q⟩:=h;exact⟨a,rfl,by simp only[VM.eU,q],q⟩
def aH.cu(h:aH M v ws):cu M v=aa ws:=by obtain⟨a,rfl,q⟩:=h;simp only[VM.cu,q]
def aH.a9(h:aH M v ws):VM.a9 M v=ae:=by obtain⟨a,rfl,q⟩:=h;simp only[VM.a9,q]
def aH.bD(h:aH M v ws):bD M v=aa ws:=by simp only[VM.bD,h.a9,h.cu]
def fT(h:M[a]? =aa (.lst ws)):bG M (.ref a)=aa (a,ws):=by simp only[VM.bG,h]
def dj(h:M[a]? =aa (.lst ws)):a9 M (.ref a)=aa ws:=by simp only[VM.a9,h]
def jW(h:M[a]? =aa (.lst ws)):bD M (.ref a)=aa ws:=by simp only[VM.bD,dj h]
def cm(h:ws.length<=16777216):bu ws M=.ok (.ref M.length) (M++[.lst ws]):=T1 h
def jc(h:ws.length<=16777216):ic ws M=.ok (.ref M.length) (M++[.tup ws]):=T1 h
def aR.new(M:Mem)(ws):aR (M++[.lst ws]) (.ref M.length) ws:=⟨_,rfl,by simp⟩
def aH.new(M:Mem)(ws):aH (M++[.tup ws]) (.ref M.length) ws:=⟨_,rfl,by simp⟩
def bV(M:Mem)(o):(M++[o])[M.length]? =aa o:=by simp
def oD(M:Mem)(o o':O):(M++[o]).set M.length o'=M++[o']:=by simp
structure au where
 nx:St->Mem->Prop
 rt:W->Mem->Prop
 bk:St->Mem->Prop:=λ_ _=>False
 ct:St->Mem->Prop:=λ_ _=>False
noncomputable def RS.Sat:RS->au->Prop
 |.nx σ M,q=>q.nx σ M
 |.rt v M,q=>q.rt v M
 |.bk σ M,q=>q.bk σ M
 |.ct σ M,q=>q.ct σ M
 |.ex _ _,_=>False
 |.bad,_=>False
def aI(h:(a σ M).Sat {q with nx:=λbh M'=>(b bh M').Sat q}):(av a b σ M).Sat q:=by
 unfold av;cases e:a σ M with
 |nx bh M'=>rw[e] at h;exact h
 |rt v M'=>rw[e] at h;exact h
 |bk bh M'=>rw[e] at h;exact h
 |ct bh M'=>rw[e] at h;exact h
 |ex v M'=>rw[e] at h;exact h
 |bad=>rw[e] at h;exact h
def oT(b:e σ M=.ok v M1)(a:g v σ M1=.ok bN M2)(h:q.nx bN M2):(aJ e g σ M).Sat q:=by unfold aJ;rw[b];simp only[R.bK,a];exact h
def bC(a:e σ M=.ok v M1)(h:q.nx (σ.set i<|aa v) M1):(aJ e (ay i) σ M).Sat q:=oT a rfl h
def dt(a:e σ M=.ok v M1)(h:q.nx σ M1):(aZ e σ M).Sat q:=by unfold aZ;rw[a];exact h
def bt(a:e σ M=.ok v M1)(h:q.rt v M1):(aG e σ M).Sat q:=by unfold aG;rw[a];exact h
def du(h:q.nx σ M):(aX σ M).Sat q:=h
def bp(e:t σ M=.ok c M1)(d:c=af->(a σ M1).Sat q)(h3:c=ag->(b σ M1).Sat q):(aK t a b σ M).Sat q:=by
 unfold aK;rw[e];simp only[R.bK];cases c with
 |true=>exact d rfl
 |false=>exact h3 rfl
def RS.Sat.mono{r:RS}(h:r.Sat q)(a:∀σ M,q.nx σ M->q'.nx σ M)(b:∀v M,q.rt v M->q'.rt v M)(h3:∀σ M,q.bk σ M->q'.bk σ M)(c:∀σ M,q.ct σ M->q'.ct σ M):r.Sat q':=by
 cases r with
 |nx σ M=>exact a _ _ h
 |rt v M=>exact b _ _ h
 |bk σ M=>exact h3 _ _ h
 |ct σ M=>exact c _ _ h
 |ex v M=>exact h
 |bad=>exact h
def yy{c:bJ}{g:GM}{b:SM}{q:au}(aO:List Src)(P:Nat->St->Mem->Prop)(p:∀(j:Nat) x σ M,aO[j]? =aa x->P j σ M->c.ok M=af/\∃v M1 bN M2,x.get M=.ok v M1/\g v σ M1=.ok bN M2/\(b bN M2).Sat {nx:=P (j+1),ct:=P (j+1),bk:=q.nx,rt:=q.rt})(hd:∀σ M,P aO.length σ M->c.ok M=af/\q.nx σ M):∀(j:Nat) (σ:St) (M:Mem),j<=aO.length->P j σ M->(loop c g b (aO.drop j) σ M).Sat q:=by
 intro j;generalize r:aO.length-j=k;induction k generalizing j with
 |zero=>
  intro σ M o m;have e:j=aO.length:=by omega
  subst e;rw[VE,loop];obtain⟨i,l⟩:=hd σ M m;rw[T1 i];exact l
 |succ k n=>
  intro σ M o m;have h:j<aO.length:=by omega
  rw[VF h,loop];obtain⟨i,v,M1,bN,M2,l,h3,a⟩:=p j aO[j] σ M (by simp[h]) m;rw[T1 i,l];simp only[R.bK,h3];cases e:b bN M2 with
  |nx d f=>rw[e] at a;exact n (j+1) (by omega) d f (by omega) a
  |ct d f=>rw[e] at a;exact n (j+1) (by omega) d f (by omega) a
  |bk d f=>rw[e] at a;exact a
  |rt v f=>rw[e] at a;exact a
  |ex v f=>rw[e] at a;exact a.elim
  |bad=>rw[e] at a;exact a.elim
def qU(d:i σ M=.ok (aO,c) M1)(P:Nat->St->Mem->Prop)(a:P 0 σ M1)(b:∀(j) x σ M,aO[j]? =aa x->P j σ M->c.ok M=af/\∃v M1 bN M2,x.get M=.ok v M1/\g v σ M1=.ok bN M2/\(body bN M2).Sat {nx:=P (j+1),ct:=P (j+1),bk:=q.nx,rt:=q.rt})(hd:∀σ M,P aO.length σ M->c.ok M=af/\q.nx σ M):(bM i g body σ M).Sat q:=by unfold bM;rw[d];exact yy aO P b hd 0 σ M1 (Vc _) a
def iH{i:IM}{k:Nat}{a:SM}{σ:St}{M M1:Mem}{lo:Int}{n:Nat}{q:au}(l:i σ M=.ok (cV lo n,[]) M1)(P:Nat->St->Mem->Prop)(g:P 0 σ M1)(h:∀(j:Nat) σ M,j<n->P j σ M->(a (σ.set k<|aa<|.int<|lo+(j:Int)) M).Sat {nx:=P (j+1),ct:=P (j+1),bk:=q.nx,rt:=q.rt})(hd:∀σ M,P n σ M->q.nx σ M):(bM i (ay k) a σ M).Sat q:=by
 have f:(cV lo n).length=n:=by simp[cV]
 refine qU l P g (λj x σ M b c=>⟨rfl,?_⟩) λσ M c=>⟨rfl,hd σ M (by rw[f] at c;exact c)⟩
 have d:j<n:=by rw[<-f];exact(T6.mp b).1
 have e:x=.val (.int<|lo+(j:Int)):=by unfold cV at b;rw[UW,List.getElem?_range d] at b;exact(Ua b).symm
 subst e;exact⟨_,M,_,M,rfl,rfl,h j σ M d c⟩
def fE{e:EM}{k:Nat}{d:SM}{σ:St}{M M1:Mem}{v:W}{xs:List W}{q:au}(t:e σ M=.ok v M1)(r:aR M1 v xs)(P:Nat->St->Mem->Prop)(p:P 0 σ M1)(s:∀(j:Nat) σ M,j<=xs.length->P j σ M->aR M v xs)(u:∀(j:Nat) x σ M,xs[j]? =aa x->P j σ M->(d (σ.set k<|aa x) M).Sat {nx:=P (j+1),ct:=P (j+1),bk:=q.nx,rt:=q.rt})(hd:∀σ M,P xs.length σ M->q.nx σ M):(bM (b0 e) (ay k) d σ M).Sat q:=by
 obtain⟨a,rfl,n⟩:=r;have y:b0 e σ M=.ok (xs.map .val,[(a,.lst xs)]) M1:=by unfold b0;rw[t];simp only[R.bind,n]
 have g:(xs.map Src.val).length=xs.length:=by simp
 have l:∀{j:Nat} {σ:St} {M:Mem},j<=xs.length->P j σ M->bJ.ok [(a,O.lst xs)] M=af:=λ{j σ M} i c=>by obtain⟨b,m,o⟩:=s j σ M i c;cases m;simp[bJ.ok,o]
 refine qU y P p (λj x σ M f c=>?_) λσ M c=>?_
 ·have i:j<xs.length:=by rw[<-g];exact(T6.mp f).1
  rw[UW] at f;cases h:xs[j]? with
  |none=>rw[h] at f;cases f
  |some w=>rw[h] at f;have ex:x=.val w:=(Ua f).symm;subst ex;exact⟨l (by omega) c,_,M,_,M,rfl,rfl,u j w σ M h c⟩
 ·rw[g] at c;exact⟨l (T8 _) c,hd σ M c⟩
def bT(b:args.length=np)(h:(body (args.map aa++List.replicate (n-np) ae) M).Sat {nx:=λ_ M'=>Q .aw M',rt:=Q}):∃v M',fn np n body args M=.ok v M'/\Q v M':=by
 unfold fn;rw[T1 b];cases e:body (args.map aa++List.replicate (n-np) ae) M with
 |nx a M'=>rw[e] at h;exact⟨_,_,rfl,h⟩
 |rt v M'=>rw[e] at h;exact⟨_,_,rfl,h⟩
 |ct a M'=>rw[e] at h;exact h.elim
 |bk a M'=>rw[e] at h;exact h.elim
 |ex v M'=>rw[e] at h;exact h.elim
 |bad=>rw[e] at h;exact h.elim
inductive bI{α β:Type}(R:α->β->Prop):List α->List β->Prop
 |nil:bI R [] []
 |cons {a b l m}:R a b->bI R l m->bI R (a::l) (b::m)
theorem bI.imp{R S:α->β->Prop}(f:∀a b,R a b->S a b):∀{l:List α} {m:List β},bI R l m->bI S l m
 |_,_,.nil=>.nil
 |_,_,.cons h t=>.cons (f _ _ h)<|bI.imp f t
theorem bI.len{R:α->β->Prop}:∀{l:List α} {m:List β},bI R l m->l.length=m.length
 |_,_,.nil=>rfl
 |_,_,.cons _ t=>by simp[bI.len t]
theorem bI.app{R:α->β->Prop}:∀{l b:List α} {m a:List β},bI R l m->bI R b a->bI R (l++b) (m++a)
 |_,_,_,_,.nil,s=>s
 |_,_,_,_,.cons h t,s=>.cons h<|bI.app t s
theorem bI.at{R:α->β->Prop}:∀{l:List α} {m:List β} {i:Nat} {x:α},bI R l m->l[i]? =aa x->∃y,m[i]? =aa y/\R x y
 |_,_,_,_,.nil,e=>by simp at e
 |_,_,0,_,.cons r _,e=>by simp at e;subst e;exact⟨_,rfl,r⟩
 |_,_,i+1,x,.cons _ t,e=>by
  obtain⟨y,b,a⟩:=bI.at t<|by simpa using e
  exact⟨y,by simpa using b,a⟩
theorem bI.at'{R:α->β->Prop}:∀{l:List α} {m:List β} {i:Nat} {y:β},bI R l m->m[i]? =aa y->∃x,l[i]? =aa x/\R x y
 |_,_,_,_,.nil,e=>by simp at e
 |_,_,0,_,.cons r _,e=>by simp at e;subst e;exact⟨_,rfl,r⟩
 |_,_,i+1,y,.cons _ t,e=>by
  obtain⟨x,b,a⟩:=bI.at' t<|by simpa using e
  exact⟨x,by simpa using b,a⟩
theorem uk{c:bJ}{i:Nat}{t:TM}{elt:EM}{σ:St}(p:W->Bool)(P:W->W->Mem->Prop)(d:∀x y M M',M<+:M'->P x y M->P x y M'):∀(xs:List W) (M:Mem) (bh:St) (b:List W),(∀v,bh.set i (aa v)=σ.set i (aa v))-> (∀M',M<+:M'->c.ok M'=af)-> (∀x∈xs,∀M',M<+:M'->∃M1,t (σ.set i<|aa x) M'=.ok (p x) M1/\M'<+:M1/\(p x=af->∃y M2,elt (σ.set i<|aa x) M1=.ok y M2/\M1<+:M2/\P x y M2))->
 ∃ys M',comp c (ay i) t elt (xs.map .val) bh M b=.ok (b++ys) M'/\M<+:M'/\bI (λx y=>P x y M') (xs.filter p) ys
 |[],M,bh,b,_,j,_=>⟨[],M,by rw[U0,comp,T1<|j M<|dJ M,UZ],dJ M,.nil⟩
 |x::r,M,bh,b,n,j,h=>by
  obtain⟨M1,s,g,o⟩:=h x UC M<|dJ M;have u:ay i x bh M=.ok (σ.set i<|aa x) M:=by unfold ay;rw[n]
  have f:∀v,(σ.set i<|aa x).set i (aa v)=σ.set i (aa v):=λv=>by simp
  rw[Uo,comp,T1<|j M<|dJ M];simp only[Src.get,R.bind,u,s];cases m:p x with
  |false=>
   obtain⟨ys,M',e,q,a⟩:=uk p P d r M1 (σ.set i<|aa x) b f (λM' q=>j M'<|g.trans q) λz k M' q=>h z (Up _ k) M'<|g.trans q
   simp only[UM,UG];exact⟨ys,M',e,g.trans q,by rw[Vg,m];exact a⟩
  |true=>
   obtain⟨y,M2,A,l,w⟩:=o m;obtain⟨ys,M',e,q,a⟩:=uk p P d r M2 (σ.set i<|aa x) (b++[y]) f (λM' q=>j M'<|g.trans<|l.trans q) λz k M' q=>h z (Up _ k) M'<|g.trans<|l.trans q
   simp only[Ul,A];refine⟨y::ys,M',by rw[e];simp,g.trans<|l.trans q,?_⟩;rw[Vg,m];exact .cons (d _ _ _ _ q w) a
theorem jS{c:bJ}{i:Nat}{t:TM}{elt:EM}{σ:St}{M:Mem}(p:W->Bool)(f:W->W):∀(xs:List W) (bh:St) (a:List W),(∀v,bh.set i (aa v)=σ.set i (aa v))->c.ok M=af-> (∀x∈xs,t (σ.set i<|aa x) M=.ok (p x) M/\(p x=af->elt (σ.set i<|aa x) M=.ok (f x) M))->
 comp c (ay i) t elt (xs.map .val) bh M a=.ok (a++(xs.filter p).map f) M
 |[],bh,a,_,d,_=>by rw[U0,comp,T1 d];simp
 |x::r,bh,a,j,d,h=>by
  obtain⟨l,k⟩:=h x UC;have m:ay i x bh M=.ok (σ.set i<|aa x) M:=by unfold ay;rw[j]
  have b:∀v,(σ.set i<|aa x).set i (aa v)=σ.set i (aa v):=λv=>by simp
  rw[Uo,comp,T1 d];simp only[Src.get,R.bind,m,l];cases g:p x with
  |false=>simp only[UM,UG];rw[jS p f r _ a b d λz e=>h z<|Up _ e,Vg,g];simp
  |true=>simp only[Ul,k g];rw[jS p f r _ (a++[f x]) b d λz e=>h z<|Up _ e,Vg,g];simp
noncomputable def gC(lo:Int)(n:Nat):List W:=(List.range n).map λ(k:Nat)=>.int<|lo+(k:Int)
def mI(lo)(n):cV lo n=(gC lo n).map .val:=by simp[cV,gC]
def t8(b:t σ M=.ok af M1)(a:(body σ M1).Sat {nx:=λbh M'=>(df t body k bh M').Sat q,ct:=λbh M'=>(df t body k bh M').Sat q,bk:=q.nx,rt:=q.rt}):(df t body (k+1) σ M).Sat q:=by
 rw[df,b];simp only[R.bK];cases e:body σ M1 with
 |nx bh M'=>rw[e] at a;exact a
 |rt v M'=>rw[e] at a;exact a
 |bk bh M'=>rw[e] at a;exact a
 |ct bh M'=>rw[e] at a;exact a
 |ex v M'=>rw[e] at a;exact a
 |bad=>rw[e] at a;exact a
def qk(a:t σ M=.ok ag M1)(h:q.nx σ M1):(df t body (k+1) σ M).Sat q:=by rw[df,a];simp only[R.bK];exact h
noncomputable def kG(m:IM):IM:=λa M=>(m a M).cJ
noncomputable def iN(f:CM)(e:EM)(a:AM):EM:=λb M=>(e b M).bind λv M1=>(a b M1).cJ.bind λc M2=>(f (v::c) M2).cJ
noncomputable def u6(x:W):CM:=λb M=>match b with
 |[.int i,y]=>match bG M x with
  |some (a,xs)=>if 0<=i/\i<=xs.length/\xs.length<lim then .ok .aw (M.set a<|.lst<|xs.take i.toNat++y::xs.drop i.toNat) else .bad
  |none=>.bad
 |_=>.bad
noncomputable def nx(c:CM):CM:=λa M=>(c a M).cJ
noncomputable def gD(body:SM)(g:List<|List Nat)(i:Option Nat)(f:SM):SM:=λe M=>match body e M with
 |.nx d b=>.nx d b
 |.ex (.str c) b=>if g.contains c then(match i with
  |none=>(match f e b with
   |.nx a M2=>.nx a M2
   |.rt v M2=>.rt v M2
   |_=>.bad)
  |some i=>(match f (e.set i<|aa<|.ref b.length) (b++[.b8 c]) with
   |.nx a M2=>.nx (a.set i ae) M2
   |.rt v M2=>.rt v M2
   |_=>.bad)) else .bad
 |_=>.bad
noncomputable def RS.good:RS->Prop
 |.ex _ _=>False
 |.bad=>False
 |_=>True
noncomputable def Ref(a b:SM):Prop:=∀c M,(a c M).good->b c M=a c M
noncomputable def l6(a b:EM):Prop:=∀d M v c,a d M=.ok v c->b d M=.ok v c
def fY{m:SM}:Ref m (cF m):=λa M h=>by
 unfold cF;cases e:m a M with
 |ex v b=>rw[e] at h;exact h.elim
 |_=>rfl
def eu{m d n c:SM}(f:Ref m d)(i:Ref n c):Ref (av m n) (av d c):=λa M h=>by
 unfold av at h⊢;have g:(m a M).good:=by
  cases e:m a M with
  |ex v j=>rw[e] at h;exact h
  |bad=>rw[e] at h;exact h
  |_=>trivial
 rw[f a M g];cases e:m a M with
 |nx b M1=>rw[e] at h;exact i b M1 h
 |_=>rfl
def uH{e a:EM}(h:l6 e a):Ref (aZ e) (aZ a):=λb M g=>by
 unfold aZ at g⊢;cases q:e b M with
 |ok v c=>rw[h b M v c q]
 |ex v c=>rw[q] at g;exact g.elim
 |bad=>rw[q] at g;exact g.elim
def zr{e a:EM}(h:l6 e a):Ref (aG e) (aG a):=λb M g=>by
 unfold aG at g⊢;cases q:e b M with
 |ok v c=>rw[h b M v c q]
 |ex v c=>rw[q] at g;exact g.elim
 |bad=>rw[q] at g;exact g.elim
def u7{e a:EM}{g:GM}(h:l6 e a):Ref (aJ e g) (aJ a g):=λb M k=>by
 unfold aJ at k⊢;cases q:e b M with
 |ok v c=>rw[h b M v c q]
 |ex v c=>rw[q] at k;exact k.elim
 |bad=>rw[q] at k;exact k.elim
def zt{m:SM}:Ref pP m:=λa M h=>h.elim
def qH{m:SM}:Ref m m:=λ_ _ _=>rfl
def Ah{t:TM}{a g b f:SM}(j:Ref a g)(i:Ref b f):Ref (aK t a b) (aK (cG t) g f):=λd M h=>by
 unfold aK cG at*;cases q:t d M with
 |ok c e=>
  rw[q] at h;cases c with
  |true=>exact j d e h
  |false=>exact i d e h
 |ex v e=>rw[q] at h;exact h.elim
 |bad=>rw[q] at h;exact h.elim
theorem uI{c:bJ}{g:GM}{b j:SM}(m:Ref b j):∀(l:List Src) (σ:St) (M:Mem),(loop c g b l σ M).good->loop c g j l σ M=loop c g b l σ M
 |[],_,_,_=>rfl
 |x::r,σ,M,h=>by
  unfold loop at h⊢;by_cases k:c.ok M=af
  ·rw[T1 k] at h⊢;rw[T1 k];cases q:x.get M with
   |ok v M1=>
    rw[q] at h;show(g v σ M1).bK _=(g v σ M1).bK _;cases o:g v σ M1 with
    |ok f M2=>
     have i:(match b f M2 with
      |.nx a d=>loop c g b r a d
      |.ct a d=>loop c g b r a d
      |.bk a d=>.nx a d
      |.rt v d=>.rt v d
      |.ex v d=>.ex v d
      |.bad=>.bad).good:=by
      have h3:((g v σ M1).bK λf M2=>match b f M2 with
       |.nx a d=>loop c g b r a d
       |.ct a d=>loop c g b r a d
       |.bk a d=>.nx a d
       |.rt v d=>.rt v d
       |.ex v d=>.ex v d
       |.bad=>.bad).good:=h
      rw[o] at h3;exact h3
     have n:(b f M2).good:=by
      cases e:b f M2 with
      |ex v p=>rw[e] at i;exact i
      |bad=>rw[e] at i;exact i
      |_=>trivial
     show(match j f M2 with
      |.nx a d=>loop c g j r a d
      |.ct a d=>loop c g j r a d
      |.bk a d=>RS.nx a d
      |.rt v d=>.rt v d
      |.ex v d=>.ex v d
      |.bad=>.bad)=match b f M2 with
      |.nx a d=>loop c g b r a d
      |.ct a d=>loop c g b r a d
      |.bk a d=>.nx a d
      |.rt v d=>.rt v d
      |.ex v d=>.ex v d
      |.bad=>.bad
     rw[m f M2 n];cases e:b f M2 with
     |nx a d=>rw[e] at i;exact uI m r a d i
     |ct a d=>rw[e] at i;exact uI m r a d i
     |_=>rfl
    |ex v M1=>rfl
    |bad=>rfl
   |ex v M1=>rfl
   |bad=>rfl
  ·rw[T2 k,T2 k]
def Hr{i:IM}{g:GM}{b a:SM}(d:Ref b a):Ref (bM i g b) (bM (kG i) g a):=λc M h=>by
 unfold bM kG at*;cases q:i c M with
 |ok p M1=>rw[q] at h;exact uI d p.1 c M1 h
 |ex v e=>rw[q] at h;exact h.elim
 |bad=>rw[q] at h;exact h.elim
def mJ{c:CM}{a:AM}:l6 (ax c a) (bF c a):=λb M v d h=>by
 unfold ax at h;unfold bF;cases q:a b M with
 |ok ws M1=>rw[q] at h;exact h
 |ex v M1=>rw[q] at h;cases h
 |bad=>rw[q] at h;cases h
def uJ{f:CM}{e i:EM}{a:AM}(l:l6 e i):l6 (ax f<|ak e a) (iN f i a):=λc M v j h=>by
 unfold ax ak at h;unfold iN;cases q:e c M with
 |ok x M1=>
  rw[q] at h;rw[l c M x M1 q];show((a c M1).cJ.bind λd M2=>(f (x::d) M2).cJ)=_;have b:(((a c M1).bind λk M2=>.ok (x::k) M2):R<|List W).bind f=.ok v j:=h;cases g:a c M1 with
  |ok d M2=>rw[g] at b;have h3:f (x::d) M2=.ok v j:=b;show(f (x::d) M2).cJ=_;rw[h3];rfl
  |ex v M1=>rw[g] at b;cases b
  |bad=>rw[g] at b;cases b
 |ex v M1=>rw[q] at h;cases h
 |bad=>rw[q] at h;cases h
def kl{a n:Nat}{b d:SM}(h:Ref b d){c:List W}{M M':Mem}{v:W}(e:fn a n b c M=.ok v M'):fn a n d c M=.ok v M':=by
 unfold fn at*;by_cases f:c.length=a
 ·rw[T1 f] at e⊢;have g:(b (c.map aa++List.replicate (n-a) ae) M).good:=by
   cases q:b (c.map aa++List.replicate (n-a) ae) M with
   |ex v M'=>rw[q] at e;cases e
   |bad=>rw[q] at e;cases e
   |_=>trivial
  rw[h _ _ g];exact e
 ·rw[T2 f] at e;cases e
def L_{c:CM}{a:List W}{M M':Mem}{v:W}(h:c a M=.ok v M'):nx c a M=.ok v M':=by unfold nx;rw[h];rfl
end VM
open VM in
local macro_rules| `(tactic|walk_at "ev")=> `(tactic|simp only[tB,nE,cW,cz,dP,aq,aj,eC,aP,ba,ao,ak,ax,eG,nY,wo,NT,kF,iK,bo,R.bind,bz,nG,ay,js,cB,jo,cQ,f7,List.length_cons,List.length_nil,List.map_cons,List.map_nil,List.cons_append,List.nil_append,List.append_nil,List.getElem?_cons_zero,List.getElem?_cons_succ,List.set_cons_zero,List.set_cons_succ,if_true,if_false,Bool.false_eq_true,Nat.reduceAdd,Nat.reduceSub,List.replicate_succ,List.replicate_zero,Nat.zero_add,Nat.add_zero,eX,List.foldl_nil,List.foldl_cons,List.append_assoc])
namespace LV
open VM
noncomputable def eo:CM:=fn 1 1 (
 aG (eG (cI [.int] (aj 0)) (wo (cI [.bool] (aj 0)))))
noncomputable def fj:CM:=fn 2 2 (
 av (
  aK (tB<|aq oEq (aj 0)<|aP<|ao) (
   aG (eC (.int 0))) (
   aX)) (
 aG (aq bz (aq aA (aj 0) (aq oMod (aj 1) (ax bP (ak (aj 0) ao)))) (aq bB (eC (.int 3)) (aq oDiv (aj 1) (ax bP (ak (aj 0) ao)))))))
noncomputable def gX(a:CM):CM:=fn 2 6 (
 av (
  aJ (aP (ak (aj 0) ao)) (ay 2)) (
 av (
  aJ (aP (ak (aj 1) ao)) (ay 3)) (
 av (
  lL 1000000000 (tB<|aq bE (aj 3)<|aP<|ao) (
   av (
    aJ (bo fM (aj 2) (ao)) (ay 4)) (
   av (
    aJ (bo fM (aj 3) (ao)) (ay 5)) (
   aK (tB<|cI [.list,.tuple]<|aj 5) (
    av (
     aK (tB<|aq bE (cI [.list]<|aj 4)<|cI [.list]<|aj 5) (
      aG (eC (.bl ag))) (
      aX)) (
    av (
     aK (cW (tB<|aq bE (cI [.tuple]<|aj 4)<|cI [.tuple]<|aj 5)<|tB<|aq bE (ax bP<|ak (aj 4) ao)<|ax bP<|ak (aj 5) ao) (
      aG (eC (.bl ag))) (
      aX)) (
    av (
     aZ (bo fX (aj 2) (ak (aj 4) ao))) (
    aZ (bo fX (aj 3) (ak (aj 5) ao)))))) (
    aK (tB<|kF<|aj 5) (
     aK (tB<|iK<|aj 4) (
      aG (eC (.bl ag))) (
      aX)) (
     aK (tB<|cI [.bool]<|aj 5) (
      aK (cW (cz<|tB<|cI [.bool]<|aj 4)<|tB<|aq bE (aj 4)<|aj 5) (
       aG (eC (.bl ag))) (
       aX)) (
      aK (tB<|cI [.str]<|aj 5) (
       aK (cW (cz<|tB<|cI [.str]<|aj 4)<|tB<|aq bE (aj 4)<|aj 5) (
        aG (eC (.bl ag))) (
        aX)) (
       aK (cW (cz<|tB<|ax a<|ak (aj 4) ao)<|tB<|aq bE (aj 4)<|aj 5) (
        aG (eC (.bl ag))) (
        aX))))))))) (
 aG (eC (.bl af))))))
noncomputable def gN:CM:=fn 1 1 (
 aG (aq aA (aP (ak (ba (ak (eC (.int 2)) (ak (eC (.int 2)) ao))) (ak (ba (ak (eC (.int 2)) (ak (eC (.int 2)) ao))) (ak (ba (ak (eC (.int 1)) (ak (eC (.int 3)) ao))) (ak (ba (ak (eC (.int 3)) (ak (eC (.int 1)) ao))) (ak (ba (ak (eC (.int 2)) (ak (eC (.int 1)) ao))) (ak (ba (ak (eC (.int 1)) (ak (eC (.int 2)) ao))) (ak (ba (ak (eC (.int 2)) (ak (eC (.int 2)) ao))) (ak (ba (ak (eC (.int 1)) (ak (eC (.int 1)) ao))) ao))))))))) (aq oMod (aj 0) (eC (.int 8)))))
noncomputable def iA:CM:=fn 2 9 (
 av (
  aJ (aq bB (aj 0) (aj 1)) (ay 2)) (
 av (
  aJ (bU 1 [] (cQ (aq bB (eC (.int 3)) (aj 2))) (ay 9) (dP) (aP (ao))) (ay 3)) (
 av (
  bM (cQ<|aq bB (aj 2)<|aj 2) (ay 4) (
   av (
    aJ (aq oDiv (aj 4) (aj 2)) (ay 5)) (
   av (
    aJ (aq oMod (aj 4) (aj 2)) (ay 6)) (
   av (
    aJ (aq bz (aq bB (aq oDiv (aj 5) (aj 0)) (aj 0)) (aq oDiv (aj 6) (aj 1))) (ay 7)) (
   bM (b0<|aP<|ak (aj 5)<|ak (aq bz (aj 2)<|aj 6)<|ak (aq bz (aq bB (eC<|.int 2)<|aj 2)<|aj 7) ao) (ay 8) (
    aZ (bo dc (aq aA (aj 3) (aj 8)) (ak (aj 4) ao)))))))) (
 aG (aj 3)))))
noncomputable def iB:CM:=fn 3 11 (
 av (
  aJ (aq bB (aj 0) (aj 1)) (ay 3)) (
 av (
  aJ (aq oMod (aj 2) (aj 3)) (ay 4)) (
 av (
  aJ (aP (ao)) (ay 5)) (
 av (
  bM (cQ<|aj 3) (ay 6) (
   bM (cQ<|aj 3) (ay 7) (
    av (
     aJ (aq oMod (aq bz (aq bz (aq bB (aj 1) (aq oMod (aj 6) (aj 0))) (aq oDiv (aj 6) (aj 0))) (aj 7)) (aj 3)) (ay 8)) (
    aZ (bo dc (aj 5) (ak (aq bz (aq oMod (aq bz (aq bB (aj 8) (aq aA (aP (ak (eC (.int 1)) (ak (aq nG (aj 3) (eC (.int 1))) ao))) (aq oMod (aq oDiv (aj 2) (eC (.int 5))) (eC (.int 2))))) (aj 4)) (aj 3)) (eC (.int 1))) ao)))))) (
 av (
  aK (nE (tB<|aq oEq (aq oMod (aq oDiv (aj 2)<|eC<|.int 7)<|eC<|.int 2)<|eC<|.int 1)<|tB<|aq oEq (aj 0)<|aj 1) (
   av (
    aJ (aP (ao)) (ay 9)) (
   av (
    bM (cQ<|aq bB (aj 3)<|aj 3) (ay 10) (
     aZ (bo dc (aj 9) (ak (aq aA (aj 5) (aq bz (aq bB (aq oMod (aj 10) (aj 3)) (aj 3)) (aq oDiv (aj 10) (aj 3)))) ao)))) (
   aJ (aj 9) (ay 5)))) (
   aX)) (
 aG (aj 5)))))))
noncomputable def gO:CM:=fn 3 6 (
 av (
  aJ (aP (ao)) (ay 3)) (
 av (
  bM (cQ<|ax bP<|ak (aj 0) ao) (ay 4) (
   av (
    aJ (eC (.int 0)) (ay 5)) (
   av (
    aK (tB<|aq oLt (aj 4)<|ax bP<|ak (aj 1) ao) (
     aJ (aq aA (aj 1) (aj 4)) (ay 5)) (
     aX)) (
   aZ (bo dc (aj 3) (ak (aq bB (aq aA (aj 0) (aj 4)) (ax gF (ak (aq ml (aq oMod (aq bz (aj 5) (aj 4)) (eC (.int 7))) (aj 2)) ao))) ao)))))) (
 aG (aj 3))))
end LV
namespace PB
open VM
noncomputable def gP:CM:=fn 2 2 (
 aG (bU 1 [] (cQ (aj 0)) (ay 2) (dP) (aq bz (aq bB (aj 1) (aj 0)) (aj 2))))
noncomputable def gL:CM:=fn 2 2 (
 aG (bU 1 [] (cQ (aj 0)) (ay 2) (dP) (aq bz (aq bB (aj 2) (aj 0)) (aj 1))))
noncomputable def gQ:CM:=fn 3 9 (
 av (
  aJ (aq bB (aj 0) (aj 1)) (ay 3)) (
 av (
  aJ (aq bB (aq oDiv (aj 2) (aj 0)) (aj 0)) (ay 4)) (
 av (
  aJ (aq bB (aq oMod (aj 2) (aj 0)) (aj 1)) (ay 5)) (
 av (
  aJ (aP (ao)) (ay 6)) (
 av (
  bM (f7 (aj 4)<|aq bz (aj 4)<|aj 0) (ay 7) (
   bM (f7 (aj 5)<|aq bz (aj 5)<|aj 1) (ay 8) (
    aZ (bo dc (aj 6) (ak (aq bz (aq bB (aj 7) (aj 3)) (aj 8)) ao))))) (
 aG (aj 6)))))))
noncomputable def i8(b a c:CM):CM:=fn 2 6 (
 av (
  aJ (aq bB (aj 0) (aj 1)) (ay 2)) (
 av (
  aJ (bU 1 [] (cQ (aj 2)) (ay 6) (dP) (ax b (ak (aj 2) (ak (aj 6) ao)))) (ay 3)) (
 av (
  aJ (bU 1 [] (cQ (aj 2)) (ay 6) (dP) (ax a (ak (aj 2) (ak (aj 6) ao)))) (ay 4)) (
 av (
  aJ (bU 1 [] (cQ (aj 2)) (ay 6) (dP) (ax c (ak (aj 0) (ak (aj 1) (ak (aj 6) ao))))) (ay 5)) (
 aG (aq bz (aq bz (aj 3) (aj 4)) (aj 5)))))))
noncomputable def d0:CM:=fn 3 5 (
 av (
  aJ (aq bB (aj 0) (aj 1)) (ay 3)) (
 av (
  aK (tB<|aq bE (ax bP<|ak (aj 2) ao)<|aq bB (aj 3)<|aj 3) (
   pP) (
   aX)) (
 bM (b0<|aj 2) (ay 4) (
  aK (cW (tB<|aq oLt (aj 4)<|eC<|.int 0)<|tB<|aq eL (aj 4)<|aj 3) (
   pP) (
   aX)))))
noncomputable def jO:CM:=fn 2 4 (
 av (
  bM (rQ (aj 0)<|aj 1) (cB [ay 2,ay 3]) (
   aK (nE (tB<|aq bE (aj 2)<|eC<|.int 0)<|tB<|aq bE (aj 2)<|aj 3) (
    aG (eC (.bl ag))) (
    aX))) (
 aG (eC (.bl af))))
noncomputable def jQ:CM:=fn 2 3 (
 av (
  aJ (bU 1 [] (b0 (aj 0)) (ay 3) (dP) (aq aA (aj 1) (aj 3))) (ay 2)) (
 aG (aq oLt (u5 (aj 2)) (ax bP (ak (aj 2) ao)))))
noncomputable def jd(c a b d:CM):CM:=fn 4 5 (
 av (
  aZ (ax a (ak (aj 0) (ak (aj 1) (ak (aj 2) ao))))) (
 av (
  aZ (ax a (ak (aj 0) (ak (aj 1) (ak (aj 3) ao))))) (
 av (
  aK (cW (tB<|aq ik (eC<|.int 0)<|aj 3)<|cz<|tB<|ax b<|ak (aj 2)<|ak (aj 3) ao) (
   aG (eC (.bl ag))) (
   aX)) (
 av (
  bM (b0<|ax c<|ak (aj 0)<|ak (aj 1) ao) (ay 4) (
   aK (tB<|ax d<|ak (aj 4)<|ak (aj 3) ao) (
    aG (eC (.bl ag))) (
    aX))) (
 aG (eC (.bl af)))))))
noncomputable def iD:CM:=fn 3 7 (
 av (
  aJ (aq bB (aj 0) (aj 1)) (ay 3)) (
 av (
  aJ (aq oDiv (aj 2) (aj 3)) (ay 4)) (
 av (
  aJ (aq oMod (aj 2) (aj 3)) (ay 5)) (
 av (
  aJ (aq bz (aq bB (aq oDiv (aj 4) (aj 0)) (aj 0)) (aq oDiv (aj 5) (aj 1))) (ay 6)) (
 aG (aP (ak (aj 4) (ak (aq bz (aj 3) (aj 5)) (ak (aq bz (aq bB (eC (.int 2)) (aj 3)) (aj 6)) ao)))))))))
noncomputable def e_(c b a:CM):CM:=fn 4 6 (
 av (
  aZ (ax b (ak (aj 1) (ak (aj 2) (ak (aj 3) ao))))) (
 av (
  fu [83,116,97,116,101] [104,105,103,104] (aj 0) (aj 1)) (
 av (
  fu [83,116,97,116,101] [119,105,100,101] (aj 0) (aj 2)) (
 av (
  fu [83,116,97,116,101] [103,114,111,117,112,115] (aj 0) (ax c (ak (aj 1) (ak (aj 2) ao)))) (
 av (
  fu [83,116,97,116,101] [110,117,109,98,101,114,115] (aj 0) (ax hZ (ak (aj 3) ao))) (
 av (
  fu [83,116,97,116,101] [99,97,110] (aj 0) (nu)) (
 bM (pA<|aj 3) (cB [ay 4,ay 5]) (
  aK (tB<|aq oEq (aj 5)<|eC<|.int 0) (
   gz (aM [83,116,97,116,101] [99,97,110] (aj 0)) (aj 4) (dW [83,116,97,116,101] [110,117,109,98,101,114,115,95,102,111,114] a (aj 0) (ak (aj 4) ao))) (
   aX)))))))))
noncomputable def iz(a:CM):CM:=fn 2 5 (
 av (
  aJ (nu) (ay 2)) (
 av (
  bM (b0<|ax a<|ak (aM [83,116,97,116,101] [104,105,103,104]<|aj 0)<|ak (aM [83,116,97,116,101] [119,105,100,101]<|aj 0)<|ak (aj 1) ao) (ay 3) (
   bM (b0<|aq aA (aM [83,116,97,116,101] [103,114,111,117,112,115]<|aj 0)<|aj 3) (ay 4) (
    gz (aj 2) (aq aA (aM [83,116,97,116,101] [110,117,109,98,101,114,115] (aj 0)) (aj 4)) (eC (.bl af))))) (
 aG (bU 1 [] (f7 (eC (.int 1)) (aq bz (aq bB (aM [83,116,97,116,101] [104,105,103,104] (aj 0)) (aM [83,116,97,116,101] [119,105,100,101] (aj 0))) (eC (.int 1)))) (ay 5) (tB (nK af (aj 5) (aj 2))) (aj 5)))))
noncomputable def i9(a:CM):CM:=fn 3 5 (
 av (
  aJ (aj 2) (js (aM [83,116,97,116,101] [110,117,109,98,101,114,115] (aj 0)) (aj 1))) (
 av (
  aZ (iq nJ (aM [83,116,97,116,101] [99,97,110] (aj 0)) (aj 1))) (
 bM (b0<|ax a<|ak (aM [83,116,97,116,101] [104,105,103,104]<|aj 0)<|ak (aM [83,116,97,116,101] [119,105,100,101]<|aj 0)<|ak (aj 1) ao) (ay 3) (
  bM (b0<|aq aA (aM [83,116,97,116,101] [103,114,111,117,112,115]<|aj 0)<|aj 3) (ay 4) (
   aK (tB<|aq ik (aj 2)<|eM dg (aM [83,116,97,116,101] [99,97,110]<|aj 0) (aj 4)<|aP<|ao) (
    gz (aM [83,116,97,116,101] [99,97,110] (aj 0)) (aj 4) (bU 1 [] (b0 (ia (aM [83,116,97,116,101] [99,97,110] (aj 0)) (aj 4))) (ay 5) (tB (aq bE (aj 5) (aj 2))) (aj 5))) (
    aX))))))
noncomputable def jP(a b:CM):CM:=fn 3 4 (
 av (
  aJ (ax b (ak (aM [83,116,97,116,101] [104,105,103,104] (aj 0)) (ak (aM [83,116,97,116,101] [119,105,100,101] (aj 0)) (ak (aM [83,116,97,116,101] [110,117,109,98,101,114,115] (aj 0)) ao)))) (ay 3)) (
 av (
  aZ (dW [83,116,97,116,101] [112,117,116] a (aj 3) (ak (aj 1) (ak (aj 2) ao)))) (
 aG (aj 3))))
noncomputable def j3(a:CM):CM:=jC [83,116,97,116,101] a
noncomputable def gR:CM:=fn 2 2 (
 aG (o3 oLe oLt (eC (.int 0)) (aj 1) (ax bP (ak (aM [83,116,97,116,101] [103,114,111,117,112,115] (aj 0)) ao))))
noncomputable def ja:CM:=fn 2 5 (
 av (
  aJ (nu) (ay 2)) (
 av (
  bM (b0<|aq aA (aM [83,116,97,116,101] [103,114,111,117,112,115]<|aj 0)<|aj 1) (ay 3) (
   bM (b0<|eM dg (aM [83,116,97,116,101] [99,97,110]<|aj 0) (aj 3)<|aP<|ao) (ay 4) (
    aZ (bo dc (eM gA (aj 2) (aj 4) (aP (ao))) (ak (aj 3) ao))))) (
 aG (aj 2))))
noncomputable def lh(a b:CM):CM:=fn 2 2 (
 av (
  aK (tB<|aq oEq (aq aA (aj 1)<|eC<|.int 0)<|eC<|.str [102,105,101,108,100]) (
   aG (aq oEq (iq (λx y=>dg x y .aw) (aM [83,116,97,116,101] [99,97,110] (aj 0)) (aq aA (aj 1) (eC (.int 1)))) (aP (ak (aq aA (aj 1) (eC (.int 2))) ao)))) (
   aX)) (
 aG (eG (ax a (ak (aj 0) (ak (aq aA (aj 1) (eC (.int 3))) ao))) (aq oEq (iq (λx y=>dg x y .aw) (ax b (ak (aj 0) (ak (aq aA (aj 1) (eC (.int 3))) ao))) (aq aA (aj 1) (eC (.int 2)))) (aP (ak (aq aA (aj 1) (eC (.int 1))) ao))))))
noncomputable def qm(b a:CM):CM:=fn 2 3 (
 av (
  bM (b0<|aj 1) (ay 2) (
   av (
    aK (cz<|tB<|ax a<|ak (aj 0)<|ak (aj 2) ao) (
     aG (eC (.bl ag))) (
     aX)) (
   aZ (dW [83,116,97,116,101] [112,117,116] b (aj 0) (ak (aq aA (aj 2) (eC (.int 1))) (ak (aq aA (aj 2) (eC (.int 2))) ao)))))) (
 aG (eC (.bl af))))
noncomputable def lj:CM:=fn 1 1 (
 aG (lN 2 [] (aM [83,116,97,116,101] [99,97,110] (aj 0)) (cB [ay 1,ay 2]) (tB (aq oEq (aj 2) (aP (ao)))) (aj 1)))
noncomputable def kZ:CM:=fn 2 5 (
 av (
  aJ (nu) (ay 2)) (
 av (
  bM (b0<|aq aA (aM [83,116,97,116,101] [103,114,111,117,112,115]<|aj 0)<|aj 1) (ay 3) (
   av (
    gz (aj 2) (aq aA (aM [83,116,97,116,101] [110,117,109,98,101,114,115] (aj 0)) (aj 3)) (eC (.bl af))) (
   bM (b0<|eM dg (aM [83,116,97,116,101] [99,97,110]<|aj 0) (aj 3)<|aP<|ao) (ay 4) (
    gz (aj 2) (aj 4) (eC (.bl af)))))) (
 aG (bU 0 [4] (f7 (eC (.int 1)) (aq bz (aq bB (aM [83,116,97,116,101] [104,105,103,104] (aj 0)) (aM [83,116,97,116,101] [119,105,100,101] (aj 0))) (eC (.int 1)))) (ay 4) (tB (nK af (aj 4) (aj 2))) (aj 4)))))
noncomputable def lb:CM:=fn 2 3 (
 av (
  aJ (bU 1 [] (b0 (aq aA (aM [83,116,97,116,101] [103,114,111,117,112,115] (aj 0)) (aj 1))) (ay 3) (dP) (aq aA (aM [83,116,97,116,101] [110,117,109,98,101,114,115] (aj 0)) (aj 3))) (ay 2)) (
 aG (bU 1 [] (f7 (eC (.int 1)) (aq bz (aq bB (aM [83,116,97,116,101] [104,105,103,104] (aj 0)) (aM [83,116,97,116,101] [119,105,100,101] (aj 0))) (eC (.int 1)))) (ay 3) (tB (aq eL (bo jg (aj 2) (ak (aj 3) ao)) (eC (.int 1)))) (aj 3))))
noncomputable def t7(d c a b:CM):CM:=fn 2 2 (
 av (
  aK (tB<|aq oEq (aq aA (aj 1)<|eC<|.int 0)<|eC<|.str [102,105,101,108,100]) (
   aG (aq ik (aq aA (aj 1) (eC (.int 1))) (ax c (ak (aj 0) ao)))) (
   aX)) (
 av (
  aK (cz<|tB<|ax d<|ak (aj 0)<|ak (aq aA (aj 1)<|eC<|.int 1) ao) (
   aG (eC (.bl ag))) (
   aX)) (
 av (
  aK (tB<|aq oEq (aq aA (aj 1)<|eC<|.int 0)<|eC<|.str [103,114,111,117,112]) (
   aG (aq ik (aq aA (aj 1) (eC (.int 2))) (ax a (ak (aj 0) (ak (aq aA (aj 1) (eC (.int 1))) ao))))) (
   aX)) (
 aG (aq ik (aq aA (aj 1) (eC (.int 2))) (ax b (ak (aj 0) (ak (aq aA (aj 1) (eC (.int 1))) ao))))))))
noncomputable def k_(a b:CM):CM:=fn 3 5 (
 av (
  bM (cQ<|ax bP<|ak (aM [83,116,97,116,101] [103,114,111,117,112,115]<|aj 0) ao) (ay 3) (
   av (
    aJ (ri [([116,119,105,99,101,95,110,117,109,98,101,114,115],b),([104,111,109,101,108,101,115,115,95,110,117,109,98,101,114,115],a)] (aj 2) (ak (aj 0) (ak (aj 3) ao))) (ay 4)) (
   aK (tB<|aq bE (aj 4)<|aP<|ao) (
    aG (ba (ak (aj 1) (ak (aj 3) (ak (aq aA (aj 4) (eC (.int 0))) ao))))) (
    aX)))) (
 aG (eC .aw)))
noncomputable def lq(a:CM):CM:=fn 1 1 (
 aG (ax a (ak (aj 0) (ak (eC (.str [116,119,105,99,101])) (ak (pZ [116,119,105,99,101,95,110,117,109,98,101,114,115]) ao)))))
noncomputable def la(b a:CM):CM:=fn 1 2 (
 av (
  aJ (ax b (ak (aj 0) ao)) (ay 1)) (
 av (
  aK (tB<|aq bE (aj 1)<|aP<|ao) (
   aG (ba (ak (eC (.str [102,105,101,108,100])) (ak (aq aA (aj 1) (eC (.int 0))) ao)))) (
   aX)) (
 aG (ax a (ak (aj 0) (ak (eC (.str [103,114,111,117,112])) (ak (pZ [104,111,109,101,108,101,115,115,95,110,117,109,98,101,114,115]) ao)))))))
noncomputable def lu(a:CM):CM:=fn 1 6 (
 av (
  ny (aM [83,116,97,116,101] [99,97,110]<|aj 0) (cB [ay 1,ay 2]) (
   aK (tB<|aq oEq (ax bP<|ak (aj 2) ao)<|eC<|.int 1) (
    aG (ba (ak (eC (.str [102,105,101,108,100])) (ak (aj 1) (ak (aq aA (aj 2) (eC (.int 0))) ao))))) (
    aX))) (
 av (
  bM (cQ<|ax bP<|ak (aM [83,116,97,116,101] [103,114,111,117,112,115]<|aj 0) ao) (ay 3) (
   ny (ax a<|ak (aj 0)<|ak (aj 3) ao) (cB [ay 4,ay 5]) (
    aK (tB<|aq oEq (ax bP<|ak (aj 5) ao)<|eC<|.int 1) (
     aG (ba (ak (eC (.str [103,114,111,117,112])) (ak (aq aA (aj 5) (eC (.int 0))) (ak (aj 4) (ak (aj 3) ao)))))) (
     aX)))) (
 aG (eC .aw))))
noncomputable def lr(b a:CM):CM:=fn 1 2 (
 av (
  aJ (ax b (ak (aj 0) ao)) (ay 1)) (
 av (
  aK (tB<|iK<|aj 1) (
   aG (aj 1)) (
   aX)) (
 aG (ax a (ak (aj 0) ao)))))
noncomputable def lx(d a c b:CM):CM:=fn 1 4 (
 av (
  aJ (aP (ao)) (ay 1)) (
 av (
  aJ (ax b (ak (aj 0) ao)) (ay 2)) (
 av (
  lL 1000000000 (tB<|kF<|aj 2) (
   av (
    aJ (ax c (ak (aj 0) ao)) (ay 3)) (
   av (
    aK (tB<|kF<|aj 3) (
     wI) (
     aX)) (
   av (
    aZ (dW [83,116,97,116,101] [112,117,116] d (aj 0) (ak (aq aA (aj 3) (eC (.int 1))) (ak (aq aA (aj 3) (eC (.int 2))) ao)))) (
   av (
    aZ (bo dc (aj 1) (ak (aj 3) ao))) (
   aJ (ax a (ak (aj 0) ao)) (ay 2))))))) (
 aG (ba (ak (aj 1) (ak (aj 2) ao)))))))
noncomputable def iF(b a:CM):CM:=fn 4 4 (
 aG (ax a (ak (ax b (ak (aj 0) (ak (aj 1) (ak (aj 2) ao)))) (ak (aj 3) ao))))
noncomputable def jh(b a:CM):CM:=fn 4 5 (
 av (
 cF (aJ (ax b (ak (aj 0) (ak (aj 1) (ak (aj 2) ao)))) (ay 4))) (
 av (
 aK (cG (cz (tB (ax a (ak (aj 4) (ak (aj 3) ao)))))) (hJ [78,111,83,116,101,112]) aX) (
 cF (aG (aM [83,116,97,116,101] [110,117,109,98,101,114,115] (aj 4))))))
noncomputable def jR(b a:CM):CM:=fn 3 3 (
 aG (ax a (ak (ax b (ak (aj 0) (ak (aj 1) (ak (aj 2) ao)))) ao)))
noncomputable def lp:CM:=fn 1 1 (
 aG (px (aM [83,116,97,116,101] [99,97,110] (aj 0))))
noncomputable def ly(a c b d:CM):CM:=fn 2 7 (
 av (
  aK (tB<|aq oEq (ax bP<|ak (aj 1) ao)<|eC<|.int 2) (
   aG (ba (ak (aP (ao)) (ak (ba (ak (eC (.str [108,101,102,116])) ao)) ao)))) (
   aX)) (
 av (
  aJ (ax c (ak (aj 0) ao)) (cB [ay 2,ay 3])) (
 av (
  aK (tB<|iK<|aj 3) (
   aG (ba (ak (aj 2) (ak (ba (ak (eC (.str [99,108,97,115,104])) (ak (aj 3) ao))) ao)))) (
   aX)) (
 av (
  aK (tB<|iM<|aM [83,116,97,116,101] [99,97,110]<|aj 0) (
   av (
    aZ (bo dc (aj 1) (ak (aM [83,116,97,116,101] [110,117,109,98,101,114,115] (aj 0)) ao))) (
   aG (ba (ak (aj 2) (ak (ba (ak (eC (.str [102,117,108,108])) ao)) ao))))) (
   aX)) (
 av (
  aJ (ax b (ak (aj 0) ao)) (ay 4)) (
 av (
  aJ (aP (ao)) (ay 5)) (
 av (
  bM (b0<|ia (aM [83,116,97,116,101] [99,97,110]<|aj 0)<|aj 4) (ay 6) (
   aZ (bo dc (aj 5) (ak (ba (ak (aj 6) (ak (ax d (ak (dW [83,116,97,116,101] [98,101,104,105,110,100] a (aj 0) (ak (aj 4) (ak (aj 6) ao))) (ak (aj 1) ao))) ao))) ao)))) (
 aG (ba (ak (aj 2) (ak (ba (ak (eC (.str [116,114,121])) (ak (aj 4) (ak (aj 5) ao)))) ao)))))))))))
noncomputable def iG(b a:CM):CM:=fn 3 5 (
 av (
  aJ (aP (ao)) (ay 3)) (
 av (
  aJ (ax a (ak (ax b (ak (aj 0) (ak (aj 1) (ak (aj 2) ao)))) (ak (aj 3) ao))) (ay 4)) (
 aG (ba (ak (aj 3) (ak (aj 4) ao))))))
noncomputable def t9:CM:=fn 3 4 (
 av (
  aJ (eM dg (aM [83,116,97,116,101] [99,97,110] (aj 0)) (aj 1) (aP (ao))) (ay 3)) (
 aG (eG (aq bE (aj 3) (aP (ao))) (aq oEq (bU 2 [] (b0 (aj 2)) (cB [ay 4,ay 5]) (dP) (aj 4)) (aj 3)))))
noncomputable def i_(a b:CM):CM:=fn 2 2 (
 av (
  aK (tB<|aq oEq (aq aA (aj 1)<|eC<|.int 0)<|eC<|.str [102,117,108,108]) (
   aG (iM (aM [83,116,97,116,101] [99,97,110] (aj 0)))) (
   aX)) (
 av (
  aK (tB<|aq oEq (aq aA (aj 1)<|eC<|.int 0)<|eC<|.str [99,108,97,115,104]) (
   aG (ax a (ak (aj 0) (ak (aq aA (aj 1) (eC (.int 1))) ao)))) (
   aX)) (
 av (
  aK (tB<|aq oEq (aq aA (aj 1)<|eC<|.int 0)<|eC<|.str [116,114,121]) (
   aG (ax b (ak (aj 0) (ak (aq aA (aj 1) (eC (.int 1))) (ak (aq aA (aj 1) (eC (.int 2))) ao))))) (
   aX)) (
 aG (eC (.bl af))))))
noncomputable def gM(a:CM):CM:=fn 2 2 (
 av (
  aK (tB<|aq bE (aq aA (aj 1)<|eC<|.int 0)<|eC<|.str [116,114,121]) (
   aG (aP (ao))) (
   aX)) (
 aG (bU 2 [] (b0 (aq aA (aj 1) (eC (.int 2)))) (cB [ay 2,ay 3]) (dP) (ba (ak (dW [83,116,97,116,101] [98,101,104,105,110,100] a (aj 0) (ak (aq aA (aj 1) (eC (.int 1))) (ak (aj 2) ao))) (ak (aj 3) ao))))))
noncomputable def lD(e d c a b:CM):CM:=fn 4 9 (
 av (
  aJ (ax e (ak (aj 0) (ak (aj 1) (ak (aj 2) ao)))) (ay 4)) (
 av (
  aK (tB<|iK<|ax c<|ak (aj 4) ao) (
   aG (eG (aq oEq (aq aA (aj 3) (eC (.int 0))) (aP (ao))) (eG (aq oEq (aq aA (aq aA (aj 3) (eC (.int 1))) (eC (.int 0))) (eC (.str [99,108,97,115,104]))) (ax a (ak (aj 4) (ak (aq aA (aj 3) (eC (.int 1))) ao)))))) (
   aX)) (
 av (
  aJ (aP (ao)) (ay 5)) (
 av (
  aJ (aP (ak (ba (ak (aj 4) (ak (aj 3) ao))) ao)) (ay 6)) (
 av (
  lL 1000000000 (tB<|aq bE (aj 6)<|aP<|ao) (
   av (
    aJ (bo fM (aj 6) (ao)) (cB [ay 7,ay 8])) (
   av (
    aK (cW (cz<|tB<|ax d<|ak (aj 7)<|ak (aq aA (aj 8)<|eC<|.int 0) ao)<|cz<|tB<|ax a<|ak (aj 7)<|ak (aq aA (aj 8)<|eC<|.int 1) ao) (
     aG (eC (.bl ag))) (
     aX)) (
   av (
    aZ (bo dc (aj 5) (ak (aq aA (aq aA (aj 8) (eC (.int 1))) (eC (.int 0))) ao))) (
   aZ (bo fX (aj 6) (ak (ax b (ak (aj 7) (ak (aq aA (aj 8) (eC (.int 1))) ao))) ao))))))) (
 aG (nY (aq o4 (eC (.str [108,101,102,116])) (aj 5)) (aq ml (bo jg (aj 5) (ak (eC (.str [102,117,108,108])) ao)) (eC (.int 2))))))))))
end PB
namespace LV
open VM
def cU{i j:Int}{M:Mem}(h:i.natAbs<=1000000):bB (.int i) (.int j) M=.ok (.int<|i*j) M:=T1<|.inl (by unfold hY;omega)
def eQ(h:0<j)(a:j<1000000):oDiv (.int i) (.int j) M=.ok (.int<|i / j) M:=T1 ⟨h,by omega⟩
def dk(h:0<j):oMod (.int i) (.int j) M=.ok (.int<|i % j) M:=T1 h
def ew{j:Int}(h:0<=j)(a:j<1000000):j.natAbs<cw:=by unfold cw;omega
noncomputable def aT(M:Mem)(v:W)(a:List Int):Prop:=aR M v<|a.map .int
noncomputable def LL(M:Mem)(v:W)(a:List<|List Int):Prop:=∃b,aR M v b/\bI (λw c=>aT M w c) b a
def LL.mono(h:LL M v NU)(p:M<+:M'):LL M' v NU:=by obtain⟨a,c,b⟩:=h;exact⟨a,c.mono p,b.imp λ_ _ q=>aR.mono q p⟩
noncomputable def l7(s r:Nat):List Int:=(List.range s).map λ(c:Nat)=>(r)*s+(c)
noncomputable def l8(s c:Nat):List Int:=(List.range s).map λ(r:Nat)=>(r)*s+(c)
noncomputable def wq(h w b:Nat):List Int:=(List.range h).flatMap λr=>(List.range w).map λc=>((b / h*h+r:Nat):Int)*(h*w:Nat)+(b % h*w+c:Nat)
noncomputable def ar(h w:Nat):List (List Int):=(List.range<|h*w).map (l7<|h*w)++(List.range<|h*w).map (l8<|h*w)++(List.range<|h*w).map (wq h w)
def filter_tt(l:List α):l.filter (λ_=>af)=l:=by
 induction l with
 |nil=>rfl
 |cons a r b=>simp[b]
def qA(h:M[a]? =aa (.lst xs))(b:xs.length<16777216):dc (.ref a) [y] M=.ok .aw (M.set a<|.lst<|xs++[y]):=by unfold dc;rw[fT h];exact T1 b
def xn(n)(f:Nat->List α):(List.range<|n+1).flatMap f=(List.range n).flatMap f++f n:=by rw[W2,W3];simp
def Cj(n)(f:Nat->α):(List.range<|n+1).map f=(List.range n).map f++[f n]:=by rw[W2,Wb];rfl
def uK{elt:EM}{σ:St}{M:Mem}{s:Nat}(k:Nat)(f:Nat->List Int)(e:EM)(z:e σ M=.ok (.int s) M)(K:s<=9)(h:∀j,j<s->∀M',M<+:M'->∃v b,elt ((σ++[ae]).set k<|aa<|.int j) M'=.ok v b/\M'<+:b/\aT b v (f j)):
 ∃v M',bU 1 [] (cQ e) (ay k) dP elt σ M=.ok v M'/\M<+:M'/\LL M' v ((List.range s).map f):=by
 have n:(s:Int).natAbs<cw:=ew (by omega)<|by omega
 have E:cQ e σ M=.ok (cV 0 s,[]) M:=by unfold cQ;rw[z];simp only[R.bind];rw[T1 n,Uy]
 obtain⟨d,M',B,pre,l⟩:=uk (c:=[]) (i:=k) (t:=dP) (elt:=elt) (σ:=σ++[ae]) (λ_=>af) (λx y M=>∃j:Nat,x=.int j/\aT M y (f j)) (λx y M M' p ⟨j,e,q⟩=>⟨j,e,aR.mono q p⟩) (gC 0 s) M (σ++[ae]) [] (λ_=>rfl) (λ_ _=>rfl) (λx C M' p=>by
   obtain⟨j,o,rfl⟩:=Us.mp C;rw[UL] at o;refine⟨M',rfl,dJ _,λ_=>?_⟩;have u:(0:Int)+(j:Int)=(j:Int):=by omega
   obtain⟨v,b,I,J,h3⟩:=h j o M' p;rw[u];exact⟨v,b,I,J,j,rfl,h3⟩)
 have F:d.length=s:=by have:=l.len;rw[filter_tt] at this;simp[gC] at this;omega
 refine⟨.ref M'.length,M'++[.lst d],?_,pre.trans<|pre_app _ _,d,aR.new _ _,?_⟩
 ·unfold bU;rw[E];simp only[R.bind,R.cJ,eX,Wc,Vp,Vy,mI];rw[B];simp only[R.bind,UK];exact cm<|by omega
 ·rw[filter_tt] at l;have g:∀(m:List Nat) (d:List W) (N:Mem),M'<+:N->bI (λx y=>∃j:Nat,x=W.int j/\aT M' y (f j)) (m.map λ(j:Nat)=>W.int<|0+(j:Int)) d->bI (λw G=>aT N w G) d (m.map f):=by
   intro m;induction m with
   |nil=>intro d N p a;cases a;exact .nil
   |cons j r D=>
    intro d N p a;cases a with
    |cons h t=>
     obtain⟨A,e,q⟩:=h;have H:j=A:=by injection e with e;omega
     subst H;exact .cons (aR.mono q p)<|D _ N p t
  exact g _ _ _ (pre_app _ _) l
def Ai{M:Mem}{v u:W}{xs ys:List (List Int)}(j:LL M v xs)(g:LL M u ys)(k:xs.length+ys.length<=1000):∃w M',bz v u M=.ok w M'/\M<+:M'/\LL M' w (xs++ys):=by
 obtain⟨d,⟨a,rfl,h⟩,f⟩:=j;obtain⟨c,⟨b,rfl,i⟩,e⟩:=g;have l:=f.len;have m:=e.len;refine⟨.ref M.length,M++[.lst<|d++c],?_,pre_app _ _,d++c,aR.new _ _,?_⟩
 ·simp only[bz,fT h,fT i];exact cm (by rw[Ur];omega)
 ·exact bI.app (f.imp λ_ _ q=>aR.mono q<|pre_app _ _)<|e.imp λ_ _ q=>aR.mono q<|pre_app _ _
noncomputable def oq(f:CM):Prop:=∀(h w:Nat) (M),1<=h/\h<=3->1<=w/\w<=3->∃v a,f [.int h,.int w] M=.ok v a/\M<+:a/\LL a v (ar h w)
noncomputable def aB(fs:List Int)(i:Int):Int:=fs.getD i.toNat 0
def Aj{fs:List Int}(b:0<=i)(h:i<(fs.length:Int)):cH (fs.map W.int) i=aa (.int<|aB fs i):=by
 have a:i.toNat<fs.length:=by omega
 have e:ck (fs.map W.int).length i=aa i.toNat:=by unfold ck;rw[T1 b,Ub,T1 h]
 unfold cH;rw[e];show(fs.map W.int)[i.toNat]? =_;rw[UW,VW a];simp[aB,List.getD,a]
def iO(h:aT M v fs)(a:0<=i)(b:i<(fs.length:Int)):aA v (.int i) M=.ok (.int<|aB fs i) M:=by simp only[aA,aR.bD h,Aj a b]
def ji(h:aT M v fs):bP [v] M=.ok (.int fs.length) M:=by unfold bP;simp only[aR.bD h,Ub]
def ne_int:bE (.int i) (.int j) M=.ok (.bl<|!ai (i=j)) M:=by unfold bE dU;simp[VM.dQ]
def eq_int:oEq (.int i) (.int j) M=.ok (.bl<|ai<|i=j) M:=by unfold oEq dU;simp[VM.dQ]
def lt_int:oLt (.int i) (.int j) M=.ok (.bl<|ai<|i<j) M:=rfl
def gt_int:eL (.int i) (.int j) M=.ok (.bl<|ai<|j<i) M:=rfl
def ge_int:ml (.int i) (.int j) M=.ok (.bl<|ai<|j<=i) M:=rfl
def le_int:oLe (.int i) (.int j) M=.ok (.bl<|ai<|i<=j) M:=rfl
structure aY(s:Nat)(ns:List Int):Prop where
 len:ns.length=s*s
 lo:∀x∈ns,0<=x
 hi:∀x∈ns,x<=(s:Int)
def gS{a:List Int}{j:Nat}(h:(a.map W.int)[j]? =aa x):∃n∈a,x=.int n/\a[j]? =aa n:=by
 rw[UW] at h;cases e:a[j]? with
 |none=>rw[e] at h;cases h
 |some n=>rw[e] at h;exact⟨n,Vn e,(Ua h).symm,rfl⟩
def oE(x y)(M):(Src.pair x y).get M=.ok (.ref M.length) (M++[.tup [x,y]]):=by exact jc (by show 2<=16777216;decide)
def xA(ns):intsOf (ns.map .int)=aa ns:=by
 induction ns with
 |nil=>rfl
 |cons n r a=>simp only[Uo,intsOf,a];rfl
def zu{σ:St}{M:Mem}{l f:W}{g fs:List Int}(e:EM)(h:EM)(k:Nat)(r:e σ M=.ok l M)(q:aT M l g)(s:aT M f fs)(b:∀i∈g,0<=i/\i<(fs.length:Int))(u:g.length<=1000)(d:∀x,h ((σ++[ae]).set k<|aa x) M=.ok f M)(n:∀x,aj k ((σ++[ae]).set k<|aa x) M=.ok x M):
 bU 1 [] (b0 e) (ay k) dP (aq aA h<|aj k) σ M=.ok (.ref M.length) (M++[.lst<|(g.map<|aB fs).map .int]):=by
 obtain⟨a,rfl,j⟩:=q;unfold bU;have t:b0 e σ M=.ok ((g.map W.int).map .val,[(a,.lst<|g.map .int)]) M:=by unfold b0;rw[r];simp only[R.bind,j]
 rw[t];simp only[R.bind,R.cJ,eX,Wc,Vp,Vy];rw[jS (σ:=σ++[ae]) (λ_=>af) (λx=>match x with|.int i=>.int (aB fs i)|_=>.aw) _ _ _ (λ_=>rfl) (by simp[bJ.ok,j]) ?_]
 ·simp only[filter_tt,UK,Wd];exact cm (by simp;omega)
 ·intro x p;obtain⟨i,c,rfl⟩:=Us.mp p;obtain⟨m,o⟩:=b i c;refine⟨rfl,λ_=>?_⟩;simp only[aq,d,n,R.bind];exact iO s m o
def qB(ns:List Int):(ns.map W.int).all flat=af:=by
 induction ns with
 |nil=>rfl
 |cons n r a=>simp only[Uo,Vf,a,We];rfl
def Fm(x)(a:List Int):kO (.int x) (a.map .int)=a.any (·==x):=by unfold kO;rw[W4];rfl
def vM(x)(h:aT M u fs):ik (.int x) u M=.ok (.bl (fs.any (·==x))) M:=by unfold ik;rw[aR.bD h];simp only[flat,qB,We,Ul,Fm]
def h3(a:1<=h/\h<=3):h=1\/h=2\/h=3:=by omega
noncomputable def Ma(h w:Nat):Bool:=(ar h w).all λg=>ai (g.length<=9)&&g.all λi=>ai (0<=i)&&ai (i<((h*w*(h*w):Nat):Int))
def gx(e:1<=h/\h<=3)(d:1<=w/\w<=3):∀g∈ar h w,g.length<=9/\∀i∈g,0<=i/\i<((h*w*(h*w):Nat):Int):=by
 have a:Ma h w=af:=by rcases h3 e with rfl|rfl|rfl<;>rcases h3 d with rfl|rfl|rfl<;>decide+kernel
 intro g f;have c:=UO.mp a g f;rw[T_] at c;refine⟨UD c.1,λi j=>?_⟩;have b:=UO.mp c.2 i j;rw[T_] at b;exact⟨UD b.1,UD b.2⟩
noncomputable def cnt(k:Int)(l:List Int):Nat:=l.countP (·==k)
def Fn(k)(h:aT M v l):jg v [.int k] M=.ok (.int<|cnt k l) M:=by
 obtain⟨a,rfl,b⟩:=h;unfold jg;rw[fT b];simp only[flat,qB,We,Ul];have e:(l.map W.int).countP (λz=>fA z<|.int k)=cnt k l:=by rw[List.countP_map];rfl
 rw[e]
noncomputable def sd(g fs:List Int)(s:Nat):Bool:=(List.range s).all λk=>ai<|cnt ((k)+1) (g.map<|aB fs)<=1
noncomputable def cO(G:List<|List Int)(fs:List Int)(s:Nat):Bool:=G.all λg=>sd g fs s
def any_eq(l:List Int)(n):l.any (·==n)=af↔n∈l:=by
 rw[Uc];constructor
 ·rintro⟨x,h,e⟩;rw[US] at e;subst e;exact h
 ·intro h;exact⟨n,h,by simp⟩
def cnt_cons(k x)(l):cnt k (x::l)=(if x=k then 1 else 0)+cnt k l:=by
 unfold cnt;rw[Vq];by_cases h:x=k
 ·simp[h];omega
 ·simp[h]
def m6(k)(l):0<cnt k l↔k∈l:=by
 unfold cnt;rw[List.countP_pos_iff];constructor
 ·rintro⟨x,h,e⟩;rw[US] at e;subst e;exact h
 ·intro h;exact⟨k,h,by simp⟩
def DZ(l):l.Nodup↔∀k,cnt k l<=1:=by
 induction l with
 |nil=>simp[cnt]
 |cons x r c=>
  rw[U9,c];constructor
  ·rintro⟨a,b⟩ k;rw[cnt_cons];by_cases h:x=k
   ·subst h;have:¬0<cnt x r:=λq=>a<|(m6 x r).mp q
    simp;omega
   ·have:=b k;simp[h];exact this
  ·intro h;refine⟨λq=>?_,λk=>?_⟩
   ·have:=h x;rw[cnt_cons] at this;have:=(m6 x r).mpr q;simp at*;omega
   ·have:=h k;rw[cnt_cons] at this;omega
def u9(h0:0<=i)(h:i<(fs.length:Int)):aB fs i∈fs:=by
 have a:i.toNat<fs.length:=by omega
 have:aB fs i=fs[i.toNat]:=by simp[aB,List.getD,a]
 rw[this];exact VG a
def lH{j:Nat}(h):aB fs (j)=fs[j]:=by simp[aB,List.getD,h]
noncomputable def dZ(M:Mem)(a:List Int):Prop:=M[0]? =aa (.aU<|a.map .int)
def dZ.mono(h:dZ M ns)(p:M<+:M'):dZ M' ns:=az p h
def dZ.a9(h:dZ M ns):a9 M (.ref 0)=aa (ns.map .int):=by unfold dZ at h;simp only[VM.a9,h]
def dZ.bD(h:dZ M ns):bD M (.ref 0)=aa (ns.map .int):=by simp only[VM.bD,h.a9]
def dZ.len(h:dZ M ns):bP [.ref 0] M=.ok (.int ns.length) M:=by unfold bP;simp only[h.bD,Ub]
def lT(ns:List Int)(M:Mem)(k:Int)(x:dZ M ns)(y:ns.length<=63):
 ∃v M',fj [.ref 0,.int k] M=.ok (.int v) M'/\M<+:M':=by
 have a:∃r M',fj [.ref 0,.int k] M=.ok r M'/\((∃v:Int,r=.int v)/\M<+:M'):=by
  refine bT rfl ?_;show(av _ _ [aa<|.ref 0,aa<|.int k] M).Sat _;have w:bu [] M=.ok (.ref M.length) (M++[.lst []]):=rfl;have d:=x.mono<|pre_app M [.lst []];have L:=aR.new M [];have o:VM.dQ (.ref 0) (.ref M.length)=ag:=rfl;refine aI<|bp (c:=ai<|ns=[]) (M1:=M++[.lst []]) ?_ (λg=>?_) λg=>?_
  ·walk_at "ev"
   simp only[w,oEq,dU,o,d.a9,L.a9,UM,UG];cases ns with
   |nil=>rfl
   |cons n r=>
    have:ku ((n::r).map W.int) []=aa ag:=by unfold ku;rw[T1<|by simp]
    rw[this];simp
  ·exact bt rfl ⟨⟨_,rfl⟩,pre_app _ _⟩
  ·refine du ?_;dsimp only;have f:ns≠[]:=Vi g;have h:0<ns.length:=List.length_pos_iff.mpr f;have b:(0:Int)<(ns.length:Int):=by omega
   have q:=dk (M:=M++[.lst []]) (i:=k) b;have m:=eQ (M:=M++[.lst []]) (i:=k) b<|by omega
   have u:=Vr k<|show(ns.length:Int)≠0 by omega
   have t:=Vz k b;have l:aA (.ref 0) (.int<|k % (ns.length:Int)) (M++[.lst []])=.ok (.int<|aB ns<|k % (ns.length:Int)) (M++[.lst []]):=by simp only[aA,d.bD,Aj u t]
   have s:=cU (M:=M++[.lst []]) (i:=3) (j:=k / (ns.length:Int))<|by decide
   refine bt (v:=.int<|aB ns (k % (ns.length:Int))+3*(k / (ns.length:Int))) (M1:=M++[.lst []]) ?_ ⟨⟨_,rfl⟩,pre_app _ _⟩
   walk_at "ev"
   simp only[d.len,q,m,l,s]
 obtain⟨r,M',e,⟨v,rfl⟩,p⟩:=a;exact⟨v,M',e,p⟩
noncomputable def p_:List (Int×Int)->AM
 |[]=>ao
 |p::r=>ak (ba<|ak (eC<|.int p.1)<|ak (eC<|.int p.2) ao)<|p_ r
theorem vu(σ):∀(b) (M),∃vs M',p_ b σ M=.ok vs M'/\M<+:M'/\bI (λv p=>aH M' v [.int p.1,.int p.2]) vs b
 |[],M=>⟨[],M,rfl,dJ _,.nil⟩
 |p::r,M=>by
  have c:ic [.int p.1,.int p.2] M=.ok (.ref M.length) (M++[.tup [.int p.1,.int p.2]]):=jc (by show 2<=16777216;decide);obtain⟨vs,M',e,q,a⟩:=vu σ r<|M++[.tup [.int p.1,.int p.2]];refine⟨.ref M.length::vs,M',?_,(pre_app _ _).trans q,.cons ((aH.new M _).mono q) a⟩;unfold p_
  walk_at "ev"
  simp only[c,e]
def C6(σ)(M:Mem)(c:List<|Int×Int)(u:c.length<=100)(l:∀p∈c,∃h w:Nat,p.1=h/\p.2=w/\(1<=h/\h<=3)/\(1<=w/\w<=3)/\h*w<=b)(ei)(i:Int)(t:0<=i)(z:i<c.length)(o:∀M',M<+:M'->ei σ M'=.ok (.int i) M'):
 ∃v M',aq aA (aP<|p_ c) ei σ M=.ok v M'/\M<+:M'/\∃h w:Nat,aH M' v [.int h,.int w]/\(1<=h/\h<=3)/\(1<=w/\w<=3)/\h*w<=b:=by
 obtain⟨d,M1,q,j,a⟩:=vu σ c M;have y:=a.len;have n:bu d M1=.ok (.ref M1.length) (M1++[.lst d]):=cm<|by omega
 have L:=aR.new M1 d;have g:i.toNat<c.length:=by omega
 have f:=VW g;obtain⟨v,r,m⟩:=a.at' f;obtain⟨h,w,k,x,s⟩:=l _<|VG g;refine⟨v,M1++[.lst d],?_,j.trans<|pre_app _ _,h,w,?_,s⟩
 ·have e:cH d i=aa v:=by unfold cH ck;rw[T1 t,T1<|by omega];exact r
  unfold aq aP;simp only[q,R.bind,n,o _<|j.trans<|pre_app _ _,aA,L.bD,e]
 ·rw[<-k,<-x];exact m.mono<|pre_app _ _
noncomputable def um(b:Nat)(f:CM):Prop:=∀(M) (c),dZ M c->c.length<=63->∃v a,f [.ref 0] M=.ok v a/\M<+:a/\∃h w:Nat,aH a v [.int h,.int w]/\(1<=h/\h<=3)/\(1<=w/\w<=3)/\h*w<=b
def CD(c)(M):∃v M',gN [.int c] M=.ok v M'/\M<+:M'/\∃h w:Nat,aH M' v [.int h,.int w]/\(1<=h/\h<=3)/\(1<=w/\w<=3)/\h*w<=6:=by
 refine bT rfl ?_;obtain⟨v,M',e,r⟩:=C6 (b:=6) [aa<|.int c] M [(2,2),(2,2),(1,3),(3,1),(2,1),(1,2),(2,2),(1,1)] (by decide) (by
  intro p a;simp only[T4,Ud,Ue] at a;rcases a with rfl|rfl|rfl|rfl|rfl|rfl|rfl|rfl<;>exact⟨_,_,rfl,rfl,by decide,by decide,by decide⟩)
  (aq oMod (aj 0)<|eC<|.int 8) (c % 8) (by omega) (by show c % 8<((8):Int);omega) (λM' _=>by
   have:=dk (M:=M') (i:=c) (j:=8)<|by decide
   walk_at "ev";exact this)
 exact bt e r
def Hs(ns)(lo hi):cut (ns.map W.int) lo hi=(cut ns lo hi).map W.int:=by unfold cut;simp[List.map_drop,List.map_take]
def Ht(ns:List Int)(lo hi):(cut ns lo hi).length<=ns.length:=by unfold cut;rw[Vm,V8];omega
def dZ.cut(h:dZ M ns)(a:ns.length<=63)(lo hi):wm (.ref 0) lo hi M=.ok (.ref M.length) (M++[.lst<|(VM.cut ns lo hi).map .int]):=by unfold wm;rw[h.a9];simp only[Hs];exact cm (by have:=Ht ns lo hi;simp;omega)
def d8(M J:Mem)(o):(M++o::J)[M.length]? =aa o:=by simp
def j4(M J:Mem)(o o'):(M++o::J).set M.length o'=M++o'::J:=by simp
def m7(M J a:Mem)(o):(M++o::J)++a=M++o::(J++a):=by simp
def j5(M J:Mem)(o):M<+:M++o::J:=⟨o::J,rfl⟩
def lO(e:o σ M=.ok (.ref a) M)(h:M[a]? =aa (.lst xs))(b:arg σ M=.ok y M1)(c:M1[a]? =aa (.lst xs))(d:xs.length<16777216):
 bo dc o (ak arg ao) σ M=.ok .aw (M1.set a<|.lst<|xs++[y]):=by
 unfold bo;rw[e];simp only[R.bind,dj h,ak,b,ao,qA c d]
noncomputable def Bh:EM:=aq oMod (aq bz (aq bz (aq bB (aj 1)<|aq oMod (aj 6)<|aj 0)<|aq oDiv (aj 6)<|aj 0)<|aj 7)<|aj 3
noncomputable def Bi:EM:=aq bz (aq oMod (aq bz (aq bB (aj 8)<|aq aA (aP<|ak (eC<|.int 1)<|ak (aq nG (aj 3)<|eC<|.int 1) ao)<|aq oMod (aq oDiv (aj 2)<|eC<|.int 5)<|eC<|.int 2)<|aj 4)<|aj 3)<|eC<|.int 1
noncomputable def Good(s:Nat)(l:List Int):Prop:=∀x∈l,1<=x/\x<=(s)
def Good.app(h:Good s l){z:Int}(c:1<=z)(a:z<=s):Good s (l++[z]):=λx b=>by
 rcases Vb.mp b with q|q
 ·exact h x q
 ·rw[VH] at q;subst q;exact⟨c,a⟩
def JY(h w s:Nat)(c t r k)(f a b d)(n:1<=h/\h<=3)(m:1<=w/\w<=3)(o:1<=s/\s<=9)(M):
 ∃z:Int,Bh [aa<|.int h,aa<|.int w,aa<|.int c,aa<|.int s,aa<|.int t,f,aa<|.int r,aa<|.int k,a,b,d] M=.ok (.int z) M/\0<=z/\z<s:=by
 have l:=dk (M:=M) (i:=r) (j:=h)<|by omega
 have g:=cU (M:=M) (i:=(w)) (j:=r % h)<|by omega
 have h3:=eQ (M:=M) (i:=r) (j:=h) (by omega)<|by omega
 have e:=dk (M:=M) (i:=(w)*(r % h)+r / h+k) (j:=s)<|by omega
 refine⟨((w)*(r % h)+r / h+k) % s,?_,Vr _<|by omega,Vz _<|by omega⟩;unfold Bh
 walk_at "ev"
 simp only[l,g,h3,e]
def JZ(h w s:Nat)(c t r k z:Int)(f b d:Option W)(n:1<=s/\s<=9)(hz:0<=z/\z<s)(M:Mem):
 ∃y:Int,Bi [aa<|.int h,aa<|.int w,aa<|.int c,aa<|.int s,aa<|.int t,f,aa<|.int r,aa<|.int k,aa<|.int z,b,d] M=.ok (.int y) (M++[.lst [.int 1,.int<|(s:Int)-1]])/\1<=y/\y<=s:=by
 have l:bu [.int 1,.int<|(s:Int)-1] M=.ok (.ref M.length) (M++[.lst [.int 1,.int<|(s:Int)-1]]):=cm (by show 2<=16777216;decide);have L:aT (M++[.lst [.int 1,.int<|(s:Int)-1]]) (.ref M.length) [1,(s:Int)-1]:=aR.new M _;have m:=eQ (M:=M++[.lst [.int 1,.int<|(s:Int)-1]]) (i:=c) (j:=5) (by decide)<|by decide
 have g:=dk (M:=M++[.lst [.int 1,.int<|(s:Int)-1]]) (i:=c / 5) (j:=2)<|by decide
 have e:=iO L (i:=c / 5 % 2) (by omega) (by show c / 5 % 2<((2:Nat):Int);omega);have h3:=cU (M:=M++[.lst [.int 1,.int<|(s:Int)-1]]) (i:=z) (j:=aB [1,(s:Int)-1]<|c / 5 % 2)<|by omega
 have a:=dk (M:=M++[.lst [.int 1,.int<|(s)-1]]) (i:=z*aB [1,(s)-1] (c / 5 % 2)+t) (j:=s)<|by omega
 refine⟨(z*aB [1,(s)-1] (c / 5 % 2)+t) % s+1,?_,?_,?_⟩
 ·unfold Bi
  walk_at "ev"
  simp only[l,m,g,e,h3,a]
 ·have:=Vr (z*aB [1,(s)-1] (c / 5 % 2)+t) (show(s:Int)≠0 by omega);omega
 ·have:=Vz (z*aB [1,(s)-1] (c / 5 % 2)+t) (show(0:Int)<s by omega);omega
noncomputable def Fo(f:CM):Prop:=∀(h w:Nat) (c) (M),1<=h/\h<=3->1<=w/\w<=3->∃v b,f [.int h,.int w,.int c] M=.ok v b/\M<+:b/\∃a,aT b v a/\a.length=h*w*(h*w)/\Good (h*w) a
def Hu:Fo iB:=by
 intro h w c M C B;refine bT rfl ?_;have e:h*w<=9:=Ug (UJ C.2 B.2)<|by decide
 have m:1<=h*w:=VX C.1 B.1;have N:=cU (M:=M) (i:=(h:Int)) (j:=(w:Int))<|by omega
 have Z:(h:Int)*(w:Int)=((h*w:Nat):Int):=by simp
 show(av _ _ [aa<|.int h,aa<|.int w,aa<|.int c,ae,ae,ae,ae,ae,ae,ae,ae] M).Sat _;refine aI (bC (v:=.int ((h:Int)*w)) (M1:=M) (by walk_at "ev";simp only[N]) ?_);simp only[T9,T7,Z];generalize hsz:h*w=s at e m;have m2:=dk (M:=M) (i:=c) (j:=s)<|by omega
 refine aI (bC (v:=.int (c % s)) (M1:=M) (by walk_at "ev";simp only[m2]) ?_);simp only[T9,T7];refine aI<|bC (v:=.ref M.length) (M1:=M++[.lst []]) rfl ?_;simp only[T9,T7];refine aI ?_;have F:(s:Int).natAbs<cw:=ew (by omega)<|by omega
 refine iH (lo:=0) (n:=s) (M1:=M++[.lst []]) (by walk_at "ev";rw[T1 F,Uy]) (λj f g=>(∃x y z,f=[aa<|.int h,aa<|.int w,aa<|.int c,aa<|.int s,aa<|.int<|c % s,aa<|.ref M.length,x,y,z,ae,ae])/\∃l J,g=M++.lst (l.map .int)::J/\l.length=j*s/\Good s l) ⟨⟨_,_,_,rfl⟩,[],[],rfl,by simp,λx A=>by simp at A⟩ ?_ ?_
 ·rintro j f g G ⟨⟨x,y,z,rfl⟩,l,J,rfl,ll,lg⟩;simp only[T9,T7];refine iH (lo:=0) (n:=s) (M1:=M++.lst (l.map .int)::J) (by walk_at "ev";rw[T1 F,Uy]) (λk f g=>(∃y z,f=[aa<|.int h,aa<|.int w,aa<|.int c,aa<|.int s,aa<|.int<|c % s,aa<|.ref M.length,aa<|.int<|0+(j:Int),y,z,ae,ae])/\∃l J,g=M++.lst (l.map .int)::J/\l.length=j*s+k/\Good s l) ⟨⟨_,_,rfl⟩,l,J,rfl,by simpa using ll,lg⟩ ?_ ?_
  ·rintro k f g hk ⟨⟨y,z,rfl⟩,l,J,rfl,ll,lg⟩;simp only[T9,T7];obtain⟨t,e1,z0,z1⟩:=JY h w s c (c % s) (0+(j:Int)) (0+(k:Int)) (aa<|.ref M.length) z ae ae C B ⟨m,e⟩<|M++.lst (l.map .int)::J;refine aI<|bC (v:=.int t) (M1:=M++.lst (l.map .int)::J) e1 ?_;simp only[T9,T7];obtain⟨U,V,Q,y1⟩:=JZ h w s c (c % s) (0+(j:Int)) (0+(k:Int)) t (aa<|.ref M.length) ae ae ⟨m,e⟩ ⟨z0,z1⟩<|M++.lst (l.map .int)::J;have r:(l.map W.int).length<16777216:=by have:j*s<=9*9:=UJ (by omega) e;rw[Ub];omega
   have q:=lO (σ:=[aa<|.int h,aa<|.int w,aa<|.int c,aa<|.int s,aa<|.int<|c % s,aa<|.ref M.length,aa<|.int<|0+(j:Int),aa<|.int<|0+(k:Int),aa<|.int t,ae,ae]) (o:=aj 5) rfl (d8 M J _) V (by rw[m7];exact d8 M _ _) r;rw[m7,j4] at q;refine dt q ?_;refine⟨⟨_,_,rfl⟩,l++[U],J++[.lst [.int 1,.int<|(s:Int)-1]],by simp,?_,lg.app Q y1⟩;rw[Ur,ll];simp only[UE,U_];omega
  ·rintro f g ⟨⟨y,z,rfl⟩,l,J,rfl,ll,lg⟩;exact⟨⟨_,_,_,rfl⟩,l,J,rfl,by rw[ll,W5],lg⟩
 ·rintro f g ⟨⟨x,y,z,rfl⟩,l,J,rfl,ll,lg⟩;dsimp only;generalize p:M++O.lst (l.map .int)::J=M2;have H:M<+:M2:=by rw[<-p];exact j5 _ _ _
  have I:aT M2 (.ref M.length) l:=⟨_,rfl,by rw[<-p];exact d8 M J _⟩;refine aI ?_;have d7:=eQ (M:=M2) (i:=c) (j:=7) (by decide)<|by decide
  have q7:=dk (M:=M2) (i:=c / 7) (j:=2)<|by decide
  refine bp (c:=ai (c / 7 % 2=1)&&ai (h=w)) (M1:=M2) ?_ (λ_=>?_) λ_=>?_
  ·walk_at "ev"
   simp only[d7,q7,eq_int];have:ai ((h:Int)=w)=ai (h=w):=by rw[U3,U7,U7];omega
   rw[this];cases ai (c / 7 % 2=1)<;>rfl
  ·refine aI (bC (v:=.ref M2.length) (M1:=M2++[.lst []]) rfl ?_);simp only[T9,T7];refine aI ?_;have R:=cU (M:=M2++[.lst []]) (i:=(s:Int)) (j:=(s:Int))<|by omega
   have D:(s:Int)*(s:Int)=((s*s:Nat):Int):=by simp
   have P:s*s<=9*9:=UJ e e;have r2:((s*s:Nat):Int).natAbs<cw:=ew (by omega)<|by omega
   refine iH (lo:=0) (n:=s*s) (M1:=M2++[.lst []]) (by walk_at "ev";simp only[R];rw[D,T1 r2,Uy]) (λj f g=>(∃u,f=[aa<|.int h,aa<|.int w,aa<|.int c,aa<|.int s,aa<|.int<|c % s,aa<|.ref M.length,x,y,z,aa<|.ref M2.length,u])/\∃l,g=M2++[.lst<|l.map .int]/\l.length=j/\Good s l) ⟨⟨_,rfl⟩,[],rfl,rfl,λx A=>by simp at A⟩ ?_ ?_
   ·rintro j f g G ⟨⟨u,rfl⟩,l2,rfl,wJ,wK⟩;simp only[T9,T7];have L:(0:Int)+(j:Int)=(j:Int):=by omega
    have n1:=dk (M:=M2++[.lst<|l2.map .int]) (i:=(j:Int)) (j:=(s:Int))<|by omega
    have n2:=cU (M:=M2++[.lst<|l2.map .int]) (i:=(j:Int) % (s:Int)) (j:=(s:Int)) (by
     have a:=Vr (j:Int)<|show(s:Int)≠0 by omega
     have b:=Vz (j:Int)<|show(0:Int)<s by omega
     omega)
    have T:=eQ (M:=M2++[.lst<|l2.map .int]) (i:=(j:Int)) (j:=(s:Int)) (by omega)<|by omega
    have S:(j:Int) % (s:Int)*(s:Int)+(j:Int) / (s:Int)=((j % s*s+j / s:Nat):Int):=by simp
    have E:j % s*s+j / s<s*s:=by have a:=VY j m;have b:j / s<s:=W6 G;have d:(j % s+1)*s<=s*s:=Nat.mul_le_mul_right s a;rw[W5] at d;omega
    have X:=iO (I.mono<|pre_app M2 [.lst<|l2.map .int]) (i:=((j % s*s+j / s:Nat):Int)) (Wf _) (by rw[ll];exact Int.ofNat_lt.mpr E);have Y:aq aA (aj 5) (aq bz (aq bB (aq oMod (aj 10)<|aj 3)<|aj 3)<|aq oDiv (aj 10)<|aj 3) [aa<|.int h,aa<|.int w,aa<|.int c,aa<|.int s,aa<|.int<|c % s,aa<|.ref M.length,x,y,z,aa<|.ref M2.length,aa<|.int<|0+(j:Int)] (M2++[.lst<|l2.map .int])=.ok (.int<|aB l ((j % s*s+j / s:Nat):Int)) (M2++[.lst<|l2.map .int]):=by
     walk_at "ev"
     simp only[L,n1,n2,T,S,X]
    have q:=lO (o:=aj 9) rfl (bV M2 _) Y (bV M2 _) (by rw[Ub];omega);rw[oD] at q;refine dt q ?_;have K:=u9 (fs:=l) (i:=((j % s*s+j / s:Nat):Int)) (Wf _) (by rw[ll];exact Int.ofNat_lt.mpr E);exact⟨⟨_,rfl⟩,l2++[aB l ((j % s*s+j / s:Nat):Int)],by simp,by rw[Ur,wJ];rfl,wK.app (lg _ K).1 (lg _ K).2⟩
   ·rintro f g ⟨⟨u,rfl⟩,l2,rfl,wJ,wK⟩;dsimp only;refine bC (v:=.ref M2.length) (M1:=M2++[.lst<|l2.map .int]) rfl ?_;simp only[T9,T7];refine bt (v:=.ref M2.length) (M1:=M2++[.lst<|l2.map .int]) rfl ?_;exact⟨H.trans<|pre_app _ _,l2,aR.new _ _,wJ,wK⟩
  ·refine du ?_;dsimp only;exact bt rfl ⟨H,l,I,ll,lg⟩
def Mb(M:Mem)(p r:W)(fs k:List Int)(d:Int)(A:aT M p fs)(I:aT M r k)(S:fs.length<=81):∃ss:List Int,gO [p,r,.int d] M=.ok (.ref M.length) (M++[.lst<|ss.map .int])/\ss.length=fs.length/\∀j:Nat,j<fs.length->((aB ss j=0/\(j<k.length\/(j:Int) % 7<d))\/aB ss j=aB fs j):=by
 suffices key:∃v g,gO [p,r,.int d] M=.ok v g/\∃ss:List Int,v=.ref M.length/\g=M++[.lst<|ss.map .int]/\ss.length=fs.length/\∀j:Nat,j<fs.length->((aB ss j=0/\(j<k.length\/(j:Int) % 7<d))\/aB ss j=aB fs j) by obtain⟨v,g,e,ss,rfl,rfl,h⟩:=key;exact⟨ss,e,h⟩
 refine bT rfl ?_;show(av _ _ [aa p,aa r,aa<|.int d,ae,ae,ae] M).Sat _;refine aI<|bC (v:=.ref M.length) (M1:=M++[.lst []]) rfl ?_;simp only[T9,T7];refine aI ?_;have L:(fs.length:Int).natAbs<cw:=ew (by omega)<|by omega
 refine iH (lo:=0) (n:=fs.length) (M1:=M++[.lst []]) (by walk_at "ev";simp only[ji (aR.mono A (pre_app M _))];rw[T1 L,Uy]) (λj t g=>(∃x y,t=[aa p,aa r,aa<|.int d,aa<|.ref M.length,x,y])/\∃l,g=M++[.lst<|l.map .int]/\l.length=j/\∀i:Nat,i<j->((aB l i=0/\(i<k.length\/(i:Int) % 7<d))\/aB l i=aB fs i)) ⟨⟨_,_,rfl⟩,[],rfl,rfl,λi P=>by omega⟩ ?_ ?_
 ·rintro j t g R ⟨⟨x,y,rfl⟩,l,rfl,ll,lg⟩;simp only[T9,T7];have u:(0:Int)+(j:Int)=(j:Int):=by omega
  have F:=aR.mono A<|pre_app M [.lst<|l.map .int];have C:=aR.mono I<|pre_app M [.lst<|l.map .int];refine aI<|bC (v:=.int 0) (M1:=M++[.lst<|l.map .int]) rfl ?_;simp only[T9,T7];have m:∀a:Int,(j<k.length\/a=0)->(aZ (bo dc (aj 3)<|ak (aq bB (aq aA (aj 0)<|aj 4)<|ax gF<|ak (aq ml (aq oMod (aq bz (aj 5)<|aj 4)<|eC<|.int 7)<|aj 2) ao) ao) [aa p,aa r,aa<|.int d,aa<|.ref M.length,aa<|.int<|0+(j:Int),aa<|.int a]<|M++[.lst<|l.map .int]).Sat {nx:=λt g=>(∃x y,t=[aa p,aa r,aa<|.int d,aa<|.ref M.length,x,y])/\∃l,g=M++[.lst<|l.map .int]/\l.length=j+1/\∀i:Nat,i<j+1->((aB l i=0/\(i<k.length\/(i:Int) % 7<d))\/aB l i=aB fs i),rt:=λ_ _=>False}:=by
   intro a f;have E:=iO F (i:=(j:Int)) (by omega)<|by omega
   have G:=dk (M:=M++[.lst<|l.map .int]) (i:=a+(j:Int)) (j:=7)<|by decide
   have s:∀b:Bool,(if b then(1:Int) else 0).natAbs<=1000000:=λb=>by cases b<;>decide
   have Q:∀b:Bool,bB (.int<|aB fs j) (.int<|if b then 1 else 0) (M++[.lst<|l.map .int])=.ok (.int<|aB fs j*(if b then 1 else 0)) (M++[.lst<|l.map .int]):=λb=>T1<|.inr (by have:=s b;unfold hY;omega)
   have J:aq bB (aq aA (aj 0)<|aj 4) (ax gF<|ak (aq ml (aq oMod (aq bz (aj 5)<|aj 4)<|eC<|.int 7)<|aj 2) ao) [aa p,aa r,aa<|.int d,aa<|.ref M.length,aa<|.int<|0+(j:Int),aa<|.int a] (M++[.lst<|l.map .int])=.ok (.int<|aB fs j*(if ai (d<=(a+(j:Int)) % 7) then 1 else 0)) (M++[.lst<|l.map .int]):=by
    walk_at "ev"
    simp only[u,E,G,ge_int,gF,Q]
   have B:=lO (o:=aj 3) rfl (bV M _) J (bV M _) (by rw[Ub];omega);rw[oD] at B;refine dt B ⟨⟨_,_,rfl⟩,l++[aB fs j*(if ai (d<=(a+(j:Int)) % 7) then 1 else 0)],by simp,by rw[Ur,ll];rfl,λi P=>?_⟩;by_cases q:i<j
   ·have:=lg i q;have e:aB (l++[aB fs j*(if ai (d<=(a+(j:Int)) % 7) then 1 else 0)]) i=aB l i:=by
     have D:i<l.length:=by omega
     rw[lH D,lH (by rw[Ur];omega),List.getElem_append_left D]
    rw[e];exact this
   ·have N:i=l.length:=by omega
    subst N;rw[lH (j:=l.length)<|by simp];simp only[List.getElem_concat_length];rw[<-ll];rw[<-ll] at f;split
    ·right;omega
    ·rename_i H
     have O:=Vi<|Bool.not_eq_true _▸H;refine .inl ⟨by omega,?_⟩;rcases f with z|z
     ·exact .inl z
     ·subst z;right;omega
  refine aI<|bp (c:=ai<|(j:Int)<(k.length:Int)) (M1:=M++[.lst<|l.map .int]) ?_ (λw=>?_) λ_=>?_
  ·walk_at "ev"
   simp only[u,ji C,lt_int]
  ·have K:(j:Int)<(k.length:Int):=UD w;refine bC (v:=.int (aB k j)) (M1:=M++[.lst (l.map .int)]) (by walk_at "ev";simp only[u];exact iO C (by omega) K) ?_;simp only[T9,T7];exact RS.Sat.mono (m _<|.inl<|by omega) (λ_ _ q=>q) (λ_ _ q=>q.elim) (λ_ _ q=>q.elim)<|λ_ _ q=>q.elim
  ·refine du ?_;dsimp only;exact RS.Sat.mono (m _<|.inr rfl) (λ_ _ q=>q) (λ_ _ q=>q.elim) (λ_ _ q=>q.elim)<|λ_ _ q=>q.elim
 ·rintro t g ⟨⟨x,y,rfl⟩,l,rfl,ll,lg⟩;dsimp only;refine bt rfl ?_;exact⟨l,rfl,rfl,ll,lg⟩
theorem xW:∀(xs:List W) (σ) (M) (acc),comp [] (ay i) dP (aP ao) (xs.map .val) σ M acc=.ok (acc++(List.range' M.length xs.length).map .ref) (M++List.replicate xs.length (.lst []))
 |[],σ,M,acc=>by rw[U0,comp,T1<|show bJ.ok [] M=af from rfl];simp
 |x::r,σ,M,acc=>by rw[Uo,comp,T1<|show bJ.ok [] M=af from rfl];have a:bu [] M=.ok (.ref M.length) (M++[.lst []]):=rfl;simp only[Src.get,R.bind,ay,dP,Ul,aP,ao,a];have:=xW (i:=i) r (σ.set i<|aa x) (M++[.lst []])<|acc++[.ref M.length];unfold aP ao at this;simp only[R.bind] at this;refine this.trans ?_;simp[List.range'_succ,Vp]
noncomputable def enc(A:List<|List Int):Mem:=A.map λl=>O.lst<|l.map .int
def u_(M K)(A)(g)(hg):(M++(enc A++K))[M.length+g]? =aa (.lst<|(A[g]).map .int):=by rw[Ve<|by omega,W7,UU<|by simpa[enc] using hg];simp[enc,hg]
def Hv(M K)(A)(g)(l)(a:g<A.length):(M++(enc A++K)).set (M.length+g) (.lst<|l.map .int)=M++(enc (A.set g l)++K):=by rw[W8 _ _<|by omega,W7,W9 _ _<|by simpa[enc] using a];simp[enc,W_]
noncomputable def fF(p:Int)(A:List<|List Int)(g:Nat):List (List Int):=A.set g<|A.getD g []++[p]
def D0(p)(A)(g):(fF p A g).length=A.length:=by simp[fF]
noncomputable def b7(h w p:Nat):List Nat:=[p / (h*w),h*w+p % (h*w),2*(h*w)+(p / (h*w) / h*h+p % (h*w) / w)]
noncomputable def AG(h w n:Nat):List (List Int):=(List.range n).foldl (λA (p)=>(b7 h w p).foldl (fF<|p) A)<|List.replicate (3*(h*w)) []
def zw(h w n):AG h w (n+1)=(b7 h w n).foldl (fF<|n) (AG h w n):=by unfold AG;rw[W2,List.foldl_append];rfl
theorem ot(p):∀(a:List Nat) (A),(a.foldl (fF p) A).length=A.length
 |[],_=>rfl
 |g::r,A=>by rw[Wg,ot p r,D0]
def J6(h w n):(AG h w n).length=3*(h*w):=by
 induction n with
 |zero=>simp[AG]
 |succ n a=>rw[zw,ot,a]
def Hw(b:1<=h/\h<=3)(a:1<=w/\w<=3):AG h w (h*w*(h*w))=ar h w:=by rcases h3 b with rfl|rfl|rfl<;>rcases h3 a with rfl|rfl|rfl<;>decide+kernel
def pC(b:1<=h/\h<=3)(d:1<=w/\w<=3)(c:p<h*w*(h*w)):∀g∈b7 h w p,g<3*(h*w):=by intro g a;simp only[b7,T4,Ud,Ue] at a;rcases h3 b with rfl|rfl|rfl<;>rcases h3 d with rfl|rfl|rfl<;>simp at c a⊢<;>omega
theorem bI.of_get{R:α->β->Prop}:∀{l:List α} {m:List β},l.length=m.length->(∀(i:Nat) x y,l[i]? =aa x->m[i]? =aa y->R x y)->bI R l m
 |[],[],_,_=>.nil
 |x::l,y::m,h,f=>.cons (f 0 x y rfl rfl)<|bI.of_get (by simpa using h) λi a b c d=>f (i+1) a b (by simpa using c)<|by simpa using d
 |[],_::_,h,_=>by simp at h
 |_::_,[],h,_=>by simp at h
def Cm:oq iA:=by
 intro h w M S T;refine bT rfl ?_;have D:h*w<=9:=Ug (UJ S.2 T.2)<|by decide
 have NV:1<=h*w:=VX S.1 T.1;have m1:=cU (M:=M) (i:=(h:Int)) (j:=(w:Int))<|by omega
 have es:(h:Int)*(w:Int)=((h*w:Nat):Int):=by simp
 show(av _ _ [aa<|.int h,aa<|.int w,ae,ae,ae,ae,ae,ae,ae] M).Sat _;refine aI (bC (v:=.int ((h:Int)*w)) (M1:=M) (by walk_at "ev";simp only[m1]) ?_);simp only[T9,T7,es];have gi:∀p,p<h*w*(h*w)->∀g∈b7 h w p,g<3*(h*w):=λp X=>pC S T X
 have z:=J6 h w;have E:=Hw S T;have P:=zw h w;have G:∀p,b7 h w p=[p / (h*w),h*w+p % (h*w),2*(h*w)+(p / (h*w) / h*h+p % (h*w) / w)]:=λp=>rfl
 have H:AG h w 0=List.replicate (3*(h*w)) []:=rfl;generalize hsz:h*w=s at D NV gi z E G H;have m3:=cU (M:=M) (i:=(3:Int)) (j:=(s:Int))<|by decide
 have e3:(3:Int)*(s:Int)=((3*s:Nat):Int):=by simp
 have r3:((3*s:Nat):Int).natAbs<cw:=ew (by omega)<|by omega
 have r:((List.range' M.length<|3*s).map W.ref).length=3*s:=by simp
 have hc:bU 1 [] (cQ<|aq bB (eC<|.int 3)<|aj 2) (ay 9) dP (aP ao) [aa<|.int h,aa<|.int w,aa<|.int s,ae,ae,ae,ae,ae,ae] M=.ok (.ref<|M.length+3*s) (M++(enc (AG h w 0)++[.lst<|(List.range' M.length<|3*s).map .ref])):=by
  unfold bU;have Y:cQ (aq bB (eC<|.int 3)<|aj 2) [aa<|.int h,aa<|.int w,aa<|.int s,ae,ae,ae,ae,ae,ae] M=.ok (cV 0<|3*s,[]) M:=by
   walk_at "ev"
   simp only[m3];rw[e3,T1 r3,Uy]
  rw[Y];simp only[R.bind,mI];rw[xW];have f:(gC 0<|3*s).length=3*s:=by simp[gC]
  rw[f];simp only[R.bind,R.cJ,UK];rw[cm<|by omega,H];have e4:enc (List.replicate (3*s) [])=List.replicate (3*s) (.lst []):=by simp[enc]
  rw[e4,Ur,WT,U5]
 refine aI<|bC hc ?_;simp only[T9,T7];refine aI ?_;generalize Bz:M++(enc (AG h w 0)++[.lst<|(List.range' M.length<|3*s).map .ref])=M1;have m4:=cU (M:=M1) (i:=(s:Int)) (j:=(s:Int))<|by omega
 have e5:(s:Int)*(s:Int)=((s*s:Nat):Int):=by simp
 have Se:s*s<=9*9:=UJ D D;have r5:((s*s:Nat):Int).natAbs<cw:=ew (by omega)<|by omega
 have m:∀(A:List<|List Int) (J:Mem),A.length=3*s->(M++(enc A++.lst ((List.range' M.length<|3*s).map .ref)::J))[M.length+3*s]? =aa (.lst<|(List.range' M.length<|3*s).map .ref):=λA J I=>by rw[Ve<|by omega,W7,Ve<|by simp[enc,I]];simp[enc,I]
 refine iH (lo:=0) (n:=s*s) (M1:=M1) (by walk_at "ev";simp only[m4];rw[e5,T1 r5,Uy]) (λp u C=>(∃a b c d e,u=[aa<|.int h,aa<|.int w,aa<|.int s,aa<|.ref<|M.length+3*s,a,b,c,d,e])/\∃J,C=M++(enc (AG h w p)++.lst ((List.range' M.length<|3*s).map .ref)::J)/\∀l∈AG h w p,l.length<=3*p) ⟨⟨_,_,_,_,_,rfl⟩,[],Bz.symm,λl f=>by rw[H] at f;rw[List.eq_of_mem_replicate f];simp⟩ ?_ ?_
 ·rintro p u C X ⟨⟨a,b,c,d,e,rfl⟩,J,rfl,hlen⟩;simp only[T9,T7];have ez:(0:Int)+(p:Int)=(p:Int):=by omega
  generalize Q:M++(enc (AG h w p)++.lst ((List.range' M.length<|3*s).map .ref)::J)=M2;have d1:=eQ (M:=M2) (i:=(p:Int)) (j:=(s:Int)) (by omega)<|by omega
  have d2:=dk (M:=M2) (i:=(p:Int)) (j:=(s:Int))<|by omega
  have c1:(p:Int) / (s:Int)=((p / s:Nat):Int):=by simp
  have c2:(p:Int) % (s:Int)=((p % s:Nat):Int):=by simp
  refine aI (bC (v:=.int (p / s:Nat)) (M1:=M2) (by walk_at "ev";simp only[ez,d1,c1]) ?_);simp only[T9,T7];refine aI (bC (v:=.int (p % s:Nat)) (M1:=M2) (by walk_at "ev";simp only[ez,d2,c2]) ?_);simp only[T9,T7];have d3:=eQ (M:=M2) (i:=((p / s:Nat):Int)) (j:=(h:Int)) (by omega)<|by omega
  have d4:=eQ (M:=M2) (i:=((p % s:Nat):Int)) (j:=(w:Int)) (by omega)<|by omega
  have d5:bB (.int<|((p / s:Nat):Int) / (h:Int)) (.int h) M2=.ok (.int<|((p / s:Nat):Int) / (h:Int)*h) M2:=T1<|.inr (by unfold hY;omega);have c3:((p / s:Nat):Int) / (h:Int)*h+((p % s:Nat):Int) / (w:Int)=((p / s / h*h+p % s / w:Nat):Int):=by simp
  refine aI (bC (v:=.int (p / s / h*h+p % s / w:Nat)) (M1:=M2) (by walk_at "ev";simp only[d3,d4,d5,c3]) ?_);simp only[T9,T7];have d6:=cU (M:=M2) (i:=2) (j:=(s:Int))<|by decide
  have hn:bu ((b7 h w p).map λ(g:Nat)=>W.int g) M2=.ok (.ref M2.length) (M2++[.lst<|(b7 h w p).map λ(g:Nat)=>W.int g]):=cm (by rw[G];show 3<=16777216;decide);have hle:aP (ak (aj 5)<|ak (aq bz (aj 2)<|aj 6)<|ak (aq bz (aq bB (eC<|.int 2)<|aj 2)<|aj 7) ao) [aa<|.int h,aa<|.int w,aa<|.int s,aa<|.ref<|M.length+3*s,aa<|.int<|0+(p:Int),aa<|.int (p / s:Nat),aa<|.int (p % s:Nat),aa<|.int (p / s / h*h+p % s / w:Nat),e] M2=.ok (.ref M2.length) (M2++[.lst<|(b7 h w p).map λ(g:Nat)=>W.int g]):=by
   rw[<-hn];unfold aP;have c4:(s:Int)+((p % s:Nat):Int)=((s+p % s:Nat):Int):=by simp
   have c5:(2:Int)*(s:Int)+((p / s / h*h+p % s / w:Nat):Int)=((2*s+(p / s / h*h+p % s / w):Nat):Int):=by simp
   walk_at "ev"
   simp only[d6,R.bind,c4,c5,G,Uo,U0]
  have F:(b7 h w p).length=3:=rfl;have Z:∀(k:Nat) (g:Nat),(b7 h w p)[k]? =aa g->g<3*s:=λk g hg=>gi p X g<|Vn hg
  have t:∀k g,(b7 h w p)[k]? =aa g->(((b7 h w p).take<|k+1).foldl (fF (p:Int))<|AG h w p)=fF (p:Int) (((b7 h w p).take k).foldl (fF (p:Int))<|AG h w p) g:=λk g hg=>by rw[VZ,hg,List.foldl_append];rfl
  refine fE (v:=.ref M2.length) (xs:=(b7 h w p).map λ(g:Nat)=>W.int g) hle (aR.new _ _) (λk u C=>(∃e,u=[aa<|.int h,aa<|.int w,aa<|.int s,aa<|.ref<|M.length+3*s,aa<|.int<|0+(p:Int),aa<|.int (p / s:Nat),aa<|.int (p % s:Nat),aa<|.int (p / s / h*h+p % s / w:Nat),e])/\C=M++(enc (((b7 h w p).take k).foldl (fF (p:Int))<|AG h w p)++.lst ((List.range' M.length<|3*s).map .ref)::(J++[.lst<|(b7 h w p).map λ(g:Nat)=>W.int g]))/\∀l∈((b7 h w p).take k).foldl (fF (p:Int)) (AG h w p),l.length<=3*p+k)
   ⟨⟨_,rfl⟩,by rw[<-Q];simp,λl f=>hlen l f⟩ ?_ ?_ ?_
  ·rintro k u C hk ⟨_,rfl,_⟩;refine⟨_,rfl,?_⟩;rw[<-Q];have q1:M++(enc (((b7 h w p).take k).foldl (fF (p:Int))<|AG h w p)++.lst ((List.range' M.length<|3*s).map .ref)::(J++[.lst<|(b7 h w p).map λ(g:Nat)=>W.int g]))=(M++(enc (((b7 h w p).take k).foldl (fF (p:Int))<|AG h w p)++.lst ((List.range' M.length<|3*s).map .ref)::J))++[.lst<|(b7 h w p).map λ(g:Nat)=>W.int g]:=by simp
   rw[q1,Ve<|by simp[enc,ot]];simp[enc,ot]
  ·rintro k x u C B ⟨⟨e,rfl⟩,rfl,nZ⟩;simp only[T9,T7];rw[UW] at B;cases N:(b7 h w p)[k]? with
   |none=>rw[N] at B;cases B
   |some g=>
    rw[N] at B;have ex:x=.int g:=(Ua B).symm;subst ex;have gl:=Z k g N;have k3:k<3:=by have:=(T6.mp N).1;omega
    generalize I:((b7 h w p).take k).foldl (fF (p:Int)) (AG h w p)=A at nZ;have NW:A.length=3*s:=by rw[<-I,ot,z]
    have L:g<A.length:=by omega
    generalize hK:O.lst ((List.range' M.length<|3*s).map .ref)::(J++[.lst<|(b7 h w p).map λ(g:Nat)=>W.int g])=K;have ix:aA (.ref<|M.length+3*s) (.int g) (M++(enc A++K))=.ok (.ref<|M.length+g) (M++(enc A++K)):=by
     have q:=m A (J++[.lst<|(b7 h w p).map λ(g:Nat)=>W.int g]) NW;rw[hK] at q;have U:cH ((List.range' M.length<|3*s).map W.ref) (g:Int)=aa (.ref<|M.length+g):=by unfold cH ck;rw[T1<|by omega,T1 (by rw[r];omega)];simp[gl]
     simp only[aA,jW q,U]
    have Sf:A[g].length<=3*p+k:=nZ _<|VG L;have a1:=lO (σ:=[aa (.int h),aa (.int w),aa (.int s),aa (.ref (M.length+3*s)),aa (.int (0+(p:Int))),aa (.int (p / s:Nat)),aa (.int (p % s:Nat)),aa (.int (p / s / h*h+p % s / w:Nat)),aa (.int g)]) (o:=aq aA (aj 3) (aj 8)) (arg:=aj 4) (by walk_at "ev";exact ix) (u_ M K A g L) (show _=R.ok (.int (0+(p:Int))) _ from rfl) (u_ M K A g L) (by rw[Ub];omega);have e6:(A[g].map W.int++[W.int<|0+(p:Int)])=(A.getD g []++[(p:Int)]).map .int:=by simp[List.getD,L]
    rw[e6,Hv M K A g _ L] at a1;refine dt a1 ?_;refine⟨⟨_,rfl⟩,?_,?_⟩
    ·rw[t k g N,I];rfl
    ·rw[t k g N,I];intro l f;unfold fF at f;rcases W' f with q|q
     ·have:=nZ l q;omega
     ·subst q;simp[List.getD,L];omega
  ·rintro u C ⟨⟨e,rfl⟩,rfl,nZ⟩;have e7:(b7 h w p).take ((b7 h w p).map λ(g:Nat)=>W.int g).length=b7 h w p:=by rw[Ub,UX]
   rw[e7] at nZ;refine⟨⟨_,_,_,_,_,rfl⟩,J++[.lst<|(b7 h w p).map λ(g:Nat)=>W.int g],by rw[e7,<-P],?_⟩;rw[P];intro l f;have:=nZ l f;rw[Ub,F] at this;omega
 ·rintro u C ⟨⟨a,b,c,d,e,rfl⟩,J,rfl,hlen⟩;dsimp only;refine bt (v:=.ref<|M.length+3*s) (M1:=M++(enc (AG h w<|s*s)++.lst ((List.range' M.length<|3*s).map .ref)::J)) rfl ?_;refine⟨pre_app _ _,(List.range' M.length<|3*s).map .ref,⟨_,rfl,m _ J<|z _⟩,?_⟩;have F:(ar h w).length=3*s:=by rw[<-E,z]
  rw[E];refine bI.of_get (by rw[r,F]) λi x y B hy=>?_
  obtain⟨Y,ey⟩:=T6.mp hy;have V:i<3*s:=by omega
  have ex:=by simp[V] at B;exact B.symm
  subst ex;refine⟨_,rfl,?_⟩;rw[u_ M _ _ i Y,ey]
inductive Wk(M:Mem):List W->List W->Nat->Prop
 |nil:Wk M [] [] 0
 |flat {x:W} {ls rs:List W} {n:Nat}:VM.flat x=af->Wk M ls rs n->Wk M (ls++[x]) (rs++[x]) (n+1)
 |seq {a b:Nat} {xs ys ls rs:List W} {n:Nat}:M[a]? =aa (.lst xs)->M[b]? =aa (.lst ys)->xs.length=ys.length->Wk M (ls++xs) (rs++ys) n->Wk M (ls++[.ref a]) (rs++[.ref b]) (n+1)
 |tup {a b:Nat} {xs ys ls rs:List W} {n:Nat}:M[a]? =aa (.tup xs)->M[b]? =aa (.tup ys)->xs.length=ys.length->Wk M (ls++xs) (rs++ys) n->Wk M (ls++[.ref a]) (rs++[.ref b]) (n+1)
def Wk.len(h:Wk M ls rs n):ls.length<=n/\rs.length<=n:=by
 induction h with
 |nil=>simp
 |flat _ _ a=>simp;omega
 |seq _ _ _ _ a=>simp at a⊢;omega
 |tup _ _ _ _ a=>simp at a⊢;omega
def Wk.Mc(h:Wk M ls rs n):∀(a),a.all VM.flat=af->Wk M (ls++a) (rs++a) (n+a.length):=by
 intro a;induction a generalizing ls rs n with
 |nil=>intro _;simpa using h
 |cons z r c=>intro b;rw[Vf,T_] at b;have:=c (h.flat b.1) b.2;rw[U5,U5] at this;rw[UE,show n+(r.length+1)=n+1+r.length by omega];exact this
def eP(M J:Mem)(o p):(M++o::p::J)[M.length]? =aa o/\(M++o::p::J)[M.length+1]? =aa p:=by
 constructor
 ·simp
 ·rw[Ve<|by omega];simp
def qJ(M J:Mem)(o p o'):(M++o::p::J).set M.length o'=M++o'::p::J:=by simp
def oF(M J:Mem)(o p p'):(M++o::p::J).set (M.length+1) p'=M++o::p'::J:=by rw[W8 _ _<|by omega];simp
def Ak(h:M[a]? =aa (.lst<|xs++[x])):fM (.ref a) [] M=.ok x (M.set a<|.lst xs):=by
 unfold fM;rw[fT h];have e:(xs++[x])[(xs++[x]).length-1]? =aa x:=by simp
 simp only[e];simp
def rj(h:M[a]? =aa (.lst xs))(c:M[b]? =aa (.lst ys)\/M[b]? =aa (.tup ys))(d:xs.length+ys.length<=16777216):fX (.ref a) [.ref b] M=.ok .aw (M.set a<|.lst<|xs++ys):=by
 have e:litOf M (.ref b)=aa ys:=by rcases c with c|c<;>simp only[litOf,c]
 simp only[fX,fT h,e];exact T1 d
def zx(h:M[a]? =aa (.tup xs)):bD M (.ref a)=aa xs:=by
 have e:a9 M (.ref a)=ae:=by simp only[VM.a9,h]
 simp only[VM.bD,e,VM.cu,h]
def D1(i)(M):eo [.int i] M=.ok (.bl af) M:=rfl
def Hx(x)(M)(h:VM.flat x=af):bE x x M=.ok (.bl ag) M:=by unfold bE dU;cases x<;>simp[VM.dQ,VM.flat] at h⊢
def rE(a b)(M):bE (.bl a) (.bl b) M=.ok (.bl<|!ai (a=b)) M:=by unfold bE dU;simp[VM.dQ]
noncomputable def kx:TM:=tB<|aq bE (aj 3)<|aP<|ao
noncomputable def AX(a:CM):SM:=
 aK (tB<|cI [.list,.tuple]<|aj 5) (
  av (
   aK (tB<|aq bE (cI [.list]<|aj 4)<|cI [.list]<|aj 5) (
    aG (eC (.bl ag))) (
    aX)) (
  av (
   aK (cW (tB<|aq bE (cI [.tuple]<|aj 4)<|cI [.tuple]<|aj 5)<|tB<|aq bE (ax bP<|ak (aj 4) ao)<|ax bP<|ak (aj 5) ao) (
    aG (eC (.bl ag))) (
    aX)) (
  av (
   aZ (bo fX (aj 2) (ak (aj 4) ao))) (
  aZ (bo fX (aj 3) (ak (aj 5) ao)))))) (
  aK (tB<|kF<|aj 5) (
   aK (tB<|iK<|aj 4) (
    aG (eC (.bl ag))) (
    aX)) (
   aK (tB<|cI [.bool]<|aj 5) (
    aK (cW (cz<|tB<|cI [.bool]<|aj 4)<|tB<|aq bE (aj 4)<|aj 5) (
     aG (eC (.bl ag))) (
     aX)) (
    aK (tB<|cI [.str]<|aj 5) (
     aK (cW (cz<|tB<|cI [.str]<|aj 4)<|tB<|aq bE (aj 4)<|aj 5) (
      aG (eC (.bl ag))) (
      aX)) (
     aK (cW (cz<|tB<|ax a<|ak (aj 4) ao)<|tB<|aq bE (aj 4)<|aj 5) (
      aG (eC (.bl ag))) (
      aX)))))
noncomputable def pD(a:CM):SM:=av (aJ (bo fM (aj 2)<|ao)<|ay 4)<|av (aJ (bo fM (aj 3)<|ao)<|ay 5)<|AX a
def D2(M:Mem)(f d:W):∀(n:Nat) (k:Nat) (ls rs:List W) (J:Mem) (x y:Option W),Wk M ls rs n->n<k->n<=16000000-> (df kx (pD eo) k [aa f,aa d,aa<|.ref M.length,aa<|.ref<|M.length+1,x,y]<|M++.lst ls::.lst rs::J).Sat {nx:=λ_ M'=>M<+:M',rt:=λ_ _=>False}:=by
 intro n;induction n with
 |zero=>
  intro k ls rs J x y I Y _;obtain⟨k,rfl⟩:∃j,k=j+1:=⟨k-1,by omega⟩;cases I;have t:kx [aa f,aa d,aa<|.ref M.length,aa<|.ref<|M.length+1,x,y] (M++.lst []::.lst []::J)=.ok ag (M++.lst []::.lst []::J++[.lst []]):=by have K:bu [] (M++.lst []::.lst []::J)=.ok (.ref (M++O.lst []::.lst []::J).length) (M++.lst []::.lst []::J++[.lst []]):=rfl;have h:=az (pre_app (M++O.lst []::.lst []::J) [.lst []]) (eP M J (.lst [])<|.lst []).2;have o:=aR.new (M++O.lst []::.lst []::J) [];unfold kx;simp only[tB,aq,aj,aP,ao,T',T5,R.bind,K,bE,dU,VM.dQ,UM,UG,dj h,o.a9];rfl
  refine qk t ?_;exact⟨.lst []::.lst []::J++[.lst []],by simp⟩
 |succ n L=>
  intro k ls rs J x y I Y V;obtain⟨k,rfl⟩:∃j,k=j+1:=⟨k-1,by omega⟩;have hl:=I.len;have u:∀(l r:W) (g e:List W),ls=g++[l]->rs=e++[r]-> ((AX eo) [aa f,aa d,aa<|.ref M.length,aa<|.ref<|M.length+1,aa l,aa r]<|M++.lst g::.lst e::(J++[.lst []])).Sat {nx:=λp M'=>(df kx (pD eo) k p M').Sat {nx:=λ_ M'=>M<+:M',rt:=λ_ _=>False},rt:=λ_ _=>False,ct:=λp M'=>(df kx (pD eo) k p M').Sat {nx:=λ_ M'=>M<+:M',rt:=λ_ _=>False},bk:=λ_ M'=>M<+:M'}-> (df kx (pD eo) (k+1) [aa f,aa d,aa<|.ref M.length,aa<|.ref<|M.length+1,x,y]<|M++.lst ls::.lst rs::J).Sat {nx:=λ_ M'=>M<+:M',rt:=λ_ _=>False}:=by
   rintro l r g e rfl rfl s;have t:kx [aa f,aa d,aa<|.ref M.length,aa<|.ref<|M.length+1,x,y] (M++.lst (g++[l])::.lst (e++[r])::J)=.ok af (M++.lst (g++[l])::.lst (e++[r])::(J++[.lst []])):=by
    have K:bu [] (M++.lst (g++[l])::.lst (e++[r])::J)=.ok (.ref (M++O.lst (g++[l])::.lst (e++[r])::J).length) (M++.lst (g++[l])::.lst (e++[r])::J++[.lst []]):=rfl;have h:=az (pre_app (M++O.lst (g++[l])::.lst (e++[r])::J) [.lst []]) (eP M J (.lst<|g++[l])<|.lst<|e++[r]).2;have o:=aR.new (M++O.lst (g++[l])::.lst (e++[r])::J) [];have X:ku (e++[r]) []=aa ag:=by unfold ku;rw[T1<|by simp]
    unfold kx;simp only[tB,aq,aj,aP,ao,T',T5,R.bind,K,bE,dU,VM.dQ,UM,UG,dj h,o.a9,X];simp
   refine t8 t ?_;unfold pD;obtain⟨h,o⟩:=eP M (J++[.lst []]) (.lst<|g++[l])<|.lst<|e++[r];have T:=Ak h;rw[qJ] at T;refine aI<|bC (v:=l) (M1:=M++.lst g::.lst (e++[r])::(J++[.lst []])) ?_ ?_
   ·simp only[bo,aj,ao,T',T5,R.bind,dj h];exact T
   simp only[T9,T7];obtain⟨U,m⟩:=eP M (J++[.lst []]) (.lst g)<|.lst<|e++[r];have S:=Ak m;rw[oF] at S;refine aI<|bC (v:=r) (M1:=M++.lst g::.lst e::(J++[.lst []])) ?_ ?_
   ·simp only[bo,aj,ao,T',T5,R.bind,dj m];exact S
   simp only[T9,T7];exact s
  cases I with
  | @flat l g e _ hf C=>
    refine u l l g e rfl rfl ?_;have i:=L k g e (J++[.lst []]) (aa l) (aa l) C (by omega)<|by omega
    generalize M++O.lst g::.lst e::(J++[.lst []])=N at i;have D:=Hx l N hf;cases l with
    |ref a=>cases hf
    |aw=>
     refine bp (c:=ag) (M1:=N) rfl (λz=>nomatch z) λ_=>?_
     refine bp (c:=af) (M1:=N) rfl (λ_=>?_) λz=>nomatch z
     exact bp (c:=ag) (M1:=N) rfl (λz=>nomatch z) λ_=>i
    |bl b=>
     refine bp (c:=ag) (M1:=N) rfl (λz=>nomatch z) λ_=>?_
     refine bp (c:=ag) (M1:=N) rfl (λz=>nomatch z) λ_=>?_
     refine bp (c:=af) (M1:=N) rfl (λ_=>?_) λz=>nomatch z
     refine bp (c:=ag) (M1:=N) ?_ (λz=>nomatch z) λ_=>i
     walk_at "ev"
     simp only[cI,dm,cM,R.bind,aj,T',T5,D];simp
    |str b=>
     refine bp (c:=ag) (M1:=N) rfl (λz=>nomatch z) λ_=>?_
     refine bp (c:=ag) (M1:=N) rfl (λz=>nomatch z) λ_=>?_
     refine bp (c:=ag) (M1:=N) rfl (λz=>nomatch z) λ_=>?_
     refine bp (c:=af) (M1:=N) rfl (λ_=>?_) λz=>nomatch z
     refine bp (c:=ag) (M1:=N) ?_ (λz=>nomatch z) λ_=>i
     walk_at "ev"
     simp only[cI,dm,cM,R.bind,aj,T',T5,D];simp
    |int b=>
     refine bp (c:=ag) (M1:=N) rfl (λz=>nomatch z) λ_=>?_
     refine bp (c:=ag) (M1:=N) rfl (λz=>nomatch z) λ_=>?_
     refine bp (c:=ag) (M1:=N) rfl (λz=>nomatch z) λ_=>?_
     refine bp (c:=ag) (M1:=N) rfl (λz=>nomatch z) λ_=>?_
     refine bp (c:=ag) (M1:=N) ?_ (λz=>nomatch z) λ_=>i
     walk_at "ev"
     simp only[D1,R.bind,D];simp
  | @seq a b xs H g e _ Q F E C=>
    refine u (.ref a) (.ref b) g e rfl rfl ?_;have i:=L k (g++xs) (e++H) (J++[.lst []]) (aa<|.ref a) (aa<|.ref b) C (by omega)<|by omega
    have q:=C.len;rw[Ur,Ur] at q;obtain⟨h,o⟩:=eP M (J++[.lst []]) (.lst g)<|.lst e;have A:=az (pre_app M<|O.lst g::.lst e::(J++[.lst []])) Q;have B:=az (pre_app M<|O.lst g::.lst e::(J++[.lst []])) F;have w:=rj h (.inl A)<|by omega
    rw[qJ] at w;obtain⟨U,m⟩:=eP M (J++[.lst []]) (.lst<|g++xs)<|.lst e;have P:=az (pre_app M<|O.lst (g++xs)::.lst e::(J++[.lst []])) F;have G:=rj m (.inl P)<|by omega
    rw[oF] at G;generalize Z:M++O.lst g::.lst e::(J++[.lst []])=N at A B w h o;refine bp (c:=af) (M1:=N) ?_ (λ_=>?_) λz=>nomatch z
    ·simp only[tB,cI,aj,T',T5,R.bind,dm,cM,B];rfl
    refine aI<|bp (c:=ag) (M1:=N) ?_ (λz=>nomatch z) λ_=>?_
    ·simp only[tB,aq,cI,aj,T',T5,R.bind,dm,cM,A,B,rE];rfl
    refine du ?_;dsimp only;refine aI<|bp (c:=ag) (M1:=N) ?_ (λz=>nomatch z) λ_=>?_
    ·simp only[cW,tB,aq,cI,ax,ak,ao,aj,T',T5,R.bind,dm,cM,A,B,rE,bP,jW A,jW B,ne_int,E];simp
    refine du ?_;dsimp only;refine aI<|dt (v:=.aw) (M1:=M++O.lst (g++xs)::.lst e::(J++[.lst []])) ?_ ?_
    ·simp only[bo,aj,ak,ao,T',T5,R.bind,dj h];exact w
    refine dt (v:=.aw) (M1:=M++O.lst (g++xs)::.lst (e++H)::(J++[.lst []])) ?_ ?_
    ·simp only[bo,aj,ak,ao,T',T5,R.bind,dj m];exact G
    exact i
  | @tup a b xs H g e _ Q F E C=>
    refine u (.ref a) (.ref b) g e rfl rfl ?_;have i:=L k (g++xs) (e++H) (J++[.lst []]) (aa<|.ref a) (aa<|.ref b) C (by omega)<|by omega
    have q:=C.len;rw[Ur,Ur] at q;obtain⟨h,o⟩:=eP M (J++[.lst []]) (.lst g)<|.lst e;have A:=az (pre_app M<|O.lst g::.lst e::(J++[.lst []])) Q;have B:=az (pre_app M<|O.lst g::.lst e::(J++[.lst []])) F;have w:=rj h (.inr A)<|by omega
    rw[qJ] at w;obtain⟨U,m⟩:=eP M (J++[.lst []]) (.lst<|g++xs)<|.lst e;have P:=az (pre_app M<|O.lst (g++xs)::.lst e::(J++[.lst []])) F;have G:=rj m (.inr P)<|by omega
    rw[oF] at G;generalize Z:M++O.lst g::.lst e::(J++[.lst []])=N at A B w h o;refine bp (c:=af) (M1:=N) ?_ (λ_=>?_) λz=>nomatch z
    ·simp only[tB,cI,aj,T',T5,R.bind,dm,cM,B];rfl
    refine aI<|bp (c:=ag) (M1:=N) ?_ (λz=>nomatch z) λ_=>?_
    ·simp only[tB,aq,cI,aj,T',T5,R.bind,dm,cM,A,B,rE];rfl
    refine du ?_;dsimp only;refine aI<|bp (c:=ag) (M1:=N) ?_ (λz=>nomatch z) λ_=>?_
    ·simp only[cW,tB,aq,cI,ax,ak,ao,aj,T',T5,R.bind,dm,cM,A,B,rE,bP,zx A,zx B,ne_int,E];simp
    refine du ?_;dsimp only;refine aI<|dt (v:=.aw) (M1:=M++O.lst (g++xs)::.lst e::(J++[.lst []])) ?_ ?_
    ·simp only[bo,aj,ak,ao,T',T5,R.bind,dj h];exact w
    refine dt (v:=.aw) (M1:=M++O.lst (g++xs)::.lst (e++H)::(J++[.lst []])) ?_ ?_
    ·simp only[bo,aj,ak,ao,T',T5,R.bind,dj m];exact G
    exact i
def Hy(M:Mem)(f d:W)(n:Nat)(h:Wk M [f] [d] n)(b:n<=16000000):∃M',gX eo [f,d] M=.ok (.bl af) M'/\M<+:M':=by
 have a:∃r M',gX eo [f,d] M=.ok r M'/\(r=.bl af/\M<+:M'):=by
  refine bT rfl ?_;show(av _ _ [aa f,aa d,ae,ae,ae,ae] M).Sat _;have c:bu [f] M=.ok (.ref M.length) (M++[.lst [f]]):=cm (by show 1<=16777216;decide);have g:bu [d] (M++[.lst [f]])=.ok (.ref<|M.length+1) (M++.lst [f]::.lst [d]::[]):=by rw[cm (by show 1<=16777216;decide)];simp
  refine aI (bC (v:=.ref M.length) (by walk_at "ev";exact c) ?_);refine aI (bC (by walk_at "ev";exact g) ?_);refine aI ?_;refine RS.Sat.mono (D2 M f d n 1000000000 [f] [d] [] ae ae h (by omega) b) (λi M' p=>?_) (λ_ _ z=>z.elim) (λ_ _ z=>z.elim)<|λ_ _ z=>z.elim
  dsimp only;refine bt rfl ?_;exact⟨rfl,p⟩
 obtain⟨r,M',e,rfl,p⟩:=a;exact⟨M',e,p⟩
def qK(h:aT M v fs)(a:fs.length<=1000):hZ [v] M=.ok (.ref M.length) (M++[.lst<|fs.map .int]):=by unfold hZ;simp only[aR.bD h];exact cm (by rw[Ub];omega)
end LV
namespace VM
def bx(d:a σ M=.ok x M1)(e:b σ M1=.ok y M2)(c:f x y M2=r):aq f a b σ M=r:=by unfold aq;rw[d];simp only[R.bind];rw[e];exact c
def bZ(h:e σ M=.ok (.bl b) M1):tB e σ M=.ok b M1:=by unfold tB;rw[h];rfl
end VM
namespace LV
open VM
noncomputable def kH(ss g:List Int)(p n:Int):Bool:=g.any (·==p)&&g.any λq=>!ai (q=p)&&ai (aB ss q=n)
noncomputable def eI(G:List<|List Int)(ss:List Int)(p n:Int):Bool:=G.any λg=>kH ss g p n
noncomputable def nums(s:Nat):List Int:=(List.range s).map λ(k:Nat)=>(k)+1
noncomputable def rowOf(G:List<|List Int)(ss:List Int)(s:Nat)(p:Int):List Int:=(nums s).filter λn=>ai (aB ss p=0)&& !eI G ss p n
noncomputable def tabOf(G:List<|List Int)(ss:List Int)(s:Nat):List (List Int):=(List.range ss.length).map λ(p:Nat)=>rowOf G ss s<|p
def lC(G)(ss)(s)(p):(rowOf G ss s p).length<=s:=by unfold rowOf;refine Ug (Vh _ _) ?_;simp[nums]
def rF(h:LL M v G)(f:0<=i)(j:i<(G.length:Int)):∃w,aA v (.int i) M=.ok w M/\aT M w (G.getD i.toNat []):=by
 obtain⟨d,g,b⟩:=h;have k:=b.len;have e:G[i.toNat]? =aa (G.getD i.toNat []):=by
  have:i.toNat<G.length:=by omega
  simp[this]
 obtain⟨w,c,q⟩:=b.at' e;refine⟨w,?_,q⟩;have a:cH d i=aa w:=by unfold cH ck;rw[T1 f,T1<|by omega];exact c
 simp only[aA,g.bD,a]
def Am(h:LL M v G):bP [v] M=.ok (.int G.length) M:=by obtain⟨c,b,a⟩:=h;unfold bP;simp only[b.bD,a.len]
noncomputable def de(G T:List<|List Int)(g n:Int):List Int:=(G.getD g.toNat []).filter λp=>(T.getD p.toNat []).any (·==n)
noncomputable def hU(G:List<|List Int)(ss:List Int)(g n:Int)(s:Nat):Bool:=
 !(ai (g<0)||(ai ((G.length:Int)<=g)||(ai (n<1)||ai ((s)<n))))&& !((G.getD g.toNat []).map<|aB ss).any (·==n)
inductive ee where
 |fld (p n:Int)
 |dV (p n g:Int)
 deriving DecidableEq
noncomputable abbrev rm:W:=.str [102,105,101,108,100]
noncomputable abbrev o5:W:=.str [103,114,111,117,112]
noncomputable def ee.ws:ee->List W
 |.fld p n=>[rm,.int p,.int n]
 |.dV p n g=>[o5,.int p,.int n,.int g]
noncomputable def ee.place:ee->Int
 |.fld p _=>p
 |.dV p _ _=>p
noncomputable def ee.num:ee->Int
 |.fld _ n=>n
 |.dV _ n _=>n
noncomputable def jq(M:Mem)(v:W)(st:ee):Prop:=aH M v st.ws
theorem xX:∀(xs ys:List Int),gd (xs.map W.int) (ys.map W.int)=ai (xs=ys)
 |[],[]=>rfl
 |[],_::_=>rfl
 |_::_,[]=>rfl
 |x::xs,y::ys=>by show(fA (.int x) (.int y)&&gd (xs.map W.int) (ys.map W.int))=_;rw[xX xs ys,U3];show((x==y)&&_)=af↔_;simp
def C7(xs ys:List Int):ku (xs.map W.int) (ys.map W.int)=aa (ai<|xs=ys):=by
 unfold ku;by_cases h:xs.length=ys.length
 ·rw[T2<|by simpa using h];simp only[qB,We,Ul,xX]
 ·rw[T1<|by simpa using h,Ut<|λe=>h<|by rw[e]]
def yz(d:aT M u xs)(c:aT M v ys):dU M u v=aa (ai<|xs=ys):=by have e:=aR.a9 d;have f:=aR.a9 c;obtain⟨a,rfl,_⟩:=d;obtain⟨b,rfl,_⟩:=c;unfold dU;rw[T2<|by simp[VM.dQ],e,f];exact C7 xs ys
def va(b:aT M u xs)(a:aT M v ys):oEq u v M=.ok (.bl<|ai<|xs=ys) M:=by unfold oEq;rw[yz b a]
def Hz(b:aT M u xs)(a:aT M v ys):bE u v M=.ok (.bl<|!ai (xs=ys)) M:=by unfold bE;rw[yz b a]
def eq_str(a b):oEq (.str a) (.str b) M=.ok (.bl<|ai<|a=b) M:=by unfold oEq dU;simp[VM.dQ]
def eR(h:aH M v ws)(i:Nat)(b:ws[i]? =aa x):aA v (.int i) M=.ok x M:=by
 have a:cH ws (i)=aa x:=by unfold cH ck;have c:=(T6.mp b).1;rw[T1<|by omega,T1<|by omega];exact b
 simp only[aA,h.bD,a]
def zy(h:e σ M=.ok x M1):aP (ak e ao) σ M=.ok (.ref M1.length) (M1++[.lst [x]]):=by unfold aP ak ao;rw[h];simp only[R.bind];exact cm (by show 1<=16777216;decide)
noncomputable def fk(ss:List Int)(p:Int):Bool:=!(ai (p<0)||(ai ((ss.length:Int)<=p)|| !ai (aB ss p=0)))
noncomputable def hV(G:List<|List Int)(ss:List Int)(T:List<|List Int)(s:Nat):ee->Bool
 |.fld p n=>fk ss p&&ai (T.getD p.toNat []=[n])
 |.dV p n g=>fk ss p&&(hU G ss g n s&&ai (de G T g n=[p]))
def qr(G)(ss)(T)(s)(p n):hV G ss T s (.fld p n)=(fk ss p&&ai (T.getD p.toNat []=[n])):=rfl
def qt(G)(ss)(T)(s)(p n g):hV G ss T s (.dV p n g)=(fk ss p&&(hU G ss g n s&&ai (de G T g n=[p]))):=rfl
def yA(h:hU G ss g n s=af):0<=g/\g<(G.length:Int)/\1<=n/\n<=(s):=by unfold hU at h;simp only[T_,UP,Vj,Vk] at h;omega
def J8(s r:Nat)(h:s<=9)(g:r<=9)(M):∃v M',PB.gP [.int s,.int r] M=.ok v M'/\M<+:M'/\aT M' v (l7 s r):=by
 refine bT rfl ?_;have b:(s:Int).natAbs<cw:=ew (by omega)<|by omega
 have e:bU 1 [] (cQ<|aj 0) (ay 2) dP (aq bz (aq bB (aj 1)<|aj 0)<|aj 2) [aa<|.int s,aa<|.int r] M=bu ((l7 s r).map .int) M:=by
  unfold bU
  walk_at "ev"
  rw[T1 b];simp only[Uy,mI];rw[jS (λ_=>af) (λx=>match x with|.int i=>.int ((r)*s+i)|_=>.aw) _ _ _ (λ_=>rfl) rfl ?_]
  ·simp only[filter_tt,UK,gC,l7,Wd];congr 1;apply Wv;intro a _;simp
  ·intro x d;obtain⟨k,_,rfl⟩:=Us.mp d;refine⟨rfl,λ_=>?_⟩;have c:=cU (M:=M) (i:=(r)) (j:=(s))<|by omega
   walk_at "ev"
   simp only[c]
 have f:((l7 s r).map W.int).length<=16777216:=by simp[l7];omega
 rw[cm f] at e;refine bt e ?_;exact⟨pre_app _ _,aR.new _ _⟩
def J9(s c:Nat)(m:s<=9)(l:c<=9)(M):∃v M',PB.gL [.int s,.int c] M=.ok v M'/\M<+:M'/\aT M' v (l8 s c):=by
 refine bT rfl ?_;have b:(s:Int).natAbs<cw:=ew (by omega)<|by omega
 have e:bU 1 [] (cQ<|aj 0) (ay 2) dP (aq bz (aq bB (aj 2)<|aj 0)<|aj 1) [aa<|.int s,aa<|.int c] M=bu ((l8 s c).map .int) M:=by
  unfold bU
  walk_at "ev"
  rw[T1 b];simp only[Uy,mI];rw[jS (λ_=>af) (λx=>match x with|.int i=>.int (i*s+c)|_=>.aw) _ _ _ (λ_=>rfl) rfl ?_]
  ·simp only[filter_tt,UK,gC,l8,Wd];congr 1;apply Wv;intro a _;simp
  ·intro x g;obtain⟨k,f,rfl⟩:=Us.mp g;rw[UL] at f;refine⟨rfl,λ_=>?_⟩;have d:=cU (M:=M) (i:=(0+(k))) (j:=(s))<|by omega
   walk_at "ev"
   simp only[d]
 have h:((l8 s c).map W.int).length<=16777216:=by simp[l8];omega
 rw[cm h] at e;refine bt e ?_;exact⟨pre_app _ _,aR.new _ _⟩
noncomputable def f6(h w b r n:Nat):List Int:=(List.range n).map λc=>((b / h*h+r:Nat):Int)*(h*w:Nat)+(b % h*w+c:Nat)
noncomputable def fZ(h w b n:Nat):List Int:=(List.range n).flatMap λr=>f6 h w b r w
def CF(h w b n):(fZ h w b n).length=n*w:=by
 induction n with
 |zero=>simp[fZ]
 |succ n a=>have e:fZ h w b (n+1)=fZ h w b n++f6 h w b n w:=xn n _;rw[e,Ur,a];simp[f6,W5]
def J_(h w b:Nat)(m:1<=h/\h<=3)(k:1<=w/\w<=3)(K:b<9)(M:Mem):∃v M',PB.gQ [.int h,.int w,.int b] M=.ok v M'/\M<+:M'/\aT M' v (wq h w b):=by
 refine bT rfl ?_;have l:b / h<=9:=Ug (Nat.div_le_self b h)<|by omega
 have e:b % h<3:=Um (VY b<|by omega) m.2;have p:=cU (M:=M) (i:=(h:Int)) (j:=(w:Int))<|by omega
 have o:=eQ (M:=M) (i:=(b:Int)) (j:=(h:Int)) (by omega)<|by omega
 have E:((b:Int) / (h:Int))=((b / h:Nat):Int):=rfl;have H:=cU (M:=M) (i:=((b / h:Nat):Int)) (j:=(h:Int)) (by rw[Xa];exact Ug l<|by decide);have r:=dk (M:=M) (i:=(b:Int)) (j:=(h:Int))<|by omega
 have u:((b:Int) % (h:Int))=((b % h:Nat):Int):=rfl;have s:=cU (M:=M) (i:=((b % h:Nat):Int)) (j:=(w:Int)) (by rw[Xa];exact Ug (U6 e)<|by decide);show(av _ _ [aa<|.int h,aa<|.int w,aa<|.int b,ae,ae,ae,ae,ae,ae] M).Sat _;refine aI (bC (v:=.int ((h:Int)*w)) (M1:=M) (by walk_at "ev";simp only[p]) ?_);refine aI (bC (v:=.int (((b / h:Nat):Int)*h)) (M1:=M) (by walk_at "ev";simp only[o,E,H]) ?_);refine aI (bC (v:=.int (((b % h:Nat):Int)*w)) (M1:=M) (by walk_at "ev";simp only[r,u,s]) ?_);refine aI (bC (v:=.ref M.length) (M1:=M++[.lst []]) (by walk_at "ev";exact cm (by simp)) ?_);refine aI ?_;have L:(b / h*h:Nat)<=9:=Ug (Nat.div_mul_le_self b h)<|by omega
 have N:(b % h*w:Nat)<=9:=by have:=UJ (U6 e) k.2;omega
 have G:((b / h:Nat):Int)*(h:Int)=((b / h*h:Nat):Int):=by simp
 have A:((b % h:Nat):Int)*(w:Int)=((b % h*w:Nat):Int):=by simp
 have B:(h:Int)*(w:Int)=((h*w:Nat):Int):=by simp
 have q:h*w<=9:=Ug (UJ m.2 k.2)<|by decide
 simp only[T9,T7,G,A,B];have z:((b / h*h:Nat):Int).natAbs<cw/\(((b / h*h:Nat):Int)+(h:Int)).natAbs<cw:=⟨ew (by omega)<|by omega,ew (by omega)<|by omega⟩;have I:((b % h*w:Nat):Int).natAbs<cw/\(((b % h*w:Nat):Int)+(w:Int)).natAbs<cw:=⟨ew (by omega)<|by omega,ew (by omega)<|by omega⟩;have C:(((b / h*h:Nat):Int)+(h:Int)-((b / h*h:Nat):Int)).toNat=h:=by omega
 have D:(((b % h*w:Nat):Int)+(w:Int)-((b % h*w:Nat):Int)).toNat=w:=by omega
 refine iH (lo:=((b / h*h:Nat):Int)) (n:=h) (M1:=M++[.lst []]) (by walk_at "ev";rw[T1 z,C]) (λj a M'=>∃x y,a=[aa<|.int h,aa<|.int w,aa<|.int b,aa<|.int (h*w:Nat),aa<|.int (b / h*h:Nat),aa<|.int (b % h*w:Nat),aa<|.ref M.length,x,y]/\M'=M++[.lst<|(fZ h w b j).map .int]) ⟨ae,ae,rfl,rfl⟩ ?_ ?_
 ·rintro j a M' O ⟨x,y,rfl,rfl⟩;simp only[T9,T7];refine iH (lo:=((b % h*w:Nat):Int)) (n:=w) (M1:=M++[.lst ((fZ h w b j).map .int)]) (by walk_at "ev";rw[T1 I,D]) (λc a M'=>∃y,a=[aa<|.int h,aa<|.int w,aa<|.int b,aa<|.int (h*w:Nat),aa<|.int (b / h*h:Nat),aa<|.int (b % h*w:Nat),aa<|.ref M.length,aa<|.int<|((b / h*h:Nat):Int)+(j:Int),y]/\M'=M++[.lst<|(fZ h w b j++f6 h w b j c).map .int]) ⟨y,rfl,by simp[f6]⟩ ?_ ?_
  ·rintro c a M' J ⟨y,rfl,rfl⟩;simp only[T9,T7];have g:=bV M<|.lst<|(fZ h w b j++f6 h w b j c).map .int;have f:=dj g;have d:((fZ h w b j++f6 h w b j c).map W.int).length<16777216:=by rw[Ub,Ur,CF];have:j*w<=3*3:=UJ (by omega) k.2;simp[f6];omega
   have F:=cU (M:=M++[.lst<|(fZ h w b j++f6 h w b j c).map .int]) (i:=(((b / h*h:Nat):Int)+(j:Int))) (j:=((h*w:Nat):Int))<|by omega
   refine dt (v:=.aw) (M1:=M++[.lst<|(fZ h w b j++f6 h w b j (c+1)).map .int]) ?_ ⟨_,rfl,rfl⟩
   walk_at "ev"
   simp only[f,F];rw[qA g d,oD];have t:f6 h w b j (c+1)=f6 h w b j c++[((b / h*h+j:Nat):Int)*(h*w:Nat)+(b % h*w+c:Nat)]:=Cj c _;rw[t];simp
  ·rintro a M' ⟨y,rfl,rfl⟩;exact⟨_,_,rfl,by rw[show fZ h w b (j+1)=fZ h w b j++f6 h w b j w from xn j _]⟩
 ·rintro a M' ⟨x,y,rfl,rfl⟩;dsimp only;refine bt rfl ?_;exact⟨pre_app _ _,aR.new _ _⟩
def xY:oq (PB.i8 PB.gP PB.gL PB.gQ):=by
 intro h w M o n;refine bT rfl ?_;have d:h*w<=9:=Ug (UJ o.2 n.2)<|by decide
 have r:=cU (M:=M) (i:=(h:Int)) (j:=(w:Int))<|by omega
 have J:(h:Int)*(w:Int)=((h*w:Nat):Int):=by simp
 show(av _ _ [aa<|.int h,aa<|.int w,ae,ae,ae,ae] M).Sat _;refine aI (bC (v:=.int ((h)*w)) (M1:=M) (by walk_at "ev";simp only[r]) ?_);obtain⟨k,M1,F,D,t⟩:=uK (σ:=[aa<|.int h,aa<|.int w,aa<|.int (h*w:Nat),ae,ae,ae]) (elt:=ax PB.gP<|ak (aj 2)<|ak (aj 6) ao) 6 (l7<|h*w) (aj 2) rfl d (λj m f p=>by obtain⟨v,e,a,b,c⟩:=J8 (h*w) j d (by omega) f;exact⟨v,e,by walk_at "ev";exact a,b,c⟩)
 refine aI<|bC F ?_;obtain⟨E,M2,x,l,C⟩:=uK (σ:=[aa<|.int h,aa<|.int w,aa<|.int (h*w:Nat),aa k,ae,ae]) (elt:=ax PB.gL<|ak (aj 2)<|ak (aj 6) ao) 6 (l8<|h*w) (aj 2) rfl d (λj m f p=>by obtain⟨v,e,a,b,c⟩:=J9 (h*w) j d (by omega) f;exact⟨v,e,by walk_at "ev";exact a,b,c⟩)
 refine aI<|bC x ?_;obtain⟨K,L,u,g,z⟩:=uK (σ:=[aa<|.int h,aa<|.int w,aa<|.int (h*w:Nat),aa k,aa E,ae]) (elt:=ax PB.gQ<|ak (aj 0)<|ak (aj 1)<|ak (aj 6) ao) 6 (wq h w) (aj 2) rfl d (λj m f p=>by obtain⟨v,e,a,b,c⟩:=J_ h w j o n (by omega) f;exact⟨v,e,by walk_at "ev";exact a,b,c⟩)
 refine aI<|bC u ?_;simp only[T9,T7];obtain⟨N,O,I,q,G⟩:=Ai ((t.mono l).mono g) (C.mono g) (by simp;omega);obtain⟨B,H,A,y,s⟩:=Ai G (z.mono q) (by simp;omega);refine bt (v:=B) (M1:=H) ?_ ?_
 ·simp only[aq,aj,T5,T',R.bind,I,A]
 ·exact⟨D.trans<|l.trans<|g.trans<|q.trans y,s⟩
def qC(h w:Nat)(C:1<=h/\h<=3)(B:1<=w/\w<=3)(M:Mem)(v:W)(m:List Int)(f:aT M v m)(g:aY (h*w) m):PB.d0 [.int h,.int w,v] M=.ok .aw M:=by
 have d:∃u a,PB.d0 [.int h,.int w,v] M=.ok u a/\(u=.aw/\a=M):=by
  refine bT rfl ?_;have p:h*w<=9:=Ug (UJ C.2 B.2)<|by decide
  have o:=cU (M:=M) (i:=(h:Int)) (j:=(w:Int))<|by omega
  have r:(h:Int)*(w:Int)=((h*w:Nat):Int):=by simp
  have A:=cU (M:=M) (i:=((h*w:Nat):Int)) (j:=((h*w:Nat):Int))<|by omega
  have k:((h*w:Nat):Int)*((h*w:Nat):Int)=((h*w*(h*w):Nat):Int):=by simp
  refine aI (bC (v:=.int ((h)*w)) (M1:=M) (by walk_at "ev";simp only[o]) ?_);simp only[T9,T7,r];refine aI<|bp (c:=ag) (M1:=M) ?_ (λz=>nomatch z) λ_=>?_
  ·walk_at "ev"
   simp only[ji f,A,ne_int,g.len,k,Xb,Wh]
  refine du ?_;refine fE rfl f (λj b a=>(∃x,b=[aa<|.int h,aa<|.int w,aa v,aa<|.int (h*w:Nat),x])/\a=M) ⟨⟨_,rfl⟩,rfl⟩ (λj b a _ ⟨_,e⟩=>by subst e;exact f) ?_ ?_
  ·rintro j x b a s ⟨⟨y,rfl⟩,rfl⟩;obtain⟨n,l,rfl,_⟩:=gS s;have E:=g.lo n l;have D:=g.hi n l;refine bp (c:=ag) (M1:=a) ?_ (λz=>nomatch z) λ_=>?_
   ·walk_at "ev"
    have t:ai (n<0)=ag:=Ut<|by omega
    have q:ai (((h*w:Nat):Int)<n)=ag:=Ut<|by omega
    simp only[lt_int,gt_int,t,q,UM,UG]
   ·exact⟨⟨_,rfl⟩,rfl⟩
  ·rintro b a ⟨⟨y,rfl⟩,rfl⟩;exact⟨trivial,rfl⟩
 obtain⟨u,a,e,rfl,rfl⟩:=d;exact e
def gu(e:p.1=k):aS (p::r) k=aa p.2:=by simp[aS,Vv,e]
def fU(e:¬p.1=k):aS (p::r) k=aS r k:=by simp[aS,Vv,e]
theorem mR(k):∀kvs:List (Int×W),(kvs.any λkv=>ai<|kv.1=k)=(aS kvs k).isSome
 |[]=>rfl
 |p::r=>by
  rw[U4];by_cases e:p.1=k
  ·simp only[gu e,UA e,VU,Wt]
  ·rw[fU e,Ut e,Vw];exact mR k r
theorem yB(k j)(y):∀kvs:List (Int×W),aS (kvs.map λkv=>if kv.1=k then(kv.1,y) else kv) j=(aS kvs j).map λx=>if j=k then y else x
 |[]=>rfl
 |p::r=>by
  have a:=yB k j y r;rw[Uo];by_cases h:p.1=k
  ·rw[T1 h];by_cases e:p.1=j
   ·rw[gu (p:=(p.1,y)) e,gu e,VI,T1<|e.symm.trans h]
   ·rw[fU (p:=(p.1,y)) e,fU e,a]
  ·rw[T2 h];by_cases e:p.1=j
   ·rw[gu e,gu e,VI,T2<|λz=>h<|e.trans z]
   ·rw[fU e,fU e,a]
theorem qD(k j)(y):∀kvs:List (Int×W),aS kvs k=ae->aS (kvs++[(k,y)]) j=if j=k then aa y else aS kvs j
 |[],_=>by
  by_cases e:k=j
  ·rw[T1 e.symm];exact gu e
  ·rw[T2<|λz=>e z.symm];exact fU e
 |p::r,a=>by
  rw[U'];have b:¬p.1=k:=λz=>by rw[gu z] at a;cases a
  rw[fU b] at a;have c:=qD k j y r a;by_cases e:p.1=j
  ·rw[gu e,gu e,T2<|λz=>b<|e.trans z]
  ·rw[fU e,fU e,c]
def uL(v)(h:aS kvs k=ae):dput kvs k v=kvs++[(k,v)]:=by unfold dput;rw[mR,h];exact T2<|by decide
def uM(v)(h:aS kvs k=aa x):dput kvs k v=kvs.map (λkv=>if kv.1=k then(kv.1,v) else kv):=by unfold dput;rw[mR,h];exact T1 rfl
def mS(kvs)(k j)(y):aS (dput kvs k y) j=if j=k then aa y else aS kvs j:=by
 cases q:aS kvs k with
 |none=>rw[uL y q];exact qD k j y kvs q
 |some x=>
  rw[uM y q,yB];by_cases e:j=k
  ·rw[T1 e,e,q,VI,T1 rfl]
  ·rw[T2 e];cases aS kvs j with
   |none=>rfl
   |some z=>rw[VI,T2 e]
def qL(kvs)(k)(v):(dput kvs k v).length<=kvs.length+1:=by
 unfold dput;split
 ·rw[Ub];omega
 ·rw[Ur,UE,U_];omega
def Cs(v)(h:aS kvs k=aa x):(dput kvs k v).length=kvs.length:=by rw[uM v h,Ub]
def Cn(v)(h:aS kvs k=aa x):(dput kvs k v).map (·.1)=kvs.map (·.1):=by
 rw[uM v h,Wd];refine Wv λp _=>?_
 show(if p.1=k then(p.1,v) else p).1=p.1;split<;>rfl
def Fp(h:aS kvs k=ae):k∉kvs.map (·.1):=λm=>by obtain⟨p,b,e⟩:=Us.mp m;have q:(kvs.any λa=>ai<|a.1=k)=af:=Uc.mpr ⟨p,b,UA e⟩;rw[mR,h] at q;exact absurd q<|by simp
def xB(v:W)(h:aS kvs k=ae)(d:(kvs.map (·.1)).Nodup):((kvs++[(k,v)]).map (·.1)).Nodup:=by rw[Wb];refine List.nodup_append.mpr ⟨d,by simp,λa e b c=>?_⟩;simp only[Uo,U0,VH] at c;rintro rfl;exact Fp h<|c▸e
def xC(v)(a:(kvs.map (·.1)).Nodup):((dput kvs k v).map (·.1)).Nodup:=by
 cases q:aS kvs k with
 |none=>rw[uL v q];exact xB v q a
 |some x=>rw[Cn v q];exact a
theorem mT:∀{kvs:List (Int×W)} {k:Int} {v:W},(k,v)∈kvs->(kvs.map (·.1)).Nodup->aS kvs k=aa v
 |p::r,k,v,hm,a=>by
  rw[Uo,U9] at a;rcases T4.mp hm with rfl|hm
  ·exact gu rfl
  ·have:¬p.1=k:=λe=>a.1 (Us.mpr ⟨_,hm,e.symm⟩)
   rw[fU this];exact mT hm a.2
def uo(h:aS kvs k=aa v):(k,v)∈kvs:=by
 unfold aS at h;cases e:kvs.find? (λa=>ai<|a.1=k) with
 |none=>rw[e] at h;cases h
 |some p=>
  rw[e] at h;have b:=Xc e;have c:=by simpa using Xd e
  have h3:=Ua h;rw[<-c,<-h3];exact b
def xZ(kvs)(k j):aS (f_ kvs k) j=if j=k then ae else aS kvs j:=by
 induction kvs with
 |nil=>unfold f_;simp[aS]
 |cons p r b=>
  unfold f_ at b⊢;rw[Vg];by_cases e:p.1=k
  ·rw[T2<|by simp[e],b];by_cases a:j=k
   ·rw[T1 a,T1 a]
   ·rw[T2 a,T2 a,fU<|λz=>a<|z.symm.trans e]
  ·rw[T1<|by simp[e]];by_cases a:p.1=j
   ·rw[gu a,gu a,T2<|λz=>e<|a.trans z]
   ·rw[fU a,fU a,b]
def CG(k)(a:(kvs.map (·.1)).Nodup):((f_ kvs k).map (·.1)).Nodup:=by unfold f_;exact List.Nodup.sublist (List.Sublist.map _ List.filter_sublist) a
def D3(kvs)(k):(f_ kvs k).length<=kvs.length:=Vh _ _
def er(h:M[a]? =aa (.aD kvs)):bq M (.ref a)=aa (a,kvs):=by simp only[bq,h]
def lE(h:M[a]? =aa (.aD kvs)):nv M (.ref a)=af:=by simp only[nv,er h,Wt]
def An(neg)(k)(h:M[a]? =aa (.aD kvs)):kQ neg (.int k) (.ref a) M=.ok (.bl<|(aS kvs k).isSome != neg) M:=by simp only[kQ,er h]
def HA(k)(v)(h:M[a]? =aa (.aD kvs))(b:kvs.length<16777216):nL (.ref a) (.int k) v σ M=.nx σ (M.set a<|.aD<|dput kvs k v):=by simp only[nL,er h];exact T1 b
noncomputable abbrev aQ:List Nat:=[83,116,97,116,101]
noncomputable abbrev fH:List Nat:=[104,105,103,104]
noncomputable abbrev fW:List Nat:=[119,105,100,101]
noncomputable abbrev fG:List Nat:=[103,114,111,117,112,115]
noncomputable abbrev fN:List Nat:=[110,117,109,98,101,114,115]
noncomputable abbrev fC:List Nat:=[99,97,110]
def mU(h:M[a]? =aa (.ins c fs)):dO M (.ref a)=aa (a,c,fs):=by simp only[dO,h]
def HB(h:M[a]? =aa (.ins c fs))(b:cD f fs=aa v):lZ c f (.ref a) M=.ok v M:=by simp only[lZ,mU h,b,Ul]
def cg(d:σ[i]? =aa (aa<|.ref a))(h:M[a]? =aa (.ins c fs))(b:cD f fs=aa v):aM c f (aj i) σ M=.ok v M:=by simp only[aM,aj,d,R.bind];exact HB h b
noncomputable abbrev jD(h w:Nat)(a b c:W):List (List Nat×W):=[(fH,.int h),(fW,.int w),(fG,a),(fN,b),(fC,c)]
noncomputable def cf(h w p:Nat):List Int:=(b7 h w p).map λ(g:Nat)=>(g)
noncomputable def vb(f:CM):Prop:=∀(h w p:Nat) (M),1<=h/\h<=3->1<=w/\w<=3->p<h*w*(h*w)->f [.int h,.int w,.int p] M=.ok (.ref M.length) (M++[.lst<|(cf h w p).map .int])
def o6:vb PB.iD:=by
 intro h w p M j f m;have n:1<=h*w/\h*w<=9:=by rcases h3 j with rfl|rfl|rfl<;>rcases h3 f with rfl|rfl|rfl<;>decide
 have a:∃r c,PB.iD [.int h,.int w,.int p] M=.ok r c/\(r=.ref M.length/\c=M++[.lst<|(cf h w p).map .int]):=by
  refine bT rfl ?_;show(av _ _ [aa<|.int h,aa<|.int w,aa<|.int p,ae,ae,ae,ae] M).Sat _;refine aI<|bC (v:=.int ((h*w:Nat):Int)) (M1:=M) ?_ ?_
  ·walk_at "ev"
   rw[cU<|by omega,Ww]
  simp only[T9,T7];refine aI<|bC (v:=.int ((p / (h*w):Nat):Int)) (M1:=M) ?_ ?_
  ·walk_at "ev"
   rw[eQ (by omega)<|by omega,Xe]
  simp only[T9,T7];refine aI<|bC (v:=.int ((p % (h*w):Nat):Int)) (M1:=M) ?_ ?_
  ·walk_at "ev"
   rw[dk<|by omega,Int.natCast_emod]
  simp only[T9,T7];have k:p / (h*w)<=9:=by have:p / (h*w)<h*w:=W6 m;omega
  refine aI<|bC (v:=.int ((p / (h*w) / h*h+p % (h*w) / w:Nat):Int)) (M1:=M) ?_ ?_
  ·have l:p / (h*w) / h<=9:=Ug (Nat.div_le_self _ _) k;have i:aq oDiv (aj 4) (aj 0) [aa<|.int h,aa<|.int w,aa<|.int p,aa<|.int ((h*w:Nat):Int),aa<|.int ((p / (h*w):Nat):Int),aa<|.int ((p % (h*w):Nat):Int),ae] M=.ok (.int ((p / (h*w) / h:Nat):Int)) M:=
    bx rfl rfl (by rw[eQ (by omega)<|by omega,<-Xe])
   have g:=bx (b:=aj 0) i rfl<|cU (by rw[Xa];exact Ug l<|by decide);have d:aq oDiv (aj 5) (aj 1) [aa<|.int h,aa<|.int w,aa<|.int p,aa<|.int ((h*w:Nat):Int),aa<|.int ((p / (h*w):Nat):Int),aa<|.int ((p % (h*w):Nat):Int),ae] M=.ok (.int ((p % (h*w) / w:Nat):Int)) M:=
    bx rfl rfl (by rw[eQ (by omega)<|by omega,<-Xe])
   refine bx g d ?_;show R.ok (W.int<|_+_) M=_;rw[Int.natCast_add,Ww]
  simp only[T9,T7];refine bt ?_ ⟨rfl,rfl⟩
  walk_at "ev"
  rw[cU<|by omega];simp only;rw[cm (by show 3<=16777216;decide)];simp only[cf,b7,Uo,U0,Int.natCast_add,Ww];rfl
 obtain⟨r,c,e,rfl,rfl⟩:=a;exact e
def oG(he:e σ M=.ok v M1)(c:d σ M1=.ok (.ref a) M2)(b:k σ M2=.ok (.int i) M3)(g:M3[a]? =aa (.aD kvs))(f:kvs.length<16777216)(h:q.nx σ<|M3.set a<|.aD<|dput kvs i v):(gz d k e σ M).Sat q:=by unfold gz;rw[he];simp only[R.bK,c,b,HA i v g f];exact h
noncomputable def km(G:List<|List Int)(ss:List Int)(a:List Int)(n:Int):Bool:=a.any λg=>(G.getD g.toNat []).any λf=>ai<|aB ss f=n
noncomputable def freeOf(G:List<|List Int)(ss:List Int)(s:Nat)(a:List Int):List Int:=(nums s).filter λn=>!km G ss a n
def xD(s):gC 1 s=(nums s).map .int:=by
 unfold gC nums;rw[Wd];refine Wv λk _=>?_
 show W.int (1+(k))=W.int ((k)+1);rw[Int.add_comm]
def eh(b:1<=h/\h<=3)(a:1<=w/\w<=3):1<=h*w/\h*w<=9:=by rcases h3 b with rfl|rfl|rfl<;>rcases h3 a with rfl|rfl|rfl<;>decide
def je(h w):(ar h w).length=3*(h*w):=by unfold ar;simp;omega
def ql(l:List α)(f)(j){x:α}(h:l[j]? =aa x):(l.take<|j+1).any f=((l.take j).any f||f x):=by rw[VZ,h];simp
def getD_mem{G:List (List Int)}(a:0<=g)(b:g<(G.length:Int)):G.getD g.toNat []∈G:=by
 have:g.toNat<G.length:=by omega
 simp[List.getD,this]
def zA(b:σ[0]? =aa (aa<|.ref a))(c:M[a]? =aa (.ins aQ fs))(f1:cD fH fs=aa (.int h))(f2:cD fW fs=aa (.int w))(he:e σ M=.ok (.int p) M)(d:f [.int h,.int w,.int p] M=r):ax f (ak (aM aQ fH<|aj 0)<|ak (aM aQ fW<|aj 0)<|ak e ao) σ M=r:=by simp only[ax,ak,ao,cg b c f1,cg b c f2,he,R.bind];exact d
def zB{h w:Nat}(d:h<=3)(b:σ[0]? =aa (aa<|.ref a))(c:M[a]? =aa (.ins aQ fs))(f1:cD fH fs=aa (.int h))(f2:cD fW fs=aa (.int w)):
 aq bB (aM aQ fH<|aj 0) (aM aQ fW<|aj 0) σ M=.ok (.int ((h*w:Nat):Int)) M:=
 bx (cg b c f1) (cg b c f2) (by rw[cU<|by omega,Ww])
def D4{f:CM}(hf:vb f){h w p:Nat}{M:Mem}{a:Nat}{fs:List (List Nat×W)}{U Y:W}{ss:List Int}(u:1<=h/\h<=3)(C:1<=w/\w<=3)(Z:p<h*w*(h*w))(B:M[a]? =aa (.ins aQ fs))(f1:cD fH fs=aa (.int h))(f2:cD fW fs=aa (.int w))(f3:cD fG fs=aa U)(f4:cD fN fs=aa Y)(L:LL M U<|ar h w)(hN:aT M Y ss)(hl:ss.length=h*w*(h*w)):
 ∃k M',PB.iz f [.ref a,.int p] M=.ok (.ref k) M'/\M<+:M'/\M.length<=k/\M'[k]? =aa (.lst<|(freeOf (ar h w) ss (h*w)<|cf h w p).map .int):=by
 obtain⟨s1,s9⟩:=eh u C;have E:=gx u C;have D:∃r M',PB.iz f [.ref a,.int p] M=.ok r M'/\∃k,r=.ref k/\M<+:M'/\M.length<=k/\M'[k]? =aa (.lst<|(freeOf (ar h w) ss (h*w)<|cf h w p).map .int):=by
  refine bT rfl ?_;show(av _ _ [aa<|.ref a,aa<|.int p,ae,ae,ae] M).Sat _;refine aI<|bC (v:=.ref M.length) (M1:=M++[.aD []]) rfl ?_;simp only[T9,T7];refine aI ?_;have gI:∀g∈cf h w p,0<=g/\g<((ar h w).length:Int):=λg Q=>by obtain⟨n,hn,rfl⟩:=Us.mp Q;have:=pC u C Z n hn;rw[je];exact⟨Wf _,by omega⟩
  have gl:(cf h w p).length=3:=rfl;have pre:∀(b:List<|Int×W) (l:List W),M<+:M++[.aD b,.lst l]:=λb l=>pre_app _ _
  refine fE (v:=.ref<|M.length+1) (xs:=(cf h w p).map .int) (M1:=M++[.aD [],.lst<|(cf h w p).map .int]) ?_ ?_ (λj d M'=>(∃x y,d=[aa<|.ref a,aa<|.int p,aa<|.ref M.length,x,y])/\∃b,M'=M++[.aD b,.lst<|(cf h w p).map .int]/\b.length<=9*j/\∀n,(aS b n).isSome=km (ar h w) ss ((cf h w p).take j) n)
   ⟨⟨_,_,rfl⟩,[],rfl,by simp,λn=>rfl⟩ ?_ ?_ ?_
  ·have e:=hf h w p (M++[.aD []]) u C Z;refine zA rfl (az (pre_app _ _) B) f1 f2 rfl<|e.trans ?_;simp
  ·exact⟨_,rfl,(eP M [] _ _).2⟩
  ·rintro j d M' hj ⟨_,b,rfl,_⟩;exact⟨_,rfl,(eP M [] _ _).2⟩
  ·rintro j x d M' hx ⟨⟨x',y',rfl⟩,b,rfl,hk,hv⟩;obtain⟨g,Q,rfl,A⟩:=gS hx;obtain⟨K,S⟩:=gI g Q;simp only[T9,T7];obtain⟨V,m,G⟩:=rF (L.mono<|pre b<|(cf h w p).map .int) K S;obtain⟨BA,t⟩:=E _<|getD_mem K S;have hW:aT M V ((ar h w).getD g.toNat []):=by
    obtain⟨w2,H,I⟩:=rF L K S;obtain⟨ws,hL,hA⟩:=L;simp only[aA,hL.bD,(aR.mono hL<|pre b<|(cf h w p).map .int).bD] at m H;cases q:cH ws g with
    |none=>rw[q] at m;cases m
    |some z=>rw[q] at m H;cases m;cases H;exact I
   refine fE (v:=V) (xs:=((ar h w).getD g.toNat []).map .int) (M1:=M++[O.aD b,O.lst<|(cf h w p).map W.int]) (bx (cg rfl (az (pre _ _) B) f3) rfl m) G (λi d M'=>(∃y,d=[aa<|.ref a,aa<|.int p,aa<|.ref M.length,aa<|.int g,y])/\∃b,M'=M++[.aD b,.lst<|(cf h w p).map .int]/\b.length<=9*j+i/\∀n,(aS b n).isSome=(km (ar h w) ss ((cf h w p).take j) n||(((ar h w).getD g.toNat []).take i).any λf=>ai<|aB ss f=n))
    ⟨⟨_,rfl⟩,b,rfl,by omega,λn=>by rw[hv n];simp⟩ ?_ ?_ ?_
   ·rintro i d M' hi ⟨_,b,rfl,_⟩;exact aR.mono hW<|pre _ _
   ·rintro i x d M' J ⟨⟨y,rfl⟩,b,rfl,kR,mn⟩;obtain⟨c,hc,rfl,o⟩:=gS J;simp only[T9,T7];obtain⟨c0,c1⟩:=t c hc;have il:i<((ar h w).getD g.toNat []).length:=(T6.mp o).1;have jl:j<3:=by rw[<-gl];exact(T6.mp A).1
    refine oG (M1:=M++[.aD b,.lst<|(cf h w p).map .int]) (M2:=M++[.aD b,.lst<|(cf h w p).map .int]) (M3:=M++[.aD b,.lst<|(cf h w p).map .int]) (a:=M.length) (i:=aB ss c) (v:=.bl af) (kvs:=b) rfl rfl (bx (cg rfl (az (pre _ _) B) f4) rfl<|iO (aR.mono hN<|pre _ _) c0 (by rw[hl];exact c1)) (eP M [] _ _).1 (by omega) ⟨⟨_,rfl⟩,dput b (aB ss c)<|.bl af,qJ _ _ _ _ _,?_,λn=>?_⟩
    ·have:=qL b (aB ss c)<|.bl af;omega
    ·rw[mS,ql _ _ _ o,<-Xf,<-mn n];by_cases e:n=aB ss c
     ·rw[T1 e,UA e.symm];simp
     ·rw[T2 e,Ut<|λz=>e z.symm];simp
   ·rintro d M' ⟨⟨y,rfl⟩,b,rfl,kR,mn⟩;refine⟨⟨_,_,rfl⟩,b,rfl,?_,λn=>?_⟩
    ·simp only[Ub] at kR;omega
    ·rw[mn n,Ub,UX];unfold km;rw[ql _ _ _ A]
  ·rintro d M' ⟨⟨x,y,rfl⟩,b,rfl,hk,hv⟩;dsimp only;generalize F:M++[.aD b,.lst<|(cf h w p).map .int]=N;have X:M<+:N:=by rw[<-F];exact pre _ _
   have hD:N[M.length]? =aa (.aD b):=by rw[<-F];exact(eP M [] _ _).1
   have r2:(1:Int).natAbs<cw/\(((h*w:Nat):Int)+1).natAbs<cw:=⟨ew (by omega)<|by omega,ew (by omega)<|by omega⟩;have n2:(((h*w:Nat):Int)+1-1).toNat=h*w:=by omega
   have ef:(freeOf (ar h w) ss (h*w)<|cf h w p).map W.int=((gC 1<|h*w).filter λx=>match x with|.int n=>!km (ar h w) ss (cf h w p) n|_=>ag).map id:=by rw[xD,Xg,Xh];rfl
   refine bt (v:=.ref N.length) (M1:=N++[.lst<|(freeOf (ar h w) ss (h*w)<|cf h w p).map .int]) ?_ ⟨N.length,rfl,X.trans<|pre_app _ _,?_,bV _ _⟩
   ·have P:=az X B;have T:f7 (eC<|.int 1) (aq bz (aq bB (aM aQ fH<|aj 0)<|aM aQ fW<|aj 0)<|eC<|.int 1) [aa<|.ref a,aa<|.int p,aa<|.ref M.length,x,y] N=.ok (cV 1<|h*w,[]) N:=by have m:aq bz (aq bB (aM aQ fH<|aj 0)<|aM aQ fW<|aj 0) (eC<|.int 1) [aa<|.ref a,aa<|.int p,aa<|.ref M.length,x,y] N=.ok (.int<|((h*w:Nat):Int)+1) N:=bx (zB u.2 rfl P f1 f2) rfl rfl;simp only[f7,m,R.bind,eC];rw[T1 r2,n2]
    unfold bU;rw[T];simp only[R.bind,eX,Wc,Vp,Vy,mI,U',UK];rw[jS (σ:=[aa<|.ref a,aa<|.int p,aa<|.ref M.length,x,y,ae]) (λx=>match x with|.int n=>!km (ar h w) ss (cf h w p) n|_=>ag) id _ _ _ (λ_=>rfl) rfl ?_]
    ·simp only[UK];rw[<-ef];refine cm ?_;rw[Ub];refine Ug (Vh _ _) ?_;simp[nums];omega
    ·intro z hz;obtain⟨k,_,rfl⟩:=Us.mp hz;refine⟨?_,λ_=>rfl⟩;have s:=hv<|1+(k:Int);rw[Ub,UX] at s;show tB (nK af (aj 5)<|aj 2) [aa<|.ref a,aa<|.int p,aa<|.ref M.length,x,y,aa<|.int<|1+(k)] N=_;simp only[tB,nK,aq,aj,R.bind,T',T5,An af _ hD,s];simp
   ·rw[<-F];simp
 obtain⟨r,M',e,k,rfl,q⟩:=D;exact⟨k,M',e,q⟩
noncomputable def Bj(h w:Nat):Bool:=(List.range<|h*w*(h*w)).all λp=>(List.range<|3*(h*w)).all λi=>((ar h w).getD i []).any (·==(p:Int))==(b7 h w p).contains i
def HC(b:1<=h/\h<=3)(a:1<=w/\w<=3):Bj h w=af:=by rcases h3 b with rfl|rfl|rfl<;>rcases h3 a with rfl|rfl|rfl<;>decide+kernel
def oH{h w:Nat}(g:1<=h/\h<=3)(d:1<=w/\w<=3)(l:p<h*w*(h*w))(k:i<3*(h*w)):(p:Int)∈(ar h w).getD i []↔i∈b7 h w p:=by
 have c:=HC g d;unfold Bj at c;have b:=UO.mp (UO.mp c p<|UL.mpr l) i<|UL.mpr k;rw[US] at b;constructor
 ·intro a;have:((ar h w).getD i []).any (·==(p))=af:=Uc.mpr ⟨_,a,by simp⟩;rw[b] at this;simpa using this
 ·intro a;have:(b7 h w p).contains i=af:=by simpa using a
  rw[<-b] at this;obtain⟨x,j,e⟩:=Uc.mp this;have f:=by simpa using e
  rw[<-f];exact j
def Fq{h w:Nat}(r:1<=h/\h<=3)(o:1<=w/\w<=3)(m:p<h*w*(h*w))(v:aB ss p≠n):eI (ar h w) ss p n=km (ar h w) ss (cf h w p) n:=by
 rw[U3];unfold eI km kH;rw[Uc,Uc];constructor
 ·rintro⟨g,u,e⟩;rw[T_,Uc,Uc] at e;obtain⟨⟨x,t,ex⟩,q,j,d⟩:=e;have l:=by simpa using ex
  subst l;obtain⟨i,c,rfl⟩:=Wi u;have b:i<3*(h*w):=by rw[<-je];exact c
  have f:(ar h w).getD i []=(ar h w)[i]:=by simp[c]
  have a:=(oH r o m b).mp (by rw[f];exact t);refine⟨(i),Us.mpr ⟨i,a,rfl⟩,?_⟩;rw[Uy,f];refine Uc.mpr ⟨q,j,?_⟩;simp only[T_] at d;exact d.2
 ·rintro⟨y,k,e⟩;obtain⟨i,c,rfl⟩:=Us.mp k;rw[Uy] at e;have b:=pC r o m i c;have s:i<(ar h w).length:=by rw[je];exact b
  have f:(ar h w).getD i []=(ar h w)[i]:=by simp[s]
  have a:=(oH r o m b).mpr c;rw[f] at e a;refine⟨_,VG s,?_⟩;rw[T_,Uc,Uc];obtain⟨q,j,d⟩:=Uc.mp e;refine⟨⟨_,a,by simp⟩,q,j,?_⟩;rw[T_];refine⟨?_,d⟩;have:q≠(p):=by rintro rfl;exact v<|UD d
  simp[this]
def Ft{h w:Nat}(c:1<=h/\h<=3)(b:1<=w/\w<=3)(e:p<h*w*(h*w))(a:aB ss p=0):freeOf (ar h w) ss (h*w) (cf h w p)=rowOf (ar h w) ss (h*w) p:=by
 unfold freeOf rowOf;refine Xi λn d=>?_
 obtain⟨k,_,rfl⟩:=Us.mp d;rw[UA a,VJ,Fq c b e (by rw[a];omega)]
def qV(h:aB ss p≠0):rowOf G ss s p=[]:=by unfold rowOf;rw[Wj];intro n _;simp[h]
def oJ(he:e σ M=.ok v M1)(g:o σ M1=.ok (.ref a) M2)(b:M2[a]? =aa (.ins c fs))(d:fs.length<1000)(h:q.nx σ<|M2.set a<|.ins c<|bH f v fs):(fu c f o e σ M).Sat q:=by unfold fu;rw[he];simp only[R.bK,g,Bg,mU b,true_and];rw[T1 d];exact h
noncomputable def cK(ss:List Int)(p:Int):Prop:=0<=p/\p<(ss.length:Int)/\aB ss p=0
noncomputable def AY(M:Mem)(n:Nat)(G:List<|List Int)(ss:List Int)(s:Nat)(kvs:List<|Int×W):Prop:=
 kvs.length<=ss.length/\(kvs.map (·.1)).Nodup/\∀p:Int,(aS kvs p=ae/\¬cK ss p)\/∃k,aS kvs p=aa (.ref k)/\cK ss p/\n<k/\M[k]? =aa (.lst<|(rowOf G ss s p).map .int)
noncomputable def gJ(n:Nat)(M:Mem)(v:W)(G:List<|List Int):Prop:=∃c,(∃a,v=.ref a/\a≠n/\M[a]? =aa (.lst c))/\bI (λw d=>∃b,w=.ref b/\b≠n/\M[b]? =aa (.lst<|d.map .int)) c G
def gJ.ll(h:gJ n M v G):LL M v G:=by obtain⟨c,⟨a,e,_,q⟩,r⟩:=h;exact⟨c,⟨a,e,q⟩,r.imp λw d ⟨b,e,_,q⟩=>⟨b,e,q⟩⟩
def LL.NX(h:LL M v G)(f:M.length<=n)(k:∀(b:Nat) (c),M[b]? =aa (.lst c)->M'[b]? =aa (.lst c)):gJ n M' v G:=by
 have d:∀{b:Nat} {c:List W},M[b]? =aa (.lst c)->b≠n:=λ{b c} e=>by have:=(T6.mp e).1;omega
 obtain⟨c,⟨a,e,q⟩,r⟩:=h;exact⟨c,⟨a,e,d q,k _ _ q⟩,r.imp λw g ⟨b,e,q⟩=>⟨b,e,d q,k _ _ q⟩⟩
structure bL(M:Mem)(a n c:Nat)(h w:Nat)(ss:List Int):Prop where
 ob:∃vG,M[a]? =aa (.ins aQ<|jD h w vG (.ref n)<|.ref c)/\gJ n M vG (ar h w)
 nm:M[n]? =aa (.lst<|ss.map .int)
 cn:∃kvs,M[c]? =aa (.aD kvs)/\AY M n (ar h w) ss (h*w) kvs
noncomputable def oK(f:CM):Prop:=∀(h w) (M0) (d) (a),1<=h/\h<=3->1<=w/\w<=3->aT M0 d a->aY (h*w) a->
 ∃b n c,f [.ref M0.length,.int h,.int w,d] (M0++[.ins aQ []])=.ok .aw b/\M0<+:b/\bL b M0.length n c h w a/\M0.length<n/\M0.length<c
theorem mK:∀(xs) (i j:Nat) (x),(eV i xs)[j]? =aa x->∃w,xs[j]? =aa w/\x=.pair (.int ((i+j:Nat):Int)) w
 |[],_,_,_,h=>by simp[eV] at h
 |y::r,i,0,x,h=>by simp only[eV] at h;exact⟨y,rfl,(Ua h).symm⟩
 |y::r,i,j+1,x,h=>by simp only[eV] at h;obtain⟨w,b,a⟩:=mK r (i+1) j x h;exact⟨w,by simpa using b,by rw[a,show i+1+j=i+(j+1) by omega]⟩
theorem mL:∀(xs) (i),(eV i xs).length=xs.length
 |[],_=>rfl
 |_::r,i=>by simp[eV,mL r]
def rG:cB [ay i,ay j] (.ref M.length) σ (M++[.tup [x,y]])=.ok ((σ.set i<|aa x).set j<|aa y) (M++[.tup [x,y]]):=by have h:=(aH.new M [x,y]).cu;simp only[cB,h,UE,U_,Ul,jo,ay,R.bind]
def HD{fg fr fn:CM}(hg:oq fg)(hr:∀(h w:Nat),1<=h/\h<=3->1<=w/\w<=3->∀(M:Mem) (v:W) (ns:List Int),aT M v ns->aY (h*w) ns->fr [.int h,.int w,v] M=.ok .aw M)(hn:∀{h w p:Nat} {M:Mem} {a:Nat} {fs:List (List Nat×W)} {f vN:W} {ss:List Int},1<=h/\h<=3->1<=w/\w<=3->p<h*w*(h*w)->M[a]? =aa (.ins aQ fs)->cD fH fs=aa (.int h)->cD fW fs=aa (.int w)->cD fG fs=aa f->cD fN fs=aa vN->LL M f (ar h w)->aT M vN ss->ss.length=h*w*(h*w)->
  ∃k M',fn [.ref a,.int p] M=.ok (.ref k) M'/\M<+:M'/\M.length<=k/\M'[k]? =aa (.lst ((freeOf (ar h w) ss (h*w) (cf h w p)).map .int))):oK (PB.e_ fg fr fn):=by
 intro h w M0 vs ss D E hs sh;have S:=sh.len;have key:∃r M',PB.e_ fg fr fn [.ref M0.length,.int h,.int w,vs] (M0++[.ins aQ []])=.ok r M'/\(r=.aw/\∃n c,M0<+:M'/\bL M' M0.length n c h w ss/\M0.length<n/\M0.length<c):=by
  refine bT rfl ?_;show(av _ _ [aa<|.ref M0.length,aa<|.int h,aa<|.int w,aa vs,ae,ae] _).Sat _;refine aI<|dt (v:=.aw) (M1:=M0++[.ins aQ []]) ?_ ?_
  ·simp only[ax,ak,ao,aj,R.bind,T',T5];exact hr h w D E _ _ _ (aR.mono hs<|pre_app _ _) sh
  refine aI<|oJ (v:=.int h) (a:=M0.length) (fs:=[]) (M1:=M0++[.ins aQ []]) (M2:=M0++[.ins aQ []]) rfl rfl (bV _ _) (by decide) ?_;rw[oD];refine aI<|oJ (v:=.int w) (a:=M0.length) (fs:=[(fH,.int h)]) (M1:=M0++[.ins aQ [(fH,.int h)]]) (M2:=M0++[.ins aQ [(fH,.int h)]]) rfl rfl (bV _ _) (by show 1<1000;decide) ?_;rw[oD];obtain⟨f,M4,e4,⟨J,rfl⟩,hG⟩:=hg h w (M0++[.ins aQ [(fH,.int h),(fW,.int w)]]) D E;rw[U5] at e4 hG;have NY:fg [.int h,.int w] (M0++[.ins aQ [(fH,.int h),(fW,.int w)]])=.ok f (M0++.ins aQ [(fH,.int h),(fW,.int w)]::J):=e4;have NZ:LL (M0++.ins aQ [(fH,.int h),(fW,.int w)]::J) f (ar h w):=hG;refine aI<|oJ (v:=f) (a:=M0.length) (fs:=[(fH,.int h),(fW,.int w)]) (M1:=M0++.ins aQ [(fH,.int h),(fW,.int w)]::J) (M2:=M0++.ins aQ [(fH,.int h),(fW,.int w)]::J) ?_ rfl (d8 _ _ _) (by show 2<1000;decide) ?_
  ·simp only[ax,ak,ao,aj,R.bind,T',T5];exact NY
  rw[j4];generalize s:M0++O.ins aQ (bH fG f [(fH,.int h),(fW,.int w)])::J=N3;have p3:M0<+:N3:=by rw[<-s];exact j5 _ _ _
  have l3:N3.length=M0.length+1+J.length:=by rw[<-s];simp;omega
  refine aI<|oJ (v:=.ref N3.length) (a:=M0.length) (fs:=bH fG f [(fH,.int h),(fW,.int w)]) (M1:=N3++[.lst<|ss.map .int]) (M2:=N3++[.lst<|ss.map .int]) ?_ rfl (az (pre_app _ _) (by rw[<-s];exact d8 _ _ _)) (by show 3<1000;decide) ?_
  ·simp only[ax,ak,ao,aj,R.bind,T',T5];exact qK (aR.mono hs p3) (by rw[S];obtain⟨a1,T⟩:=eh D E;have:=UJ T T;omega)
  have e5:(N3++[O.lst<|ss.map .int]).set M0.length (.ins aQ<|bH fN (.ref N3.length)<|bH fG f [(fH,.int h),(fW,.int w)])=M0++.ins aQ (bH fN (.ref N3.length)<|bH fG f [(fH,.int h),(fW,.int w)])::(J++[.lst<|ss.map .int]):=by rw[<-s,m7,j4]
  rw[e5];refine aI<|oJ (v:=.ref<|N3.length+1) (a:=M0.length) (fs:=bH fN (.ref N3.length)<|bH fG f [(fH,.int h),(fW,.int w)]) (M1:=M0++.ins aQ (bH fN (.ref N3.length)<|bH fG f [(fH,.int h),(fW,.int w)])::(J++[.lst<|ss.map .int,.aD []])) (M2:=M0++.ins aQ (bH fN (.ref N3.length)<|bH fG f [(fH,.int h),(fW,.int w)])::(J++[.lst<|ss.map .int,.aD []])) ?_ rfl (d8 _ _ _) (by show 4<1000;decide) ?_
  ·show R.ok (W.ref _) _=_;rw[m7];simp[l3];omega
  rw[j4];have e6:M0++O.ins aQ (bH fC (.ref<|N3.length+1)<|bH fN (.ref N3.length)<|bH fG f [(fH,.int h),(fW,.int w)])::(J++[.lst<|ss.map .int,.aD []])=(M0++O.ins aQ (jD h w f (.ref N3.length)<|.ref<|N3.length+1)::J)++.lst (ss.map .int)::.aD []::[]:=by simp[bH]
  rw[e6];generalize g:M0++O.ins aQ (jD h w f (.ref N3.length)<|.ref<|N3.length+1)::J=N0;have l0:N0.length=N3.length:=by rw[<-g,l3];simp;omega
  rw[<-l0] at g;have p0:M0<+:N0:=by rw[<-g];exact j5 _ _ _
  have G:N0[M0.length]? =aa (.ins aQ<|jD h w f (.ref N0.length)<|.ref<|N0.length+1):=by
   conv=>lhs;rw[<-g]
   exact d8 _ _ _
  have jE:∀(b:Nat) (H:List W),(M0++O.ins aQ [(fH,.int h),(fW,.int w)]::J)[b]? =aa (.lst H)->N0[b]? =aa (.lst H):=λb H e=>by
   by_cases hb:b=M0.length
   ·subst hb;rw[d8] at e;cases e
   ·have e1:(M0++O.ins aQ [(fH,.int h),(fW,.int w)]::J).set M0.length (O.ins aQ<|jD h w f (.ref N0.length)<|.ref<|N0.length+1)=N0:=by rw[j4];exact g
    rw[<-e1,Uz<|Uq hb];exact e
  have lJ:(M0++O.ins aQ [(fH,.int h),(fW,.int w)]::J).length=N0.length:=by rw[l0,l3];simp;omega
  have I:∀K:Mem,gJ N0.length (N0++K) f (ar h w):=λK=>LL.NX NZ (V4 lJ) λb H e=>az (pre_app _ _)<|jE b H e
  obtain⟨b,rfl,hb⟩:=hs;have C:∀K:Mem,(N0++K)[b]? =aa (.lst<|ss.map .int):=λK=>az (p0.trans<|pre_app _ _) hb
  refine qU (aO:=eV 0<|ss.map .int) (c:=[(b,.lst<|ss.map .int)]) (M1:=N0++.lst (ss.map .int)::.aD []::[]) ?_ (λj σ M'=>(∃x y,σ=[aa<|.ref M0.length,aa<|.int h,aa<|.int w,aa<|.ref b,x,y])/\∃d K,M'=N0++.lst (ss.map .int)::.aD d::K/\d.length<=j/\(d.map (·.1)).Nodup/\
    ∀p:Int,(aS d p=ae/\¬(cK ss p/\p<(j:Int)))\/∃k,aS d p=aa (.ref k)/\cK ss p/\p<(j:Int)/\N0.length<k/\(N0++.lst (ss.map .int)::.aD d::K)[k]? =aa (.lst ((rowOf (ar h w) ss (h*w) p).map .int)))
   ⟨⟨_,_,rfl⟩,[],[],rfl,by simp,by simp,λp=>.inl ⟨rfl,λz=>by have:=z.1.1;have:=z.2;omega⟩⟩ ?_ ?_
  ·show(pA<|aj 3) _ _=_;simp only[pA,aj,R.bind,T',T5,eU,C]
  ·rintro j x σ M' hx ⟨⟨x',y',rfl⟩,d,K,rfl,hk,se,hv⟩;obtain⟨w',N1,rfl⟩:=mK _ _ _ _ hx;obtain⟨v,Sg,rfl,A⟩:=gS N1;have Z:j<ss.length:=(T6.mp A).1;have nj:aB ss (j:Int)=v:=by rw[lH Z];rw[VW Z] at A;exact Ua A
   refine⟨by simp[bJ.ok,C],_,_,_,_,oE _ _ _,rG,?_⟩;simp only[T9,T7,Nat.zero_add];generalize o:N0++O.lst (ss.map .int)::.aD d::K=N at hv⊢;have pN:N0<+:N:=by rw[<-o];exact pre_app _ _
   have nN:N[N0.length]? =aa (.lst<|ss.map .int):=by rw[<-o];exact(eP _ _ _ _).1
   have cN:N[N0.length+1]? =aa (.aD d):=by rw[<-o];exact(eP _ _ _ _).2
   refine bp (c:=ai<|v=0) (M1:=N++[.tup [.int (j:Int),.int v]]) ?_ (λhc=>?_) λhc=>?_
   ·exact bZ<|bx rfl rfl eq_int
   ·have t:v=0:=UD hc;have B:=az (pN.trans<|pre_app N [.tup [.int (j:Int),.int v]]) G;obtain⟨k,M2,e2,⟨L,rfl⟩,kR,P⟩:=hn (p:=j) D E (by rw[<-S];exact Z) B rfl rfl rfl rfl (by rw[<-o,U5];exact(I _).ll) ⟨_,rfl,az (pre_app _ _) nN⟩ S;rw[Ft D E (by rw[<-S];exact Z) (by rw[nj];exact t)] at P;have V:(N++[O.tup [.int (j:Int),.int v]]++L)[N0.length+1]? =aa (.aD d):=az ((pre_app _ _).trans<|pre_app _ _) cN;have RH:aS d (j:Int)=ae:=by
     rcases hv (j:Int) with⟨e,_⟩|⟨_,_,_,z,_⟩
     ·exact e
     ·omega
    refine oG (i:=(j:Int)) (v:=.ref k) (a:=N0.length+1) (kvs:=d) (M1:=N++[.tup [.int (j:Int),.int v]]++L) (M2:=N++[.tup [.int (j:Int),.int v]]++L) (M3:=N++[.tup [.int (j:Int),.int v]]++L) ?_ ?_ rfl V (by have n4:ss.length<=81:=(by rw[S];obtain⟨a1,T⟩:=eh D E;exact UJ T T);omega) ?_
    ·simp only[dW,aj,R.bind,T',T5,jn,mU B,ak,ao];exact e2
    ·exact cg rfl (az (pre_app _ _) B) rfl
    ·refine⟨⟨_,_,rfl⟩,dput d (j:Int)<|.ref k,K++[.tup [.int (j:Int),.int v]]++L,?_,?_,xC _ se,λp=>?_⟩
     ·rw[<-o];simp only[U5,U',UK];exact oF _ _ _ _ _
     ·have:=qL d (j:Int)<|.ref k;omega
     ·have hE:N0++O.lst (ss.map .int)::.aD (dput d (j:Int)<|.ref k)::(K++[.tup [.int (j:Int),.int v]]++L)=(N++[O.tup [.int (j:Int),.int v]]++L).set (N0.length+1) (.aD<|dput d (j:Int)<|.ref k):=by rw[<-o];simp only[U5,U',UK];exact(oF _ _ _ _ _).symm
      have Q:∀(m:Nat) (l:List W),(N++[O.tup [.int (j:Int),.int v]]++L)[m]? =aa (.lst l)->((N++[O.tup [.int (j:Int),.int v]]++L).set (N0.length+1)<|.aD<|dput d (j:Int)<|.ref k)[m]? =aa (.lst l):=λm l e=>by
       have:m≠N0.length+1:=by rintro rfl;rw[V] at e;cases e
       rw[Uz<|Uq this];exact e
      rw[mS,hE];by_cases Y:p=(j:Int)
      ·subst Y;rw[T1 rfl];refine .inr ⟨k,rfl,⟨Wf _,by omega,by rw[nj];exact t⟩,by omega,?_,Q _ _ P⟩;have:N.length=N0.length+2+K.length:=by rw[<-o];simp;omega
       simp at kR;omega
      ·rw[T2 Y];rcases hv p with⟨e,z⟩|⟨m,e,X,z2,F,U⟩
       ·exact .inl ⟨e,λu=>z ⟨u.1,by have:=u.2;omega⟩⟩
       ·exact .inr ⟨m,e,X,by omega,F,Q _ _<|az ((pre_app _ _).trans<|pre_app _ _) U⟩
   ·have t:v≠0:=Vi hc;refine⟨⟨_,_,rfl⟩,d,K++[.tup [.int (j:Int),.int v]],?_,by omega,se,λp=>?_⟩
    ·rw[<-o];simp
    ·have hE:N0++O.lst (ss.map .int)::.aD d::(K++[.tup [.int (j:Int),.int v]])=N++[.tup [.int<|j,.int v]]:=by rw[<-o];simp
     rw[hE];rcases hv p with⟨e,z⟩|⟨m,e,X,z2,F,U⟩
     ·refine .inl ⟨e,λu=>?_⟩;by_cases Y:p=(j)
      ·subst Y;exact t (by rw[<-nj];exact u.1.2.2)
      ·exact z ⟨u.1,by omega⟩
     ·exact .inr ⟨m,e,X,by omega,F,az (pre_app _ _) U⟩
  ·rintro σ M' ⟨⟨x,y,rfl⟩,d,K,rfl,hk,se,hv⟩;refine⟨by simp[bJ.ok,C],rfl,N0.length,N0.length+1,p0.trans<|pre_app _ _,⟨⟨f,az (pre_app _ _) G,I _⟩,(eP _ _ _ _).1,d,(eP _ _ _ _).2,?_,se,λp=>?_⟩,?_,?_⟩
   ·rw[mL,Ub] at hk;exact hk
   ·rcases hv p with⟨e,z⟩|⟨m,e,X,z2,F,U⟩
    ·refine .inl ⟨e,λu=>z ⟨u,?_⟩⟩;rw[mL,Ub];exact u.2.1
    ·exact .inr ⟨m,e,X,F,U⟩
   ·rw[<-g];simp
   ·rw[<-g];simp;omega
 obtain⟨r,M',e,rfl,n,c,q⟩:=key;exact⟨M',n,c,e,q⟩
def j6{M M':Mem}(h:M<+:M')(b:M.length<=a)(o):M<+:M'.set a o:=by obtain⟨J,rfl⟩:=h;rw[W8 _ _ b];exact pre_app _ _
structure lI(M:Mem)(M':Mem)(kvs:List<|Int×W)(F:Int->List Int):Prop where
 pre:M<+:M'
 at_:M'[M.length]? =aa (.aD kvs)
 nd:(kvs.map (·.1)).Nodup
 val:∀m,(aS kvs m=ae/\F m=[])\/∃k,aS kvs m=aa (.ref k)/\F m≠[]/\M.length<k/\M'[k]? =aa (.lst<|(F m).map .int)
 inj:∀m m' k,aS kvs m=aa (.ref k)->aS kvs m'=aa (.ref k)->m=m'
noncomputable def jt(F:Int->List Int)(n f:Int):Int->List Int:=λm=>if m=n then F m++[f] else F m
def D5{M M':Mem}{kvs:List (Int×W)}{F:Int->List Int}(I:lI M M' kvs F){σ:St}{n f:Int}(H:σ[2]? =aa (aa<|.ref M.length))(A:σ[4]? =aa (aa<|.int n))(h3:σ[3]? =aa (aa<|.int f))(J:kvs.length<1000)(K:(F n).length<1000):∃r g,bo dc (eM gA (aj 2) (aj 4)<|aP<|ao) (ak (aj 3) ao) σ M'=.ok .aw r/\lI M r g (jt F n f)/\g.length<=kvs.length+1:=by
 have w:M.length<M'.length:=(T6.mp I.at_).1;have E:bu [] M'=.ok (.ref M'.length) (M'++[.lst []]):=cm<|by decide
 have j:(M'++[O.lst []])[M.length]? =aa (.aD kvs):=az (pre_app _ _) I.at_;have z:eM gA (aj 2) (aj 4) (aP<|ao) σ M'=gA (.ref M.length) (.int n) (.ref M'.length) (M'++[.lst []]):=by simp only[eM,aj,H,A,R.bind,lE I.at_,Ul,aP,ao,E]
 rcases I.val n with⟨e,y⟩|⟨k,e,y,hk,hL⟩
 ·have d:gA (.ref M.length) (.int n) (.ref M'.length) (M'++[.lst []])=.ok (.ref M'.length) ((M'++[O.lst []]).set M.length<|O.aD<|kvs++[(n,W.ref M'.length)]):=by simp only[gA,er j,e];rw[T1 (by show _<16777216;omega),uL _ e]
  generalize u:(M'++[O.lst []]).set M.length (O.aD<|kvs++[(n,W.ref M'.length)])=N at d;have p:N[M'.length]? =aa (.lst []):=by rw[<-u,Uz<|by omega];exact bV _ _
  have C:N[M.length]? =aa (.aD<|kvs++[(n,W.ref M'.length)]):=by rw[<-u,UH (by simp;omega)]
  have x:∀(b:Nat) (o:O),b≠M.length->M'[b]? =aa o->N[b]? =aa o:=λb o D q=>by rw[<-u,Uz<|Uq D];exact az (pre_app _ _) q
  have B:M<+:N:=by rw[<-u];exact j6 (I.pre.trans<|pre_app _ _) (T8 _) _
  refine⟨N.set M'.length<|.lst [.int f],kvs++[(n,W.ref M'.length)],?_,⟨j6 B (by omega) _,?_,xB _ e I.nd,λm=>?_,λm v k i c=>?_⟩,by simp⟩
  ·simp only[bo,z,d,R.bind,dj p,ak,ao,aj,h3];exact qA p<|by decide
  ·rw[Uz<|by omega];exact C
  ·rw[qD _ _ _ _ e];by_cases l:m=n
   ·subst l;refine .inr ⟨M'.length,T1 rfl,?_,w,?_⟩
    ·unfold jt;rw[T1 rfl];simp
    ·rw[UH (T6.mp p).1];unfold jt;rw[T1 rfl,y];rfl
   ·rw[T2 l];unfold jt;rw[T2 l];rcases I.val m with⟨a,h⟩|⟨k,a,h,k2,L2⟩
    ·exact .inl ⟨a,h⟩
    ·refine .inr ⟨k,a,h,k2,?_⟩;have:k<M'.length:=(T6.mp L2).1;rw[Uz<|by omega];exact x _ _ (by omega) L2
  ·rw[qD _ _ _ _ e] at i c;have s:∀m,aS kvs m≠aa (.ref M'.length):=λm q=>by
    rcases I.val m with⟨a,_⟩|⟨k,a,_,_,L2⟩
    ·rw[a] at q;cases q
    ·rw[a] at q;cases q;have:M'.length<M'.length:=(T6.mp L2).1;omega
   by_cases t:m=n
   ·by_cases a:v=n
    ·rw[t,a]
    ·rw[T1 t] at i;rw[T2 a] at c;cases i;exact(s v c).elim
   ·by_cases a:v=n
    ·rw[T2 t] at i;rw[T1 a] at c;cases c;exact(s m i).elim
    ·rw[T2 t] at i;rw[T2 a] at c;exact I.inj m v k i c
 ·have d:gA (.ref M.length) (.int n) (.ref M'.length) (M'++[.lst []])=.ok (.ref k) (M'++[.lst []]):=by simp only[gA,er j,e]
  have p:(M'++[O.lst []])[k]? =aa (.lst<|(F n).map .int):=az (pre_app _ _) hL;have G:=(T6.mp hL).1;refine⟨(M'++[O.lst []]).set k<|O.lst<|(F n).map W.int++[W.int f],kvs,?_,⟨j6 (I.pre.trans<|pre_app _ _) (by omega) _,?_,I.nd,λm=>?_,I.inj⟩,by omega⟩
  ·simp only[bo,z,d,R.bind,dj p,ak,ao,aj,h3];exact qA p (by rw[Ub];omega)
  ·rw[Uz<|by omega];exact j
  ·by_cases l:m=n
   ·subst l;refine .inr ⟨k,e,?_,hk,?_⟩
    ·unfold jt;rw[T1 rfl];simp
    ·rw[UH (by simp;omega)];unfold jt;rw[T1 rfl,Wb];rfl
   ·unfold jt;rw[T2 l];rcases I.val m with⟨a,h⟩|⟨k2,a,h,c,L2⟩
    ·exact .inl ⟨a,h⟩
    ·refine .inr ⟨k2,a,h,c,?_⟩;have:k2≠k:=by rintro rfl;exact l<|I.inj m n k2 a e
     rw[Uz<|Uq this];exact az (pre_app _ _) L2
def xv(G)(ss)(s)(p):(rowOf G ss s p).Nodup:=by
 have h:(nums s).Nodup:=by unfold nums;rw[XH,List.pairwise_map];refine List.Pairwise.imp ?_<|XH.mp List.nodup_range;intro a b h e;omega
 exact List.Nodup.sublist List.filter_sublist h
def C8(l:List Int)(b:l.Nodup)(m f:Int):(l.filter (·==m)).map (λ_=>f)=if l.any (·==m) then[f] else[]:=by
 induction l with
 |nil=>rfl
 |cons x r a=>
  rw[U9] at b;have a:=a b.2;rw[Vg,U4];by_cases e:x=m
  ·subst e;have:r.any (·==x)=ag:=by
    rw[UN];intro h;obtain⟨y,c,d⟩:=Uc.mp h;have:=by simpa using d
    exact b.1<|this▸c
   rw[this] at a;simp only[V0,Ul,Uo,a,VU];rfl
  ·have:(x==m)=ag:=by simpa using e
   simp only[this,UM,UG,Vw,a]
def jk(h0:0<=p)(b:p<(ss.length:Int)):(tabOf G ss s).getD p.toNat []=rowOf G ss s p:=by
 have a:p.toNat<ss.length:=by omega
 unfold tabOf;simp[List.getD,a,Int.toNat_of_nonneg h0]
def zC{e:EM}{k:Nat}{b:SM}{σ:St}{M M1:Mem}{v:W}{q:au}(l:e σ M=.ok v M1)(d:aR M1 v [])(h:q.nx σ M1):(bM (b0 e) (ay k) b σ M).Sat q:=
 fE l d (λj a c=>a=σ/\c=M1) ⟨rfl,rfl⟩ (λj a c _ ⟨_,e⟩=>e▸d) (λj x a c i _=>by simp at i) λa c ⟨g,f⟩=>by rw[g,f];exact h
def oo(l:List α)(p)(j){x:α}(h:l[j]? =aa x):(l.take<|j+1).filter p=(l.take j).filter p++if p x then[x] else[]:=by rw[VZ,h,List.filter_append];cases e:p x<;>simp[e]
noncomputable def uq(f:CM):Prop:=∀(M) (a n c h w) (d) (g),1<=h/\h<=3->1<=w/\w<=3->bL M a n c h w d->aY (h*w) d->0<=g->g<((ar h w).length:Int)->
 ∃e b,f [.ref a,.int g] M=.ok (.ref M.length) e/\lI M e b (λm=>de (ar h w) (tabOf (ar h w) d<|h*w) g m)/\b.length<=81
def uN:uq PB.ja:=by
 intro M a n c h w d g hh hw S sh U Y;have sl:=sh.len;obtain⟨s1,s9⟩:=eh hh hw;obtain⟨⟨vG,ob,jE⟩,hN,kc,hc,n5,sf,n6⟩:=S;have hG:=jE.ll;obtain⟨BA,B⟩:=gx hh hw _<|getD_mem U Y;have T:∃r l,PB.ja [.ref a,.int g] M=.ok r l/\(r=.ref M.length/\∃b,lI M l b (λm=>de (ar h w) (tabOf (ar h w) d<|h*w) g m)/\b.length<=81):=by
  refine bT rfl ?_;show(av _ _ [aa<|.ref a,aa<|.int g,ae,ae,ae] M).Sat _;refine aI<|bC (v:=.ref M.length) (M1:=M++[.aD []]) rfl ?_;simp only[T9,T7];refine aI ?_;obtain⟨wg,A,Q⟩:=rF (hG.mono<|pre_app M [.aD []]) U Y;have J:aT M wg ((ar h w).getD g.toNat []):=by
   obtain⟨w2,e2,N⟩:=rF hG U Y;obtain⟨ws,D,hA⟩:=hG;simp only[aA,D.bD,(aR.mono D<|pre_app M [.aD []]).bD] at A e2;cases q:cH ws g with
   |none=>rw[q] at A;cases A
   |some z=>rw[q] at A e2;cases A;cases e2;exact N
  generalize P:(ar h w).getD g.toNat []=gr at*;refine fE (v:=wg) (xs:=gr.map .int) (M1:=M++[O.aD []]) (bx (cg rfl (az (pre_app _ _) ob) rfl) rfl A) Q (λj s l=>(∃x y,s=[aa<|.ref a,aa<|.int g,aa<|.ref M.length,x,y])/\∃b,lI M l b (λm=>(gr.take j).filter λp=>(rowOf (ar h w) d (h*w) p).any (·==m))/\b.length<=9*j)
   ⟨⟨_,_,rfl⟩,[],⟨pre_app _ _,bV _ _,by simp,λm=>.inl ⟨rfl,rfl⟩,λm m' k q=>by cases q⟩,by simp⟩ ?_ ?_ ?_
  ·rintro j s l hj ⟨_,b,I,_⟩;exact aR.mono J I.pre
  ·rintro j x s l hx ⟨⟨x',y',rfl⟩,b,I,hk⟩;obtain⟨f,hf,rfl,u⟩:=gS hx;obtain⟨f0,f1⟩:=B f hf;have jl:j<gr.length:=(T6.mp u).1;simp only[T9,T7];have Z:f<(d.length:Int):=by rw[sl];exact f1
   have K:=az I.pre ob;have F:=az I.pre hc;have G:bu [] l=.ok (.ref l.length) (l++[.lst []]):=cm<|by decide
   have X:=az (pre_app l [.lst []]) F;have H:eM dg (aM aQ fC<|aj 0) (aj 3) (aP<|ao) [aa<|.ref a,aa<|.int g,aa<|.ref M.length,aa<|.int f,y'] l=.ok ((aS kc f).getD<|.ref l.length) (l++[.lst []]):=by have e1:aM aQ fC (aj 0) [aa<|.ref a,aa<|.int g,aa<|.ref M.length,aa<|.int f,y'] l=.ok (.ref c) l:=cg rfl K rfl;simp only[eM,e1,R.bind,lE F,Ul,aj,T',T5,aP,ao,G,dg,er X]
   have L:lI M (l++[.lst []]) b (λm=>(gr.take j).filter λp=>(rowOf (ar h w) d (h*w) p).any (·==m)):=
    ⟨I.pre.trans<|pre_app _ _,az (pre_app _ _) I.at_,I.nd,λm=>by
     rcases I.val m with z|⟨k,q1,q2,q3,q4⟩
     ·exact .inl z
     ·exact .inr ⟨k,q1,q2,q3,az (pre_app _ _) q4⟩,I.inj⟩
   rcases n6 f with⟨e,hE⟩|⟨k,e,hE,kR,D⟩
   ·rw[e] at H;refine zC H ⟨_,rfl,bV _ _⟩ ⟨⟨_,_,rfl⟩,b,?_,by omega⟩;have hz:aB d f≠0:=λz=>hE ⟨f0,Z,z⟩
    have:(λm=>(gr.take<|j+1).filter λp=>(rowOf (ar h w) d (h*w) p).any (·==m))=λm=>(gr.take j).filter λp=>(rowOf (ar h w) d (h*w) p).any (·==m):=by funext m;rw[oo _ _ _ u,qV hz];simp
    rw[this];exact L
   ·rw[e] at H;refine fE H ⟨k,rfl,az L.pre D⟩ (λi s t=>(∃y,s=[aa<|.ref a,aa<|.int g,aa<|.ref M.length,aa<|.int f,y])/\∃b,lI M t b (λm=>((gr.take j).filter λp=>(rowOf (ar h w) d (h*w) p).any (·==m))++(((rowOf (ar h w) d (h*w) f).take i).filter (·==m)).map (λ_=>f))/\b.length<=9*j+i)
     ⟨⟨_,rfl⟩,b,by simpa using L,by omega⟩ ?_ ?_ ?_
    ·rintro i s t hi ⟨_,b,I2,_⟩;exact⟨k,rfl,az I2.pre D⟩
    ·rintro i x s t wL ⟨⟨y,rfl⟩,b,I2,n7⟩;obtain⟨o,N5,rfl,E⟩:=gS wL;simp only[T9,T7];have il:i<(rowOf (ar h w) d (h*w) f).length:=(T6.mp E).1;have rl:=lC (ar h w) d (h*w) f;have fl:(((gr.take j).filter λp=>(rowOf (ar h w) d (h*w) p).any (·==o))++(((rowOf (ar h w) d (h*w) f).take i).filter (·==o)).map (λ_=>f)).length<1000:=by rw[Ur,Ub];have a1:=Vh (λp=>(rowOf (ar h w) d (h*w) p).any (·==o))<|gr.take j;have a2:=Vh (·==o)<|(rowOf (ar h w) d (h*w) f).take i;rw[Vm] at a1 a2;omega
     obtain⟨M3,C,e3,I3,l3⟩:=D5 I2 (σ:=[aa<|.ref a,aa<|.int g,aa<|.ref M.length,aa<|.int f,aa<|.int o]) (n:=o) (f:=f) rfl rfl rfl (by omega) fl;refine dt e3 ⟨⟨_,rfl⟩,C,?_,by omega⟩;have:jt (λm=>((gr.take j).filter λp=>(rowOf (ar h w) d (h*w) p).any (·==m))++(((rowOf (ar h w) d (h*w) f).take i).filter (·==m)).map (λ_=>f)) o f=λm=>((gr.take j).filter λp=>(rowOf (ar h w) d (h*w) p).any (·==m))++(((rowOf (ar h w) d (h*w) f).take<|i+1).filter (·==m)).map (λ_=>f):=by
      funext m;unfold jt;rw[oo _ _ _ E];by_cases V:m=o
      ·subst V;simp
      ·rw[T2 V];have:(o==m)=ag:=by simpa usingλz:o=m=>V z.symm
       simp[this]
     rw[<-this];exact I3
    ·rintro s t ⟨⟨y,rfl⟩,b,I2,n7⟩;have rl:=lC (ar h w) d (h*w) f;rw[Ub] at n7;refine⟨⟨_,_,rfl⟩,b,?_,by omega⟩;have:(λm=>((gr.take j).filter λp=>(rowOf (ar h w) d (h*w) p).any (·==m))++(((rowOf (ar h w) d (h*w) f).take ((rowOf (ar h w) d (h*w) f).map W.int).length).filter (·==m)).map (λ_=>f))=λm=>(gr.take<|j+1).filter λp=>(rowOf (ar h w) d (h*w) p).any (·==m):=by funext m;rw[oo _ _ _ u,Ub,UX,C8 _<|xv _ _ _ _]
     rw[<-this];exact I2
  ·rintro s l ⟨⟨x,y,rfl⟩,b,I,hk⟩;dsimp only;refine bt rfl ⟨rfl,b,?_,by rw[Ub] at hk;omega⟩;have:(λm=>(gr.take (gr.map W.int).length).filter λp=>(rowOf (ar h w) d (h*w) p).any (·==m))=λm=>de (ar h w) (tabOf (ar h w) d<|h*w) g m:=by
    funext m;rw[Ub,UX];unfold de;rw[P];refine Xi λp hp=>?_
    obtain⟨p0,p1⟩:=B p hp;rw[jk p0 (by rw[sl];exact p1)]
   rw[<-this];exact I
 obtain⟨r,l,e,rfl,b,q⟩:=T;exact⟨l,b,e,q⟩
def bL.mono(S:bL M a n c h w ss)(p:M<+:M'):bL M' a n c h w ss:=by
 obtain⟨⟨g,s,i,⟨b,e,d,q⟩,r⟩,t,f,j,l,o,m⟩:=S;refine⟨⟨g,az p s,i,⟨b,e,d,az p q⟩,r.imp λw u ⟨b,e,d,q⟩=>⟨b,e,d,az p q⟩⟩,az p t,f,az p j,l,o,λx=>?_⟩;rcases m x with z|⟨k,e1,e2,e3,e4⟩
 ·exact .inl z
 ·exact .inr ⟨k,e1,e2,e3,az p e4⟩
def zD(h:M[a]? =aa (.lst ws)):oEq .aw (.ref a) M=.ok (.bl ag) M:=by
 have c:dU M .aw (.ref a)=ae:=by unfold dU;simp only[dQ,UM,UG,a9,cu]
 have b:pO M .aw (.ref a)=af:=by simp only[pO,iJ,dj h,Wt,Bool.and_self]
 simp only[oEq,c,b,Ul]
def Fu(S:bL M a n c h w ss)(g):PB.gR [.ref a,.int g] M=.ok (.bl<|ai (0<=g)&&ai (g<((ar h w).length:Int))) M:=by
 obtain⟨⟨i,k,b⟩,_,_⟩:=S;have j:ax bP (ak (aM aQ fG<|aj 0) ao) [aa<|.ref a,aa<|.int g] M=.ok (.int (ar h w).length) M:=by have l:aM aQ fG (aj 0) [aa<|.ref a,aa<|.int g] M=.ok i M:=cg rfl k rfl;simp only[ax,ak,ao,l,R.bind,Am b.ll]
 have d:∃r f,PB.gR [.ref a,.int g] M=.ok r f/\(r=.bl (ai (0<=g)&&ai (g<((ar h w).length:Int)))/\f=M):=by
  refine bT rfl<|bt ?_ ⟨rfl,rfl⟩;show o3 oLe oLt (eC<|.int 0) (aj 1) (ax bP<|ak (aM aQ fG<|aj 0) ao) [aa<|.ref a,aa<|.int g] M=_;simp only[o3,eC,aj,R.bind,T',T5,le_int];cases ai (0<=g) with
  |true=>simp only[Ul,j,lt_int,VJ]
  |false=>simp only[UM,UG,VR]
 obtain⟨r,f,e,rfl,rfl⟩:=d;exact e
def jb:fk ss p=af↔cK ss p:=by unfold fk cK;simp only[UP,Vj,Vk,Wx,UQ];omega
def m8(h:m∈rowOf G ss s p):aB ss p=0/\1<=m/\m<=(s)/\eI G ss p m=ag:=by unfold rowOf at h;obtain⟨c,a⟩:=UT.mp h;obtain⟨k,b,rfl⟩:=Us.mp c;have:=UL.mp b;simp only[T_,UQ,UP] at a;exact⟨a.1,by omega,by omega,a.2⟩
def yC{G:List (List Int)}{ss:List Int}{s:Nat}{g p m:Int}(k:0<=g)(n:g<(G.length:Int))(o:p∈G.getD g.toNat [])(c:m∈rowOf G ss s p):hU G ss g m s=af:=by
 obtain⟨z,r,t,i⟩:=m8 c;have j:=getD_mem k n;have b:(G.getD g.toNat []).any (λq=>ai<|aB ss q=m)=ag:=by
  rw[UN];intro h;obtain⟨q,d,e⟩:=Uc.mp h;have f:aB ss q=m:=UD e;by_cases a:q=p
  ·subst a;omega
  ·have:eI G ss p m=af:=by unfold eI kH;refine Uc.mpr ⟨_,j,?_⟩;rw[T_,Uc,Uc];exact⟨⟨p,o,by simp⟩,q,d,by simp[a,f]⟩
   rw[i] at this;cases this
 unfold hU;have l:((G.getD g.toNat []).map<|aB ss).any (·==m)=ag:=by rw[W4,<-b];congr 1
 simp only[l];simp only[T_,UP,Vj,Vk,Xj,and_true];omega
noncomputable def qM(f:CM):Prop:=∀(M) (a n c h w) (d) (b) (g),1<=h/\h<=3->1<=w/\w<=3->bL M a n c h w d->aY (h*w) d->jq M b g->
 ∃e,f [.ref a,b] M=.ok (.bl<|hV (ar h w) d (tabOf (ar h w) d<|h*w) (h*w) g) e/\M<+:e
def zF{l:CM}(hH:uq l):qM (PB.lh PB.gR l):=by
 intro M a n c h w i d st hh hw S sh f;have L:∃r F,PB.lh PB.gR l [.ref a,d] M=.ok r F/\(r=.bl (hV (ar h w) i (tabOf (ar h w) i<|h*w) (h*w) st)/\M<+:F):=by
  refine bT rfl ?_;show(av _ _ [aa<|.ref a,aa d] M).Sat _;have S0:=S;obtain⟨⟨vG,ob,jE⟩,hN,kc,hc,n5,sf,Z⟩:=S0;cases st with
  |fld p m=>
   have N:aq aA (aj 1) (eC<|.int 0) [aa<|.ref a,aa d] M=.ok rm M:=bx rfl rfl<|eR f 0 rfl;have i1:aq aA (aj 1) (eC<|.int 1) [aa<|.ref a,aa d] M=.ok (.int p) M:=bx rfl rfl<|eR f 1 rfl;refine aI<|bp (c:=af) (M1:=M) (bZ<|bx N rfl<|eq_str _ _) (λ_=>?_) λz=>nomatch z
   have T:aM aQ fC (aj 0) [aa<|.ref a,aa d] M=.ok (.ref c) M:=cg rfl ob rfl;have o:iq (λx y=>dg x y .aw) (aM aQ fC<|aj 0) (aq aA (aj 1)<|eC<|.int 1) [aa<|.ref a,aa d] M=.ok ((aS kc p).getD .aw) M:=by simp only[iq,T,R.bind,lE hc,Ul,i1,dg,er hc]
   have i2:aq aA (aj 1) (eC<|.int 2) [aa<|.ref a,aa d] M=.ok (.int m) M:=bx rfl rfl<|eR f 2 rfl;have H:=zy i2;rw[qr];rcases Z p with⟨e,s⟩|⟨k,e,s,kR,hL⟩
   ·rw[e] at o;refine bt (bx o H<|zD<|bV _ _) ⟨?_,pre_app _ _⟩;have:fk i p=ag:=by rw[UN];exactλz=>s<|jb.mp z
    rw[this,VR]
   ·rw[e] at o;have q:=va (M:=M++[O.lst [W.int m]]) (u:=.ref k) (v:=.ref M.length) (xs:=rowOf (ar h w) i (h*w) p) (ys:=[m]) ⟨k,rfl,az (pre_app _ _) hL⟩<|aR.new M [.int m];refine bt (bx o H q) ⟨?_,pre_app _ _⟩;rw[jb.mpr s,jk s.1 s.2.1,VJ]
  |dV p m g=>
   have N:aq aA (aj 1) (eC<|.int 0) [aa<|.ref a,aa d] M=.ok o5 M:=bx rfl rfl<|eR f 0 rfl;have i3:aq aA (aj 1) (eC<|.int 3) [aa<|.ref a,aa d] M=.ok (.int g) M:=bx rfl rfl<|eR f 3 rfl;refine aI<|bp (c:=ag) (M1:=M) (bZ<|bx N rfl<|eq_str _ _) (λz=>nomatch z) λ_=>?_
   refine du ?_;dsimp only;have E:ax PB.gR (ak (aj 0)<|ak (aq aA (aj 1)<|eC<|.int 3) ao) [aa<|.ref a,aa d] M=.ok (.bl<|ai (0<=g)&&ai (g<((ar h w).length:Int))) M:=by simp only[ax,ak,ao,i3,aj,R.bind,T',T5,Fu S g]
   rw[qt];by_cases Y:0<=g/\g<((ar h w).length:Int)
   ·obtain⟨J,K⟩:=Y;rw[UA J,UA K] at E;obtain⟨M1,A,T,I,hk⟩:=hH M a n c h w i g hh hw S sh J K;have Q:=I.pre;have D:jq M1 d (.dV p m g):=aH.mono f Q;have j2:aq aA (aj 1) (eC<|.int 2) [aa<|.ref a,aa d] M1=.ok (.int m) M1:=bx rfl rfl<|eR D 2 rfl;have j1:aq aA (aj 1) (eC<|.int 1) [aa<|.ref a,aa d] M1=.ok (.int p) M1:=bx rfl rfl<|eR D 1 rfl;have eH:ax l (ak (aj 0)<|ak (aq aA (aj 1)<|eC<|.int 3) ao) [aa<|.ref a,aa d] M=.ok (.ref M.length) M1:=by simp only[ax,ak,ao,i3,aj,R.bind,T',T5,T]
    have o:iq (λx y=>dg x y .aw) (ax l<|ak (aj 0)<|ak (aq aA (aj 1)<|eC<|.int 3) ao) (aq aA (aj 1)<|eC<|.int 2) [aa<|.ref a,aa d] M=.ok ((aS A m).getD .aw) M1:=by simp only[iq,eH,R.bind,lE I.at_,Ul,j2,dg,er I.at_]
    have H:=zy j1;have C:∀{b:Bool},oEq ((aS A m).getD .aw) (.ref M1.length) (M1++[.lst [.int p]])=.ok (.bl b) (M1++[.lst [.int p]])->
     eG (ax PB.gR<|ak (aj 0)<|ak (aq aA (aj 1)<|eC<|.int 3) ao) (aq oEq (iq (λx y=>dg x y .aw) (ax l<|ak (aj 0)<|ak (aq aA (aj 1)<|eC<|.int 3) ao)<|aq aA (aj 1)<|eC<|.int 2)<|aP<|ak (aq aA (aj 1)<|eC<|.int 1) ao) [aa<|.ref a,aa d] M=.ok (.bl b) (M1++[.lst [.int p]]):=λ{b} hb=>by
     have:=bx o H hb;simp only[eG,E,R.bind,Bool.and_self,Ul];exact this
    rcases I.val m with⟨e,G⟩|⟨k,e,G,kR,hL⟩
    ·refine bt (C (b:=ag) (by rw[e];exact zD<|bV _ _)) ⟨?_,Q.trans<|pre_app _ _⟩;have:ai (de (ar h w) (tabOf (ar h w) i<|h*w) g m=[p])=ag:=Ut (by rw[G];simp);rw[this,Vo,Vo]
    ·have q:=va (M:=M1++[O.lst [W.int p]]) (u:=.ref k) (v:=.ref M1.length) (xs:=de (ar h w) (tabOf (ar h w) i<|h*w) g m) (ys:=[p]) ⟨k,rfl,az (pre_app _ _) hL⟩ (aR.new M1 [.int p]);refine bt (C (by rw[e];exact q)) ⟨?_,Q.trans<|pre_app _ _⟩;congr 1;by_cases U:de (ar h w) (tabOf (ar h w) i<|h*w) g m=[p]
     ·have hp:p∈de (ar h w) (tabOf (ar h w) i<|h*w) g m:=by rw[U];simp
      unfold de at hp;obtain⟨B,t⟩:=UT.mp hp;obtain⟨_,P⟩:=gx hh hw _<|getD_mem J K;obtain⟨p0,X⟩:=P p B;have j:p<(i.length:Int):=by rw[sh.len];exact X
      rw[jk p0 j] at t;obtain⟨y,hy,ey⟩:=Uc.mp t;have V:y=m:=by simpa using ey
      subst V;rw[UA U,yC J K B hy,jb.mpr ⟨p0,j,(m8 hy).1⟩];rfl
     ·rw[Ut U,Vo,Vo]
   ·have G:(ai (0<=g)&&ai (g<((ar h w).length:Int)))=ag:=by rw[UN,Ne,T_,UQ,UQ];exact Y
    rw[G] at E;refine bt (v:=.bl ag) ?_ ⟨?_,dJ _⟩
    ·simp only[eG,E,R.bind,UM,UG]
    ·have:hU (ar h w) i g m (h*w)=ag:=by rw[UN];intro z;obtain⟨z1,z2,_⟩:=yA z;exact Y ⟨z1,z2⟩
     rw[this,VR,Vo]
 obtain⟨r,F,e,rfl,q⟩:=L;exact⟨F,e,q⟩
noncomputable def gU(f:CM):Prop:=∀(h w) (M) (d) (a),1<=h/\h<=3->1<=w/\w<=3->aT M d a->aY (h*w) a->
 ∃b n c,f [.int h,.int w,d] M=.ok (.ref M.length) b/\M<+:b/\bL b M.length n c h w a/\M.length<n/\M.length<c
def Fv(hf:oK f):gU (PB.j3 f):=by intro h w M a b i d j g;obtain⟨k,n,c,e,q⟩:=hf h w M a b i d j g;refine⟨k,n,c,?_,q⟩;show jC aQ f [.int h,.int w,a] M=_;simp only[jC,e,R.bind]
def zG(a:Int){n:Nat}(h:0<n):0<=a % (n)/\a % (n)<(n):=⟨Vr _<|by omega,Vz _<|by omega⟩
noncomputable def sb(i vs m:W)(b a:Int)(s:Nat)(k j n l h f c g e d:Option W):St:=[aa i,aa vs,aa m,aa<|.int b,aa<|.int a,aa<|.int s,k,j,n,l,h,f,c,g,e,d]
def wM(c:1<=h/\h<=3)(b:1<=w/\w<=3):h*w<=9/\1<=h*w/\h*w*(h*w)<=81:=by
 have a:h*w<=9:=Ug (UJ c.2 b.2)<|by decide
 exact⟨a,VX c.1 b.1,Ug (UJ a a)<|by decide⟩
def iI(a:e σ M=.ok v M1)(h:(b (σ.set i<|aa v) M1).Sat q):(av (aJ e<|ay i) b σ M).Sat q:=aI<|bC a h
structure Start(h w:Nat)(M0:Mem)(vG vf:W)(fs:List Int)(M:Mem):Prop where
 hh:1<=h/\h<=3
 hw:1<=w/\w<=3
 pre:M0<+:M
 G:LL M vG (ar h w)
 F:aT M vf fs
 fl:fs.length=h*w*(h*w)
 fg:Good (h*w) fs
noncomputable def AZ(shape a b full:CM)(k:SM):SM:=av (
 aJ (ax shape (ak (aj 0) ao)) (cB [ay 1,ay 2])) (
 av (
  aJ (aq bB (aj 1) (aj 2)) (ay 3)) (
 av (
  aJ (ax b (ak (aj 1) (ak (aj 2) ao))) (ay 4)) (
 av (
  aJ (ax full (ak (aj 1) (ak (aj 2) (ak (ax a (ak (aj 0) (ak (eC (.int 1)) ao))) ao)))) (ay 5)) k)))
def HE{shape:CM}{b:Nat}(l:um b shape)(rest:St)(M0:Mem)(e:List Int)(c:dZ M0 e)(o:e.length<=63){k:SM}{q:au}(H:∀h w d a fs M,Start h w M0 d a fs M->h*w<=b->(k (aa (.ref 0)::aa (.int h)::aa (.int w)::aa (.int (h*w:Nat))::aa d::aa a::rest) M).Sat q): (AZ shape fj iA iB k (aa (.ref 0)::ae::ae::ae::ae::ae::rest) M0).Sat q:=by
 unfold AZ;obtain⟨F,M1,K,p,h,w,y,g,f,E⟩:=l M0 e c o;obtain⟨O,N,A⟩:=wM g f;refine aI (oT (v:=F) (M1:=M1) (M2:=M1) (bN:=aa (.ref 0)::aa (.int h)::aa (.int w)::ae::ae::ae::rest) (by walk_at "ev";exact K) (by simp only[cB,y.cu,jo,ay,R.bind,UE,U_,Ul,T9,T7]) ?_);have x:=cU (M:=M1) (i:=(h)) (j:=(w))<|by omega
 refine iI (v:=.int ((h)*w)) (M1:=M1) (by walk_at "ev";simp only[x]) ?_;obtain⟨d,M2,D,n,G⟩:=Cm h w M1 g f;refine iI (by walk_at "ev";exact D) ?_;have J:=(c.mono p).mono n;obtain⟨z,I,C,m⟩:=lT e M2 1 J o;obtain⟨a,r,L,s,fs,B,u,t⟩:=Hu h w z I g f;refine iI (v:=a) (M1:=r) (by walk_at "ev";simp only[C,L]) ?_;exact H h w d a fs r ⟨g,f,p.trans<|n.trans<|m.trans s,G.mono<|m.trans s,B,u,t⟩ E
def M8(s:Int):∃i:Int,(if ai ((3)<s)=af then(1) else 0)+(if ai ((4)<s)=af then(1) else 0)=i/\0<=i/\i<3/\0<aB [7,4,3] i/\(4<s->aB [7,4,3] i=3):=by refine⟨_,rfl,?_⟩;by_cases a:(3)<s<;>by_cases b:(4)<s<;>simp[a,b,aB]<;>omega
noncomputable def Ao(at':CM):EM:=aq oMod (ax at'<|ak (aj 0)<|ak (eC<|.int 2) ao)<|aq aA (aP<|ak (eC<|.int 7)<|ak (eC<|.int 4)<|ak (eC<|.int 3) ao)<|aq bz (ax gF<|ak (aq eL (aj 3)<|eC<|.int 3) ao)<|ax gF<|ak (aq eL (aj 3)<|eC<|.int 4) ao
def Fw(M:Mem)(f:List Int)(u:dZ M f)(o:f.length<=63)(x1 x2)(s)(rest:St):∃z M',Ao fj (aa (.ref 0)::x1::x2::aa (.int s)::rest) M=.ok (.int z) M'/\M<+:M'/\(4<s->z<3):=by
 obtain⟨h,a,p,n⟩:=lT f M 2 u o;obtain⟨q,b,c,m,d,e⟩:=M8 s;have k:bu [.int 7,.int 4,.int 3] a=.ok (.ref a.length) (a++[.lst [.int 7,.int 4,.int 3]]):=cm<|by decide
 have j:a<+:a++[.lst [.int 7,.int 4,.int 3]]:=pre_app _ _;have g:aT (a++[.lst [.int 7,.int 4,.int 3]]) (.ref a.length) [7,4,3]:=aR.new _ _;generalize r:a++[O.lst [.int 7,.int 4,.int 3]]=M6 at k j g;have l:=iO g c<|by omega
 have t:=dk (M:=M6) (i:=h) d;refine⟨h % aB [7,4,3] q,M6,?_,n.trans j,λz=>by rw[e z];omega⟩;unfold Ao
 walk_at "ev"
 simp only[p,k,gt_int,gF,b,l,t]
def Fx(d:fs.length=s*s)(fg:Good s fs)(e:ss.length=fs.length)(h:∀j:Nat,j<fs.length->(aB ss j=0\/aB ss j=aB fs j)):aY s ss:=by
 have a:∀x∈ss,x=0\/x∈fs:=by
  intro x b;obtain⟨j,c,rfl⟩:=Wi b;have:=h j<|by omega
  rw[lH c,lH<|by omega] at this;rcases this with q|q
  ·exact .inl q
  ·rw[q];exact .inr<|VG _
 refine⟨by omega,λx b=>?_,λx b=>?_⟩
 ·rcases a x b with rfl|q
  ·omega
  ·have:=(fg x q).1;omega
 ·rcases a x b with rfl|q
  ·omega
  ·exact(fg x q).2
noncomputable def Ap(a:CM):EM:=ax a<|ak (aj 5)<|ak (kP (aj 0) (iL<|eC<|.int 3)<|iL<|eC<|.int 19)<|ak (aj 6) ao
def D6(M:Mem)(a:List Int)(u:dZ M a)(l:a.length<=63){d:W}{fs:List Int}(F:aT M d fs){s:Nat}(h:fs.length=s*s)(k:s*s<=81)(fg:Good s fs)(x1 m r n:Option W)(b:Int)(rest:St):
 ∃N ss,Ap gO (aa (.ref 0)::x1::m::r::n::aa d::aa (.int b)::rest) M=.ok (.ref N.length) (N++.lst (ss.map .int)::[])/\M<+:N/\aY s ss/\∀j:Nat,j<s*s->aB ss j=0->j<16\/(j:Int) % 7<b:=by
 have g:=u.cut l (aa 3)<|aa 19;have c:M<+:M++[.lst<|(VM.cut a (aa 3)<|aa 19).map .int]:=pre_app _ _;have e:aT (M++[.lst<|(VM.cut a (aa 3)<|aa 19).map .int]) (.ref M.length) (VM.cut a (aa 3)<|aa 19):=aR.new _ _;generalize o:M++[O.lst<|(VM.cut a (aa 3)<|aa 19).map .int]=M7 at g c e;obtain⟨ss,i,t,sb⟩:=Mb M7 d (.ref M.length) fs _ b (aR.mono F c) e<|by omega
 refine⟨M7,ss,?_,c,Fx h fg t λj f=>(sb j f).imp And.left id,λj f z=>?_⟩
 rotate_left
 ·have p:(VM.cut a (aa 3)<|aa 19).length<=16:=by unfold VM.cut a_;rw[Vm];simp only;split<;>split<;>omega
  rcases sb j (by omega) with⟨_,q|q⟩|q
  ·exact .inl<|by omega
  ·exact .inr q
  ·have:=(fg (aB fs j)<|u9 (by omega)<|by omega).1;omega
 unfold Ap
 walk_at "ev"
 simp only[kP,iL,R.bind,aj,eC,T5,g,i]
def aY.set(h:aY s ts)(i){x:Int}(b:0<=x)(c:x<=s):aY s (ts.set i x) where
 len:=by rw[U1];exact h.len
 lo:=λy a=>by
  rcases W' a with q|q
  ·exact h.lo y q
  ·rw[q];exact b
 hi:=λy a=>by
  rcases W' a with q|q
  ·exact h.hi y q
  ·rw[q];exact c
def J'{a:List Int}(d:o σ (N++.lst (a.map .int)::J)=.ok (.ref N.length) (N++.lst (a.map .int)::J))(f:ie σ (N++.lst (a.map .int)::J)=.ok (.int i) (N++.lst (a.map .int)::J))(c:0<=i)(e:i<(a.length:Int)):js o ie (.int x) σ (N++.lst (a.map .int)::J)=.ok σ (N++.lst ((a.set i.toNat x).map .int)::J):=by
 have b:ck (a.map W.int).length i=aa i.toNat:=by unfold ck;rw[T1 c,Ub,T1 e]
 unfold js;simp only[d,f,R.bind,fT<|d8 N J _,b,j4,W_]
def mG(p:N++o::J<+:M'):∃a,M'=N++o::a:=by obtain⟨r,rfl⟩:=p;exact⟨J++r,by simp⟩
def oU(G)(ss)(s):(tabOf G ss s).length=ss.length:=by simp[tabOf]
inductive d_ where
 |fld (p:Int)
 |dV (g n:Int)
 |mq (g n:Int)
 deriving DecidableEq
noncomputable abbrev Ka:W:=.str [116,119,105,99,101]
noncomputable def d_.ws:d_->List W
 |.fld p=>[rm,.int p]
 |.dV g n=>[o5,.int g,.int n]
 |.mq g n=>[Ka,.int g,.int n]
noncomputable def iP(M:Mem)(v:W)(c:d_):Prop:=aH M v c.ws
noncomputable def eS(G:List<|List Int)(ss:List Int)(T:List<|List Int)(s:Nat):d_->Bool
 |.fld p=>fk ss p&&ai (T.getD p.toNat []=[])
 |.dV g n=>hU G ss g n s&&ai (de G T g n=[])
 |.mq g n=>!(ai (g<0)||(ai ((G.length:Int)<=g)||ai (n<1)))&&ai (1<cnt n ((G.getD g.toNat []).map<|aB ss))
def C9(G)(ss)(T)(s)(p):eS G ss T s (.fld p)=(fk ss p&&ai (T.getD p.toNat []=[])):=rfl
def C_(G)(ss)(T)(s)(g n):eS G ss T s (.dV g n)=(hU G ss g n s&&ai (de G T g n=[])):=rfl
def Dc(G)(ss)(T)(s)(g n):eS G ss T s (.mq g n)=(!(ai (g<0)||(ai ((G.length:Int)<=g)||ai (n<1)))&&ai (1<cnt n ((G.getD g.toNat []).map<|aB ss))):=rfl
def kn(i)(k)(h:aH M v ws)(a:aj i σ=λM=>.ok v M)(b:ws[k.toNat]? =aa x)(c:0<=k:=by decide):aq aA (aj i) (eC<|.int k) σ M=.ok x M:=by refine bx (by rw[a]) rfl ?_;have:=eR h k.toNat b;rw[show((k.toNat:Nat):Int)=k by omega] at this;exact this
def qN(h:t σ M=.ok b M1):cz t σ M=.ok (!b) M1:=by unfold cz;rw[h];rfl
noncomputable def Aq(G:List<|List Int)(ss:List Int)(T:List<|List Int)(s:Nat)(g k:Nat):Bool:=hU G ss (g) ((k)+1) s&&ai ((de G T (g)<|(k)+1).length=1)
noncomputable def gW(G:List<|List Int)(ss:List Int)(T:List<|List Int)(s:Nat):Bool:=
 (List.range ss.length).any (λ(p)=>ai<|(T.getD p []).length=1)||(List.range G.length).any λg=>(List.range s).any λk=>Aq G ss T s g k
noncomputable def HF(G:List<|List Int)(ss:List Int)(T:List<|List Int)(s:Nat)(g k:Nat):Bool:=eS G ss T s<|.dV (g)<|(k)+1
noncomputable def lz(G:List<|List Int)(ss:List Int)(T:List<|List Int)(s:Nat):Bool:=
 (List.range ss.length).any (λ(p)=>ai (aB ss p=0)&&ai (T.getD p []=[]))||(List.range G.length).any λg=>(List.range s).any λk=>HF G ss T s g k
section
variable{M:Mem}{vG vs vT:W}{G:List (List Int)}{ss:List Int}{T:List (List Int)}{s:Nat}
def HG(h:e σ M=.ok v M1)(a:aT M1 v xs):ax bP (ak e ao) σ M=.ok (.int xs.length) M1:=by unfold ax ak ao;rw[h];simp only[R.bind];exact ji a
def uO(e:a σ M=.ok x M)(f:b σ M=.ok y M)(d:c σ M=.ok z M):ba (ak a<|ak b<|ak c ao) σ M=.ok (.ref M.length) (M++[.tup [x,y,z]]):=by unfold ba ak ao;simp only[e,f,d,R.bind];exact jc (by show 3<=16777216;decide)
end
end LV
namespace VM
end VM
namespace LV
open VM
noncomputable def fx(M:Mem)(v:W)(a:List ee):Prop:=∃b,aR M v b/\bI (λw c=>jq M w c) b a
def fx.mono(h:fx M v fQ)(p:M<+:M'):fx M' v fQ:=by obtain⟨a,c,b⟩:=h;exact⟨a,c.mono p,b.imp λ_ _ q=>aH.mono q p⟩
noncomputable def mr(n:Int)(T:List<|List Int)(q:Int):List (List Int):=T.set q.toNat<|(T.getD q.toNat []).filter λm=>!ai (m=n)
noncomputable def l_(p n:Int)(T:List<|List Int)(g:List Int):List (List Int):=if g.any (·==p) then g.foldl (mr n) T else T
noncomputable def nM(G T:List<|List Int)(p n:Int):List (List Int):=G.foldl (l_ p n)<|T.set p.toNat []
def HH(n)(T)(q):(mr n T q).length=T.length:=by simp[mr]
theorem yD(n):∀(a:List Int) (T),(a.foldl (mr n) T).length=T.length
 |[],_=>rfl
 |q::r,T=>by rw[Wg,yD n r,HH]
def Fy(p n)(T)(g):(l_ p n T g).length=T.length:=by
 unfold l_;split
 ·exact yD n g T
 ·rfl
theorem x3(p n):∀(G T:List<|List Int),(G.foldl (l_ p n) T).length=T.length
 |[],_=>rfl
 |g::r,T=>by rw[Wg,x3 p n r,Fy]
def qO(T:List α)(q i)(x d):(T.set q x).getD i d=if i=q/\q<T.length then x else T.getD i d:=by
 by_cases h:i=q
 ·subst h;by_cases a:i<T.length
  ·simp[List.getD,a]
  ·simp[List.getD,a]
 ·have:¬q=i:=λe=>h e.symm
  simp[List.getD,List.getElem?_set,this,h]
def Fz(n)(T)(q)(i):(mr n T q).getD i []=if i=q.toNat then(T.getD i []).filter (λm=>!ai (m=n)) else T.getD i []:=by
 unfold mr;rw[qO];by_cases h:i=q.toNat
 ·subst h;by_cases a:q.toNat<T.length
  ·simp[a]
  ·have:T.getD q.toNat []=[]:=by simp[List.getD,a]
   simp[a,this]
 ·simp[h]
def xE(l:List Int)(n):(l.filter λm=>!ai (m=n)).filter (λm=>!ai (m=n))=l.filter λm=>!ai (m=n):=by rw[Xk];congr 1;funext m;simp
theorem x4(n)(i):∀(a:List Int) (T),(a.foldl (mr n) T).getD i []=if(a.any λq=>ai<|i=q.toNat)=af then(T.getD i []).filter (λm=>!ai (m=n)) else T.getD i []
 |[],T=>by simp
 |q::r,T=>by
  rw[Wg,x4 n i r,Fz,U4];by_cases h:i=q.toNat
  ·simp only[h,Xb,VU,Ul];split
   ·exact xE _ _
   ·rfl
  ·simp only[h,decide_false,Vw,UG]
noncomputable def iQ(G:List<|List Int)(p:Int)(i:Nat):Bool:=G.any λg=>g.any (·==p)&&g.any λq=>ai<|i=q.toNat
theorem uc(p n)(i):∀(G T),(G.foldl (l_ p n) T).getD i []=if iQ G p i=af then(T.getD i []).filter (λm=>!ai (m=n)) else T.getD i []
 |[],T=>by simp[iQ]
 |g::r,T=>by
  rw[Wg,uc p n i r];have e:(l_ p n T g).getD i []=if(g.any (·==p)&&g.any λq=>ai<|i=q.toNat)=af then(T.getD i []).filter (λm=>!ai (m=n)) else T.getD i []:=by
   unfold l_;by_cases h:g.any (·==p)=af
   ·rw[T1 h,x4,h,VJ]
   ·rw[T2 h];have:g.any (·==p)=ag:=by cases e:g.any (·==p) with|true=>exact absurd e h|false=>rfl
    rw[this,VR];simp
  rw[e];unfold iQ;rw[U4];by_cases b:(g.any (·==p)&&g.any λq=>ai<|i=q.toNat)=af
  ·simp only[b,Ul,VU];split
   ·exact xE _ _
   ·rfl
  ·have a:(g.any (·==p)&&g.any λq=>ai<|i=q.toNat)=ag:=by cases e:(g.any (·==p)&&g.any λq=>ai<|i=q.toNat) with|true=>exact absurd e b|false=>rfl
   simp only[a,Vw,UM,UG]
def gZ(ss)(p i)(x)(b:0<=p)(a:p<(ss.length:Int))(c:0<=i):aB (ss.set p.toNat x) i=if i=p then x else aB ss i:=by
 unfold aB;rw[qO];by_cases h:i=p
 ·subst h;have:i.toNat<ss.length:=by omega
  simp[this]
 ·have:¬i.toNat=p.toNat:=by omega
  simp[h,this]
def HI(o:0<=p)(l:p<(ss.length:Int))(u:aB ss p=0)(k:∀g∈G,∀i∈g,0<=i/\i<(ss.length:Int))(i:Nat)(v:(i)≠p)(m)(w:1<=m):
 eI G (ss.set p.toNat n) i m=(eI G ss i m||(iQ G p i&&ai (m=n))):=by
 have j:∀g∈G,kH (ss.set p.toNat n) g i m=(kH ss g i m||((g.any (·==p)&&g.any λq=>ai<|i=q.toNat)&&ai (m=n))):=by
  intro g d;have t:(g.any λq=>ai<|i=q.toNat)=g.any (·==(i)):=by
   rw[U3,Uc,Uc];constructor
   ·rintro⟨q,h,e⟩;have:=k g d q h;refine⟨q,h,?_⟩;have:=UD e;simp;omega
   ·rintro⟨q,h,e⟩;refine⟨q,h,?_⟩;simp at e;subst e;simp
  unfold kH;rw[t,U3];simp only[T_,VL,Uc,UP,Vk,U7,US,exists_eq_right];constructor
  ·rintro⟨a,q,h,r,e⟩;have s:=k g d q h;rw[gZ ss p q n o l s.1] at e;by_cases c:q=p
   ·subst c;rw[T1 rfl] at e;exact .inr ⟨⟨h,a⟩,e.symm⟩
   ·rw[T2 c] at e;exact .inl ⟨a,q,h,r,e⟩
  ·rintro(⟨a,q,h,r,e⟩|⟨⟨a,b⟩,e⟩)
   ·have s:=k g d q h;refine⟨a,q,h,r,?_⟩;rw[gZ ss p q n o l s.1];by_cases c:q=p
    ·subst c;rw[u] at e;omega
    ·rw[T2 c];exact e
   ·refine⟨b,p,a,λz=>v z.symm,?_⟩;rw[gZ ss p p n o l o,T1 rfl,e]
 unfold eI iQ;rw[U3];simp only[Uc,VL,T_,U7];constructor
 ·rintro⟨g,d,e⟩;rw[j g d] at e;simp only[VL,T_,U7,Uc] at e;rcases e with e|⟨e,f⟩
  ·exact .inl ⟨g,d,e⟩
  ·exact .inr ⟨⟨g,d,e⟩,f⟩
 ·rintro(⟨g,d,e⟩|⟨⟨g,d,e⟩,f⟩)
  ·refine⟨g,d,?_⟩;rw[j g d,e,VU]
  ·refine⟨g,d,?_⟩;rw[j g d];simp only[VL,T_,U7,Uc];exact .inr ⟨e,f⟩
def mV(h:m∈nums s):1<=m/\m<=(s):=by obtain⟨k,a,rfl⟩:=Us.mp h;rw[UL] at a;omega
def iE(G)(ss)(s i)(a:i<ss.length):(tabOf G ss s).getD i []=rowOf G ss s i:=by unfold tabOf;simp[List.getD,a]
def HJ{G:List (List Int)}{ss:List Int}{s:Nat}{p n:Int}(e:0<=p)(a:p<(ss.length:Int))(q:aB ss p=0)(r:n≠0)(b:∀g∈G,∀i∈g,0<=i/\i<(ss.length:Int)):
 nM G (tabOf G ss s) p n=tabOf G (ss.set p.toNat n) s:=by
 apply List.ext_getElem
 ·unfold nM;rw[x3,U1,oU,oU,U1]
 ·intro i j d;have h:i<ss.length:=by rw[oU,U1] at d;exact d
  have o:(nM G (tabOf G ss s) p n)[i]=(nM G (tabOf G ss s) p n).getD i []:=by simp[List.getD,j]
  have l:(tabOf G (ss.set p.toNat n) s)[i]=(tabOf G (ss.set p.toNat n) s).getD i []:=by simp[List.getD,d]
  rw[o,l,iE _ _ _ _ (by rw[U1];exact h)];unfold nM;rw[uc,qO,oU];by_cases c:(i:Int)=p
  ·have f:i=p.toNat:=by omega
   have:i=p.toNat/\p.toNat<ss.length:=⟨f,by omega⟩;rw[T1 this];have u:rowOf G (ss.set p.toNat n) s i=[]:=by unfold rowOf;rw[Wj];intro m _;rw[gZ ss p i n e a<|by omega,T1 c];simp[r]
   rw[u];simp
  ·have f:¬(i=p.toNat/\p.toNat<ss.length):=by omega
   rw[T2 f,iE _ _ _ _ h];have v:∀m∈nums s,(ai (aB (ss.set p.toNat n) i=0)&& !eI G (ss.set p.toNat n) i m)=((ai (aB ss i=0)&& !eI G ss i m)&& !(iQ G p i&&ai (m=n))):=by intro m k;rw[gZ ss p i n e a<|by omega,T2 c,HI e a q b i c m (mV k).1];cases ai (aB ss i=0)<;>cases eI G ss i m<;>simp
   have t:rowOf G (ss.set p.toNat n) s i=(nums s).filter λm=>(ai (aB ss i=0)&& !eI G ss i m)&& !(iQ G p i&&ai (m=n)):=by unfold rowOf;exact Xi v
   rw[t];unfold rowOf;cases w:iQ G p i with
   |true=>simp only[Ul,VJ];rw[Xk];congr 1;funext m;rw[Bool.and_comm]
   |false=>simp
noncomputable def aW(X:List Nat)(M M':Mem):Prop:=M.length<=M'.length/\∀c,c<M.length->c∉X->M'[c]? =M[c]?
def aW.refl(X)(M):aW X M M:=⟨T8 _,λ_ _ _=>rfl⟩
def aW.trans(h:aW X M M')(h':aW X M' N6):aW X M N6:=⟨Ug h.1 h'.1,λc b a=>(h'.2 c (Um b h.1) a).trans<|h.2 c b a⟩
def aW.cZ(p:M<+:M'):aW X M M':=by obtain⟨r,rfl⟩:=p;refine⟨by simp,λc a _=>?_⟩;rw[UU a]
def aW.mono(h:aW X M M')(e:∀x∈X,x∈Y):aW Y M M':=⟨h.1,λc b a=>h.2 c b λd=>a<|e c d⟩
def aW.set(o)(d:a∈X):aW X M (M.set a o):=by refine⟨by simp,λc e b=>?_⟩;rw[Uz];rintro rfl;exact b d
def aW.get(h:aW X M M')(e:M[c]? =aa o)(a:c∉X):M'[c]? =aa o:=by rw[h.2 c (T6.mp e).1 a];exact e
def aW.base{X:List Nat}{N M M':Mem}(h:aW X M M')(p:N<+:M)(d:∀x∈X,N.length<=x):N<+:M':=by
 rw[List.prefix_iff_eq_take];have f:N.length<=M'.length:=by have:=p.length_le;exact Ug this h.1
 apply List.ext_getElem?;intro c;by_cases a:c<N.length
 ·obtain⟨r,rfl⟩:=p;rw[Xz a,h.2 c (by rw[Ur];omega) (λz=>by have:=d c z;omega),UU a]
 ·have e:N[c]? =ae:=Xl (by omega);have b:(M'.take N.length)[c]? =ae:=Xl (by rw[Vm];omega);rw[e,b]
def gJ.keep(h:gJ n M v G)(k:aW X M M')(d:∀(b) (c),M[b]? =aa (.lst c)->b≠n->b∉X):gJ n M' v G:=by obtain⟨c,⟨b,e,a,q⟩,r⟩:=h;exact⟨c,⟨b,e,a,k.get q<|d b _ q a⟩,r.imp λw f ⟨b,e,a,q⟩=>⟨b,e,a,k.get q<|d b _ q a⟩⟩
def pE{M:Mem}{n c:Nat}(d:M[c]? =aa (.aD kvs)):∀(b) (a),M[b]? =aa (.lst a)->b≠n->b∉[n,c]:=λb a e f z=>by
 simp only[T4,Ud,Ue] at z;rcases z with z|z
 ·exact f z
 ·rw[z,d] at e;cases e
def vw(h:gJ n M v G)(k:0<=i)(m:i<(G.length:Int)):∃b,aA v (.int i) M=.ok (.ref b) M/\b≠n/\M[b]? =aa (.lst<|(G.getD i.toNat []).map .int):=by
 obtain⟨f,⟨a,rfl,p,l⟩,d⟩:=h;have o:=d.len;have j:G[i.toNat]? =aa (G.getD i.toNat []):=by
  have:i.toNat<G.length:=by omega
  simp[this]
 obtain⟨w,e,b,rfl,g,q⟩:=d.at' j;refine⟨b,?_,g,q⟩;have c:cH f i=aa (.ref b):=by unfold cH ck;rw[T1 k,T1<|by omega];exact e
 simp only[aA,jW l,c]
noncomputable def dH(G:List<|List Int)(ss:List Int)(s:Nat)(m:Int)(L:List Int)(q:Int):List Int:=if L.any (·==q) then(rowOf G ss s q).filter (λx=>!ai (x=m)) else rowOf G ss s q
structure ko(kc:List<|Int×W)(M3 M':Mem)(n c:Nat)(G:List<|List Int)(ss fR:List Int)(s:Nat)(m:Int)(L:List Int):Prop where
 nw:∀kvs,M'[c]? =aa (.aD kvs)->∀(q:Int) (k:Nat),aS kvs q=aa (.ref k)->M3.length<=k\/aS kc q=aa (.ref k)
 kp:aW [n,c] M3 M'
 nm:M'[n]? =aa (.lst<|fR.map .int)
 cn:∃kvs,M'[c]? =aa (.aD kvs)/\kvs.length<=ss.length/\(kvs.map (·.1)).Nodup/\∀q:Int,(aS kvs q=ae/\¬cK fR q)\/∃k,aS kvs q=aa (.ref k)/\cK fR q/\n<k/\M'[k]? =aa (.lst<|(dH G ss s m L q).map .int)
def D7{l:List Int}(h:l.any (·==m)=ag):l.filter (λx=>!ai (x=m))=l:=by
 rw[List.filter_eq_self];intro x a;have:¬x=m:=by rintro rfl;have:l.any (·==x)=af:=Uc.mpr ⟨x,a,by simp⟩;rw[h] at this;cases this
 simp[this]
def D8(l:List Int)(m):(l.filter<|λx=>!ai (x=m)).filter (λx=>!ai (x=m))=l.filter (λx=>!ai (x=m)):=by rw[Xk];simp
def x5:dH G ss s m (L++[f]) q=if f=q then(dH G ss s m L q).filter (λx=>!ai (x=m)) else dH G ss s m L q:=by
 unfold dH;rw[List.any_append];by_cases e:f=q
 ·subst e;simp only[U4,List.any_nil,V0,WU,Bool.or_true,Ul];split
  ·rw[D8]
  ·rfl
 ·have:(f==q)=ag:=by simpa using e
  simp only[U4,List.any_nil,this,WU,T2 e]
def D9{G:List (Int×W)}{M3 M':Mem}{a n c h w:Nat}{vG:W}{ss o:List Int}{m f:Int}{L:List Int}{r:Option W}(I:ko G M3 M' n c (ar h w) ss o (h*w) m L)(Sh:n<M3.length)(Si:c<M3.length)(s9:h*w<=9)(n4:ss.length<=81)(Y:M'[a]? =aa (.ins aQ<|jD h w vG (.ref n)<|.ref c)){p:W}: ((aK (tB<|aq ik (aj 2)<|eM dg (aM aQ fC<|aj 0) (aj 4)<|aP<|ao) (
  gz (aM aQ fC (aj 0)) (aj 4) (bU 1 [] (b0 (ia (aM aQ fC (aj 0)) (aj 4))) (ay 5) (tB (aq bE (aj 5) (aj 2))) (aj 5))) (
  aX):SM) [aa (.ref a),aa p,aa (.int m),r,aa (.int f)] M').Sat {nx:=λσ N=>σ=[aa (.ref a),aa p,aa (.int m),r,aa (.int f)]/\ko G M3 N n c (ar h w) ss o (h*w) m (L++[f])/\aW [n,c] M' N,rt:=λ_ _=>False}:=by
 obtain⟨b,y,V,A,T⟩:=I.cn;have e1:aM aQ fC (aj 0) [aa<|.ref a,aa p,aa<|.int m,r,aa<|.int f] M'=.ok (.ref c) M':=cg rfl Y rfl;have P:bu [] M'=.ok (.ref M'.length) (M'++[.lst []]):=cm<|by decide
 have g:=az (pre_app M' [.lst []]) y;have kT:c<M'.length:=(T6.mp y).1;have S:eM dg (aM aQ fC<|aj 0) (aj 4) (aP<|ao) [aa<|.ref a,aa p,aa<|.int m,r,aa<|.int f] M'=.ok ((aS b f).getD<|.ref M'.length) (M'++[.lst []]):=by simp only[eM,e1,R.bind,lE y,Ul,aj,T',T5,aP,ao,P,dg,er g]
 have J:∀Q,(M'++[O.lst []])[c]? =aa (.aD Q)->∀(q:Int) (k:Nat),aS Q q=aa (.ref k)->M3.length<=k\/aS G q=aa (.ref k):=λQ e=>by rw[g] at e;cases e;exact I.nw b y
 have d:ko G M3 (M'++[.lst []]) n c (ar h w) ss o (h*w) m L:=⟨J,I.kp.trans<|aW.cZ<|pre_app _ _,az (pre_app _ _) I.nm,b,g,V,A,λq=>by
  rcases T q with z|⟨k,q1,q2,q3,q4⟩
  ·exact .inl z
  ·exact .inr ⟨k,q1,q2,q3,az (pre_app _ _) q4⟩⟩
 have t:∀(H:∀k,aS b f=aa (.ref k)->(dH (ar h w) ss (h*w) m L f).filter (λx=>!ai (x=m))=dH (ar h w) ss (h*w) m L f),ko G M3 (M'++[.lst []]) n c (ar h w) ss o (h*w) m (L++[f]):=λH=>
  ⟨J,d.kp,d.nm,b,g,V,A,λq=>by
   rcases T q with z|⟨k,q1,q2,q3,q4⟩
   ·exact .inl z
   ·refine .inr ⟨k,q1,q2,q3,?_⟩;rw[x5];by_cases e:f=q
    ·subst e;rw[T1 rfl,H k q1];exact az (pre_app _ _) q4
    ·rw[T2 e];exact az (pre_app _ _) q4⟩
 rcases T f with⟨e,X⟩|⟨k,e,X,Sj,hL⟩
 ·rw[e] at S;have B:=vM (M:=M'++[.lst []]) (u:=.ref M'.length) (fs:=[]) m ⟨_,rfl,bV _ _⟩;refine bp (c:=ag) (M1:=M'++[O.lst []]) (bZ<|bx rfl S B) (λz=>nomatch z) λ_=>?_
  exact⟨rfl,t (λk q=>by rw[e] at q;cases q),aW.cZ<|pre_app _ _⟩
 ·rw[e] at S;have C:=az (pre_app M' [.lst []]) hL;have B:=vM (M:=M'++[.lst []]) (u:=.ref k) (fs:=dH (ar h w) ss (h*w) m L f) m ⟨_,rfl,C⟩;refine bp (c:=(dH (ar h w) ss (h*w) m L f).any (·==m)) (M1:=M'++[O.lst []]) (bZ<|bx rfl S B) (λhm=>?_) λhm=>?_
  ·generalize Z:M'++[O.lst []]=N at*;have U:M'<+:N:=by rw[<-Z];exact pre_app _ _
   have F:=az U Y;have e2:∀x,aM aQ fC (aj 0) [aa<|.ref a,aa p,aa<|.int m,r,x] N=.ok (.ref c) N:=λx=>cg rfl F rfl
   have eg:ia (aM aQ fC<|aj 0) (aj 4) [aa<|.ref a,aa p,aa<|.int m,r,aa<|.int f] N=.ok (.ref k) N:=by simp only[ia,e2,aj,R.bind,T',T5,nI,er g,e]
   have hi:b0 (ia (aM aQ fC<|aj 0)<|aj 4) [aa<|.ref a,aa p,aa<|.int m,r,aa<|.int f] N=.ok (((dH (ar h w) ss (h*w) m L f).map W.int).map .val,[(k,.lst<|(dH (ar h w) ss (h*w) m L f).map .int)]) N:=by unfold b0;rw[eg];simp only[R.bind,C]
   have cl:(dH (ar h w) ss (h*w) m L f).length<=9:=by
    have:=lC (ar h w) ss (h*w) f;unfold dH;split
    ·exact Ug (Vh _ _)<|by omega
    ·omega
   have ec:bU 1 [] (b0<|ia (aM aQ fC<|aj 0)<|aj 4) (ay 5) (tB<|aq bE (aj 5)<|aj 2) (aj 5) [aa<|.ref a,aa p,aa<|.int m,r,aa<|.int f] N=.ok (.ref N.length) (N++[.lst<|((dH (ar h w) ss (h*w) m L f).filter<|λx=>!ai (x=m)).map .int]):=by
    unfold bU;rw[hi];simp only[R.bind,eX,Wc,Vp,Vy,U',UK];rw[jS (σ:=[aa<|.ref a,aa p,aa<|.int m,r,aa<|.int f,ae]) (λx=>match x with|.int i=>!ai (i=m)|_=>ag) id _ _ _ (λ_=>rfl) (by simp[bJ.ok,C]) ?_]
    ·simp only[UK,Xh];have:List.filter (λx=>match x with|.int i=>!ai (i=m)|_=>ag) ((dH (ar h w) ss (h*w) m L f).map W.int)=((dH (ar h w) ss (h*w) m L f).filter<|λx=>!ai (x=m)).map W.int:=by rw[Xg];rfl
     rw[this];exact cm (by rw[Ub];exact Ug (Vh _ _)<|by omega)
    ·intro z hz;obtain⟨i,_,rfl⟩:=Us.mp hz;exact⟨bZ<|bx rfl rfl ne_int,λ_=>rfl⟩
   have nl:N.length=M'.length+1:=by rw[<-Z];simp
   have s:(N++[O.lst<|((dH (ar h w) ss (h*w) m L f).filter<|λx=>!ai (x=m)).map .int])[c]? =aa (.aD b):=az (pre_app _ _) g;refine oG (i:=f) (v:=.ref N.length) ec (cg rfl (az (pre_app _ _) F) rfl) rfl s (by omega) ?_;have j:((N++[O.lst<|((dH (ar h w) ss (h*w) m L f).filter<|λx=>!ai (x=m)).map .int]).set c<|.aD<|dput b f<|.ref N.length)[c]? =aa (.aD<|dput b f<|.ref N.length):=by rw[UH];simp;omega
   refine⟨rfl,⟨λQ e q k z=>?_,?_,?_,dput b f<|.ref N.length,?_,?_,xC _ A,λq=>?_⟩,?_⟩
   ·rw[j] at e;cases e;rw[mS] at z;by_cases E:q=f
    ·rw[T1 E] at z;cases z;have:=I.kp.1;exact .inl<|by omega
    ·rw[T2 E] at z;exact I.nw b y q k z
   ·exact d.kp.trans<|(aW.cZ<|pre_app _ _).trans<|aW.set _<|by simp
   ·have:n≠c:=by rintro rfl;rw[I.nm] at y;cases y
    rw[Uz<|Uq this];exact az (pre_app _ _) d.nm
   ·exact j
   ·rw[Cs _ e];exact V
   ·have K:∀(D:Nat) (l),(N++[O.lst<|((dH (ar h w) ss (h*w) m L f).filter<|λx=>!ai (x=m)).map .int])[D]? =aa (.lst l)->((N++[O.lst<|((dH (ar h w) ss (h*w) m L f).filter<|λx=>!ai (x=m)).map .int]).set c<|.aD<|dput b f<|.ref N.length)[D]? =aa (.lst l):=λD l z=>by
     have:D≠c:=by rintro rfl;rw[s] at z;cases z
     rw[Uz<|Uq this];exact z
    rw[mS,x5];by_cases E:q=f
    ·subst E;rw[T1 rfl,T1 rfl];refine .inr ⟨N.length,rfl,X,?_,K _ _<|bV _ _⟩;have:=I.kp.1;omega
    ·rw[T2 E,T2<|λz=>E z.symm];rcases T q with z|⟨D,q1,q2,q3,q4⟩
     ·exact .inl z
     ·exact .inr ⟨D,q1,q2,q3,K _ _<|az (U.trans<|pre_app _ _) q4⟩
   ·exact(aW.cZ<|U.trans<|pre_app _ _).trans<|aW.set _<|by simp
  ·exact⟨rfl,t<|λk _=>D7 hm,aW.cZ<|pre_app _ _⟩
def HK{h w:Nat}(m:1<=h/\h<=3)(l:1<=w/\w<=3)(v:p<h*w*(h*w))(i):iQ (ar h w) p i=((cf h w p).flatMap λg=>(ar h w).getD g.toNat []).any (·==(i)):=by
 have u:=gx m l;rw[U3];unfold iQ;rw[Uc,Uc];constructor
 ·rintro⟨g,n,e⟩;rw[T_,Uc,Uc] at e;obtain⟨⟨x,s,ex⟩,q,y,A⟩:=e;have d:=by simpa using ex
  subst d;obtain⟨j,f,rfl⟩:=Wi n;have a:j<3*(h*w):=by rw[<-je];exact f
  have k:(ar h w).getD j []=(ar h w)[j]:=by simp[f]
  have t:=(oH m l v a).mp (by rw[k];exact s);have o:=((u _ n).2 q y).1;have r:=UD A;refine⟨(i),List.mem_flatMap.mpr ⟨(j),Us.mpr ⟨j,t,rfl⟩,?_⟩,by simp⟩;rw[Uy,k,r,Int.toNat_of_nonneg o];exact y
 ·rintro⟨x,s,ex⟩;have d:=by simpa using ex
  subst d;obtain⟨g,n,c⟩:=List.mem_flatMap.mp s;obtain⟨j,f,rfl⟩:=Us.mp n;rw[Uy] at c;have a:=pC m l v j f;have z:j<(ar h w).length:=by rw[je];exact a
  have k:(ar h w).getD j []=(ar h w)[j]:=by simp[z]
  have b:=(oH m l v a).mpr f;rw[k] at c b;refine⟨_,VG z,?_⟩;rw[T_,Uc,Uc];exact⟨⟨_,b,by simp⟩,_,c,by simp⟩
def zH(f:0<=p)(c:p<(ss.length:Int))(g:m≠0):cK (ss.set p.toNat m) q↔cK ss q/\q≠p:=by
 unfold cK;rw[U1];constructor
 ·rintro⟨b,d,a⟩;rw[gZ ss p q m f c b] at a;by_cases e:q=p
  ·rw[T1 e] at a;exact(g a).elim
  ·rw[T2 e] at a;exact⟨⟨b,d,a⟩,e⟩
 ·rintro⟨⟨b,d,a⟩,e⟩;refine⟨b,d,?_⟩;rw[gZ ss p q m f c b,T2 e];exact a
def HL(k:1<=h/\h<=3)(j:1<=w/\w<=3){ss:List Int}(e:ss.length=h*w*(h*w))(u:p<ss.length)(x:aB ss p=0)(f:m≠0)(n:cK (ss.set p m) q):
 rowOf (ar h w) (ss.set p m) (h*w) q=dH (ar h w) ss (h*w) m ((cf h w p).flatMap λg=>(ar h w).getD g.toNat []) q:=by
 have l:=(zH (ss:=ss) (p:=(p)) (by omega) (by omega) f).mp (by rw[Uy];exact n);obtain⟨⟨t,A,y⟩,o⟩:=l;have b:=gx k j;obtain⟨i,rfl⟩:=Wy t;have a:i<ss.length:=by omega
 have r:=iE (ar h w) (ss.set p m) (h*w) i (by rw[U1];exact a);have d:=HJ (s:=h*w) (by omega) (by omega) x f (λg v i a=>by rw[e];exact(b g v).2 i a);rw[Uy] at d;rw[<-r,<-d];unfold nM;rw[uc,qO,oU,Uy];have c:¬(i=p/\p<ss.length):=λz=>o<|by rw[z.1]
 rw[T2 c,iE _ _ _ _ a,HK k j (by rw[<-e];exact u) i];rfl
noncomputable def vd(c:Nat)(M M':Mem):Prop:=∀a,M'[c]? =aa (.aD a)->∀(q:Int) (k:Nat),aS a q=aa (.ref k)->M.length<=k\/∃b,M[c]? =aa (.aD b)/\aS b q=aa (.ref k)
noncomputable def pF(f:CM):Prop:=∀(M) (a n c h w) (b) (p m),1<=h/\h<=3->1<=w/\w<=3->bL M a n c h w b->aY (h*w) b->cK b p->m≠0->
 ∃d,f [.ref a,.int p,.int m] M=.ok .aw d/\bL d a n c h w (b.set p.toNat m)/\aW [n,c] M d/\vd c M d
def mH(l:List α)(j)(h:l[j]? =aa x):l.take (j+1)=l.take j++[x]:=by rw[VZ,h];rfl
def qE{f:CM}(hf:vb f):pF (PB.i9 f):=by
 intro M a n c h w s p m Z hw S sh hE hm;obtain⟨s1,s9⟩:=eh Z hw;have sl:=sh.len;have n4:s.length<=81:=by rw[sl];exact UJ s9 s9
 obtain⟨Y,p1,pz⟩:=hE;obtain⟨d,rfl⟩:=Wy Y;have Y:(0:Int)<=(d:Int):=Y;have p1:(d:Int)<(s.length:Int):=p1;have pz:aB s (d:Int)=0:=pz;show∃o,PB.i9 f [.ref a,.int (d:Int),.int m] M=.ok .aw o/\bL o a n c h w (s.set (d:Int).toNat m)/\aW [n,c] M o/\vd c M o;rw[Uy];have T:d<s.length:=by omega
 obtain⟨⟨vG,K,jE⟩,nm,l,H,c1,c2,c3⟩:=S;have N7:=gx Z hw;have G:a∉[n,c]:=λz=>by
  simp only[T4,Ud,Ue] at z;rcases z with z|z
  ·rw[z,nm] at K;cases K
  ·rw[z,H] at K;cases K
 have nc:n≠c:=by rintro rfl;rw[nm] at H;cases H
 have BB:n<M.length:=(T6.mp nm).1;have N8:c<M.length:=(T6.mp H).1;have key:∃r o,PB.i9 f [.ref a,.int (d:Int),.int m] M=.ok r o/\(r=.aw/\bL o a n c h w (s.set d m)/\aW [n,c] M o/\vd c M o):=by
  refine bT rfl ?_;show(av _ _ [aa<|.ref a,aa<|.int (d:Int),aa<|.int m,ae,ae] M).Sat _;generalize B:s.set d m=fR;have N9:(s.map W.int).set d (.int m)=fR.map .int:=by rw[<-B,W_]
  refine aI<|oT (v:=.int m) (M1:=M) (bN:=[aa<|.ref a,aa<|.int (d:Int),aa<|.int m,ae,ae]) (M2:=M.set n<|.lst<|fR.map .int) rfl ?_ ?_
  ·have e1:aM aQ fN (aj 0) [aa<|.ref a,aa<|.int (d:Int),aa<|.int m,ae,ae] M=.ok (.ref n) M:=cg rfl K rfl;have ix:ck ((s.map W.int).length) (d:Int)=aa d:=by unfold ck;rw[T1 Y,T1 (by rw[Ub];exact p1),Uy]
   simp only[js,e1,aj,R.bind,T',T5,fT nm,ix,N9]
  generalize F:M.set n (O.lst<|fR.map .int)=M1;have k1:aW [n,c] M M1:=by rw[<-F];exact aW.set _<|by simp
  have N_:M1[n]? =aa (.lst<|fR.map .int):=by rw[<-F];exact UH BB
  have Q:M1[c]? =aa (.aD l):=by rw[<-F,Uz nc];exact H
  have sg:=k1.get K G;have pv:∃k,aS l (d:Int)=aa (.ref k):=by
   rcases c3 (d:Int) with⟨_,z⟩|⟨k,e,_⟩
   ·exact(z ⟨Y,p1,pz⟩).elim
   ·exact⟨k,e⟩
  obtain⟨kp,Oa⟩:=pv;refine aI<|dt (v:=.ref kp) (M1:=M1.set c<|.aD<|f_ l (d:Int)) ?_ ?_
  ·have e1:aM aQ fC (aj 0) [aa<|.ref a,aa<|.int (d:Int),aa<|.int m,ae,ae] M1=.ok (.ref c) M1:=cg rfl sg rfl;simp only[iq,e1,R.bind,lE Q,Ul,aj,T',T5,nJ,er Q,Oa]
  generalize D:M1.set c (O.aD<|f_ l (d:Int))=M2;have k2:aW [n,c] M M2:=k1.trans (by rw[<-D];exact aW.set _<|by simp);have l2:M2.length=M.length:=by rw[<-D,<-F];simp
  have wN:M2[n]? =aa (.lst<|fR.map .int):=by rw[<-D,Uz<|Uq nc];exact N_
  have E:M2[c]? =aa (.aD<|f_ l (d:Int)):=by rw[<-D];exact UH (T6.mp Q).1
  have si:=k2.get K G;have gI:∀g∈cf h w d,0<=g/\g<((ar h w).length:Int):=λg hg=>by obtain⟨i,hi,rfl⟩:=Us.mp hg;have:=pC Z hw (by rw[<-sl];exact T) i hi;rw[je];exact⟨Wf _,by omega⟩
  have em:=λq=>zH (ss:=s) (p:=(d:Int)) (q:=q) (m:=m) Y p1 hm
  rw[Uy,B] at em;have eg:=hf h w d M2 Z hw (by rw[<-sl];exact T);generalize P:M2++[O.lst<|(cf h w d).map .int]=M3 at eg;have t:M2<+:M3:=by rw[<-P];exact pre_app _ _
  have k3:aW [n,c] M M3:=k2.trans<|aW.cZ t;have l3:M3.length=M.length+1:=by rw[<-P];simp[l2]
  have BC:M3[M2.length]? =aa (.lst<|(cf h w d).map .int):=by rw[<-P];exact bV _ _
  have I0:ko l M3 M3 n c (ar h w) s fR (h*w) m []:=⟨λkv e q k z=>by rw[az t E] at e;cases e;rw[xZ] at z;split at z;cases z;exact .inr z,aW.refl _ _,az t wN,_,az t E,Ug (D3 _ _) c1,CG _ c2,λq=>by
   rw[xZ];by_cases e:q=(d:Int)
   ·rw[T1 e];exact .inl ⟨rfl,λz=>((em q).mp z).2 e⟩
   ·rw[T2 e];rcases c3 q with⟨z1,X⟩|⟨k,z1,X,z3,z4⟩
    ·exact .inl ⟨z1,λz=>X ((em q).mp z).1⟩
    ·refine .inr ⟨k,z1,(em q).mpr ⟨X,e⟩,z3,?_⟩;refine k3.get z4 λz=>?_
     simp only[T4,Ud,Ue] at z;rcases z with z|z
     ·omega
     ·rw[z,H] at z4;cases z4⟩
  have J:gJ n M3 vG (ar h w):=jE.keep k3<|pE H;have Ob:M2.length∉[n,c]:=λz=>by simp only[T4,Ud,Ue] at z;rcases z with z|z<;>omega
  have V:∀{o:Mem} {L:List Int},ko l M3 o n c (ar h w) s fR (h*w) m L->o[a]? =aa (.ins aQ<|jD h w vG (.ref n)<|.ref c):=λI=>I.kp.get (k3.get K G) G
  refine fE ?_ ⟨_,rfl,BC⟩ (λj C o=>(∃x y,C=[aa<|.ref a,aa<|.int<|d,aa<|.int m,x,y])/\ko l M3 o n c (ar h w) s fR (h*w) m (((cf h w d).take j).flatMap λg=>(ar h w).getD g.toNat []))
   ⟨⟨_,_,rfl⟩,I0⟩ ?_ ?_ ?_
  ·exact zA rfl si rfl rfl rfl eg
  ·rintro j C o hj ⟨_,I⟩;exact⟨_,rfl,I.kp.get BC Ob⟩
  ·rintro j x C o hx ⟨⟨x',y',rfl⟩,I⟩;obtain⟨g,hg,rfl,Oc⟩:=gS hx;obtain⟨g0,g1⟩:=gI g hg;have A:∃kv,M3[c]? =aa (.aD kv):=⟨_,az t E⟩;obtain⟨Sk,A⟩:=A;obtain⟨b,eb,BD,hb⟩:=vw (J.keep I.kp<|pE A) g0 g1;obtain⟨BE,U,_⟩:=I.cn;have Od:=pE U b _ hb BD;refine fE (bx (cg rfl (V I) rfl) rfl eb) ⟨_,rfl,hb⟩ (λi C u=>(∃y,C=[aa<|.ref a,aa<|.int<|d,aa<|.int m,aa<|.int g,y])/\ko l M3 u n c (ar h w) s fR (h*w) m ((((cf h w d).take j).flatMap λg=>(ar h w).getD g.toNat [])++((ar h w).getD g.toNat []).take i)/\aW [n,c] o u)
    ⟨⟨_,rfl⟩,by simpa using I,aW.refl _ _⟩ ?_ ?_ ?_
   ·rintro i C u hi ⟨_,I2,k⟩;exact⟨_,rfl,k.get hb Od⟩
   ·rintro i x C u wL ⟨⟨y,rfl⟩,I2,k⟩;obtain⟨fd,Sl,rfl,Oe⟩:=gS wL;refine RS.Sat.mono (D9 I2 (by omega) (by omega) s9 n4<|V I2) ?_ ?_ ?_ ?_
    ·rintro C N ⟨rfl,I3,k'⟩;refine⟨⟨_,rfl⟩,?_,k.trans k'⟩;rw[mH _ _ Oe,<-U5];exact I3
    ·exactλ_ _ z=>z.elim
    ·exactλ_ _ z=>z.elim
    ·exactλ_ _ z=>z.elim
   ·rintro C u ⟨⟨y,rfl⟩,I2,k⟩;refine⟨⟨_,_,rfl⟩,?_⟩;rw[Ub,UX] at I2;rw[mH _ _ Oc,W3];simpa using I2
  ·rintro C o ⟨⟨x,y,rfl⟩,I⟩;rw[Ub,UX] at I;refine⟨rfl,?_,k3.trans I.kp,λkv e q k z=>?_⟩
   rotate_left
   ·rcases I.nw kv e q k z with z|z
    ·exact .inl<|by omega
    ·exact .inr ⟨l,H,z⟩
   obtain⟨BE,U,d1,d2,d3⟩:=I.cn;refine⟨⟨vG,V I,J.keep I.kp<|pE<|az t E⟩,I.nm,BE,U,by rw[<-B,U1];exact d1,d2,λq=>?_⟩;rcases d3 q with z|⟨k,z1,X,z3,z4⟩
   ·exact .inl z
   ·refine .inr ⟨k,z1,X,z3,?_⟩;have:=HL Z hw sl T pz hm (by rw[B];exact X);rw[B] at this;rw[this];exact z4
 obtain⟨r,o,e,rfl,q⟩:=key;exact⟨o,e,q⟩
def FA{c:bJ}{g:GM}{t:TM}{elt:EM}(aO:List Src)(P:Nat->St->Mem->List W->Prop)(u:∀(j:Nat) x σ M a,aO[j]? =aa x->P j σ M a->c.ok M=af/\∃v M1 bN M2 b M3,x.get M=.ok v M1/\g v σ M1=.ok bN M2/\t bN M2=.ok b M3/\(b=af->∃y f,elt bN M3=.ok y f/\P (j+1) bN f (a++[y]))/\(b=ag->P (j+1) bN M3 a))(hd:∀σ M a,P aO.length σ M a->c.ok M=af):∀(j:Nat) (σ:St) (M:Mem) (a:List W),j<=aO.length->P j σ M a->∃bh M' ys,comp c g t elt (aO.drop j) σ M a=.ok ys M'/\P aO.length bh M' ys:=by
 intro j;generalize w:aO.length-j=k;induction k generalizing j with
 |zero=>
  intro σ M a r h;have e:j=aO.length:=by omega
  subst e;refine⟨σ,M,a,?_,h⟩;rw[VE,comp,T1<|hd σ M a h]
 |succ k i=>
  intro σ M a r h;have d:j<aO.length:=by omega
  obtain⟨l,v,M1,bN,M2,b,M3,q,h3,n,p,o⟩:=u j aO[j] σ M a (by simp[d]) h;rw[VF d,comp,T1 l];simp only[q,R.bind,h3,n];cases b with
  |true=>obtain⟨y,f,m,s⟩:=p rfl;simp only[Ul,m];exact i (j+1) (by omega) bN f _ (by omega) s
  |false=>simp only[UM,UG];exact i (j+1) (by omega) bN M3 _ (by omega)<|o rfl
def x6(kk)(s)(d:i σ M=.ok (cV 1 s,[]) M)(p)(e:s<=9)(c:∀n,t ((eX cl<|σ++List.replicate kk ae).set k<|aa<|.int n) M=.ok (p n) M)(b:∀n,aj k ((eX cl<|σ++List.replicate kk ae).set k<|aa<|.int n) M=.ok (.int n) M):
 bU kk cl i (ay k) t (aj k) σ M=.ok (.ref M.length) (M++[.lst<|((nums s).filter p).map .int]):=by
 unfold bU;rw[d];simp only[R.bind,mI];rw[jS (λx=>match x with|.int n=>p n|_=>ag) id _ _ _ (λ_=>rfl) rfl ?_]
 ·simp only[UK,Xh];have:List.filter (λx=>match x with|.int n=>p n|_=>ag) (gC 1 s)=((nums s).filter p).map W.int:=by rw[xD,Xg];rfl
  rw[this];refine cm ?_;rw[Ub];refine Ug (Vh _ _) ?_;simp[nums];omega
 ·intro z a;obtain⟨j,_,rfl⟩:=Us.mp a;exact⟨c _,λ_=>b _⟩
def yE{h w:Nat}(b:1<=h/\h<=3)(c:1<=w/\w<=3)(i:σ[0]? =aa (aa<|.ref a))(f:M[a]? =aa (.ins aQ fs))(f1:cD fH fs=aa (.int h))(f2:cD fW fs=aa (.int w)):
 f7 (eC<|.int 1) (aq bz (aq bB (aM aQ fH<|aj 0)<|aM aQ fW<|aj 0)<|eC<|.int 1) σ M=.ok (cV 1<|h*w,[]) M:=by
 obtain⟨k,j⟩:=eh b c;have e:aq bz (aq bB (aM aQ fH<|aj 0)<|aM aQ fW<|aj 0) (eC<|.int 1) σ M=.ok (.int<|((h*w:Nat):Int)+1) M:=bx (zB b.2 i f f1 f2) rfl rfl;have d:(1:Int).natAbs<cw/\(((h*w:Nat):Int)+1).natAbs<cw:=⟨ew (by omega)<|by omega,ew (by omega)<|by omega⟩;have g:(((h*w:Nat):Int)+1-1).toNat=h*w:=by omega
 simp only[f7,e,R.bind,eC];rw[T1 d,g]
noncomputable def jF(G:List<|List Int)(ss:List Int)(s:Nat)(g:Int):List Int:=(nums s).filter λm=>ai<|1<(cnt m ((G.getD g.toNat []).map<|aB ss):Int)
noncomputable def uP(L:List (List Int)->List Int->Nat->Int->List Int)(f:CM):Prop:=∀(M) (a n c h w) (b) (g),1<=h/\h<=3->1<=w/\w<=3->bL M a n c h w b->aY (h*w) b->0<=g->g<((ar h w).length:Int)->
 ∃v d,f [.ref a,.int g] M=.ok v d/\M<+:d/\aT d v (L (ar h w) b (h*w) g)
def Co:uP jF PB.lb:=by
 intro M a n c h w f g u s S C y B;obtain⟨Q,K⟩:=eh u s;obtain⟨⟨P,o,p⟩,G,_⟩:=S;obtain⟨L,l⟩:=gx u s _<|getD_mem y B;obtain⟨b,D,I,F⟩:=vw p y B;have j:∃r d,PB.lb [.ref a,.int g] M=.ok r d/\(M<+:d/\aT d r (jF (ar h w) f (h*w) g)):=by
  refine bT rfl ?_;have J:=zu (σ:=[aa<|.ref a,aa<|.int g,ae]) (aq aA (aM aQ fG<|aj 0)<|aj 1) (aM aQ fN<|aj 0) 3 (bx (cg rfl o rfl) rfl D) ⟨_,rfl,F⟩ ⟨_,rfl,G⟩ (λi H=>by rw[C.len];exact l i H) (by omega) (λx=>cg rfl o rfl) (λx=>rfl)
  refine aI<|bC J ?_;generalize z:M++[O.lst<|(((ar h w).getD g.toNat []).map<|aB f).map .int]=N;have v:M<+:N:=by rw[<-z];exact pre_app _ _
  have A:N[M.length]? =aa (.lst<|(((ar h w).getD g.toNat []).map<|aB f).map .int):=by rw[<-z];exact bV _ _
  have E:=x6 (σ:=[aa<|.ref a,aa<|.int g,aa<|.ref M.length]) (k:=3) (cl:=[]) (t:=tB<|aq eL (bo jg (aj 2)<|ak (aj 3) ao)<|eC<|.int 1) 1 (h*w) (yE u s rfl (az v o) rfl rfl) (λm=>ai<|1<(cnt m (((ar h w).getD g.toNat []).map<|aB f):Int)) K (λm=>?_)<|λm=>rfl
  ·exact bt E ⟨v.trans<|pre_app _ _,aR.new _ _⟩
  ·have ec:bo jg (aj 2) (ak (aj 3) ao) [aa<|.ref a,aa<|.int g,aa<|.ref M.length,aa<|.int m] N=.ok (.int<|cnt m<|((ar h w).getD g.toNat []).map<|aB f) N:=by simp only[bo,aj,R.bind,T',T5,dj A,ak,ao,Fn m ⟨_,rfl,A⟩]
   exact bZ<|bx ec rfl gt_int
 obtain⟨r,d,e,q⟩:=j;exact⟨r,d,e,q⟩
noncomputable def g_(G:List<|List Int)(ss:List Int)(s:Nat)(fs:List Int)(m:Int):Bool:=fs.any λf=>ai (aB ss f=m)||(rowOf G ss s f).any (·==m)
noncomputable def kU(G:List<|List Int)(ss:List Int)(s:Nat)(g:Int):List Int:=(nums s).filter λm=>!g_ G ss s (G.getD g.toNat []) m
def Ar{M M':Mem}(p:M<+:M')(h:M'[M.length]? =aa o):M<+:M'.set M.length o'/\(M'.set M.length o')[M.length]? =aa o':=⟨j6 p (T8 _) _,UH (T6.mp h).1⟩
def CH:uP kU PB.kZ:=by
 intro M a n c h w l g W hw S sh g0 g1;obtain⟨s1,s9⟩:=eh W hw;have sl:=sh.len;obtain⟨⟨vG,Q,H⟩,nm,kc,hc,n5,sf,n6⟩:=S;obtain⟨BA,T⟩:=gx W hw _<|getD_mem g0 g1;obtain⟨b,G,BD,hb⟩:=vw H g0 g1;have X:∃r s,PB.kZ [.ref a,.int g] M=.ok r s/\(M<+:s/\aT s r (kU (ar h w) l (h*w) g)):=by
  refine bT rfl ?_;show(av _ _ [aa<|.ref a,aa<|.int g,ae,ae,ae] M).Sat _;refine aI<|bC (v:=.ref M.length) (M1:=M++[.aD []]) rfl ?_;simp only[T9,T7];refine aI ?_;have Of:aA vG (.int g) (M++[.aD []])=.ok (.ref b) (M++[.aD []]):=by
   obtain⟨ws,⟨b2,rfl,_,q⟩,r⟩:=H;have q':=az (pre_app M [.aD []]) q;simp only[aA,jW q,jW q'] at G⊢;cases z:cH ws g with
   |none=>rw[z] at G;cases G
   |some y=>rw[z] at G;cases G;rfl
  generalize V:(ar h w).getD g.toNat []=gr at*;refine fE (v:=.ref b) (xs:=gr.map .int) (M1:=M++[O.aD []]) (bx (cg rfl (az (pre_app _ _) Q) rfl) rfl Of) ⟨_,rfl,az (pre_app _ _) hb⟩ (λj u s=>(∃x y,u=[aa<|.ref a,aa<|.int g,aa<|.ref M.length,x,y])/\M<+:s/\∃d,s[M.length]? =aa (.aD d)/\d.length<=10*j/\∀m,(aS d m).isSome=g_ (ar h w) l (h*w) (gr.take j) m)
   ⟨⟨_,_,rfl⟩,pre_app _ _,[],bV _ _,by simp,λm=>rfl⟩ ?_ ?_ ?_
  ·rintro j u s hj ⟨_,p,_⟩;exact⟨_,rfl,az p hb⟩
  ·rintro j x u s hx ⟨⟨x',y',rfl⟩,p,d,hd,hk,hv⟩;obtain⟨f,hf,rfl,F⟩:=gS hx;obtain⟨f0,f1⟩:=T f hf;have E:f<(l.length:Int):=by rw[sl];exact f1
   have jl:j<gr.length:=(T6.mp F).1;simp only[T9,T7];refine aI<|oG (M1:=s) (M2:=s) (M3:=s) (a:=M.length) (i:=aB l f) (v:=.bl af) (kvs:=d) rfl rfl (bx (cg rfl (az p Q) rfl) rfl<|iO ⟨_,rfl,az p nm⟩ f0 E) hd (by omega) ?_;obtain⟨C,A⟩:=Ar (o':=.aD<|dput d (aB l f)<|.bl af) p hd;generalize Bz:s.set M.length (.aD<|dput d (aB l f)<|.bl af)=M1 at C A;have I:∀m,(aS (dput d (aB l f)<|.bl af) m).isSome=(g_ (ar h w) l (h*w) (gr.take j) m||ai (aB l f=m)):=λm=>by
    rw[mS,<-hv m];by_cases e:m=aB l f
    ·rw[T1 e,UA e.symm];simp
    ·rw[T2 e,Ut<|λz=>e z.symm];simp
   have Sm:(dput d (aB l f)<|.bl af).length<=10*j+1:=by have:=qL d (aB l f)<|.bl af;omega
   have U:=az C Q;have K:=az C hc;have L:bu [] M1=.ok (.ref M1.length) (M1++[.lst []]):=cm<|by decide
   have Y:=az (pre_app M1 [.lst []]) K;have P:eM dg (aM aQ fC<|aj 0) (aj 3) (aP<|ao) [aa<|.ref a,aa<|.int g,aa<|.ref M.length,aa<|.int f,y'] M1=.ok ((aS kc f).getD<|.ref M1.length) (M1++[.lst []]):=by have e1:aM aQ fC (aj 0) [aa<|.ref a,aa<|.int g,aa<|.ref M.length,aa<|.int f,y'] M1=.ok (.ref c) M1:=cg rfl U rfl;simp only[eM,e1,R.bind,lE K,Ul,aj,T',T5,aP,ao,L,dg,er Y]
   have N:∀m,g_ (ar h w) l (h*w) (gr.take<|j+1) m=(g_ (ar h w) l (h*w) (gr.take j) m||(ai (aB l f=m)||(rowOf (ar h w) l (h*w) f).any (·==m))):=λm=>by unfold g_;rw[ql _ _ _ F]
   rcases n6 f with⟨e,hE⟩|⟨k,e,hE,kR,hL⟩
   ·rw[e] at P;refine zC P ⟨_,rfl,bV _ _⟩ ⟨⟨_,_,rfl⟩,C.trans<|pre_app _ _,_,az (pre_app _ _) A,by omega,λm=>?_⟩;have hz:aB l f≠0:=λz=>hE ⟨f0,E,z⟩
    rw[I m,N m,qV hz];simp
   ·rw[e] at P;refine fE P ⟨k,rfl,az (C.trans<|pre_app _ _) hL⟩ (λi u o=>(∃y,u=[aa<|.ref a,aa<|.int g,aa<|.ref M.length,aa<|.int f,y])/\M<+:o/\∃d,o[M.length]? =aa (.aD d)/\d.length<=10*j+1+i/\∀m,(aS d m).isSome=((g_ (ar h w) l (h*w) (gr.take j) m||ai (aB l f=m))||((rowOf (ar h w) l (h*w) f).take i).any (·==m)))
     ⟨⟨_,rfl⟩,C.trans<|pre_app _ _,_,az (pre_app _ _) A,by omega,λm=>by rw[I m];simp⟩ ?_ ?_ ?_
    ·rintro i u o hi ⟨_,p2,_⟩;exact⟨k,rfl,az p2 hL⟩
    ·rintro i x u o Z ⟨⟨y,rfl⟩,p2,pQ,hd2,n7,mn⟩;obtain⟨B,N5,rfl,J⟩:=gS Z;simp only[T9,T7];have il:i<(rowOf (ar h w) l (h*w) f).length:=(T6.mp J).1;have rl:=lC (ar h w) l (h*w) f;refine oG (M1:=o) (M2:=o) (M3:=o) (a:=M.length) (i:=B) (v:=.bl af) (kvs:=pQ) rfl rfl rfl hd2 (by omega) ?_;obtain⟨p3,Og⟩:=Ar (o':=.aD<|dput pQ B<|.bl af) p2 hd2;refine⟨⟨_,rfl⟩,p3,_,Og,?_,λm=>?_⟩
     ·have:=qL pQ B<|.bl af;omega
     ·rw[mS,ql _ _ _ J,<-Xf,<-mn m];by_cases e:m=B
      ·rw[T1 e,e];simp
      ·have:(B==m)=ag:=by simpa usingλz:B=m=>e z.symm
       rw[T2 e,this];simp
    ·rintro u o ⟨⟨y,rfl⟩,p2,pQ,hd2,n7,mn⟩;have rl:=lC (ar h w) l (h*w) f;rw[Ub] at n7;refine⟨⟨_,_,rfl⟩,p2,pQ,hd2,by omega,λm=>?_⟩;rw[mn m,Ub,UX,N m,Xf]
  ·rintro u s ⟨⟨x,y,rfl⟩,p,d,hd,hk,hv⟩;dsimp only;have e2:=x6 (σ:=[aa<|.ref a,aa<|.int g,aa<|.ref M.length,x,y]) (k:=4) (cl:=[4]) (t:=tB<|nK af (aj 4)<|aj 2) 0 (h*w) (yE W hw rfl (az p Q) rfl rfl) (λm=>!g_ (ar h w) l (h*w) gr m) s9 (λm=>?_)<|λm=>rfl
   ·have el:kU (ar h w) l (h*w) g=(nums<|h*w).filter (λm=>!g_ (ar h w) l (h*w) gr m):=by unfold kU;rw[V]
    rw[el];exact bt e2 ⟨p.trans<|pre_app _ _,aR.new _ _⟩
   ·have D:=hv m;rw[Ub,UX] at D;show tB (nK af (aj 4)<|aj 2) [aa<|.ref a,aa<|.int g,aa<|.ref M.length,x,aa<|.int m] s=_;simp only[tB,aq,aj,R.bind,T',T5,An af _ hd,D];simp
 obtain⟨r,s,e,q⟩:=X;exact⟨r,s,e,q⟩
def vg(h:M[a]? =aa (.a8 g kvs)):c8 [(a,.a8 g kvs)] M=aa (M.set a<|.aD kvs):=T1 h
def oM{M N:Mem}(h:M[a]? =aa o)(p:M.set a o'<+:N):M<+:N.set a o:=by
 obtain⟨J,rfl⟩:=p;have b:=(T6.mp h).1;rw[W9 _ _<|by simpa using b,List.set_set];have:M.set a o=M:=by
  apply List.ext_getElem?;intro i;by_cases e:i=a
  ·subst e;rw[UH b,h]
  ·rw[Uz<|Uq e]
 rw[this];exact pre_app _ _
def vx{M:Mem}{a b:Nat}(h:M[a]? =aa (.aD kvs))(c:M[b]? =aa (.lst l)):(M.set a o)[b]? =aa (.lst l):=by
 have:a≠b:=by rintro rfl;rw[h] at c;cases c
 rw[Uz this];exact c
def vh{M:Mem}(h:M[a]? =aa o):(M.set a o')[a]? =aa o':=UH (T6.mp h).1
noncomputable def x8(f:CM):Prop:=∀(M:Mem) (a n c h w:Nat) (b:List Int),1<=h/\h<=3->1<=w/\w<=3->bL M a n c h w b->aY (h*w) b->
 ∃v d e,f [.ref a] M=.ok v d/\M<+:d/\aT d v e/\∀p,p∈e↔cK b p/\rowOf (ar h w) b (h*w) p=[]
def yF:x8 PB.lj:=by
 intro M a n c h w i hh hw S Q;obtain⟨s1,L⟩:=eh hh hw;have sl:=Q.len;have T:i.length<=81:=by rw[sl];exact UJ L L
 obtain⟨⟨vG,Y,jE⟩,nm,d,B,U,v,s⟩:=S;have Z:kj (aM aQ fC<|aj 0) [aa<|.ref a] M=.ok (d.map<|λb=>.pair (.int b.1) b.2,[(c,.a8 M.length d)]) (M.set c (.a8 M.length d)++[.bR]):=by have e1:aM aQ fC (aj 0) [aa<|.ref a] M=.ok (.ref c) M:=cg rfl Y rfl;simp only[kj,e1,R.bind,er B]
 have l:=az (pre_app _ [O.bR])<|vh (o':=.a8 M.length d) B;obtain⟨P,m,ys,e,_,H,rfl⟩:=FA (c:=[(c,.a8 M.length d)]) (g:=cB [ay 1,ay 2]) (t:=tB<|aq oEq (aj 2)<|aP<|ao) (elt:=aj 1) (d.map<|λb=>.pair (.int b.1) b.2) (λj I N o=>(∃x y,I=[aa<|.ref a,x,y])/\M.set c (.a8 M.length d)++[.bR]<+:N/\o=(((d.take j).filter λb=>ai<|rowOf (ar h w) i (h*w) b.1=[]).map (·.1)).map .int) (by
   rintro j x I N o u ⟨⟨x',y',rfl⟩,p,rfl⟩;rw[UW] at u;cases q:d[j]? with
   |none=>rw[q] at u;cases u
   |some b=>
    rw[q] at u;have ex:x=.pair (.int b.1) b.2:=(Ua u).symm;subst ex;have hm:(b.1,b.2)∈d:=Vn q;have f:=mT hm v;rcases s b.1 with⟨z,_⟩|⟨k,z,A,hk,hL⟩
    ·rw[z] at f;cases f
    ·rw[z] at f;have V:b.2=.ref k:=(Ua f).symm;refine⟨by simp[bJ.ok,az p l],_,_,_,_,ai<|rowOf (ar h w) i (h*w) b.1=[],N++[.tup [.int b.1,b.2]]++[.lst []],oE _ _ _,rG,?_,λF=>?_,λF=>?_⟩
     ·simp only[T9,T7];have E:aP ao [aa<|.ref a,aa<|.int b.1,aa b.2] (N++[.tup [.int b.1,b.2]])=.ok (.ref (N++[O.tup [.int b.1,b.2]]).length) (N++[.tup [.int b.1,b.2]]++[.lst []]):=(show bu [] (N++[O.tup [.int b.1,b.2]])=_ from cm<|by decide);refine bZ<|bx rfl E ?_;exact va (xs:=rowOf (ar h w) i (h*w) b.1) (ys:=[]) ⟨k,V,az (p.trans<|(pre_app _ _).trans<|pre_app _ _)<|az (pre_app _ _)<|vx B hL⟩<|aR.new _ _
     ·refine⟨.int b.1,_,rfl,⟨_,_,rfl⟩,p.trans<|(pre_app _ _).trans<|pre_app _ _,?_⟩;rw[oo _ _ _ q];simp only[F,Ul,Wb,Uo,U0]
     ·refine⟨⟨_,_,rfl⟩,p.trans<|(pre_app _ _).trans<|pre_app _ _,?_⟩;rw[oo _ _ _ q];simp only[F,UM,UG,UZ])
  (by rintro I N o ⟨_,p,_⟩;simp[bJ.ok,az p l]) 0 [aa (.ref a),ae,ae] (M.set c (.a8 M.length d)++[.bR]) [] (Vc _) ⟨⟨_,_,rfl⟩,dJ _,rfl⟩
 rw[List.drop_zero] at e;rw[Ub,UX] at e;have K:((d.filter λb=>ai<|rowOf (ar h w) i (h*w) b.1=[]).map (·.1)).length<=81:=by rw[Ub];exact Ug (Vh _ _)<|by omega
 have J:(m++[O.lst (((d.filter λb=>ai<|rowOf (ar h w) i (h*w) b.1=[]).map (·.1)).map .int)])[c]? =aa (.a8 M.length d):=az (H.trans<|pre_app _ _) l;have ec:lN 2 [] (aM aQ fC<|aj 0) (cB [ay 1,ay 2]) (tB<|aq oEq (aj 2)<|aP<|ao) (aj 1) [aa<|.ref a] M=.ok (.ref m.length) ((m++[O.lst (((d.filter λb=>ai<|rowOf (ar h w) i (h*w) b.1=[]).map (·.1)).map .int)]).set c<|.aD d):=by unfold lN;rw[Z];have G:bu (((d.filter λb=>ai<|rowOf (ar h w) i (h*w) b.1=[]).map (·.1)).map W.int) m=.ok (.ref m.length) (m++[O.lst (((d.filter λb=>ai<|rowOf (ar h w) i (h*w) b.1=[]).map (·.1)).map .int)]):=cm (by rw[Ub];omega);simp only[R.bind,eX,Wc,Vp,Vy,U',UK,e,G,vg J]
 have C:∃r N,PB.lj [.ref a] M=.ok r N/\(r=.ref m.length/\N=(m++[O.lst (((d.filter λb=>ai<|rowOf (ar h w) i (h*w) b.1=[]).map (·.1)).map .int)]).set c (.aD d)):=bT rfl<|bt ec ⟨rfl,rfl⟩;obtain⟨r,N,X,rfl,rfl⟩:=C;have cl:=by have:=(T6.mp<|az H l).1;exact this
 refine⟨_,_,_,X,oM B<|(pre_app _ _).trans<|H.trans<|pre_app _ _,⟨_,rfl,by rw[Uz<|by omega];exact bV _ _⟩,λp=>?_⟩;constructor
 ·intro hp;obtain⟨b,D,rfl⟩:=Us.mp hp;obtain⟨h1,h2⟩:=UT.mp D;have f:=mT h1 v;rcases s b.1 with⟨z,_⟩|⟨k,z,A,_⟩
  ·rw[z] at f;cases f
  ·exact⟨A,UD h2⟩
 ·rintro⟨A,hr⟩;rcases s p with⟨_,z⟩|⟨k,z,_⟩
  ·exact(z A).elim
  ·exact Us.mpr ⟨(p,.ref k),UT.mpr ⟨uo z,UA hr⟩,rfl⟩
def xF(d:1<=h/\h<=3)(c:1<=w/\w<=3)(j:σ[0]? =aa (aa<|.ref a))(f:M[a]? =aa (.ins aQ fs))(b:cD fG fs=aa vG)(g:LL M vG<|ar h w):
 cQ (ax bP<|ak (aM aQ fG<|aj 0) ao) σ M=.ok (cV 0 (ar h w).length,[]) M:=by
 obtain⟨l,k⟩:=eh d c;have i:=cg j f b;have e:((ar h w).length:Int).natAbs<cw:=ew (by omega) (by rw[je];omega);simp only[cQ,ax,ak,ao,i,R.bind,Am g];rw[T1 e,Uy]
noncomputable abbrev qa:List Nat:=[116,119,105,99,101,95,110,117,109,98,101,114,115]
noncomputable abbrev n8:List Nat:=[104,111,109,101,108,101,115,115,95,110,117,109,98,101,114,115]
noncomputable def ou(x:List Nat)(L:List (List Int)->List Int->Nat->Int->List Int)(f:CM):Prop:=∀(M) (a n c h w fn) (b) (e),1<=h/\h<=3->1<=w/\w<=3->bL M a n c h w b->aY (h*w) b->M[fn]? =aa (.di x)->
 ∃v d,f [.ref a,.str e,.ref fn] M=.ok v d/\M<+:d/\((v=.aw/\∀g:Int,0<=g->g<((ar h w).length:Int)->L (ar h w) b (h*w) g=[])\/∃g m:Int,0<=g/\g<((ar h w).length:Int)/\m∈L (ar h w) b (h*w) g/\aH d v [.str e,.int g,.int m])
def As(h:M[k]? =aa (.lst<|l.map .int))(c:σ[i]? =aa (aa<|.ref k)):tB (aq bE (aj i)<|aP<|ao) σ M=.ok (!ai (l=[])) (M++[.lst []]):=by
 have a:aj i σ M=.ok (.ref k) M:=by simp only[aj,c]
 have b:=(show bu [] M=_ from cm<|by decide);exact bZ<|bx a b<|Hz ⟨_,rfl,az (pre_app _ _) h⟩<|aR.new _ _
def qW(h:M[k]? =aa (.lst<|(m::l).map .int))(b:σ[i]? =aa (aa<|.ref k)):aq aA (aj i) (eC<|.int 0) σ M=.ok (.int m) M:=by
 have a:aj i σ M=.ok (.ref k) M:=by simp only[aj,b]
 exact bx a rfl<|iO ⟨_,rfl,h⟩ (by decide) (by show(0)<((l.length+1:Nat):Int);omega)
def yG(K:∃p,[(qa,ft),(n8,fl)].find? (λp=>ai<|p.1=x)=aa p/\uP L p.2):ou x L (PB.k_ fl ft):=by
 intro M a n c h w fn l o I H S J C;obtain⟨X,f,U⟩:=K;have u:∃v d,PB.k_ fl ft [.ref a,.str o,.ref fn] M=.ok v d/\(M<+:d/\((v=.aw/\∀g:Int,0<=g->g<((ar h w).length:Int)->L (ar h w) l (h*w) g=[])\/∃g m:Int,0<=g/\g<((ar h w).length:Int)/\m∈L (ar h w) l (h*w) g/\aH d v [.str o,.int g,.int m])):=by
  refine bT rfl ?_;refine aI ?_;have O:=S;obtain⟨⟨W,N,D⟩,_⟩:=O;refine iH (xF I H rfl N rfl D.ll) (λj t d=>(∃x y,t=[aa<|.ref a,aa<|.str o,aa<|.ref fn,x,y])/\M<+:d/\∀g:Int,0<=g->g<(j)->L (ar h w) l (h*w) g=[])
   ⟨⟨_,_,rfl⟩,dJ _,λg G V=>by omega⟩ ?_ ?_
  ·rintro j t d Y ⟨⟨x',y',rfl⟩,p,hz⟩;rw[Int.zero_add];obtain⟨v,M1,P,F,T⟩:=U d a n c h w l (j) I H (S.mono p) J (by omega)<|by omega
   obtain⟨k,rfl,z⟩:=T;have ec:ri [(qa,ft),(n8,fl)] (aj 2) (ak (aj 0)<|ak (aj 3) ao) [aa<|.ref a,aa<|.str o,aa<|.ref fn,aa<|.int<|j,y'] d=.ok (.ref k) M1:=by
    have B:fnOf d (.ref fn)=aa x:=by simp only[fnOf,az p C]
    simp only[ri,aj,R.bind,T',T5,pick,B,ak,ao,f,VI,P]
   refine aI<|bC ec ?_;refine bp (As z rfl) (λs=>?_) λs=>?_
   ·cases A:L (ar h w) l (h*w) (j) with
    |nil=>rw[A] at s;simp at s
    |cons m r=>rw[A] at z;have E:=az (pre_app M1 [.lst []]) z;have Q:=uO (σ:=[aa<|.ref a,aa<|.str o,aa<|.ref fn,aa<|.int<|j,aa<|.ref k]) (a:=aj 1) (b:=aj 3) rfl rfl<|qW (i:=4) E rfl;refine bt Q ⟨p.trans<|F.trans<|(pre_app _ _).trans<|pre_app _ _,.inr ⟨(j),m,by omega,by omega,by rw[A];simp,aH.new _ _⟩⟩
   ·refine⟨⟨_,_,rfl⟩,p.trans<|F.trans<|pre_app _ _,λg G V=>?_⟩;by_cases e:g=(j)
    ·subst e;simpa using s
    ·exact hz g G<|by omega
  ·rintro t d ⟨⟨x',y',rfl⟩,p,hz⟩;dsimp only;exact bt rfl ⟨p,.inl ⟨rfl,hz⟩⟩
 obtain⟨v,d,e,q⟩:=u;exact⟨v,d,e,q⟩
def FC(e:0<=g)(f:g<(G.length:Int))(h:m∈jF G ss s g):eS G ss T s (.mq g m)=af:=by unfold jF at h;obtain⟨c,a⟩:=UT.mp h;have d:=mV c;have b:=UD a;rw[Dc];simp only[T_,UP,Vj,Vk,UQ];omega
def zI:(∀g:Int,0<=g->g<(G.length:Int)->jF G ss s g=[])↔cO G ss s=af:=by
 constructor
 ·intro h;unfold cO sd;refine UO.mpr λo f=>UO.mpr λk b=>UA ?_
  obtain⟨i,n,rfl⟩:=Wi f;have a:=h (i) (by omega)<|by omega
  unfold jF at a;rw[Wj] at a;have c:=a ((k)+1)<|Us.mpr ⟨k,b,rfl⟩;have e:G.getD (i:Int).toNat []=G[i]:=by simp[n]
  rw[e] at c;simp only[UQ] at c;omega
 ·intro h g j l;unfold jF;rw[Wj];intro m d;obtain⟨k,b,rfl⟩:=Us.mp d;unfold cO sd at h;have:=UD<|UO.mp (UO.mp h _<|getD_mem j l) k b;simp only[UQ];omega
def yH(u:0<=g)(w:g<(G.length:Int))(c:∀i∈G.getD g.toNat [],0<=i/\i<(ss.length:Int)):m∈kU G ss s g↔eS G ss (tabOf G ss s) s (.dV g m)=af:=by
 rw[C_];have n:de G (tabOf G ss s) g m=[]↔(G.getD g.toNat []).any (λf=>(rowOf G ss s f).any (·==m))=ag:=by
  unfold de;rw[Wj,UN,Ne,Uc];constructor
  ·rintro h ⟨f,a,e⟩;obtain⟨j,l⟩:=c f a;exact h f a (by rw[jk j l];exact e)
  ·intro h f a e;obtain⟨j,l⟩:=c f a;rw[jk j l] at e;exact h ⟨f,a,e⟩
 have o:∀b:Bool,(((G.getD g.toNat []).map<|aB ss).any (·==m))=b↔(G.getD g.toNat []).any (λf=>ai<|aB ss f=m)=b:=λb=>by rw[W4];exact Iff.rfl
 have k:g_ G ss s (G.getD g.toNat []) m=ag↔(G.getD g.toNat []).any (λf=>ai<|aB ss f=m)=ag/\(G.getD g.toNat []).any (λf=>(rowOf G ss s f).any (·==m))=ag:=by
  unfold g_;rw[UN,UN,UN,Ne,Ne,Ne,Uc,Uc,Uc];constructor
  ·intro h;exact⟨λ⟨f,a,e⟩=>h ⟨f,a,by rw[e];simp⟩,λ⟨f,a,e⟩=>h ⟨f,a,by rw[e];simp⟩⟩
  ·rintro⟨p,d⟩ ⟨f,a,e⟩;rw[VL] at e;rcases e with e|e
   ·exact p ⟨f,a,e⟩
   ·exact d ⟨f,a,e⟩
 unfold kU hU;rw[UT,UP,k];simp only[T_,UP,Vj,Vk,UQ,n];rw[o ag];constructor
 ·rintro⟨p,d,h3⟩;have:=mV p;exact⟨⟨⟨by omega,by omega,by omega,by omega⟩,d⟩,h3⟩
 ·rintro⟨⟨⟨v,r,q,t⟩,d⟩,h3⟩;refine⟨?_,d,h3⟩;refine Us.mpr ⟨(m-1).toNat,UL.mpr<|by omega,by omega⟩
noncomputable def qF(f:CM):Prop:=∀(M) (a n c h w) (b),1<=h/\h<=3->1<=w/\w<=3->bL M a n c h w b->aY (h*w) b->
 ∃v d,f [.ref a] M=.ok v d/\M<+:d/\((v=.aw/\cO (ar h w) b (h*w)=af)\/∃g m,iP d v (.mq g m)/\eS (ar h w) b (tabOf (ar h w) b<|h*w) (h*w) (.mq g m)=af/\cO (ar h w) b (h*w)=ag)
def x9(hf:ou qa jF f):qF (PB.lq f):=by
 intro M a n c h w l t s S d;obtain⟨v,i,e,p,o⟩:=hf (M++[.di qa]) a n c h w M.length l [116,119,105,99,101] t s (S.mono<|pre_app _ _) d<|bV _ _;have b:∃r N,PB.lq f [.ref a] M=.ok r N/\(r=v/\N=i):=by refine bT rfl<|bt ?_ ⟨rfl,rfl⟩;simp only[ax];exact e
 obtain⟨r,N,k,rfl,rfl⟩:=b;refine⟨_,_,k,(pre_app _ _).trans p,?_⟩;rcases o with⟨q,j⟩|⟨g,m,g0,g1,hm,ht⟩
 ·exact .inl ⟨q,zI.mp j⟩
 ·refine .inr ⟨g,m,ht,FC g0 g1 hm,?_⟩;rw[UN];intro z;have:=zI.mpr z g g0 g1;rw[this] at hm;cases hm
noncomputable def qP(f:CM):Prop:=∀(M) (a n c h w) (b),1<=h/\h<=3->1<=w/\w<=3->bL M a n c h w b->aY (h*w) b->
 ∃v d,f [.ref a] M=.ok v d/\M<+:d/\((v=.aw/\lz (ar h w) b (tabOf (ar h w) b<|h*w) (h*w)=ag)\/∃c,iP d v c/\eS (ar h w) b (tabOf (ar h w) b<|h*w) (h*w) c=af)
def zJ{fs f:CM}(V:x8 fs)(K:ou n8 kU f):qP (PB.la fs f):=by
 intro M a n c h w j G F S u;have J:=u.len;obtain⟨X,M1,N,Q,B,⟨k,rfl,H⟩,o⟩:=V M a n c h w j G F S u;have t:∃v d,PB.la fs f [.ref a] M=.ok v d/\(M<+:d/\((v=.aw/\lz (ar h w) j (tabOf (ar h w) j<|h*w) (h*w)=ag)\/∃c,iP d v c/\eS (ar h w) j (tabOf (ar h w) j<|h*w) (h*w) c=af)):=by
  refine bT rfl ?_;show(av _ _ [aa<|.ref a,ae] M).Sat _;refine aI<|bC (v:=.ref k) (M1:=M1) (by simp only[ax,ak,ao,aj,R.bind,T5,Q]) ?_;refine aI<|bp (As H rfl) (λz=>?_) λz=>?_
  ·cases N with
   |nil=>simp at z
   |cons p r=>
    have E:=az (pre_app M1 [.lst []]) H;obtain⟨x,P⟩:=(o p).mp UC;have T:ba (ak (eC<|.str [102,105,101,108,100])<|ak (aq aA (aj 1)<|eC<|.int 0) ao) [aa<|.ref a,aa<|.ref k] (M1++[.lst []])=.ok (.ref (M1++[O.lst []]).length) (M1++[.lst []]++[.tup [rm,.int p]]):=by simp only[ba,ak,ao,qW (i:=1) (σ:=[aa<|.ref a,aa<|.ref k]) E rfl,eC,R.bind];exact jc (by show 2<=16777216;decide)
    refine bt T ⟨B.trans<|(pre_app _ _).trans<|pre_app _ _,.inr ⟨.fld p,aH.new _ _,?_⟩⟩;rw[C9,jb.mpr x,jk x.1 x.2.1,P];rfl
  ·have C:=by simpa using z
   subst C;refine du ?_;obtain⟨v,d,e,p,U⟩:=K (M1++[.lst []]++[.di n8]) a n c h w (M1++[O.lst []]).length j [103,114,111,117,112] G F (S.mono<|B.trans<|(pre_app _ _).trans<|pre_app _ _) u<|bV _ _;refine bt (v:=v) ?_ ⟨B.trans<|((pre_app _ _).trans<|pre_app _ _).trans p,?_⟩
   ·show ax f (ak (aj 0)<|ak (eC<|.str [103,114,111,117,112])<|ak (pZ n8) ao) [aa<|.ref a,aa<|.ref k] (M1++[.lst []])=_;simp only[ax];exact e
   ·have l:=gx G F;rcases U with⟨W,L⟩|⟨g,m,g0,g1,hm,ht⟩
    ·refine .inl ⟨W,?_⟩;unfold lz;rw[Vj];constructor
     ·rw[UN,Ne,Uc];rintro⟨p,D,b⟩;have D:=UL.mp D;rw[T_,UQ,UQ,iE _ _ _ _ D] at b;have:=(o<|p).mpr ⟨⟨by omega,by omega,b.1⟩,b.2⟩;cases this
     ·rw[UN,Ne,Uc];rintro⟨g,I,s⟩;have I:=UL.mp I;rw[Uc] at s;obtain⟨k2,_,y⟩:=s;have:=(yH (by omega) (by omega) (λi A=>by rw[J];exact(l _<|getD_mem (by omega)<|by omega).2 i A)).mpr y;rw[L (g) (by omega)<|by omega] at this;cases this
    ·exact .inr ⟨.dV g m,ht,(yH g0 g1 (λi A=>by rw[J];exact(l _<|getD_mem g0 g1).2 i A)).mp hm⟩
 obtain⟨v,d,e,q⟩:=t;exact⟨v,d,e,q⟩
noncomputable def xG(f:CM):Prop:=∀(M) (a n c h w) (b),1<=h/\h<=3->1<=w/\w<=3->bL M a n c h w b->aY (h*w) b->
 ∃v d,f [.ref a] M=.ok v d/\M<+:d/\((v=.aw/\lz (ar h w) b (tabOf (ar h w) b<|h*w) (h*w)=ag/\cO (ar h w) b (h*w)=af)\/∃c,iP d v c/\eS (ar h w) b (tabOf (ar h w) b<|h*w) (h*w) c=af)
def D_(B:qF ft)(t:qP fd):xG (PB.lr ft fd):=by
 intro M a n c h w d s r S o;obtain⟨C,M1,D,j,k⟩:=B M a n c h w d s r S o;have i:∃v f,PB.lr ft fd [.ref a] M=.ok v f/\(M<+:f/\((v=.aw/\lz (ar h w) d (tabOf (ar h w) d<|h*w) (h*w)=ag/\cO (ar h w) d (h*w)=af)\/∃c,iP f v c/\eS (ar h w) d (tabOf (ar h w) d<|h*w) (h*w) c=af)):=by
  refine bT rfl ?_;show(av _ _ [aa<|.ref a,ae] M).Sat _;refine aI<|bC (v:=C) (M1:=M1) (by simp only[ax,ak,ao,aj,R.bind,T5,D]) ?_;simp only[T7];rcases k with⟨rfl,x⟩|⟨g,m,y,A,_⟩
  ·refine aI (bp (bZ rfl) (λz=>nomatch z) λ_=>?_);refine du ?_;obtain⟨v,f,e,p,E⟩:=t M1 a n c h w d s r (S.mono j) o;refine bt (v:=v) (by simp only[ax,ak,ao,aj,R.bind,T5,e]) ⟨j.trans p,?_⟩;rcases E with⟨F,u⟩|z
   ·exact .inl ⟨F,u,x⟩
   ·exact .inr z
  ·obtain⟨b,rfl,l⟩:=y;refine aI<|bp (bZ rfl) (λ_=>?_) λz=>nomatch z
   exact bt rfl ⟨j,.inr ⟨.mq g m,⟨b,rfl,l⟩,A⟩⟩
 obtain⟨v,f,e,q⟩:=i;exact⟨v,f,e,q⟩
def Dd{h w:Nat}(s:1<=h/\h<=3)(q:1<=w/\w<=3){ss:List Int}(r:aY (h*w) ss){g m p:Int}(k:0<=g)(n:g<((ar h w).length:Int))(l:de (ar h w) (tabOf (ar h w) ss<|h*w) g m=[p]):
 hV (ar h w) ss (tabOf (ar h w) ss<|h*w) (h*w) (.dV p m g)=af:=by
 have o:p∈de (ar h w) (tabOf (ar h w) ss<|h*w) g m:=by rw[l];simp
 unfold de at o;obtain⟨c,b⟩:=UT.mp o;obtain⟨_,e⟩:=gx s q _<|getD_mem k n;obtain⟨j,d⟩:=e p c;have a:p<(ss.length:Int):=by rw[r.len];exact d
 rw[jk j a] at b;obtain⟨y,i,t⟩:=Uc.mp b;have f:y=m:=by simpa using t
 subst f;rw[qt,UA l,yC k n c i,jb.mpr ⟨j,a,(m8 i).1⟩];rfl
noncomputable def ur(f:CM):Prop:=∀(M) (a n c h w) (b),1<=h/\h<=3->1<=w/\w<=3->bL M a n c h w b->aY (h*w) b->
 ∃v d,f [.ref a] M=.ok v d/\M<+:d/\((v=.aw/\gW (ar h w) b (tabOf (ar h w) b<|h*w) (h*w)=ag)\/∃e,jq d v e/\hV (ar h w) b (tabOf (ar h w) b<|h*w) (h*w) e=af)
def x_{kvs:List (Int×W)}{j:Nat}(h:(kvs.map λkv=>Src.pair (.int kv.1) kv.2)[j]? =aa x):∃kv,kvs[j]? =aa kv/\x=.pair (.int kv.1) kv.2:=by
 rw[UW] at h;cases q:kvs[j]? with
 |none=>rw[q] at h;cases h
 |some kv=>rw[q] at h;exact⟨kv,rfl,(Ua h).symm⟩
def Bk{l:List Int}(h:M[k]? =aa (.lst<|l.map .int))(b:σ[i]? =aa (aa<|.ref k)):tB (aq oEq (ax bP<|ak (aj i) ao)<|eC<|.int 1) σ M=.ok (ai<|(l.length:Int)=1) M:=by
 have a:aj i σ M=.ok (.ref k) M:=by simp only[aj,b]
 exact bZ<|bx (HG a ⟨_,rfl,h⟩) rfl eq_int
def yI(he:e σ M=.ok (.ref a) M1)(n:M1[a]? =aa (.aD kvs))(P:Nat->St->Mem->Prop)(p:P 0 σ<|M1.set a (.a8 M1.length kvs)++[.bR])(r:∀(j) x σ N,(kvs.map λkv=>Src.pair (.int kv.1) kv.2)[j]? =aa x->P j σ N->N[a]? =aa (.a8 M1.length kvs)/\∃v m bN l,x.get N=.ok v m/\g v σ m=.ok bN l/\(body bN l).Sat {nx:=P (j+1),ct:=P (j+1),bk:=λσ N=>N[a]? =aa (.a8 M1.length kvs)/\q.nx σ (N.set a<|.aD kvs),rt:=λv N=>N[a]? =aa (.a8 M1.length kvs)/\q.rt v (N.set a<|.aD kvs)})(hd:∀σ N,P kvs.length σ N->N[a]? =aa (.a8 M1.length kvs)/\q.nx σ (N.set a<|.aD kvs)):(ny e g body σ M).Sat q:=by
 have s:kj e σ M=.ok (kvs.map<|λkv=>.pair (.int kv.1) kv.2,[(a,.a8 M1.length kvs)]) (M1.set a (.a8 M1.length kvs)++[.bR]):=by unfold kj;rw[he];simp only[R.bind,er n]
 unfold ny;rw[s];simp only[R.bK];have b:=yy (c:=[(a,.a8 M1.length kvs)]) (q:={nx:=λσ N=>N[a]? =aa (.a8 M1.length kvs)/\q.nx σ (N.set a<|.aD kvs),rt:=λv N=>N[a]? =aa (.a8 M1.length kvs)/\q.rt v (N.set a<|.aD kvs)}) (kvs.map λkv=>Src.pair (.int kv.1) kv.2) P (λj x σ N o k=>by obtain⟨d,f⟩:=r j x σ N o k;exact⟨by simp[bJ.ok,d],f⟩)
  (λσ N k=>by rw[Ub] at k;obtain⟨d,f⟩:=hd σ N k;exact⟨by simp[bJ.ok,d],d,f⟩) 0 σ (M1.set a (.a8 M1.length kvs)++[.bR]) (Vc _) p
 rw[List.drop_zero] at b;cases h:loop [(a,.a8 M1.length kvs)] g body (kvs.map λkv=>Src.pair (.int kv.1) kv.2) σ (M1.set a (.a8 M1.length kvs)++[.bR]) with
 |nx i N=>rw[h] at b;obtain⟨d,f⟩:=b;simp only[RS.c8,vg d];exact f
 |rt v N=>rw[h] at b;obtain⟨d,f⟩:=b;simp only[RS.c8,vg d];exact f
 |bk i N=>rw[h] at b;exact b.elim
 |ct i N=>rw[h] at b;exact b.elim
 |ex v N=>rw[h] at b;exact b.elim
 |bad=>rw[h] at b;exact b.elim
def yJ(h:aH N v us)(c:N[a]? =aa (.a8 g kvs)):aH (N.set a o) v us:=by
 obtain⟨b,e,q⟩:=h;have:a≠b:=by rintro rfl;rw[c] at q;cases q
 exact⟨b,e,by rw[Uz this];exact q⟩
def FD{fh:CM}(hH:uq fh):ur (PB.lu fh):=by
 intro M a n c h w E hh hw S sh;have sl:=sh.len;have N7:=gx hh hw;have S0:=S;obtain⟨⟨vG,ob,jE⟩,nm,V,Y,n5,sf,n6⟩:=S0;have key:∃v D,PB.lu fh [.ref a] M=.ok v D/\(M<+:D/\((v=.aw/\gW (ar h w) E (tabOf (ar h w) E<|h*w) (h*w)=ag)\/∃st,jq D v st/\hV (ar h w) E (tabOf (ar h w) E<|h*w) (h*w) st=af)):=by
  refine bT rfl ?_;show(av _ _ [aa<|.ref a,ae,ae,ae,ae,ae] M).Sat _;refine aI ?_;have he:aM aQ fC (aj 0) [aa<|.ref a,ae,ae,ae,ae,ae] M=.ok (.ref c) M:=cg rfl ob rfl;have J:=az (pre_app _ [O.bR])<|vh (o':=.a8 M.length V) Y;refine yI he Y (λj C N=>(∃x y,C=[aa<|.ref a,x,y,ae,ae,ae])/\M.set c (.a8 M.length V)++[.bR]<+:N/\∀d∈V.take j,(rowOf (ar h w) E (h*w) d.1).length≠1) ⟨⟨_,_,rfl⟩,dJ _,by simp⟩ ?_ ?_
  ·rintro j x C N hx ⟨⟨x',y',rfl⟩,p,hz⟩;obtain⟨d,F,rfl⟩:=x_ hx;refine⟨az p J,_,_,_,_,oE _ _ _,rG,?_⟩;simp only[T9,T7];have hm:(d.1,d.2)∈V:=Vn F;have s:=mT hm sf;rcases n6 d.1 with⟨z,_⟩|⟨k,z,hE,hk,hL⟩
   ·rw[z] at s;cases s
   ·rw[z] at s;have Z:d.2=.ref k:=(Ua s).symm;have A:=az (p.trans<|pre_app N [.tup [.int d.1,d.2]])<|az (pre_app _ _)<|vx (o:=.a8 M.length V) Y hL;refine bp (Bk (i:=2) A (by rw[Z];rfl)) (λB=>?_) λB=>?_
    ·have l:(rowOf (ar h w) E (h*w) d.1).length=1:=by have:=UD B;omega
     cases K:rowOf (ar h w) E (h*w) d.1 with
     |nil=>rw[K] at l;simp at l
     |cons m r=>
      have P:r=[]:=by rw[K] at l;simpa using l
      subst P;rw[K] at A;have et:=uO (σ:=[aa<|.ref a,aa<|.int d.1,aa d.2,ae,ae,ae]) (M:=N++[.tup [.int d.1,d.2]]) (a:=eC<|.str [102,105,101,108,100]) (b:=aj 1) rfl rfl<|qW (i:=2) A (by rw[Z];rfl);have Q:=p.trans<|(pre_app N [O.tup [.int d.1,d.2]]).trans<|pre_app _ [O.tup [W.str [102,105,101,108,100],W.int d.1,W.int m]];refine bt et ⟨az Q J,oM Y<|(pre_app _ _).trans Q,.inr ⟨.fld d.1 m,yJ (aH.new _ _)<|az Q J,?_⟩⟩;rw[qr,jb.mpr hE,jk hE.1 hE.2.1,K];simp
    ·refine⟨⟨_,_,rfl⟩,p.trans<|pre_app _ _,λU t=>?_⟩;rw[mH _ _ F] at t;rcases Vb.mp t with q|q
     ·exact hz U q
     ·rw[VH.mp q];have:=Vi B;omega
  ·rintro C N0 ⟨⟨x',y',rfl⟩,p0,hz⟩;refine⟨az p0 J,?_⟩;have p:=oM Y<|(pre_app _ _).trans p0;generalize N0.set c (O.aD V)=N at p;rw[UX] at hz;dsimp only;refine aI ?_;refine iH (lo:=0) (n:=(ar h w).length) (M1:=N) (xF hh hw rfl (az p ob) rfl<|jE.ll.mono p) (λj C D=>(∃x y z u v,C=[aa<|.ref a,x,y,z,u,v])/\M<+:D/\∀g:Int,0<=g->g<(j:Int)->∀m,(de (ar h w) (tabOf (ar h w) E<|h*w) g m).length≠1)
    ⟨⟨_,_,_,_,_,rfl⟩,p,λg g0 g1=>by omega⟩ ?_ ?_
   ·rintro j C D hj ⟨⟨x,y,z,u,v,rfl⟩,p',qb⟩;simp only[T9,T7];rw[Int.zero_add];obtain⟨M1,G,e1,I,hk⟩:=hH D a n c h w E (j:Int) hh hw (S.mono p') sh (by omega)<|by omega
    have p1:=I.pre;have Oh:ax fh (ak (aj 0)<|ak (aj 3) ao) [aa<|.ref a,x,y,aa<|.int (j:Int),u,v] D=.ok (.ref D.length) M1:=by simp only[ax,ak,ao,aj,R.bind,T',T5,e1]
    have L:=az (pre_app _ [O.bR])<|vh (o':=.a8 M1.length G) I.at_;refine yI Oh I.at_ (λi C N=>(∃u v,C=[aa<|.ref a,x,y,aa<|.int (j:Int),u,v])/\M1.set D.length (.a8 M1.length G)++[.bR]<+:N/\∀d∈G.take i,(de (ar h w) (tabOf (ar h w) E<|h*w) (j:Int) d.1).length≠1) ⟨⟨_,_,rfl⟩,dJ _,by simp⟩ ?_ ?_
    ·rintro i sx C N hx ⟨⟨x',y',rfl⟩,q,sj⟩;obtain⟨d,F,rfl⟩:=x_ hx;refine⟨az q L,_,_,_,_,oE _ _ _,rG,?_⟩;simp only[T9,T7];have hm:(d.1,d.2)∈G:=Vn F;have s:=mT hm I.nd;rcases I.val d.1 with⟨X,_⟩|⟨k,X,Sn,n7,hL⟩
     ·rw[X] at s;cases s
     ·rw[X] at s;have Z:d.2=.ref k:=(Ua s).symm;have A:=az (q.trans<|pre_app N [.tup [.int d.1,d.2]])<|az (pre_app _ _)<|vx (o:=.a8 M1.length G) I.at_ hL;refine bp (Bk (i:=5) A (by rw[Z];rfl)) (λB=>?_) λB=>?_
      ·have l:(de (ar h w) (tabOf (ar h w) E<|h*w) (j:Int) d.1).length=1:=by have:=UD B;omega
       cases K:de (ar h w) (tabOf (ar h w) E<|h*w) (j:Int) d.1 with
       |nil=>rw[K] at l;simp at l
       |cons f r=>
        have P:r=[]:=by rw[K] at l;simpa using l
        subst P;have Oi:(N++[O.tup [.int d.1,d.2]])[k]? =aa (.lst<|[f].map .int):=by rw[K] at A;exact A
        have et:ba (ak (eC<|.str [103,114,111,117,112])<|ak (aq aA (aj 5)<|eC<|.int 0)<|ak (aj 4)<|ak (aj 3) ao) [aa<|.ref a,x,y,aa<|.int (j:Int),aa<|.int d.1,aa d.2] (N++[.tup [.int d.1,d.2]])=.ok (.ref (N++[O.tup [.int d.1,d.2]]).length) (N++[.tup [.int d.1,d.2]]++[.tup [o5,.int f,.int d.1,.int (j:Int)]]):=by simp only[ba,ak,ao,qW (i:=5) (σ:=[aa<|.ref a,x,y,aa<|.int (j:Int),aa<|.int d.1,aa d.2]) Oi (by rw[Z];rfl),eC,aj,R.bind,T',T5];exact jc (by show 4<=16777216;decide)
        have Q:=q.trans<|(pre_app N [O.tup [.int d.1,d.2]]).trans<|pre_app _ [O.tup [o5,W.int f,W.int d.1,W.int<|j]];refine bt et ⟨az Q L,p'.trans<|p1.trans<|oM I.at_<|(pre_app _ _).trans Q,.inr ⟨.dV f d.1<|j,yJ (aH.new _ _)<|az Q L,Dd hh hw sh (by omega) (by omega) K⟩⟩
      ·refine⟨⟨_,_,rfl⟩,q.trans<|pre_app _ _,λU t=>?_⟩;rw[mH _ _ F] at t;rcases Vb.mp t with qq|qq
       ·exact sj U qq
       ·rw[VH.mp qq];have:=Vi B;omega
    ·rintro C N ⟨⟨x',y',rfl⟩,q,sj⟩;refine⟨az q L,⟨_,_,_,_,_,rfl⟩,p'.trans<|p1.trans<|oM I.at_<|(pre_app _ _).trans q,λg g0 g1 m=>?_⟩;rw[UX] at sj;by_cases e:g=(j)
     ·subst e;rcases I.val m with⟨_,z0⟩|⟨k,z0,_⟩
      ·have z0:=z0;rw[z0];simp
      ·exact sj (m,.ref k)<|uo z0
     ·exact qb g g0 (by omega) m
   ·rintro C D ⟨⟨x,y,z,u,v,rfl⟩,p',qb⟩;dsimp only;refine bt rfl ⟨p',.inl ⟨rfl,?_⟩⟩;unfold gW;rw[Vj];constructor
    ·rw[UN,Ne,Uc];rintro⟨q,hq,H⟩;have hq:=UL.mp hq;rw[UQ,iE _ _ _ _ hq] at H;rcases n6 (q) with⟨_,zE⟩|⟨k,zv,_⟩
     ·have:=λX=>zE ⟨by omega,by omega,X⟩
      rw[qV this] at H;simp at H
     ·exact hz ((q),.ref k) (uo zv) H
    ·rw[UN,Ne,Uc];rintro⟨g,hg,BF⟩;have hg:=UL.mp hg;rw[Uc] at BF;obtain⟨k2,_,T⟩:=BF;unfold Aq at T;rw[T_,UQ] at T;exact qb (g) (by omega) (by omega) _ T.2
 obtain⟨v,D,e,q⟩:=key;exact⟨v,D,e,q⟩
mutual
inductive Tr where
 |mk (fQ:List ee) (e:En)
inductive En where
 |full
 |left
 |cls (c:d_)
 |jG (p:Int) (bs:Bs)
inductive Bs where
 |nil
 |cons (n:Int) (t:Tr) (r:Bs)
end
noncomputable abbrev nA:W:=.str [102,117,108,108]
noncomputable abbrev gE:W:=.str [108,101,102,116]
noncomputable abbrev o7:W:=.str [99,108,97,115,104]
noncomputable abbrev nO:W:=.str [116,114,121]
noncomputable def En.word:En->W
 |.full=>nA
 |.left=>gE
 |.cls _=>o7
 |.jG _ _=>nO
noncomputable def Bs.nums:Bs->List Int
 |.nil=>[]
 |.cons n _ r=>n::r.nums
mutual
noncomputable def dn(M:Mem)(v:W):Tr->Prop
 |.mk c e=>∃a b,aH M v [a,b]/\fx M a c/\dI M b e
noncomputable def dI(M:Mem)(v:W):En->Prop
 |.full=>aH M v [nA]
 |.left=>aH M v [gE]
 |.cls c=>∃u,aH M v [o7,u]/\iP M u c
 |.jG p bs=>∃u a,aH M v [nO,.int p,u]/\aR M u a/\dY M a bs/\a.length<=1000
noncomputable def dY(M:Mem)(b:List W):Bs->Prop
 |.nil=>b=[]
 |.cons n t r=>∃w u a,b=w::a/\aH M w [.int n,u]/\dn M u t/\dY M a r
end
mutual
theorem dn.mono{M M':Mem}(p:M<+:M'):∀{v:W} {t:Tr},dn M v t->dn M' v t
 |v,.mk c e,h=>by unfold dn at h⊢;obtain⟨a,b,f,d,h3⟩:=h;exact⟨a,b,f.mono p,d.mono p,dI.mono p h3⟩
theorem dI.mono{M M':Mem}(p:M<+:M'):∀{v:W} {e:En},dI M v e->dI M' v e
 |v,.full,h=>by unfold dI at h⊢;exact h.mono p
 |v,.left,h=>by unfold dI at h⊢;exact h.mono p
 |v,.cls c,h=>by unfold dI at h⊢;obtain⟨u,b,a⟩:=h;exact⟨u,b.mono p,aH.mono a p⟩
 |v,.jG q bs,h=>by unfold dI at h⊢;obtain⟨u,f,b,a,h3,d⟩:=h;exact⟨u,f,b.mono p,a.mono p,dY.mono p h3,d⟩
theorem dY.mono{M M':Mem}(p:M<+:M'):∀{a:List W} {bs:Bs},dY M a bs->dY M' a bs
 |a,.nil,h=>by unfold dY at h⊢;exact h
 |a,.cons n t r,h=>by unfold dY at h⊢;obtain⟨w,u,b,e,d,c,h3⟩:=h;exact⟨w,u,b,e,d.mono p,dn.mono p c,dY.mono p h3⟩
end
def ya(h:a σ M=.ok (.bl af) M1)(c:b σ M1=r):eG a b σ M=r:=by unfold eG;rw[h];exact c
noncomputable def l'(G:List<|List Int)(ss:List Int)(T:List<|List Int)(s:Nat):En->Bool
 |.full=>!ss.any (·==0)
 |.left=>af
 |.cls c=>eS G ss T s c
 |.jG p bs=>fk ss p&&ai (bs.nums=T.getD p.toNat [])
def yK(h:fk ss p=af):0<=p/\p<(ss.length:Int)/\aB ss p=0:=by unfold fk at h;simp only[UP,Vj,Vk,Wx,U7] at h;obtain⟨b,a,h3⟩:=h;exact⟨by omega,by omega,h3⟩
noncomputable def dv(ss:List Int)(st:ee):List Int:=ss.set st.place.toNat st.num
noncomputable def cq(G:List<|List Int)(s:Nat)(ss:List Int)(st:ee):Bool:=hV G ss (tabOf G ss s) s st
noncomputable def cR(G:List<|List Int)(s:Nat):List Int->List ee->Option (List Int)
 |ss,[]=>aa ss
 |ss,st::r=>if cq G s ss st then cR G s (dv ss st) r else ae
structure eN where
 words:List W
 ib:List (List Int)
 gG:Bool
noncomputable def eN.join(a b:eN):eN:=⟨a.words++b.words,a.ib++b.ib,a.gG&&b.gG⟩
mutual
noncomputable def jH(G:List<|List Int)(s:Nat)(ss:List Int):Tr->Option eN
 |.mk b e=>match cR G s ss b with
  |none=>ae
  |some a=>if l' G a (tabOf G a s) s e then BG G s a e else ae
noncomputable def BG(G:List<|List Int)(s:Nat)(ss:List Int):En->Option eN
 |.full=>aa ⟨[nA],[ss],af⟩
 |.left=>aa ⟨[gE],[],af⟩
 |.cls _=>aa ⟨[o7],[],af⟩
 |.jG p bs=>(i4 G s ss p bs).map λw=>⟨nO::w.words,w.ib,!gW G ss (tabOf G ss s) s&&w.gG⟩
noncomputable def i4(G:List<|List Int)(s:Nat)(ss:List Int)(p:Int):Bs->Option eN
 |.nil=>aa ⟨[],[],af⟩
 |.cons n t r=>match i4 G s ss p r,jH G s (ss.set p.toNat n) t with
  |some a,aa b=>aa<|a.join b
  |_,_=>ae
end
mutual
noncomputable def ju:Tr->Nat
 |.mk _ e=>1+M9 e
noncomputable def M9:En->Nat
 |.jG _ bs=>pR bs
 |_=>0
noncomputable def pR:Bs->Nat
 |.nil=>0
 |.cons _ t r=>ju t+pR r
end
def FE(h:n∈rowOf G ss s p):1<=n/\n<=(s):=mV (UT.mp h).1
def jT(h:cq G s ss st=af):0<=st.place/\st.place<(ss.length:Int)/\aB ss st.place=0/\1<=st.num/\st.num<=(s):=by
 unfold cq at h;cases st with
 |fld p n=>
  rw[qr,T_,U7] at h;obtain⟨b,a,c⟩:=yK h.1;have f:n∈rowOf G ss s (p.toNat:Nat):=by rw[<-iE G ss s p.toNat (by omega),h.2];simp
  obtain⟨d,e⟩:=FE f;exact⟨b,a,c,d,e⟩
 |dV p n g=>rw[qt,T_,T_] at h;obtain⟨b,a,c⟩:=yK h.1;obtain⟨_,_,d,e⟩:=yA h.2.1;exact⟨b,a,c,d,e⟩
def qo(b:aY s ss)(h:cq G s ss st=af):aY s (dv ss st):=by obtain⟨_,_,_,c,a⟩:=jT h;exact b.set _ (by omega) a
theorem uu(G)(s)(st):∀(l) (ss),cR G s ss (l++[st])=match cR G s ss l with
  |some s1=>if cq G s s1 st then aa (dv s1 st) else ae
  |none=>ae
 |[],ss=>by rfl
 |x::r,ss=>by
  show(if cq G s ss x then cR G s (dv ss x) (r++[st]) else ae)=_;rw[uu G s st r];show _=match(if cq G s ss x then cR G s (dv ss x) r else ae) with|some s1=>_|none=>ae
  by_cases h:cq G s ss x=af
  ·rw[T1 h,T1 h]
  ·rw[T2 h,T2 h]
theorem yb(G)(s):∀(l r) (ss),cR G s ss l=ae->cR G s ss (l++r)=ae
 |[],_,_,h=>by cases h
 |x::l,r,ss,h=>by
  show(if cq G s ss x then cR G s (dv ss x) (l++r) else ae)=ae;have a:(if cq G s ss x then cR G s (dv ss x) l else ae)=ae:=h;by_cases c:cq G s ss x=af
  ·rw[T1 c] at a⊢;exact yb G s l r _ a
  ·rw[T2 c]
noncomputable abbrev Ent:=Nat×Nat×List Int×Tr
theorem _root_.VM.bI.zK{R S:α->β->Prop}:∀{l:List α} {m:List β},bI R l m->(∀a b,b∈m->R a b->S a b)->bI S l m
 |_,_,.nil,_=>.nil
 |_,_,.cons h t,f=>.cons (f _ _ UC h)<|VM.bI.zK t λa b c=>f a b<|Up _ c
noncomputable abbrev M_:=List<|List Int×Tr
noncomputable def pd(P:List Ent):M_:=P.map λq=>(q.2.2.1,q.2.2.2)
noncomputable def oj:Option eN->Option eN->Option eN
 |some a,aa b=>aa<|a.join b
 |_,_=>ae
def FF(G)(s)(ss)(p n)(t)(r):i4 G s ss p (.cons n t r)=oj (i4 G s ss p r) (jH G s (ss.set p.toNat n) t):=by
 conv=>lhs;rw[i4]
 cases i4 G s ss p r<;>cases jH G s (ss.set p.toNat n) t<;>rfl
def A0(b:a σ M=.ok x M1)(h:f [x] M1=r):ax f (ak a ao) σ M=r:=by unfold ax ak ao;simp only[b,R.bind,h]
def rn(G)(s)(ss)(fQ)(e):jH G s ss (.mk fQ e)=match cR G s ss fQ with|none=>ae|some a=>if l' G a (tabOf G a s) s e then BG G s a e else ae:=by
 conv=>lhs;rw[jH]
 all_goals (cases cR G s ss fQ<;>rfl)
structure wO(G:List<|List Int)(s:Nat):Prop where
 len:∀g∈G,g.length=s
 nd:∀g∈G,g.Nodup
 sk:∀g∈G,∀i∈g,0<=i/\i<((s*s:Nat):Int)
def zL(h:aY s f)(b:0<=i)(c:i<((s*s:Nat):Int)):0<=aB f i/\aB f i<=(s):=by have a:=u9 b (by rw[h.len];exact c);exact⟨h.lo _ a,h.hi _ a⟩
def HM{g ss:List Int}(h:p∈g)(e:q∈g)(c:p≠q)(f:aB ss p=n)(d:aB ss q=n):2<=cnt n (g.map<|aB ss):=by
 induction g with
 |nil=>simp at h
 |cons x r i=>
  rw[Uo,cnt_cons];rcases T4.mp h with b|b
  ·rcases T4.mp e with a|a
   ·exact absurd (b.trans a.symm) c
   ·subst b;have:=(m6 _ _).mpr<|Us.mpr ⟨q,a,d⟩;rw[T1 f];omega
  ·rcases T4.mp e with a|a
   ·subst a;have:=(m6 _ _).mpr<|Us.mpr ⟨p,b,f⟩;rw[T1 d];omega
   ·have:=i b a;omega
def Kb{g ss:List Int}(b:g.Nodup)(h:1<cnt n (g.map<|aB ss)):∃p∈g,∃q∈g,p≠q/\aB ss p=n/\aB ss q=n:=by
 induction g with
 |nil=>simp[cnt] at h
 |cons x r i=>
  rw[Uo,cnt_cons] at h;obtain⟨f,d⟩:=U9.mp b;by_cases e:aB ss x=n
  ·rw[T1 e] at h;have:0<cnt n (r.map<|aB ss):=by omega
   obtain⟨q,a,c⟩:=Us.mp<|(m6 _ _).mp this;exact⟨x,UC,q,Up _ a,λz=>f (by rw[z];exact a),e,c⟩
  ·rw[T2 e] at h;obtain⟨p,j,q,a,z⟩:=i d<|by omega
   exact⟨p,Up _ j,q,Up _ a,z⟩
def yL(h:cO G f s=af)(a:g∈G){k:Int}(k0:1<=k)(k1:k<=(s)):cnt k (g.map<|aB f)<=1:=by
 have c:=UO.mp h g a;have b:=UO.mp c (k-1).toNat<|UL.mpr<|by omega
 have h3:=UD b;rw[show(((k-1).toNat:Nat):Int)+1=k by omega] at h3;exact h3
def HN{s:Nat}(h:∀g∈G,∀k:Int,1<=k->k<=(s)->cnt k (g.map<|aB f)<=1):cO G f s=af:=by unfold cO sd;rw[UO];intro g b;rw[UO];intro k a;rw[UL] at a;exact UA<|h g b _ (by omega)<|by omega
theorem yM:∀{l m:List Int},l.Nodup->(∀x∈l,x∈m)->l.length<=m.length
 |[],_,_,_=>Vc _
 |x::r,m,f,c=>by
  obtain⟨e,d⟩:=U9.mp f;have a:=c x UC;have:=yM (m:=m.erase x) d λy b=>(List.mem_erase_of_ne<|λz=>e (by rw[<-z];exact b)).mpr<|c y<|Up _ b
  rw[List.length_erase_of_mem a] at this;have:=List.length_pos_of_mem a;simp only[UE];omega
def FG(s):(nums s).length=s:=by simp[nums]
def Ct:m∈nums s↔1<=m/\m<=(s):=by refine⟨mV,λh=>?_⟩;exact Us.mpr ⟨(m-1).toNat,UL.mpr<|by omega,by omega⟩
noncomputable def Over(s:Nat)(ss f:List Int):Prop:=∀i:Int,0<=i->i<((s*s:Nat):Int)->aB ss i=0\/aB ss i=aB f i
def Over.refl(s)(ss):Over s ss ss:=λ_ _ _=>.inr rfl
def Over.trans(h:Over s a b)(h':Over s b c):Over s a c:=λi e d=>by
 rcases h i e d with z|z
 ·exact .inl z
 ·rcases h' i e d with y|y
  ·exact .inl (by rw[z];exact y)
  ·exact .inr (by rw[z];exact y)
def FH(e:aY s ss)(d:0<=p)(a:p<((s*s:Nat):Int))(b:aB ss p=0):Over s ss (ss.set p.toNat n):=λi f g=>by
 rw[gZ ss p i n d (by rw[e.len];exact a) f];by_cases c:i=p
 ·subst c;exact .inl b
 ·rw[T2 c];exact .inr rfl
def yN{G:List (List Int)}{s:Nat}{ss:List Int}(x:wO G s)(H:aY s ss)(h:cO G ss s=af){p n:Int}(A:0<=p)(F:p<((s*s:Nat):Int))(E:n∈rowOf G ss s p):cO G (ss.set p.toNat n) s=af:=by
 have o:p<(ss.length:Int):=by rw[H.len];exact F
 have c:=UT.mp E;rw[T_,U7,UP] at c;obtain⟨v,N,d⟩:=c;obtain⟨L,M⟩:=mV v;refine HN λg m k k0 k1=>?_
 apply XI;intro K;obtain⟨a,t,b,r,i,j,f⟩:=Kb (x.nd g m) (by omega:1<cnt k (g.map<|aB<|ss.set p.toNat n));obtain⟨C,J⟩:=x.sk g m a t;obtain⟨D,O⟩:=x.sk g m b r;rw[gZ ss p a n A o C] at j;rw[gZ ss p b n A o D] at f;have l:∀q∈g,q≠p->aB ss q=n->p∈g->False:=λq B w e I=>by
  have:eI G ss p n=af:=by unfold eI;rw[Uc];refine⟨g,m,?_⟩;unfold kH;rw[T_,any_eq,Uc];exact⟨I,q,B,by rw[T_,UP,Vk,U7];exact⟨w,e⟩⟩
  rw[this] at d;cases d
 by_cases u:a=p
 ·subst u;rw[T1 rfl] at j;rw[T2<|λz=>i z.symm] at f;exact l b r (λz=>i z.symm) (by rw[f,j]) t
 ·rw[T2 u] at j;by_cases y:b=p
  ·subst y;rw[T1 rfl] at f;exact l a t u (by rw[j,f]) r
  ·rw[T2 y] at f;have:=HM t r i j f;have:=yL h m k0 k1;omega
def Ea(j:aY s ss)(h:cq G s ss st=af):st.num∈rowOf G ss s st.place:=by
 obtain⟨d,c,i,k,l⟩:=jT h;unfold cq at h;cases st with
 |fld p n=>rw[qr,T_,U7] at h;have b:0<=p:=d;have a:p<(ss.length:Int):=c;have e:=h.2;rw[iE G ss s p.toNat<|by omega,show((p.toNat:Nat):Int)=p by omega] at e;show n∈rowOf G ss s p;rw[e];simp
 |dV p n g=>
  rw[qt,T_,T_,U7] at h;have b:0<=p:=d;have a:p<(ss.length:Int):=c;have f:p∈de G (tabOf G ss s) g n:=by rw[h.2.2];simp
  have:=(UT.mp f).2;rw[any_eq,iE G ss s p.toNat<|by omega,show((p.toNat:Nat):Int)=p by omega] at this;exact this
theorem yO(m:wO G s):∀(k) (ss d),aY s ss->cO G ss s=af->cR G s ss k=aa d->aY s d/\cO G d s=af/\Over s ss d
 |[],ss,d,f,h,e=>by
  have:=by simpa[cR] using e
  subst this;exact⟨f,h,Over.refl _ _⟩
 |st::r,ss,d,f,h,e=>by
  have j:(if cq G s ss st then cR G s (dv ss st) r else ae)=aa d:=e;by_cases i:cq G s ss st=af
  ·rw[T1 i] at j;obtain⟨l,n,o,p,q⟩:=jT i;have g:st.place<((s*s:Nat):Int):=by rw[<-f.len];exact n
   obtain⟨a,b,c⟩:=yO m r (dv ss st) d (qo f i) (yN m f h l g<|Ea f i) j;exact⟨a,b,(FH f l g o).trans c⟩
  ·rw[T2 i] at j;cases j
noncomputable def nz(ss:List Int):Nat:=ss.countP λx=>ai<|x=0
theorem Au:∀(ss) (p) (m),ss[p]? =aa 0->m≠0->nz (ss.set p m)+1=nz ss
 |[],p,m,h,_=>by simp at h
 |x::r,0,m,h,hm=>by simp at h;subst h;show nz (m::r)+1=nz (0::r);unfold nz;rw[XJ<|by simpa using hm,XM<|by simp]
 |x::r,p+1,m,h,hm=>by have a:=Au r p m (by simpa using h) hm;show nz (x::r.set p m)+1=nz (x::r);unfold nz at a⊢;rw[Vq,Vq];omega
def o8(d:cK ss p)(b:m≠0):nz (ss.set p.toNat m)+1=nz ss:=by
 obtain⟨f,e,c⟩:=d;refine Au ss p.toNat m ?_ b;have a:p.toNat<ss.length:=by omega
 have:aB ss p=ss[p.toNat]:=by unfold aB;simp[a]
 rw[VW a,<-this,c]
def vO(ss):nz ss<=ss.length:=List.countP_le_length
noncomputable def fO(G:List<|List Int)(s:Nat)(ss:List Int):Bool:=!lz G ss (tabOf G ss s) s
noncomputable def runK(G:List<|List Int)(s:Nat):List Int->List ee->Option (List Int)
 |ss,[]=>aa ss
 |ss,st::r=>if cq G s ss st&&fO G s ss then runK G s (dv ss st) r else ae
theorem yc(G)(s)(st):∀(l) (ss a),runK G s ss l=aa a->cq G s a st=af->fO G s a=af->runK G s ss (l++[st])=aa (dv a st)
 |[],ss,a,h,d,c=>by have e:=Ua h;subst e;show(if _ then _ else _)=_;rw[d,c];rfl
 |x::r,ss,a,h,d,c=>by
  have b:(if cq G s ss x&&fO G s ss then runK G s (dv ss x) r else ae)=aa a:=h;show(if cq G s ss x&&fO G s ss then runK G s (dv ss x) (r++[st]) else ae)=_;by_cases f:(cq G s ss x&&fO G s ss)=af
  ·rw[T1 f] at b⊢;exact yc G s st r _ a b d c
  ·rw[T2 f] at b;cases b
theorem uv(G)(s):∀(l) (ss a),runK G s ss l=aa a->cR G s ss l=aa a
 |[],ss,a,h=>h
 |x::r,ss,a,h=>by
  have b:(if cq G s ss x&&fO G s ss then runK G s (dv ss x) r else ae)=aa a:=h;show(if cq G s ss x then cR G s (dv ss x) r else ae)=_;by_cases c:(cq G s ss x&&fO G s ss)=af
  ·rw[T1 c] at b;rw[T_] at c;rw[T1 c.1];exact uv G s r _ a b
  ·rw[T2 c] at b;cases b
def aH.keep(h:aH M v ws)(k:aW X M M')(a:∀x∈X,∀us,M[x]? ≠aa (.tup us)):aH M' v ws:=by obtain⟨b,e,q⟩:=h;exact⟨b,e,k.get q λz=>a b z ws q⟩
def bL.fq(S:bL M a n c h w ss):∀x∈[n,c],∀us,M[x]? ≠aa (.tup us):=λx b us e=>by
 simp only[T4,Ud,Ue] at b;obtain⟨_,g,f,d,_⟩:=S;rcases b with rfl|rfl
 ·rw[g] at e;cases e
 ·rw[d] at e;cases e
def bL.other{M M':Mem}{a n c h w b:Nat}{ss:List Int}(S:bL M a n c h w ss)(k:aW [b] M M')(t:a≠b)(s:n≠b)(i:c≠b)(m:∀kvs,M[c]? =aa (.aD kvs)->∀(q:Int) (k:Nat),aS kvs q=aa (.ref k)->k≠b)(r:∀d,M[a]? =aa (.ins aQ<|jD h w d (.ref n)<|.ref c)->gJ n M d (ar h w)->gJ n M' d (ar h w)):bL M' a n c h w ss:=by
 obtain⟨⟨d,g,f⟩,l,kvs,e,j,p,o⟩:=S;refine⟨⟨d,k.get g<|by simpa using t,r d g f⟩,k.get l<|by simpa using s,kvs,k.get e<|by simpa using i,j,p,λq=>?_⟩;rcases o q with z|⟨k',z1,z2,z3,z4⟩
 ·exact .inl z
 ·exact .inr ⟨k',z1,z2,z3,k.get z4<|by simpa using m kvs e q k' z1⟩
noncomputable def oN(f:CM):Prop:=∀(M) (a n c h w) (g),1<=h/\h<=3->1<=w/\w<=3->bL M a n c h w g->aY (h*w) g->
 ∃v i k j e d,f [.ref a] M=.ok v i/\aH i v [k,j]/\fx i k e/\bL i a n c h w d/\aY (h*w) d/\aW [n,c] M i/\runK (ar h w) (h*w) g e=aa d/\nz d<=nz g/\ ((j=.aw/\fO (ar h w) (h*w) d=af/\gW (ar h w) d (tabOf (ar h w) d<|h*w) (h*w)=ag/\cO (ar h w) g (h*w)=af)\/∃l,iP i j l/\eS (ar h w) d (tabOf (ar h w) d<|h*w) (h*w) l=af)/\ (cO (ar h w) g (h*w)=ag->e=[])/\(∃b,k=.ref b/\M.length<=b)
noncomputable def Oj:TM:=tB<|kF<|aj 2
noncomputable def Ol(c a b:CM):SM:=
 av (
  aJ (ax b (ak (aj 0) ao)) (ay 3)) (
 av (
  aK (tB<|kF<|aj 3) (
   wI) (
   aX)) (
 av (
  aZ (dW [83,116,97,116,101] [112,117,116] c (aj 0) (ak (aq aA (aj 3) (eC (.int 1))) (ak (aq aA (aj 3) (eC (.int 2))) ao)))) (
 av (
  aZ (bo dc (aj 1) (ak (aj 3) ao))) (
 aJ (ax a (ak (aj 0) ao)) (ay 2)))))
structure vP(M N:Mem)(a n c h w:Nat)(ss cur:List Int)(fQ:List ee)(vc:W):Prop where
 st:bL N a n c h w cur
 sh:aY (h*w) cur
 kp:aW [n,c] M N
 ls:∃ws,N[M.length]? =aa (.lst ws)/\bI (λw st=>jq N w st) ws fQ
 rk:runK (ar h w) (h*w) ss fQ=aa cur
 nw:∀kvs,N[c]? =aa (.aD kvs)->∀(q:Int) (k:Nat),aS kvs q=aa (.ref k)->k≠M.length
 nl:fQ.length+nz cur<=nz ss
 cl:(vc=.aw/\fO (ar h w) (h*w) cur=af)\/∃cl,iP N vc cl/\eS (ar h w) cur (tabOf (ar h w) cur<|h*w) (h*w) cl=af
def ov{c b:Nat}{N d:Mem}(h:∀kvs,N[c]? =aa (.aD kvs)->∀(q) (k),aS kvs q=aa (.ref k)->k≠b)(f:N[c]? =aa (.aD kvs))(a:d[c]? =aa (.aD kvs)):
 ∀kvs,d[c]? =aa (.aD kvs)->∀(q) (k),aS kvs q=aa (.ref k)->k≠b:=λg e q k z=>by
 rw[a] at e;cases e;exact h kvs f q k z
def Eb{fp fd fs:CM}(hp:pF fp)(hd:qP fd)(hs:ur fs){M:Mem}{a n c h w:Nat}{ss:List Int}(hh:1<=h/\h<=3)(hw:1<=w/\w<=3)(Q:bL M a n c h w ss)(n4:nz ss<=81):
 ∀(z:Nat) (k:Nat) (N:Mem) (d:List Int) (r:List ee) (vc:W) (x:Option W),nz d<=z->z<k->vP M N a n c h w ss d r vc-> (df Oj (Ol fp fd fs) k [aa<|.ref a,aa<|.ref M.length,aa vc,x] N).Sat {nx:=λσ N'=>∃P y Na x',σ=[aa<|.ref a,aa<|.ref M.length,aa P,x']/\vP M N' a n c h w ss y Na P/\(P=.aw->gW (ar h w) y (tabOf (ar h w) y<|h*w) (h*w)=ag),rt:=λ_ _=>False}:=by
 have BB:n<M.length:=(T6.mp Q.nm).1;have N8:c<M.length:=by obtain⟨kv,e,_⟩:=Q.cn;exact(T6.mp e).1
 have alt:a<M.length:=by obtain⟨vG,e,_⟩:=Q.ob;exact(T6.mp e).1
 intro z;induction z with
 |zero=>
  intro k N d r vc x hz hk I;obtain⟨k,rfl⟩:∃Z,k=Z+1:=⟨k-1,by omega⟩;rcases I.cl with⟨rfl,F⟩|⟨cl,hc,hb⟩
  ·refine t8 (M1:=N) (bZ rfl) ?_;obtain⟨v1,u,e1,i,V⟩:=hs N a n c h w d hh hw I.st I.sh;refine aI<|bC (v:=v1) (M1:=u) (by simp only[ax,ak,ao,aj,R.bind,T5,e1]) ?_;simp only[T9,T7];rcases V with⟨rfl,A⟩|⟨st,gp,hr⟩
   ·refine aI (bp (c:=af) (M1:=u) (bZ rfl) (λ_=>?_) λz=>nomatch z);obtain⟨T,l1,l2⟩:=I.ls;obtain⟨kv,l,_⟩:=I.st.cn;exact⟨_,_,_,_,rfl,⟨I.st.mono i,I.sh,I.kp.trans<|aW.cZ i,⟨T,az i l1,l2.imp λ_ _ t=>aH.mono t i⟩,I.rk,ov I.nw l<|az i l,I.nl,.inl ⟨rfl,F⟩⟩,λ_=>A⟩
   ·exfalso;have Y:=jT (G:=ar h w) (s:=h*w) (ss:=d) (st:=st) hr;have:=o8 (ss:=d) (p:=st.place) (m:=st.num) ⟨Y.1,Y.2.1,Y.2.2.1⟩<|by omega
    omega
  ·obtain⟨b,rfl,X⟩:=hc;refine qk (M1:=N) (bZ rfl) ?_;exact⟨_,_,_,_,rfl,⟨I.st,I.sh,I.kp,I.ls,I.rk,I.nw,I.nl,.inr ⟨cl,⟨b,rfl,X⟩,hb⟩⟩,λz=>by cases z⟩
 |succ z ih=>
  intro k N d r vc x hz hk I;obtain⟨k,rfl⟩:∃Z,k=Z+1:=⟨k-1,by omega⟩;rcases I.cl with⟨rfl,F⟩|⟨cl,hc,hb⟩
  ·refine t8 (M1:=N) (bZ rfl) ?_;obtain⟨v1,u,e1,i,V⟩:=hs N a n c h w d hh hw I.st I.sh;refine aI<|bC (v:=v1) (M1:=u) (by simp only[ax,ak,ao,aj,R.bind,T5,e1]) ?_;simp only[T9,T7];obtain⟨T,l1,l2⟩:=I.ls;obtain⟨kv,l,_⟩:=I.st.cn;rcases V with⟨rfl,A⟩|⟨st,gp,hr⟩
   ·refine aI (bp (c:=af) (M1:=u) (bZ rfl) (λ_=>?_) λz=>nomatch z);exact⟨_,_,_,_,rfl,⟨I.st.mono i,I.sh,I.kp.trans<|aW.cZ i,⟨T,az i l1,l2.imp λ_ _ t=>aH.mono t i⟩,I.rk,ov I.nw l<|az i l,I.nl,.inl ⟨rfl,F⟩⟩,λ_=>A⟩
   ·have S:cq (ar h w) (h*w) d st=af:=hr;obtain⟨q0,q1,q2,n0,n1⟩:=jT S;have hE:cK d st.place:=⟨q0,q1,q2⟩;obtain⟨J,Om,RX⟩:=id gp;subst Om;refine aI<|bp (c:=ag) (M1:=u) (bZ rfl) (λz=>nomatch z) λ_=>?_
    refine du ?_;dsimp only;have S1:=I.st.mono i;obtain⟨D,e2,S2,k2,Oo⟩:=hp u a n c h w d st.place st.num hh hw S1 I.sh hE<|by omega
    have ip:aq aA (aj 3) (eC<|.int 1) [aa<|.ref a,aa<|.ref M.length,aa .aw,aa<|.ref J] u=.ok (.int st.place) u:=by
     cases st with
     |fld p m=>exact bx rfl rfl<|eR gp 1 rfl
     |dV p m g=>exact bx rfl rfl<|eR gp 1 rfl
    have im:aq aA (aj 3) (eC<|.int 2) [aa<|.ref a,aa<|.ref M.length,aa .aw,aa<|.ref J] u=.ok (.int st.num) u:=by
     cases st with
     |fld p m=>exact bx rfl rfl<|eR gp 2 rfl
     |dV p m g=>exact bx rfl rfl<|eR gp 2 rfl
    have em:dW [83,116,97,116,101] [112,117,116] fp (aj 0) (ak (aq aA (aj 3)<|eC<|.int 1)<|ak (aq aA (aj 3)<|eC<|.int 2) ao) [aa<|.ref a,aa<|.ref M.length,aa .aw,aa<|.ref J] u=.ok .aw D:=by obtain⟨vG,ob,_⟩:=S1.ob;simp only[dW,aj,R.bind,T',T5,jn,mU ob,ak,ao,ip,im];exact e2
    refine aI<|dt em ?_;have bX:M.length∉[n,c]:=λj=>by simp only[T4,Ud,Ue] at j;rcases j with j|j<;>omega
    have C:D[M.length]? =aa (.lst T):=k2.get (az i l1) bX;have Nb:jq D (.ref J) st:=aH.keep gp k2 S1.fq;have So:T.length=r.length:=l2.len;have ea:=lO (σ:=[aa<|.ref a,aa<|.ref M.length,aa .aw,aa<|.ref J]) (M:=D) (o:=aj 1) (arg:=aj 3) rfl C (show _=R.ok (.ref J) _ from rfl) C (by have:=I.nl;omega);refine aI<|dt ea ?_;generalize qc:D.set M.length (.lst<|T++[.ref J])=N3;have k3:aW [M.length] D N3:=by rw[<-qc];exact aW.set _<|by simp
    have Oq:N3[M.length]? =aa (.lst<|T++[.ref J]):=by rw[<-qc];exact UH (T6.mp C).1
    have E:aW [n,c] M D:=I.kp.trans<|(aW.cZ i).trans k2;have BH:aW [n,c] M N3:=⟨Ug E.1 k3.1,λb hb hx=>by rw[k3.2 b (Um hb E.1) (by simp;omega)];exact E.2 b hb hx⟩
    have RY:M.length<u.length:=(T6.mp<|az i l1).1;have f:∀H,D[c]? =aa (.aD H)->∀(q:Int) (k:Nat),aS H q=aa (.ref k)->k≠M.length:=λH e q Z j=>by
     rcases Oo H e q Z j with z1|⟨Ot,z1,z2⟩
     ·omega
     ·exact ov I.nw l (az i l) Ot z1 q Z z2
    obtain⟨Sq,K,_⟩:=id S2.cn;have S3:bL N3 a n c h w (d.set st.place.toNat st.num):=S2.other k3 (by omega) (by omega) (by omega) f λvG si _=>by
     obtain⟨Ou,B,Ov⟩:=Q.ob;have Nc:=E.get B (λj=>by
      simp only[T4,Ud,Ue] at j;rcases j with j|j
      ·rw[j,Q.nm] at B;cases B
      ·obtain⟨BI,e0,_⟩:=Q.cn;rw[j,e0] at B;cases B)
     rw[Nc] at si;have ev:vG=Ou:=by have:=Ua si;simp only[O.ins.injEq,jD,List.cons.injEq,Prod.mk.injEq] at this;exact this.2.2.2.1.2.symm
     subst ev;obtain⟨BI,e0,_⟩:=Q.cn;exact Ov.keep BH<|pE e0
    have U:=k3.get K (by simp;omega);have BJ:=qo I.sh S;have l3:=by
     have L:∀{w:W} {us:List W},aH D w us->aH N3 w us:=λt=>aH.keep t k3 λx hx us e=>by simp only[T4,Ud,Ue] at hx;rw[hx,C] at e;cases e
     exact bI.app (l2.imp λ_ _ t=>L<|aH.keep (aH.mono t i) k2 S1.fq)<|.cons (L Nb) .nil
    have Ow:=yc (ar h w) (h*w) st r ss d I.rk S F;have Sr:=o8 hE<|show st.num≠0 by omega
    obtain⟨v4,N4,e4,p4,Ox⟩:=hd N3 a n c h w (d.set st.place.toNat st.num) hh hw S3 BJ;refine bC (v:=v4) (M1:=N4) (by simp only[ax,ak,ao,aj,R.bind,T5,e4]) ?_;refine ih k N4 (d.set st.place.toNat st.num) (r++[st]) v4 _ (by omega) (by omega) ⟨S3.mono p4,BJ,BH.trans<|aW.cZ p4,⟨_,az p4 Oq,l3.imp λ_ _ t=>aH.mono t p4⟩,Ow,ov (ov f K U) U<|az p4 U,?_,?_⟩
    ·have:=I.nl;rw[Ur];simp only[UE,U_];omega
    ·rcases Ox with⟨z1,z2⟩|j
     ·exact .inl ⟨z1,by unfold fO;rw[z2];rfl⟩
     ·exact .inr j
  ·obtain⟨b,rfl,X⟩:=hc;refine qk (bZ rfl) ?_;exact⟨_,_,_,_,rfl,⟨I.st,I.sh,I.kp,I.ls,I.rk,I.nw,I.nl,.inr ⟨cl,⟨b,rfl,X⟩,hb⟩⟩,λz=>by cases z⟩
def HQ(hp:pF fp)(U:qP fd)(hs:ur fs)(hc:xG fc):oN (PB.lx fp fd fs fc):=by
 intro M a n c h w g J H S A;obtain⟨s1,T⟩:=eh J H;have p:nz g<=81:=by refine Ug (vO g) ?_;rw[A.len];exact UJ T T
 have B:∃v j,PB.lx fp fd fs fc [.ref a] M=.ok v j/\∃u l f d,(aH j v [u,l]/\fx j u f/\bL j a n c h w d/\aY (h*w) d/\aW [n,c] M j/\runK (ar h w) (h*w) g f=aa d/\nz d<=nz g/\ ((l=.aw/\fO (ar h w) (h*w) d=af/\gW (ar h w) d (tabOf (ar h w) d<|h*w) (h*w)=ag/\cO (ar h w) g (h*w)=af)\/∃m,iP j l m/\eS (ar h w) d (tabOf (ar h w) d<|h*w) (h*w) m=af)/\ (cO (ar h w) g (h*w)=ag->f=[])/\(∃b,u=.ref b/\M.length<=b)):=by
  refine bT rfl ?_;show(av _ _ [aa<|.ref a,ae,ae,ae] M).Sat _;refine aI<|bC rfl ?_;simp only[T7];have P:=S.mono<|pre_app M [.lst []];obtain⟨C,M1,e1,D,s⟩:=hc (M++[.lst []]) a n c h w g J H P A;refine aI<|bC (v:=C) (M1:=M1) (by simp only[ax,ak,ao,aj,R.bind,T5,e1]) ?_;have Q:=P.mono D;have O:=az D<|bV _ _;have G:=(pre_app _ _).trans D;have V:vP M M1 a n c h w g g [] C:=⟨Q,A,aW.cZ G,⟨[],O,.nil⟩,rfl,λkvs e q k z=>by
   obtain⟨BI,Y,_,_,W⟩:=S.cn;rw[az G Y] at e;cases e;rcases W q with⟨y,_⟩|⟨k0,y,_,_,y4⟩
   ·rw[y] at z;cases z
   ·rw[y] at z;cases z;have:=(T6.mp y4).1;omega,by simp,by
   rcases s with⟨o,r,L⟩|zz
   ·exact .inl ⟨o,by unfold fO;rw[r];rfl⟩
   ·exact .inr zz⟩
  refine aI ?_;by_cases i:cO (ar h w) g (h*w)=af
  ·refine RS.Sat.mono (Eb hp U hs J H S p 81 1000000000 M1 g [] C ae p (by decide) V) ?_ (λ_ _ z=>z.elim) (λ_ _ z=>z.elim) (λ_ _ z=>z.elim);rintro σ N ⟨l,cur,f,x,rfl,I,Md⟩;dsimp only;have E:=(show ic [.ref M.length,l] N=_ from jc (by show 2<=16777216;decide));obtain⟨ws,X,Z⟩:=I.ls;refine bt E ⟨.ref M.length,l,f,cur,aH.new _ _,⟨ws,⟨_,rfl,az (pre_app _ _) X⟩,Z.imp λ_ _ t=>aH.mono t<|pre_app _ _⟩,I.st.mono<|pre_app _ _,I.sh,I.kp.trans<|aW.cZ<|pre_app _ _,I.rk,by have:=I.nl;omega,?_,(λz=>by rw[i] at z;cases z),M.length,rfl,T8 _⟩;rcases I.cl with⟨o,r⟩|⟨m,o,r⟩
   ·exact .inl ⟨o,r,Md o,i⟩
   ·exact .inr ⟨m,aH.mono o<|pre_app _ _,r⟩
  ·have K:=by simpa using i
   rcases s with⟨_,_,L⟩|⟨m,kT,hb⟩
   ·exact(i L).elim
   ·obtain⟨b,rfl,F⟩:=kT;refine qk (bZ rfl) ?_;dsimp only;have E:=(show ic [.ref M.length,.ref b] M1=_ from jc (by show 2<=16777216;decide));exact bt E ⟨.ref M.length,.ref b,[],g,aH.new _ _,⟨[],⟨_,rfl,az (pre_app _ _) O⟩,.nil⟩,Q.mono<|pre_app _ _,A,(aW.cZ G).trans<|aW.cZ<|pre_app _ _,rfl,T8 _,.inr ⟨m,aH.mono ⟨b,rfl,F⟩<|pre_app _ _,hb⟩,λ_=>rfl,M.length,rfl,T8 _⟩
 obtain⟨v,j,e,u,l,f,d,q⟩:=B;exact⟨v,j,u,l,f,d,e,q⟩
noncomputable def Bl(h w:Nat):Bool:=(ar h w).all λg=>ai (g.length=h*w)&&(decide g.Nodup&&g.all λi=>ai (0<=i)&&ai (i<((h*w*(h*w):Nat):Int)))
def mu(d:1<=h/\h<=3)(c:1<=w/\w<=3):wO (ar h w) (h*w):=by
 have e:Bl h w=af:=by rcases h3 d with rfl|rfl|rfl<;>rcases h3 c with rfl|rfl|rfl<;>decide+kernel
 unfold Bl at e;have a:∀g∈ar h w,g.length=h*w/\g.Nodup/\∀i∈g,0<=i/\i<((h*w*(h*w):Nat):Int):=λg b=>by have:=UO.mp e g b;simp only[T_,UQ,UO] at this;exact⟨this.1,this.2.1,this.2.2⟩
 exact⟨λg b=>(a g b).1,λg b=>(a g b).2.1,λg b=>(a g b).2.2⟩
noncomputable def nQ(h w c:Nat):List Int:=(ar h w).getD (h*w+c) []
noncomputable def ec(h w:Nat)(ss:List Int)(c:Nat):Nat:=(nQ h w c).countP λi=>ai<|aB ss i=0
noncomputable def mv:Nat->Nat
 |0=>1
 |n+1=>(n+1)*mv n
theorem zM:∀n,1<=mv n
 |0=>T8 _
 |n+1=>by exact VX (Wz n)<|zM n
noncomputable def kW(h w:Nat)(ss:List Int):Nat->Nat
 |0=>1
 |c+1=>kW h w ss c*mv (ec h w ss c)
noncomputable def wt(h w:Nat)(ss:List Int):Nat:=kW h w ss<|h*w
theorem qX(h w)(ss):∀c,1<=kW h w ss c
 |0=>T8 _
 |c+1=>VX (qX h w ss c)<|zM _
def qY{h w:Nat}(d:1<=h/\h<=3)(b:1<=w/\w<=3)(a:p<h*w*(h*w))(f:c<h*w):(p:Int)∈nQ h w c↔c=p % (h*w):=by
 unfold nQ;rw[oH d b a<|by omega];have g:=W6 a;simp only[b7,T4,Ud,Ue];constructor
 ·rintro(e|e|e)
  ·omega
  ·omega
  ·generalize p / (h*w) / h*h+p % (h*w) / w=X at e;omega
 ·intro e;exact .inr<|.inl<|by omega
def vy(a:c<h*w):nQ h w c∈ar h w:=by
 have:h*w+c<(ar h w).length:=by rw[je];omega
 unfold nQ;simp[List.getD,this]
theorem xH:∀{l:List Int} {f g:Int->Bool} {p:Int},l.Nodup->p∈l->f p=af->g p=ag->(∀x∈l,x≠p->f x=g x)->l.countP f=l.countP g+1
 |x::r,f,g,p,c,hm,h,d,h3=>by
  rw[U9] at c;by_cases e:x=p
  ·subst e;rw[XM h,XJ (by rw[d];simp)];congr 1;refine WA λy a=>?_
   rw[h3 y (Up _ a)<|λz=>c.1<|z▸a]
  ·have i:=xH c.2 ((T4.mp hm).resolve_left λz=>e z.symm) h d λy a b=>h3 y (Up _ a) b
   rw[Vq,Vq,h3 x UC e];omega
def vz(g:1<=h/\h<=3)(d:1<=w/\w<=3)(t:ss.length=h*w*(h*w)){p:Nat}(q:cK ss<|p)(l:m≠0)(f:c<h*w):
 ec h w ss c=ec h w (ss.set p m) c+if c=p % (h*w) then 1 else 0:=by
 obtain⟨s,n,o⟩:=q;have j:p<h*w*(h*w):=by rw[<-t];omega
 have r:=(mu g d).nd _<|vy f;have k:=(mu g d).sk _<|vy f;have i:=λx b=>by have:=gZ ss (p) x m s n (k x b).1;rw[Uy] at this;exact this
 unfold ec;by_cases e:c=p % (h*w)
 ·rw[T1 e];refine xH r ((qY g d j f).mpr e) (UA o) ?_ λx b a=>?_
  ·rw[i _<|(qY g d j f).mpr e,T1 rfl];exact Ut l
  ·rw[i x b,T2 a]
 ·rw[T2 e,Nat.add_zero];refine WA λx b=>?_
  have a:x≠(p):=by rintro rfl;exact e<|(qY g d j f).mp b
  rw[i x b,T2 a]
theorem zN(j:1<=h/\h<=3)(g:1<=w/\w<=3)(k:ss.length=h*w*(h*w)){p:Nat}(i:cK ss<|p)(f:m≠0):
 ∀n,n<=h*w->kW h w ss n=kW h w (ss.set p m) n*if p % (h*w)<n then ec h w ss (p % (h*w)) else 1
 |0,_=>by simp[kW]
 |n+1,l=>by
  have d:=zN j g k i f n<|by omega
  have e:=vz j g k i f (c:=n)<|by omega
  show kW h w ss n*mv (ec h w ss n)=kW h w (ss.set p m) n*mv (ec h w (ss.set p m) n)*_;by_cases b:n=p % (h*w)
  ·rw[T1 b] at e;rw[T2<|by omega,WB] at d;rw[T1<|by omega,d,<-b,e];show _*((ec h w (ss.set p m) n+1)*mv (ec h w (ss.set p m) n))=_;rw[WC,Nat.mul_comm<|mv _]
  ·rw[T2 b,Nat.add_zero] at e;rw[d,e];by_cases a:p % (h*w)<n
   ·rw[T1 a,T1<|by omega,WC,Nat.mul_comm<|ec h w ss _,<-WC]
   ·rw[T2 a,T2<|by omega,WB,WB]
def rp(b:1<=h/\h<=3)(a:1<=w/\w<=3)(e:ss.length=h*w*(h*w)){p:Nat}(d:cK ss<|p)(c:m≠0):wt h w ss=wt h w (ss.set p m)*ec h w ss (p % (h*w)):=by obtain⟨f,_⟩:=eh b a;have:=zN b a e d c (h*w)<|T8 _;rw[T1<|VY _<|by omega] at this;exact this
def De(k)(l)(f):cnt k (l.filter f)<=cnt k l:=by unfold cnt;rw[List.countP_filter];exact List.countP_mono_left λx _ h=>(T_ _ _▸h).1
def Kc{h w:Nat}(u:1<=h/\h<=3)(t:1<=w/\w<=3){ss:List Int}(E:aY (h*w) ss)(K:cO (ar h w) ss (h*w)=af){p:Nat}(O:p<h*w*(h*w)):(rowOf (ar h w) ss (h*w) p).length<=ec h w ss (p % (h*w)):=by
 obtain⟨Q,S⟩:=eh u t;by_cases G:aB ss (p:Int)=0
 ·have I:p % (h*w)<h*w:=VY _ (by omega);have c:=vy (h:=h) (w:=w) I;have q:=(qY u t O I).mpr rfl;have d:=(mu u t).sk _ c;generalize v:nQ h w (p % (h*w))=g at c q d;have o:=(mu u t).len g c;have N:((g.map<|aB ss).filter λx=>!ai (x=0)).length+ec h w ss (p % (h*w))=h*w:=by
   unfold ec;rw[v,<-List.countP_eq_length_filter,List.countP_map,<-o];have:g.countP (λi=>ai<|aB ss i=0)=g.countP (λi=>!((λx=>!ai (x=0))∘aB ss) i):=WA λx _=>by simp
   rw[this,Nat.add_comm];rw[List.length_eq_countP_add_countP ((λx=>!ai (x=0))∘aB ss) (l:=g)];rw[Nat.add_comm];congr 1;refine WA λx _=>?_
   simp
  have D:((g.map<|aB ss).filter λx=>!ai (x=0)).Nodup:=by
   rw[DZ];intro k;by_cases H:1<=k/\k<=((h*w:Nat):Int)
   ·exact Ug (De _ _ _)<|yL K c H.1 H.2
   ·have:cnt k ((g.map<|aB ss).filter λx=>!ai (x=0))=0:=by
     refine Nat.eq_zero_of_not_pos λz=>?_
     rw[m6] at z;obtain⟨s,r⟩:=UT.mp z;obtain⟨i,j,rfl⟩:=Us.mp s;have L:=zL E (d i j).1 (d i j).2;simp only[UP,Vk] at r;omega
    omega
  have n:∀x∈rowOf (ar h w) ss (h*w) p,x∉(g.map<|aB ss).filter λx=>!ai (x=0):=λx f y=>by
   obtain⟨R,s,r,M⟩:=m8 f;obtain⟨C,F⟩:=UT.mp y;obtain⟨i,j,e⟩:=Us.mp C;have B:i≠(p:Int):=by rintro rfl;rw[G] at e;omega
   have:eI (ar h w) ss p x=af:=by unfold eI kH;refine Uc.mpr ⟨g,c,?_⟩;rw[T_,Uc,Uc];exact⟨⟨_,q,by simp⟩,i,j,by simp[B,e]⟩
   rw[M] at this;cases this
  have A:(rowOf (ar h w) ss (h*w) p++(g.map<|aB ss).filter λx=>!ai (x=0)).Nodup:=List.nodup_append.mpr ⟨xv _ _ _ _,D,λa P b J e=>n a P<|e▸J⟩;have m:∀x∈rowOf (ar h w) ss (h*w) p++(g.map<|aB ss).filter (λx=>!ai (x=0)),x∈nums (h*w):=λx f=>by
   rw[Ct];rcases Vb.mp f with f|f
   ·obtain⟨_,s,r,_⟩:=m8 f;exact⟨s,r⟩
   ·obtain⟨C,F⟩:=UT.mp f;obtain⟨i,j,rfl⟩:=Us.mp C;have L:=zL E (d i j).1 (d i j).2;simp only[UP,Vk] at F;omega
  have:=yM A m;rw[Ur,FG] at this;omega
 ·rw[qV G];simp
structure Le(M M':Mem):Prop where
 t:∀(b:Nat) (us:List W),M[b]? =aa (.tup us)->M'[b]? =aa (.tup us)
 l:∀(b:Nat) (ws:List W),M[b]? =aa (.lst ws)->M'[b]? =aa (.lst ws)
def Le.tup(p:Le M M')(h:aH M v us):aH M' v us:=by obtain⟨b,e,q⟩:=h;exact⟨b,e,p.t b us q⟩
def Le.lst(p:Le M M')(h:aR M v us):aR M' v us:=by obtain⟨b,e,q⟩:=h;exact⟨b,e,p.l b us q⟩
def Le.Nd(p:Le M M')(h:fx M v fQ):fx M' v fQ:=by obtain⟨c,b,a⟩:=h;exact⟨c,p.lst b,a.imp λ_ _ t=>p.tup t⟩
mutual
theorem dn.le{M M':Mem}(p:Le M M'):∀{v:W} {t:Tr},dn M v t->dn M' v t
 |v,.mk c e,h=>by unfold dn at h⊢;obtain⟨a,b,f,d,h3⟩:=h;exact⟨a,b,p.tup f,p.Nd d,dI.le p h3⟩
theorem dI.le{M M':Mem}(p:Le M M'):∀{v:W} {e:En},dI M v e->dI M' v e
 |v,.full,h=>by unfold dI at h⊢;exact p.tup h
 |v,.left,h=>by unfold dI at h⊢;exact p.tup h
 |v,.cls c,h=>by unfold dI at h⊢;obtain⟨u,b,a⟩:=h;exact⟨u,p.tup b,p.tup a⟩
 |v,.jG q bs,h=>by unfold dI at h⊢;obtain⟨u,f,b,a,h3,d⟩:=h;exact⟨u,f,p.tup b,p.lst a,dY.le p h3,d⟩
theorem dY.le{M M':Mem}(p:Le M M'):∀{a:List W} {bs:Bs},dY M a bs->dY M' a bs
 |a,.nil,h=>by unfold dY at h⊢;exact h
 |a,.cons n t r,h=>by unfold dY at h⊢;obtain⟨w,u,b,e,d,c,h3⟩:=h;exact⟨w,u,b,e,p.tup d,dn.le p c,dY.le p h3⟩
end
noncomputable def nR(L i:Nat):O->O
 |.lst ws=>if i<L then .di [] else .lst ws
 |o=>o
noncomputable def eO(L:Nat)(M:Mem):Mem:=M.mapIdx λi o=>nR L i o
def zO(L)(M)(b):(eO L M)[b]? =(M[b]?).map (nR L b):=by unfold eO;rw[List.getElem?_mapIdx]
def j7{b:Nat}:(eO L M)[b]? =aa (.tup us)↔M[b]? =aa (.tup us):=by
 rw[zO];cases e:M[b]? with
 |none=>simp
 |some o=>
  cases o with
  |lst ws=>simp only[VI,nR];split<;>simp
  |_=>simp[nR]
def jf:(eO L M)[b]? =aa (.lst ws)↔L<=b/\M[b]? =aa (.lst ws):=by
 rw[zO];cases e:M[b]? with
 |none=>simp
 |some o=>
  cases o with
  |lst us=>
   simp only[VI,nR];by_cases h:b<L
   ·rw[T1 h];constructor
    ·intro z;cases z
    ·intro z;omega
   ·rw[T2 h];constructor
    ·intro z;exact⟨by omega,z⟩
    ·intro z;exact z.2
  |_=>simp[nR]
def Ke(L)(M):Le (eO L M) M:=⟨λ_ _ h=>j7.mp h,λ_ _ h=>(jf.mp h).2⟩
def FI(k:aW X M M')(f:L'<=L)(a:∀x∈X,x<L/\∀us,M[x]? ≠aa (.tup us)):Le (eO L M) (eO L' M'):=by
 refine⟨λb us h=>?_,λb e h=>?_⟩
 ·have h:=j7.mp h;exact j7.mpr<|k.get h λz=>(a b z).2 us h
 ·obtain⟨d,c⟩:=jf.mp h;exact jf.mpr ⟨by omega,k.get c λz=>by have:=(a b z).1;omega⟩
def gY(h:aH M v us):aH (eO L M) v us:=by obtain⟨b,e,q⟩:=h;exact⟨b,e,j7.mpr q⟩
def qQ(h:fx M (.ref b) fQ)(c:L<=b):fx (eO L M) (.ref b) fQ:=by obtain⟨d,⟨f,e,q⟩,a⟩:=h;cases e;exact⟨d,⟨b,rfl,jf.mpr ⟨c,q⟩⟩,a.imp λ_ _ t=>gY t⟩
noncomputable def ud(f:CM):Prop:=∀(M) (a n c h w) (b) (p m),1<=h/\h<=3->1<=w/\w<=3->bL M a n c h w b->aY (h*w) b->cK b p->m≠0->
 ∃d g e,f [.ref a,.int p,.int m] M=.ok (.ref M.length) d/\M<+:d/\bL d M.length g e h w (b.set p.toNat m)/\M.length<g/\M.length<e
def yd(J:pF fp)(H:gU fs):ud (PB.jP fp fs):=by
 intro M a n c h w k p m q o S g u L;have D:=S;obtain⟨⟨P,d,_⟩,B,_⟩:=D;obtain⟨M1,s,l,G,C,j,A,y⟩:=H h w M (.ref n) k q o ⟨_,rfl,B⟩ g;obtain⟨M2,z,E,k2,_⟩:=J M1 M.length s l h w k p m q o j g u L;have O:=k2.base C λx i=>by simp only[T4,Ud,Ue] at i;rcases i with rfl|rfl<;>omega
 have b:∃r N,PB.jP fp fs [.ref a,.int p,.int m] M=.ok r N/\(r=.ref M.length/\N=M2):=by
  refine bT rfl ?_;show(av _ _ [aa<|.ref a,aa<|.int p,aa<|.int m,ae] M).Sat _;refine aI<|bC (v:=.ref M.length) (M1:=M1) ?_ ?_
  ·have K:aM aQ fH (aj 0) [aa<|.ref a,aa<|.int p,aa<|.int m,ae] M=.ok (.int h) M:=cg rfl d rfl;have F:aM aQ fW (aj 0) [aa<|.ref a,aa<|.int p,aa<|.int m,ae] M=.ok (.int w) M:=cg rfl d rfl;have t:aM aQ fN (aj 0) [aa<|.ref a,aa<|.int p,aa<|.int m,ae] M=.ok (.ref n) M:=cg rfl d rfl;simp only[ax,ak,ao,K,F,t,R.bind,G]
  simp only[T9,T7];obtain⟨I,f,_⟩:=j.ob;refine aI<|dt (v:=.aw) (M1:=M2) ?_ ?_
  ·simp only[dW,aj,R.bind,T',T5,jn,mU f,ak,ao];exact z
  dsimp only;exact bt rfl ⟨rfl,rfl⟩
 obtain⟨r,N,e,rfl,rfl⟩:=b;exact⟨N,s,l,e,O,E,A,y⟩
theorem uw(M):∀(kvs) (k) (n),(∀kv∈kvs,∃xs,a9 M kv.2=aa xs)->∃r,gB M k n kvs=aa r/\(r=k\/r∈kvs.map (·.1))
 |[],k,n,_=>⟨k,rfl,.inl rfl⟩
 |(i,v)::r,k,n,h=>by
  obtain⟨xs,f⟩:=h (i,v) UC;have c:=λkv b=>h kv<|Up _ b
  show∃q,(match a9 M v with|some xs=>if xs.length<n then gB M i xs.length r else gB M k n r|none=>ae)=aa q/\_;rw[f];by_cases d:xs.length<n
  ·obtain⟨q,e,a⟩:=uw M r i xs.length c;refine⟨q,by simp only[T1 d];exact e,.inr ?_⟩;rcases a with rfl|a
   ·exact UC
   ·exact Up _ a
  ·obtain⟨q,e,a⟩:=uw M r k n c;refine⟨q,by simp only[T2 d];exact e,?_⟩;rcases a with rfl|a
   ·exact .inl rfl
   ·exact .inr<|Up _ a
def minD_mem(M)(b:kvs≠[])(h:∀kv∈kvs,∃xs,a9 M kv.2=aa xs):∃r,minD M kvs=aa r/\r∈kvs.map (·.1):=by
 cases kvs with
 |nil=>exact(b rfl).elim
 |cons p r=>
  obtain⟨i,v⟩:=p;obtain⟨xs,d⟩:=h (i,v) UC;obtain⟨q,e,a⟩:=uw M r i xs.length λkv c=>h kv<|Up _ c
  refine⟨q,?_,?_⟩
  ·show(match a9 M v with|some xs=>gB M i xs.length r|none=>ae)=_;rw[d];exact e
  ·rcases a with rfl|a
   ·exact UC
   ·exact Up _ a
def uQ(h:AY M n G ss s kvs)(c:kv∈kvs):∃k,kv.2=.ref k/\cK ss kv.1/\n<k/\M[k]? =aa (.lst<|(rowOf G ss s kv.1).map .int):=by
 obtain⟨_,b,d⟩:=h;have a:=mT c b;rcases d kv.1 with⟨z,_⟩|⟨k,z,h1,h2,h3⟩
 ·rw[z] at a;cases a
 ·rw[z] at a;exact⟨k,(Ua a).symm,h1,h2,h3⟩
noncomputable def ye(f:CM):Prop:=∀(M) (a n c h w) (b),1<=h/\h<=3->1<=w/\w<=3->bL M a n c h w b->(∃q,cK b q)->
 ∃p d,f [.ref a] M=.ok (.int p) d/\M<+:d/\cK b p
def yP:ye PB.lp:=by
 intro M a n c h w D F E S m;obtain⟨⟨B,v,_⟩,C,f,t,i⟩:=S;have j:f≠[]:=by
  rintro rfl;obtain⟨q,o⟩:=m;rcases i.2.2 q with⟨_,z⟩|⟨k,z,_⟩
  ·exact z o
  ·cases z
 obtain⟨p,u,y⟩:=minD_mem M j λd b=>by obtain⟨k,e,_,_,l⟩:=uQ i b;exact⟨_,by rw[e];exact dj l⟩
 obtain⟨d,b,rfl⟩:=Us.mp y;obtain⟨k,e,A,_⟩:=uQ i b;have g:∃r N,PB.lp [.ref a] M=.ok r N/\(r=.int d.1/\N=M++[.lst<|f.map λd=>.int d.1]):=by refine bT rfl<|bt ?_ ⟨rfl,rfl⟩;have x:aM aQ fC (aj 0) [aa<|.ref a] M=.ok (.ref c) M:=cg rfl v rfl;show px (aM aQ fC<|aj 0) [aa<|.ref a] M=_;simp only[px,x,R.bind,er t,u]
 obtain⟨r,N,s,rfl,rfl⟩:=g;exact⟨d.1,_,s,pre_app _ _,A⟩
noncomputable def fm(B:Nat)(M:Mem)(a:List W)(F:List<|List Int):Prop:=bI (λw f=>∃k,w=W.ref k/\k<B/\M[k]? =aa (.lst<|f.map .int)/\1<=f.length) a F
def fm.keep(h:fm B M fw F)(k:aW X M M')(g:B<=B')(c:∀x∈X,B<=x\/∀f:List Int,1<=f.length->M[x]? ≠aa (.lst<|f.map .int)):fm B' M' fw F:=
 h.imp λw f ⟨b,e,d,q,a⟩=>⟨b,e,by omega,k.get q λz=>by
  rcases c b z with y|y
  ·omega
  ·exact y f a q,a⟩
theorem fm.refs:∀{a:List W} {F:List (List Int)},fm B M a F->∀f:List Int,1<=f.length->a≠f.map .int
 |_,_,.nil,f,hf,e=>by
  cases f with
  |nil=>simp at hf
  |cons x r=>cases e
 |_,_,.cons h _,f,hf,e=>by
  obtain⟨k,rfl,_⟩:=h;cases f with
  |nil=>simp at hf
  |cons x r=>cases e
def fm.len(h:fm B M fw F):fw.length=F.length:=bI.len h
def bL.found(o:1<=h/\h<=3)(m:1<=w/\w<=3)(S:bL M a n c h w ss)(k:aW [f0] M M')(i:M[f0]? =aa (.lst fw))(p:fm B M fw F)(I:F.length<=2)(fa:f0<a)(G:a<n):bL M' a n c h w ss:=by
 obtain⟨v,J⟩:=eh o m;obtain⟨s,u,_⟩:=S.ob;obtain⟨C,d,A⟩:=S.cn;refine S.other k (by omega) (by omega) (by rintro rfl;rw[i] at d;cases d) (λE e q H z=>?_) λs u x=>?_
 ·rw[d] at e;cases e;rcases A.2.2 q with⟨y,_⟩|⟨k0,y,_,y3,_⟩
  ·rw[y] at z;cases z
  ·rw[y] at z;cases z;omega
 ·obtain⟨D,⟨b,e,f,q⟩,r⟩:=x;refine⟨D,⟨b,e,f,k.get q λz=>?_⟩,?_⟩
  ·simp only[T4,Ud,Ue] at z;subst z;rw[i] at q;have g:=by have:=Ua q;injection this
   have t:=r.len;rw[<-g,p.len,je] at t;omega
  ·refine VM.bI.zK r λw l j ⟨b,e,f,q⟩=>⟨b,e,f,k.get q λz=>?_⟩
   simp only[T4,Ud,Ue] at z;subst z;rw[i] at q;have g:=by have:=Ua q;injection this
   exact p.refs l (by rw[(mu o m).len l j];exact v) g
noncomputable def Bs.eY:List (Int×Tr×eN)->Bs
 |[]=>.nil
 |x::r=>.cons x.1 x.2.1<|Bs.eY r
theorem Bs.yQ:∀l:List (Int×Tr×eN),(Bs.eY l).nums=l.map (·.1)
 |[]=>rfl
 |x::r=>by show x.1::(Bs.eY r).nums=_;rw[Bs.yQ r];rfl
theorem A1:∀{a:List W} {l:List (Int×Tr×eN)},bI (λw x=>∃u,aH M w [.int x.1,u]/\dn M u x.2.1) a l->dY M a (Bs.eY l)
 |_,_,.nil=>by unfold Bs.eY dY;rfl
 |_,_,.cons ⟨u,c,b⟩ r=>by unfold Bs.eY dY;exact⟨_,u,_,rfl,c,b,A1 r⟩
noncomputable def gq:List (Int×Tr×eN)->Nat
 |[]=>0
 |x::r=>ju x.2.1+1+gq r
theorem zP:∀(l m),gq (l++m)=gq l+gq m
 |[],m=>by simp[gq]
 |x::r,m=>by show ju x.2.1+1+gq (r++m)=ju x.2.1+1+gq r+gq m;rw[zP r m];omega
theorem yR:∀l:List (Int×Tr×eN),pR (Bs.eY l)+l.length=gq l
 |[]=>rfl
 |x::r=>by have a:=yR r;show ju x.2.1+pR (Bs.eY r)+(r.length+1)=ju x.2.1+1+gq r;omega
theorem zQ:∀l:List (Int×Tr×eN),(∀x∈l,jH G s (ss.set p.toNat x.1) x.2.1=aa x.2.2)->∃w,i4 G s ss p (Bs.eY l)=aa w/\w.ib.Perm (l.flatMap λx=>x.2.2.ib)/\((∀x∈l,x.2.2.gG=af)->w.gG=af)/\(gE∈w.words->∃x∈l,gE∈x.2.2.words)
 |[],_=>⟨⟨[],[],af⟩,by unfold Bs.eY i4;rfl,.refl _,λ_=>rfl,λh=>by cases h⟩
 |x::r,h=>by
  obtain⟨w,e,i,g,d⟩:=zQ r λy a=>h y<|Up _ a
  have f:=h x UC;refine⟨w.join x.2.2,?_,?_,λc=>?_,λb=>?_⟩
  ·show i4 G s ss p (.cons x.1 x.2.1<|Bs.eY r)=_;rw[FF,e,f];rfl
  ·show(w.ib++x.2.2.ib).Perm _;rw[List.flatMap_cons];exact List.perm_append_comm.trans<|i.append_left _
  ·show(w.gG&&x.2.2.gG)=af;rw[g λy a=>c y<|Up _ a,c x UC];rfl
  ·have b:=b;rcases Vb.mp b with q|q
   ·obtain⟨y,a,q⟩:=d q;exact⟨y,Up _ a,q⟩
   ·exact⟨x,UC,q⟩
structure Av(M M':Mem)(n c h w f0:Nat)(ss:List Int)(F:List<|List Int)(v:W)(t:Tr)(kY:List W)(new:List<|List Int)(wk:eN):Prop where
 tr:dn (eO M.length M') v t
 kp:aW [n,c,f0] M M'
 fd:M'[f0]? =aa (.lst kY)
 fs:fm M'.length M' kY (F++new)
 le:(F++new).length<=2
 BK:jH (ar h w) (h*w) ss t=aa wk
 pm:wk.ib.Perm new
 lt:wk.gG=af
 lf:gE∈wk.words->(F++new).length=2
 sz:cO (ar h w) ss (h*w)=af->ju t+1<=2*wt h w ss
 tw:cO (ar h w) ss (h*w)=ag->F.length<2->∃cl,t=.mk [] (.cls cl)
noncomputable def mW(z:Nat)(f:CM):Prop:=∀(M) (a n c h w d) (b) (i) (F),1<=h/\h<=3->1<=w/\w<=3->bL M a n c h w b->aY (h*w) b->nz b<=z->M[d]? =aa (.lst i)->d<a->a<n->a<c->fm a M i F->F.length<=2->
 ∃v j t e g k,f [.ref a,.ref d] M=.ok v j/\Av M j n c h w d b F v t e g k
def lF(c:a σ M=.ok x M1)(d:b σ M1=.ok y M2):ba (ak a<|ak b ao) σ M=.ok (.ref M2.length) (M2++[.tup [x,y]]):=by simp only[ba,ak,c,d,R.bind];exact jc (by show 2<=16777216;decide)
def yS(b:a σ M=.ok x M1):ba (ak a ao) σ M=.ok (.ref M1.length) (M1++[.tup [x]]):=by simp only[ba,ak,b];exact jc (by show 1<=16777216;decide)
def HR(h:∀q,¬cK ss q):(!ss.any (·==0))=af:=by
 rw[UP,UN];intro z;obtain⟨x,a,e⟩:=Uc.mp z;have b:=by simpa using e
 subst b;obtain⟨i,c,a⟩:=Wi a;refine h (i) ⟨by omega,by omega,?_⟩;rw[lH c];exact a
theorem Aw(i:1<=h/\h<=3)(g:1<=w/\w<=3):∀(j) (ss a),aY (h*w) ss->cR (ar h w) (h*w) ss j=aa a->wt h w a<=wt h w ss
 |[],ss,a,_,e=>by have:=Ua e;subst this;exact T8 _
 |st::r,ss,a,l,e=>by
  have d:(if cq (ar h w) (h*w) ss st then cR (ar h w) (h*w) (dv ss st) r else ae)=aa a:=e;by_cases f:cq (ar h w) (h*w) ss st=af
  ·rw[T1 f] at d;have s:=Aw i g r (dv ss st) a (qo l f) d;obtain⟨o,t,u,v,y⟩:=jT f;obtain⟨b,c⟩:=Wy o;have n:cK ss (b):=by rw[<-c];exact⟨o,t,u⟩
   have z:=rp i g l.len n (m:=st.num)<|by omega
   have q:dv ss st=ss.set b st.num:=by unfold dv;rw[c,Uy]
   rw[q] at s;have k:1<=ec h w ss (b % (h*w)):=by
    obtain⟨x,_⟩:=eh i g;have p:b % (h*w)<h*w:=VY _<|by omega
    have:=vz i g l.len n (m:=st.num) (by omega) p;rw[T1 rfl] at this;omega
   have:wt h w (ss.set b st.num)*1<=wt h w (ss.set b st.num)*ec h w ss (b % (h*w)):=Nat.mul_le_mul_left _ k;omega
  ·rw[T2 f] at d;cases d
noncomputable def FJ(a b:CM):SM:=bM (b0<|ia (aM aQ fC<|aj 0)<|aj 4) (ay 6) (
 aZ (bo dc (aj 5) (ak (ba (ak (aj 6) (ak (ax b (ak (dW [83,116,97,116,101] [98,101,104,105,110,100] a (aj 0) (ak (aj 4) (ak (aj 6) ao))) (ak (aj 1) ao))) ao))) ao)))
structure A2(B N:Mem)(h w f0:Nat)(ss:List Int)(p:Nat)(F:List<|List Int)(ns:List Int)(W0:Nat)(new:List<|List Int)(l:List<|Int×Tr×eN):Prop where
 kp:aW [f0] B N
 br:∃bw,N[B.length]? =aa (.lst bw)/\bI (λw x=>∃u,aH N w [.int x.1,u]/\dn (eO (B.length+1) N) u x.2.1) bw l
 nl:l.map (·.1)=ns
 fd:∃fw,N[f0]? =aa (.lst fw)/\fm N.length N fw (F++new)
 le:(F++new).length<=2
 wk:∀x∈l,jH (ar h w) (h*w) (ss.set p x.1) x.2.1=aa x.2.2/\x.2.2.gG=af/\(gE∈x.2.2.words->(F++new).length=2)
 pm:(l.flatMap λx=>x.2.2.ib).Perm new
 sz:gq l<=2*W0*ns.length
def Ec{fb fg:CM}{z:Nat}(hb:ud fb)(hg:mW z fg){B:Mem}{a n c h w s p:Nat}{ss:List Int}{fw:List W}{F:List (List Int)}{vs L:W}{W0:Nat}{q:au}(hh:1<=h/\h<=3)(hw:1<=w/\w<=3)(S:bL B a n c h w ss)(sh:aY (h*w) ss)(Oy:nz ss<=z+1)(h0:B[s]? =aa (.lst fw))(fa:s<a)(an:a<n)(hF:fm B.length B fw F)(hl:F.length<=2)(hE:cK ss (p:Int))(ht:cO (ar h w) ss (h*w)=af)(hW:∀m:Int,m≠0->wt h w (ss.set p m)=W0)(hq:∀N d l x,A2 B N h w s ss p F (rowOf (ar h w) ss (h*w) p) W0 d l->q.nx [aa<|.ref a,aa<|.ref s,aa vs,aa L,aa<|.int (p:Int),aa<|.ref B.length,x] N): (FJ fb fg [aa<|.ref a,aa<|.ref s,aa vs,aa L,aa<|.int (p:Int),aa<|.ref B.length,ae]<|B++[.lst []]).Sat q:=by
 obtain⟨s1,s9⟩:=eh hh hw;obtain⟨vG,ob,_⟩:=S.ob;obtain⟨kvs,hc,hC⟩:=S.cn;have Nf:∃k,aS kvs (p:Int)=aa (.ref k)/\n<k/\B[k]? =aa (.lst<|(rowOf (ar h w) ss (h*w) p).map .int):=by
  rcases hC.2.2 (p:Int) with⟨_,y⟩|⟨k,y1,_,y3,y4⟩
  ·exact(y hE).elim
  ·exact⟨k,y1,y3,y4⟩
 obtain⟨k,ek,nk,hk⟩:=Nf;have Oz:s<B.length:=(T6.mp h0).1;have al:a<B.length:=(T6.mp ob).1;have kB:aW [s] B (B++[.lst []]):=aW.cZ<|pre_app _ _;have eg:ia (aM aQ fC<|aj 0) (aj 4) [aa<|.ref a,aa<|.ref s,aa vs,aa L,aa<|.int (p:Int),aa<|.ref B.length,ae] (B++[.lst []])=.ok (.ref k) (B++[.lst []]):=by have e1:aM aQ fC (aj 0) [aa<|.ref a,aa<|.ref s,aa vs,aa L,aa<|.int (p:Int),aa<|.ref B.length,ae] (B++[.lst []])=.ok (.ref c) (B++[.lst []]):=cg rfl (az (pre_app _ _) ob) rfl;simp only[ia,e1,aj,R.bind,T',T5,nI,er<|az (pre_app B [.lst []]) hc,ek]
 refine fE eg ⟨k,rfl,az (pre_app _ _) hk⟩ (λj σ N=>(∃x,σ=[aa<|.ref a,aa<|.ref s,aa vs,aa L,aa<|.int (p:Int),aa<|.ref B.length,x])/\∃d l,A2 B N h w s ss p F ((rowOf (ar h w) ss (h*w) p).take j) W0 d l)
  ⟨⟨_,rfl⟩,[],[],kB,⟨[],bV _ _,.nil⟩,rfl,⟨fw,az (pre_app _ _) h0,by rw[UZ];exact hF.keep kB (by simp) (by intro x i;simp only[T4,Ud,Ue] at i;subst i;exact .inr λf hf e=>hF.refs f hf (by rw[h0] at e;have:=Ua e;injection this))⟩,by simpa using hl,by simp,.refl _,by simp[gq]⟩ ?_ ?_ ?_
 ·rintro j σ N hj ⟨_,d,l,I⟩;exact⟨k,rfl,I.kp.get hk (by simp;omega)⟩
 ·rintro j x σ N i ⟨⟨x',rfl⟩,d,l,I⟩;obtain⟨m,hm,rfl,Y⟩:=gS i;simp only[T9,T7];obtain⟨_,m1,m2,_⟩:=m8 hm;obtain⟨bw,T,J⟩:=I.br;obtain⟨BL,BM,n9⟩:=I.fd;have NB:B.length<N.length:=(T6.mp T).1;have SN:bL N a n c h w ss:=S.found hh hw I.kp h0 hF hl fa an;obtain⟨U,n',c',e1,p1,S1,wz,qd⟩:=hb N a n c h w ss (p:Int) m hh hw SN sh hE<|by omega
  rw[Uy] at S1;have OA:aY (h*w) (ss.set p m):=sh.set _ (by omega) m2;have OB:=o8 (ss:=ss) (p:=(p:Int)) (m:=m) hE<|by omega
  rw[Uy] at OB;have RZ:N.length<=U.length:=p1.length_le;have Ng:fm N.length U BL (F++d):=n9.imp λw f ⟨b,e,hb,q,hl⟩=>⟨b,e,hb,az p1 q,hl⟩
  obtain⟨vt,G,t,OC,Nh,wk,e2,E⟩:=hg U N.length n' c' h w s (ss.set p m) BL (F++d) hh hw S1 OA (by omega) (az p1 BM) (by omega) wz qd Ng I.le;have R0:N.length<U.length:=(T6.mp S1.ob.choose_spec.1).1;have D:aW [s] N G:=⟨Ug p1.length_le E.kp.1,λb hb i=>by
   have n_:b<U.length:=by omega
   rw[E.kp.2 b n_ (λH=>by
    simp only[T4,Ud,Ue] at H i;rcases H with H|H|H
    ·omega
    ·omega
    ·exact i H)]
   obtain⟨r,rfl⟩:=p1;rw[UU hb]⟩
  have bX:B.length∉[s]:=by simp;omega
  have K:G[B.length]? =aa (.lst bw):=D.get T bX;have BN:dW [83,116,97,116,101] [98,101,104,105,110,100] fb (aj 0) (ak (aj 4)<|ak (aj 6) ao) [aa<|.ref a,aa<|.ref s,aa vs,aa L,aa<|.int (p:Int),aa<|.ref B.length,aa<|.int m] N=.ok (.ref N.length) U:=by obtain⟨Ss,OD,_⟩:=SN.ob;simp only[dW,aj,R.bind,T',T5,jn,mU OD,ak,ao];exact e1
  have OE:ax fg (ak (dW [83,116,97,116,101] [98,101,104,105,110,100] fb (aj 0)<|ak (aj 4)<|ak (aj 6) ao)<|ak (aj 1) ao) [aa<|.ref a,aa<|.ref s,aa vs,aa L,aa<|.int (p:Int),aa<|.ref B.length,aa<|.int m] N=.ok vt G:=by simp only[ax,ak,ao] at BN⊢;rw[BN];simp only[R.bind,aj,T',T5,e2]
  have et:=lF (a:=aj 6) (σ:=[aa<|.ref a,aa<|.ref s,aa vs,aa L,aa<|.int (p:Int),aa<|.ref B.length,aa<|.int m]) (M:=N) rfl OE;have C:=az (pre_app G [.tup [.int m,vt]]) K;have BO:bw.length<=j:=by have l1:=J.len;have l2:=UI List.length I.nl;rw[Ub,Vm] at l2;omega
  have jl:j<(rowOf (ar h w) ss (h*w) p).length:=(T6.mp Y).1;have rl:=lC (ar h w) ss (h*w) p;have ea:=lO (o:=aj 5) rfl T et C<|by omega
  refine dt ea ?_;generalize Z:G++[O.tup [.int m,vt]]=N3 at C ea⊢;have g:G<+:N3:=by rw[<-Z];exact pre_app _ _
  generalize V:N3.set B.length (O.lst<|bw++[.ref G.length])=N4;have jI:aW [B.length] N3 N4:=by rw[<-V];exact aW.set _<|by simp
  have OF:∀v,N3[B.length]? ≠aa (.tup v):=λv e=>by rw[C] at e;cases e
  have OG:aH N3 (.ref G.length) [.int m,vt]:=by rw[<-Z];exact aH.new _ _
  have OH:∀v,N[s]? ≠aa (.tup v):=λv e=>by rw[BM] at e;cases e
  have A:∀{w:W} {v:List W},aH N3 w v->aH N4 w v:=λtt=>aH.keep tt jI λx i v=>by simp only[T4,Ud,Ue] at i;subst i;exact OF v
  have P:∀{w:W} {v:List W},aH N w v->aH N4 w v:=λtt=>A (aH.mono (aH.keep tt D λx i v=>by simp only[T4,Ud,Ue] at i;subst i;exact OH v) g)
  have OI:Le (eO (B.length+1) N) (eO (B.length+1) N4):=by
   refine⟨λb v e=>j7.mpr ?_,λb ws e=>?_⟩
   ·have:=P (w:=.ref b) ⟨b,rfl,j7.mp e⟩;obtain⟨b',eb,Q⟩:=this;cases eb;exact Q
   ·obtain⟨g1,g2⟩:=jf.mp e;refine jf.mpr ⟨g1,jI.get (az g<|D.get g2 (by simp;omega)) (by simp;omega)⟩
  have OJ:Le (eO U.length G) (eO (B.length+1) N4):=by
   refine⟨λb v e=>j7.mpr ?_,λb ws e=>?_⟩
   ·have:=A (w:=.ref b) ⟨b,rfl,az g<|j7.mp e⟩;obtain⟨b',eb,Q⟩:=this;cases eb;exact Q
   ·obtain⟨g1,g2⟩:=jf.mp e;exact jf.mpr ⟨by omega,jI.get (az g g2) (by simp;omega)⟩
  have Ni:s≠B.length:=by omega
  have Nj:N3.length=N4.length:=by rw[<-V];simp
  refine⟨⟨_,rfl⟩,d++Nh,l++[(m,t,wk)],?_,⟨bw++[.ref G.length],?_,?_⟩,?_,⟨OC,jI.get (az g E.fd)<|by simpa using Ni,?_⟩,?_,λy hy=>?_,?_,?_⟩
  ·refine⟨Ug I.kp.1<|Ug D.1<|Ug g.length_le jI.1,λb hb i=>?_⟩;have b1:b<N.length:=by omega
   have b2:b<G.length:=Um b1 D.1;rw[jI.2 b (Um b2 g.length_le) (by simp;omega)];obtain⟨r,hr⟩:=g;rw[<-hr,UU b2,D.2 b b1 i,I.kp.2 b hb i]
  ·rw[<-V];exact UH (T6.mp C).1
  ·refine bI.app (J.imp λw x ⟨u,h1,h2⟩=>⟨u,P h1,dn.le OI h2⟩)<|.cons ⟨vt,A OG,dn.le OJ E.tr⟩ .nil
  ·rw[Wb,I.nl,mH _ _ Y];rfl
  ·rw[<-U5];refine E.fs.keep (X:=[B.length]) ((aW.cZ g).trans jI) (by rw[<-Nj,<-Z];simp) λx i=>?_
   simp only[T4,Ud,Ue] at i;subst i;refine .inr λf hf e=>?_
   rw[K] at e;have e1:bw=f.map .int:=by have:=Ua e;injection this
   rw[e1] at J;cases f with
   |nil=>simp at hf
   |cons y r=>
    cases J with
    |cons hd _=>obtain⟨u,⟨b',eb,_⟩,_⟩:=hd;cases eb
  ·rw[<-U5];exact E.le
  ·rcases Vb.mp hy with hy|hy
   ·obtain⟨w1,w2,w3⟩:=I.wk y hy;refine⟨w1,w2,λH=>?_⟩;have g1:=w3 H;have g2:=E.le;rw[Ur] at g2;rw[<-U5,Ur];omega
   ·rw[VH.mp hy];refine⟨E.BK,E.lt,λH=>?_⟩;rw[<-U5];exact E.lf H
  ·rw[W3];refine I.pm.append ?_;simpa using E.pm
  ·have OK:cO (ar h w) (ss.set p m) (h*w)=af:=by have:=yN (mu hh hw) sh ht (by omega) (by have:=hE.2.1;rw[sh.len] at this;exact this) hm;rw[Uy] at this;exact this
   have g1:=E.sz OK;rw[hW m<|by omega] at g1;have g2:=I.sz;rw[mH _ _ Y,Ur,zP];show gq l+(ju t+1+0)<=_;have:2*W0*(((rowOf (ar h w) ss (h*w) p).take j).length+[m].length)=2*W0*((rowOf (ar h w) ss (h*w) p).take j).length+2*W0:=by rw[Wr,Nat.mul_add,WB]
   omega
 ·rintro σ N ⟨⟨x,rfl⟩,d,l,I⟩;rw[Ub,UX] at I;exact hq N d l x I
def zR{fb ft fp fg:CM}{z:Nat}(hb:ud fb)(ht:oN ft)(hp:ye fp)(hg:∀z',z'<z->mW z' fg):mW z (PB.ly fb ft fp fg):=by
 intro M a n c h w i ss T F U hw S sh Oy h0 fa an ac hF P;obtain⟨s1,s9⟩:=eh U hw;have Oz:i<M.length:=(T6.mp h0).1;have al:a<M.length:=by obtain⟨vG,e,_⟩:=S.ob;exact(T6.mp e).1
 have nl:n<M.length:=(T6.mp S.nm).1;have cl:c<M.length:=by obtain⟨kv,e,_⟩:=S.cn;exact(T6.mp e).1
 have OL:i∉[n,c]:=by simp;omega
 have key:∃v M',PB.ly fb ft fp fg [.ref a,.ref i] M=.ok v M'/\∃t kY Z wk,Av M M' n c h w i ss F v t kY Z wk:=by
  refine bT rfl ?_;show(av _ _ [aa<|.ref a,aa<|.ref i,ae,ae,ae,ae,ae] M).Sat _;have hlen:T.length=F.length:=hF.len;have e1:tB (aq oEq (ax bP<|ak (aj 1) ao)<|eC<|.int 2) [aa<|.ref a,aa<|.ref i,ae,ae,ae,ae,ae] M=.ok (ai<|(T.length:Int)=2) M:=by
   have ef:ax bP (ak (aj 1) ao) [aa<|.ref a,aa<|.ref i,ae,ae,ae,ae,ae] M=.ok (.int T.length) M:=by simp only[ax,ak,ao,aj,R.bind,T',T5,bP,jW h0]
   exact bZ<|bx ef rfl eq_int
  refine aI<|bp e1 (λhc=>?_) λhc=>?_
  ·
   have BP:F.length=2:=by have:=UD hc;omega
   have el:aP ao [aa<|.ref a,aa<|.ref i,ae,ae,ae,ae,ae] M=.ok (.ref M.length) (M++[.lst []]):=(show bu [] M=_ from cm<|by decide);have et:=lF el<|yS (a:=eC<|.str [108,101,102,116]) (σ:=[aa<|.ref a,aa<|.ref i,ae,ae,ae,ae,ae]) (M:=M++[.lst []]) rfl;refine bt et ⟨.mk [] .left,T,[],⟨[gE],[],af⟩,?_⟩;generalize hN:M++[O.lst []]++[O.tup [W.str [108,101,102,116]]]=N;have pN:M<+:N:=by rw[<-hN];exact(pre_app _ _).trans<|pre_app _ _
   have tl:aH N (.ref (M++[O.lst []]).length) [gE]:=by rw[<-hN];exact aH.new _ _
   have ll:N[M.length]? =aa (.lst []):=by rw[<-hN];exact az (pre_app _ _)<|bV _ _
   have pM:=pN.trans<|pre_app N [O.tup [W.ref M.length,W.ref (M++[O.lst []]).length]];have kX:∀x∈[i],a<=x\/∀f:List Int,1<=f.length->M[x]? ≠aa (.lst<|f.map .int):=λx B=>by simp only[T4,Ud,Ue] at B;subst B;exact .inr λf hf e=>hF.refs f hf (by rw[h0] at e;have:=Ua e;injection this)
   refine⟨?_,aW.cZ pM,az pM h0,?_,by simpa using P,?_,.refl _,rfl,λ_=>by simpa using BP,λ_=>?_,λ_ oe=>by omega⟩
   ·unfold dn;refine⟨.ref M.length,.ref (M++[O.lst []]).length,gY<|aH.new _ _,qQ ⟨[],⟨_,rfl,az (pre_app _ _) ll⟩,.nil⟩<|T8 _,?_⟩;unfold dI;exact gY<|tl.mono<|pre_app _ _
   ·rw[UZ];refine hF.imp λw f ⟨b,e,hb,q,P⟩=>⟨b,e,?_,az pM q,P⟩
    have:=pM.length_le;omega
   ·rw[rn];rfl
   ·show 1+0+1<=_;have:=qX h w ss<|h*w;unfold wt;omega
  ·refine du ?_;dsimp only;have BP:F.length<2:=by have:=Vi hc;omega
   obtain⟨v1,M1,vs,vc,J,d,e2,tv,gp,S1,C,k1,rk,Su,kT,OM,⟨b,rfl,n_⟩⟩:=ht M a n c h w ss U hw S sh;have rs:=uv _ _ _ _ _ rk;have sm:M1[i]? =aa (.lst T):=k1.get h0 OL;have n9:fm a M1 T F:=hF.keep k1 (T8 _) λx B=>by
    simp only[T4,Ud,Ue] at B;rcases B with rfl|rfl
    ·exact .inl<|by omega
    ·exact .inl<|by omega
   have Bm:i≠b:=by omega
   have eT:ax ft (ak (aj 0) ao) [aa<|.ref a,aa<|.ref i,ae,ae,ae,ae,ae] M=.ok v1 M1:=by simp only[ax,ak,ao,aj,R.bind,T5,e2]
   have gT:cB [ay 2,ay 3] v1 [aa<|.ref a,aa<|.ref i,ae,ae,ae,ae,ae] M1=.ok [aa<|.ref a,aa<|.ref i,aa<|.ref b,aa vc,ae,ae,ae] M1:=by simp only[cB,tv.cu,UE,U_,Ul,jo,ay,R.bind,T7,T9]
   refine aI<|oT eT gT ?_;have Sv:M.length<=M1.length:=k1.1;rcases kT with⟨rfl,wQ,D,wu⟩|⟨so,ON,OO⟩
   ·refine aI (bp (c:=ag) (M1:=M1) (bZ rfl) (λz=>nomatch z) λ_=>?_);refine du ?_;dsimp only;obtain⟨_,Y,_⟩:=yO (mu U hw) J ss d sh wu rs;obtain⟨Sw,sg,_⟩:=S1.ob;obtain⟨wR,Nk,n5⟩:=S1.cn;have eD:tB (iM<|aM aQ fC<|aj 0) [aa<|.ref a,aa<|.ref i,aa<|.ref b,aa .aw,ae,ae,ae] M1=.ok wR.isEmpty (M1++[.aD []]):=by have e3:aM aQ fC (aj 0) [aa<|.ref a,aa<|.ref i,aa<|.ref b,aa .aw,ae,ae,ae] M1=.ok (.ref c) M1:=cg rfl sg rfl;refine bZ ?_;simp only[iM,e3,R.bind,er Nk]
    refine aI<|bp eD (λQ=>?_) λQ=>?_
    ·
     have Nl:wR=[]:=by simpa using Q
     have OP:∀q,¬cK d q:=λq hq=>by
      rcases n5.2.2 q with⟨_,y⟩|⟨k,y,_⟩
      ·exact y hq
      ·rw[Nl] at y;cases y
     have p2:=pre_app M1 [O.aD []];have L:=az p2 sm;have wN:=az p2 S1.nm;have ea:bo dc (aj 1) (ak (aM aQ fN<|aj 0) ao) [aa<|.ref a,aa<|.ref i,aa<|.ref b,aa .aw,ae,ae,ae] (M1++[.aD []])=.ok .aw ((M1++[O.aD []]).set i<|O.lst<|T++[W.ref n]):=
      lO (o:=aj 1) rfl L (cg rfl (az p2 sg) rfl) L (by omega)
     refine aI<|dt ea ?_;dsimp only;generalize hN:(M1++[O.aD []]).set i (O.lst<|T++[.ref n])=N;have kN:aW [i] (M1++[O.aD []]) N:=by rw[<-hN];exact aW.set _<|by simp
     have OQ:N[i]? =aa (.lst<|T++[.ref n]):=by rw[<-hN];exact UH (T6.mp L).1
     have et:=lF (a:=aj 2) (σ:=[aa<|.ref a,aa<|.ref i,aa<|.ref b,aa .aw,ae,ae,ae]) (M:=N) rfl<|yS (a:=eC<|.str [102,117,108,108]) (σ:=[aa<|.ref a,aa<|.ref i,aa<|.ref b,aa .aw,ae,ae,ae]) (M:=N) rfl;refine bt et ⟨.mk J .full,T++[.ref n],[d],⟨[nA],[d],af⟩,?_⟩;generalize E:N++[O.tup [W.str [102,117,108,108]]]=N2;have V:N<+:N2:=by rw[<-E];exact pre_app _ _
     have tf:aH N2 (.ref N.length) [nA]:=by rw[<-E];exact aH.new _ _
     have g:=V.trans<|pre_app N2 [O.tup [W.ref b,W.ref N.length]];have kM:aW [n,c,i] M N:=(k1.mono λx B=>by
      simp only[T4,Ud,Ue] at B⊢;rcases B with q|q
      ·exact .inl q
      ·exact .inr (.inl q)).trans ((aW.cZ p2).trans (kN.mono λx B=>by simp only[T4,Ud,Ue] at B⊢;exact .inr (.inr B)))
     have stN:fx N (.ref b) J:=by obtain⟨ws,⟨b',e,q⟩,h2⟩:=gp;cases e;exact⟨ws,⟨b,rfl,kN.get (az p2 q)<|by simpa using Uq Bm⟩,h2.imp λw st tt=>aH.keep (aH.mono tt p2) kN λx B us e=>by simp only[T4,Ud,Ue] at B;subst B;rw[L] at e;cases e⟩
     have OR:n≠i:=by omega
     have OS:1<=d.length:=by rw[C.len];exact UJ s1 s1
     refine⟨?_,kM.trans<|aW.cZ g,az g OQ,?_,by rw[Ur];simp;omega,?_,.refl _,rfl,λj=>?_,λ_=>?_,λj=>by rw[wu] at j;cases j⟩
     ·unfold dn;refine⟨.ref b,.ref N.length,gY<|aH.new _ _,qQ (stN.mono g) n_,?_⟩;unfold dI;exact gY<|tf.mono<|pre_app _ _
     ·have hle:=g.length_le;have Sx:(M1++[O.aD []]).length<=N.length:=kN.1;have R6:(M1++[O.aD []]).length=M1.length+1:=by simp
      refine bI.app (n9.imp λw f ⟨k,e,hk,q,P⟩=>⟨k,e,by omega,az g<|kN.get (az p2 q) λj=>?_,P⟩)<|.cons ⟨n,rfl,by omega,az g<|kN.get wN<|by simpa using OR,OS⟩ .nil;simp only[T4,Ud,Ue] at j;subst j;rw[sm] at q;exact n9.refs f P (by have:=Ua q;injection this)
     ·rw[rn,rs];show(if l' (ar h w) d (tabOf (ar h w) d<|h*w) (h*w) .full then _ else _)=_;rw[T1<|show l' (ar h w) d (tabOf (ar h w) d<|h*w) (h*w) .full=af from HR OP];rfl
     ·have j:gE∈[nA]:=j;rw[VH] at j;exact absurd j<|by decide
     ·show 1+0+1<=_;have:=qX h w ss<|h*w;unfold wt;omega
    ·
     refine du ?_;dsimp only;have p2:=pre_app M1 [O.aD []];have hex:∃q,cK d q:=by
      cases hk:wR with
      |nil=>rw[hk] at Q;simp at Q
      |cons x r=>obtain⟨k,_,H,_⟩:=uQ n5 (kv:=x) (by rw[hk];exact UC);exact⟨x.1,H⟩
     obtain⟨p,M2,e3,p3,H⟩:=hp (M1++[.aD []]) a n c h w d U hw (S1.mono p2) hex;obtain⟨A,rfl⟩:=Wy H.1;have H:cK d (A:Int):=H;refine aI<|bC (v:=.int (A:Int)) (M1:=M2) (by simp only[ax,ak,ao,aj,R.bind,T5];exact e3) ?_;simp only[T9,T7];refine aI<|bC (v:=.ref M2.length) (M1:=M2++[.lst []]) (show bu [] M2=_ from cm<|by decide) ?_;simp only[T9,T7];have K:M1<+:M2:=p2.trans p3;have S2:=S1.mono K;have Sy:M1.length<=M2.length:=K.length_le;have L:=az K sm;have Nm:fm M2.length M2 T F:=n9.imp λw f ⟨k,e,hk,q,P⟩=>⟨k,e,by omega,az K q,P⟩
     have sr:A<h*w*(h*w):=by have:=H.2.1;rw[C.len] at this;omega
     have R9:1<=nz d:=by have:=o8 H (m:=1) (by decide);omega
     have Nn:∃W0,∀m:Int,m≠0->wt h w (d.set A m)=W0:=by
      refine⟨wt h w<|d.set A 1,λm hm=>?_⟩;have w1:=rp U hw C.len H (m:=m) hm;have w2:=rp U hw C.len H (m:=1)<|by decide
      have OT:0<ec h w d (A % (h*w)):=by
       have:=vz U hw C.len H (m:=1) (by decide) (c:=A % (h*w))<|VY _<|by omega
       rw[T1 rfl] at this;omega
      exact Nat.eq_of_mul_eq_mul_right OT<|w1.symm.trans w2
     obtain⟨W0,hW⟩:=Nn;refine aI<|Ec (z:=z-1) hb (hg (z-1)<|by omega) U hw S2 C (by omega) L fa an Nm P H Y hW ?_;intro N Z l x I;dsimp only;have et:=lF (a:=aj 2) (σ:=[aa<|.ref a,aa<|.ref i,aa<|.ref b,aa .aw,aa<|.int (A:Int),aa<|.ref M2.length,x]) (M:=N) rfl<|uO (a:=eC<|.str [116,114,121]) (b:=aj 4) (c:=aj 5) (σ:=[aa<|.ref a,aa<|.ref i,aa<|.ref b,aa .aw,aa<|.int (A:Int),aa<|.ref M2.length,x]) (M:=N) rfl rfl rfl;obtain⟨kY,OU,OV⟩:=I.fd;obtain⟨wB,eB,pB,lB,fB⟩:=zQ (G:=ar h w) (s:=h*w) (ss:=d) (p:=(A:Int)) l λy hy=>by rw[Uy];exact(I.wk y hy).1
     refine bt et ⟨.mk J<|.jG (A:Int)<|Bs.eY l,kY,Z,⟨nO::wB.words,wB.ib,!gW (ar h w) d (tabOf (ar h w) d<|h*w) (h*w)&&wB.gG⟩,?_⟩;generalize E:N++[O.tup [W.str [116,114,121],W.int (A:Int),W.ref M2.length]]=N2;have V:N<+:N2:=by rw[<-E];exact pre_app _ _
     have tf:aH N2 (.ref N.length) [nO,.int (A:Int),.ref M2.length]:=by rw[<-E];exact aH.new _ _
     have g:=V.trans<|pre_app N2 [O.tup [W.ref b,W.ref N.length]];have kM:aW [n,c,i] M N:=(k1.mono λx B=>by
      simp only[T4,Ud,Ue] at B⊢;rcases B with q|q
      ·exact .inl q
      ·exact .inr (.inl q)).trans ((aW.cZ K).trans (I.kp.mono λx B=>by simp only[T4,Ud,Ue] at B⊢;exact .inr (.inr B)))
     have stN:fx N (.ref b) J:=by obtain⟨ws,⟨b',e,q⟩,h2⟩:=gp;cases e;exact⟨ws,⟨b,rfl,I.kp.get (az K q)<|by simpa using Uq Bm⟩,h2.imp λw st tt=>aH.keep (aH.mono tt K) I.kp λx B us e=>by simp only[T4,Ud,Ue] at B;subst B;rw[L] at e;cases e⟩
     obtain⟨bw,BQ,BR⟩:=I.br;have NB:M2.length<N.length:=(T6.mp BQ).1;have R_:bw.length<=9:=by have l1:=BR.len;have l2:=UI List.length I.nl;rw[Ub] at l2;have:=lC (ar h w) d (h*w) A;omega
     generalize qc:N2++[O.tup [W.ref b,W.ref N.length]]=N3 at g;have OW:N2<+:N3:=by rw[<-qc];exact pre_app _ _
     have OX:Le (eO (M2.length+1) N) (eO M.length N3):=FI (X:=[]) (aW.cZ g) (by omega)<|by simp
     have RI:2<=(rowOf (ar h w) d (h*w) A).length:=by
      have hT:=iE (ar h w) d (h*w) A (by rw[C.len];exact sr);have h1:(rowOf (ar h w) d (h*w) A).length≠1:=λj=>by unfold gW at D;rw[Vj] at D;have:=D.1;rw[UN,Ne,Uc] at this;exact this ⟨A,UL.mpr (by rw[C.len];exact sr),by rw[hT];exact UA j⟩
      have h2:rowOf (ar h w) d (h*w) A≠[]:=λj=>by unfold fO lz at wQ;rw[UP,Vj] at wQ;have:=wQ.1;rw[UN,Ne,Uc] at this;exact this ⟨A,UL.mpr (by rw[C.len];exact sr),by rw[hT,j,UA H.2.2];rfl⟩
      have h3:0<(rowOf (ar h w) d (h*w) A).length:=List.length_pos_iff.mpr h2;omega
     refine⟨?_,kM.trans<|aW.cZ g,az g OU,?_,I.le,?_,pB.trans I.pm,?_,λj=>?_,λ_=>?_,λj=>by rw[wu] at j;cases j⟩
     ·unfold dn;refine⟨.ref b,.ref N.length,gY (by rw[<-qc];exact aH.new _ _),qQ (stN.mono g) n_,?_⟩;unfold dI;refine⟨.ref M2.length,bw,gY<|tf.mono OW,⟨_,rfl,jf.mpr ⟨by omega,az g BQ⟩⟩,?_,by omega⟩;exact A1<|BR.imp λw y ⟨u,t1,t2⟩=>⟨u,gY<|t1.mono g,dn.le OX t2⟩
     ·refine OV.imp λw f ⟨k,e,hk,q,P⟩=>⟨k,e,?_,az g q,P⟩
      have:=g.length_le;omega
     ·rw[rn,rs];have he:l' (ar h w) d (tabOf (ar h w) d<|h*w) (h*w) (.jG (A:Int)<|Bs.eY l)=af:=by show(fk d (A:Int)&&ai ((Bs.eY l).nums=(tabOf (ar h w) d<|h*w).getD (A:Int).toNat []))=af;rw[jb.mpr H,Bs.yQ,I.nl,jk H.1 H.2.1];simp
      show(if _ then _ else _)=_;rw[T1 he];show(i4 (ar h w) (h*w) d (A:Int)<|Bs.eY l).map _=_;rw[eB];rfl
     ·show(!gW (ar h w) d (tabOf (ar h w) d<|h*w) (h*w)&&wB.gG)=af;rw[D,lB λy hy=>(I.wk y hy).2.1];rfl
     ·have j:gE∈nO::wB.words:=j;rcases T4.mp j with q|q
      ·exact absurd q<|by decide
      ·obtain⟨y,hy,q⟩:=fB q;exact(I.wk y hy).2.2 q
     ·show 1+pR (Bs.eY l)+1<=_;have g1:=yR l;have g2:=I.sz;have g3:=UI List.length I.nl;rw[Ub] at g3;have g4:=Kc U hw C Y sr;have g5:=rp U hw C.len H (m:=1)<|by decide
      rw[hW 1<|by decide] at g5;have g6:=Aw U hw J ss d sh rs;have g7:2*W0*(rowOf (ar h w) d (h*w) A).length<=2*(W0*ec h w d (A % (h*w))):=by rw[<-WC];exact Nat.mul_le_mul_left _ g4
      omega
   ·
    obtain⟨bc,rfl,OY⟩:=ON;dsimp only;refine aI<|bp (c:=af) (M1:=M1) (bZ rfl) (λ_=>?_) λz=>nomatch z
    have et:=lF (a:=aj 2) (σ:=[aa<|.ref a,aa<|.ref i,aa<|.ref b,aa<|.ref bc,ae,ae,ae]) (M:=M1) rfl<|lF (a:=eC<|.str [99,108,97,115,104]) (b:=aj 3) (σ:=[aa<|.ref a,aa<|.ref i,aa<|.ref b,aa<|.ref bc,ae,ae,ae]) (M:=M1) rfl rfl;refine bt et ⟨.mk J<|.cls so,T,[],⟨[o7],[],af⟩,?_⟩;generalize E:M1++[O.tup [W.str [99,108,97,115,104],W.ref bc]]=N2;have V:M1<+:N2:=by rw[<-E];exact pre_app _ _
    have tf:aH N2 (.ref M1.length) [o7,.ref bc]:=by rw[<-E];exact aH.new _ _
    have g:=V.trans<|pre_app N2 [O.tup [W.ref b,W.ref M1.length]];refine⟨?_,(k1.mono λx B=>by
     simp only[T4,Ud,Ue] at B⊢;rcases B with q|q
     ·exact .inl q
     ·exact .inr (.inl q)).trans (aW.cZ g),az g sm,?_,by simpa using P,?_,.refl _,rfl,λj=>?_,λ_=>?_,λj _=>⟨so,by rw[OM j]⟩⟩
    ·unfold dn;refine⟨.ref b,.ref M1.length,gY<|aH.new _ _,qQ (gp.mono g) n_,?_⟩;unfold dI;exact⟨.ref bc,gY<|tf.mono<|pre_app _ _,gY<|aH.mono ⟨bc,rfl,OY⟩ g⟩
    ·rw[UZ];refine n9.imp λw f ⟨k,e,hk,q,P⟩=>⟨k,e,?_,az g q,P⟩
     have:=g.length_le;omega
    ·rw[rn,rs];show(if l' (ar h w) d (tabOf (ar h w) d<|h*w) (h*w) (.cls so) then _ else _)=_;rw[T1<|show l' (ar h w) d (tabOf (ar h w) d<|h*w) (h*w) (.cls so)=af from OO];rfl
    ·have j:=j;rw[VH] at j;exact absurd j<|by decide
    ·show 1+0+1<=_;have:=qX h w ss<|h*w;unfold wt;omega
 obtain⟨v,M',e,t,kY,Z,wk,q⟩:=key;exact⟨v,M',t,kY,Z,wk,e,q⟩
noncomputable def Df(f:CM):Prop:=∀(h w) (M) (e) (a),1<=h/\h<=3->1<=w/\w<=3->aT M e a->aY (h*w) a->
 ∃v b g d t F c,f [.int h,.int w,e] M=.ok v b/\M<+:b/\aH b v [g,d]/\dn b d t/\LL b g F/\F.length<=2/\jH (ar h w) (h*w) a t=aa c/\c.ib.Perm F/\c.gG=af/\(gE∈c.words->F.length=2)/\ (cO (ar h w) a (h*w)=af->ju t+1<=2*wt h w a)/\(cO (ar h w) a (h*w)=ag->∃i,t=.mk [] (.cls i))
def Ed(K:gU fs)(P:mW 81 fg):Df (PB.iG fs fg):=by
 intro h w M o a r p J i;obtain⟨S,A⟩:=eh r p;have l:nz a<=81:=by refine Ug (vO a) ?_;rw[i.len];exact UJ A A
 obtain⟨M1,n,c,I,y,H,F,D⟩:=K h w (M++[.lst []]) o a r p (aR.mono J<|pre_app _ _) i;have Q:=az y<|bV _ _;have L:(M++[O.lst []]).length=M.length+1:=by simp
 obtain⟨b,M2,t,B,m,C,E,G⟩:=P M1 (M++[O.lst []]).length n c h w M.length a [] [] r p H i l Q (by omega) F D .nil<|by decide
 have N:=G.kp.base ((pre_app M [O.lst []]).trans y) λx u=>by simp only[T4,Ud,Ue] at u;rcases u with rfl|rfl|rfl<;>omega
 have d:∃v j,PB.iG fs fg [.int h,.int w,o] M=.ok v j/\(v=.ref M2.length/\j=M2++[.tup [.ref M.length,b]]):=by
  refine bT rfl ?_;show(av _ _ [aa<|.int h,aa<|.int w,aa o,ae,ae] M).Sat _;refine aI<|bC (show bu [] M=_ from cm<|by decide) ?_;simp only[T9,T7];refine aI<|bC (v:=b) (M1:=M2) ?_ ?_
  ·simp only[ax,ak,ao,aj,R.bind,T',T5,I,E]
  simp only[T9];exact bt (lF rfl rfl) ⟨rfl,rfl⟩
 obtain⟨v,j,e,rfl,rfl⟩:=d;have q:=pre_app M2 [O.tup [W.ref M.length,b]];refine⟨_,_,.ref M.length,b,t,m,C,e,N.trans q,aH.new _ _,(dn.le (Ke _ _) G.tr).mono q,?_,by simpa using G.le,G.BK,G.pm,G.lt,λz=>by simpa using G.lf z,G.sz,λz=>G.tw z<|by decide⟩;have s:=G.fs;rw[UK] at s;exact⟨B,⟨_,rfl,az q G.fd⟩,s.imp λw f ⟨k,e,_,g,_⟩=>⟨k,e,az q g⟩⟩
noncomputable def qZ(f:CM):Prop:=∀(N M) (a n c h w) (g) (e) (d),1<=h/\h<=3->1<=w/\w<=3->N<+:M->N.length<=n->N.length<=c->bL M a n c h w g->aY (h*w) g->fx N e d->
 ∃v i,f [.ref a,e] M=.ok v i/\aW [n,c] M i/\((v=.bl af/\∃b,cR (ar h w) (h*w) g d=aa b/\bL i a n c h w b/\aY (h*w) b)\/(v=.bl ag/\cR (ar h w) (h*w) g d=ae))
def Kf{F fs:CM}(Y:pF F)(X:qM fs):qZ (PB.qm F fs):=by
 intro N M a n c h w u r b K J C U Z S O D;have p:∀x∈[n,c],N.length<=x:=by
  intro x s;simp only[T4,Ud,Ue] at s;rcases s with rfl|rfl
  ·exact U
  ·exact Z
 obtain⟨ws,I,E⟩:=D;have B:=E.len;refine bT rfl ?_;refine aI (fE rfl (I.mono C) (λj z i=>(∃y,z=[aa<|.ref a,aa r,y])/\aW [n,c] M i/\∃d,cR (ar h w) (h*w) u (b.take j)=aa d/\bL i a n c h w d/\aY (h*w) d)
  ⟨⟨_,rfl⟩,aW.refl _ _,u,rfl,S,O⟩ (λj z i _ h=>I.mono (h.2.1.base C p)) ?_ ?_)
 ·rintro j x z i s ⟨⟨y,rfl⟩,k,d,h1,S1,qe⟩;obtain⟨e,q,g⟩:=E.at s;have H:b.take (j+1)=b.take j++[e]:=by rw[VZ,q];rfl
  have m:=k.base C p;show((av _ _) [aa<|.ref a,aa r,aa x] i).Sat _;obtain⟨M2,P,t⟩:=X i a n c h w d x e K J S1 qe<|aH.mono g m;refine aI<|bp (c:=!cq (ar h w) (h*w) d e) (M1:=M2) (qN<|bZ ?_) (λl=>?_) λl=>?_
  ·simp only[ax,ak,ao,aj,R.bind,T',T5,P];rfl
  ·refine bt rfl ⟨k.trans<|aW.cZ t,.inr ⟨rfl,?_⟩⟩;have A:cR (ar h w) (h*w) u (b.take<|j+1)=ae:=by rw[H,uu,h1];rw[UP] at l;show(if cq (ar h w) (h*w) d e=af then _ else _)=_;rw[l];rfl
   have:=yb (ar h w) (h*w) (b.take<|j+1) (b.drop<|j+1) u A;rw[List.take_append_drop] at this;exact this
  ·refine du ?_;rw[Wx] at l;obtain⟨p0,V,W,n0,n1⟩:=jT l;have G:=S1.mono t;obtain⟨M3,A,L,k3,_⟩:=Y M2 a n c h w d e.place e.num K J G qe (jb.mp (by unfold fk;simp[p0,V,W]))<|by omega
   have f:=(aH.mono g m).mono t;have T:jn aQ [112,117,116] M2 (.ref a)=af:=by obtain⟨vG,o,_⟩:=G.ob;simp[jn,dO,o,cD]
   have Q:aA x (.int 1) M2=.ok (.int e.place) M2:=eR f 1<|by cases e<;>rfl
   have r2:aA x (.int 2) M2=.ok (.int e.num) M2:=eR f 2<|by cases e<;>rfl
   refine dt (v:=.aw) ?_ ⟨⟨_,rfl⟩,(k.trans<|aW.cZ t).trans k3,dv d e,?_,L,qo qe l⟩
   ·simp only[dW,ak,ao,aj,aq,eC,R.bind,T',T5,T,Q,r2,Ul,A]
   ·rw[H,uu,h1];show(if cq (ar h w) (h*w) d e=af then _ else _)=_;rw[T1 l]
 ·rintro z i ⟨⟨y,rfl⟩,k,d,h1,S1,qe⟩;rw[B,UX] at h1;dsimp only;exact bt rfl ⟨k,.inl ⟨rfl,d,h1,S1,qe⟩⟩
noncomputable abbrev Me:List Nat:=[78,111,83,116,101,112]
noncomputable def FL(f:CM):Prop:=∀(h w) (M) (g c) (e) (b),1<=h/\h<=3->1<=w/\w<=3->aT M g e->aY (h*w) e->fx M c b-> (∃a n d,cR (ar h w) (h*w) e b=aa a/\aY (h*w) a/\f [.int h,.int w,g,c] M=.ok (.ref n) d/\M<+:d/\d[n]? =aa (.lst<|a.map .int))\/(cR (ar h w) (h*w) e b=ae/\∃d,f [.int h,.int w,g,c] M=.ex (.str Me) d/\M<+:d)
def HS(z:gU fs)(B:qZ fa):FL (PB.jh fs fa):=by
 intro h w M r a l b t s y g f;obtain⟨M1,n,c,p,m,S,u,x⟩:=z h w M r l t s y g;obtain⟨v,M2,i,k2,q⟩:=B M M1 M.length n c h w l a b t s m (U6 u) (U6 x) S g f;have j:=k2.base m (by simp;omega);rcases q with⟨rfl,d,e,k,A⟩|⟨rfl,e⟩
 ·obtain⟨C,o,_⟩:=k.ob;refine .inl ⟨d,n,M2,e,A,?_,j,k.nm⟩;have:aM aQ fN (aj 4) [aa<|.int h,aa<|.int w,aa r,aa a,aa<|.ref M.length] M2=.ok (.ref n) M2:=cg rfl o rfl;simp only[PB.jh,fn,UE,U_,Nat.reduceAdd,Ul,UG,UM,Wh,av,cF,aK,cG,cz,tB,aG,aJ,ay,ax,ak,ao,aj,R.bind,R.bK,R.cJ,RS.andThen,Uo,U0,U',UK,Vp,Vy,Nat.reduceSub,T',T5,p,T7,T9,i,aX,this]
 ·refine .inr ⟨e,M2,?_,j⟩;simp only[PB.jh,fn,UE,U_,Nat.reduceAdd,Ul,UG,UM,Xj,av,cF,aK,cG,cz,tB,aG,aJ,ay,ax,ak,ao,aj,R.bind,R.bK,R.cJ,RS.andThen,Uo,U0,U',UK,Vp,Vy,Nat.reduceSub,T',T5,p,T7,T9,i,hJ]
theorem zS:∀{b:List ee} {ss a:List Int},cR G s ss b=aa a->b.length+nz a=nz ss
 |[],ss,a,e=>by cases e;simp
 |st::r,ss,a,e=>by
  have e:(if cq G s ss st=af then cR G s (dv ss st) r else ae)=aa a:=e;by_cases c:cq G s ss st=af
  ·rw[T1 c] at e;have h:=zS e;obtain⟨g,d,f,i,j⟩:=jT c;have:=o8 (ss:=ss) (p:=st.place) (m:=st.num) (jb.mp (by unfold fk;simp[g,d,f]))<|by omega
   unfold dv at h;simp only[UE];omega
  ·rw[T2 c] at e;cases e
noncomputable def Ee(f:CM):Prop:=∀(h w) (M) (j) (c),1<=h/\h<=3->1<=w/\w<=3->aT M j c->aY (h*w) c->
 ∃v d g e b a,f [.int h,.int w,j] M=.ok v d/\M<+:d/\aH d v [g,e]/\fx d g b/\aY (h*w) a/\runK (ar h w) (h*w) c b=aa a/\ ((e=.aw/\fO (ar h w) (h*w) a=af/\gW (ar h w) a (tabOf (ar h w) a<|h*w) (h*w)=ag/\cO (ar h w) c (h*w)=af)\/∃i,iP d e i/\eS (ar h w) a (tabOf (ar h w) a<|h*w) (h*w) i=af)/\ (cO (ar h w) c (h*w)=ag->b=[])/\b.length<=81
def Dg(x:gU fs)(p:oN ft):Ee (PB.jR fs ft):=by
 intro h w M y f i g u e;obtain⟨M1,n,c,t,s,S,B,D⟩:=x h w M y f i g u e;obtain⟨v,M2,k,z,a,b,o,m,l,G,d,k2,j,E,r,A,_⟩:=p M1 M.length n c h w f i g S e;have q:=k2.base s (by simp;omega);refine⟨v,M2,k,z,a,b,?_,q,m,l,d,j,r,A,?_⟩
 ·simp only[PB.jR,fn,UE,U_,Nat.reduceAdd,Ul,aG,ax,ak,ao,aj,R.bind,R.bK,Uo,U0,U',UK,Vp,Vy,Nat.reduceSub,T',T5,t,o]
 ·have H:=zS (uv _ _ _ _ _ j);have C:=vO f;have F:=e.len;have:=(wM i g).2.2;omega
end LV
namespace K5
open VM
noncomputable abbrev gP:=PB.gP
noncomputable abbrev gL:=PB.gL
noncomputable abbrev gQ:=PB.gQ
noncomputable abbrev i8:=PB.i8
noncomputable abbrev d0:=PB.d0
noncomputable abbrev iD:=PB.iD
noncomputable abbrev e_:=PB.e_
noncomputable abbrev iz:=PB.iz
noncomputable abbrev i9:=PB.i9
noncomputable abbrev jP:=PB.jP
noncomputable def j3(a:CM):CM:=jC [83,116,97,116,101] a
noncomputable abbrev ja:=PB.ja
noncomputable abbrev lj:=PB.lj
noncomputable abbrev kZ:=PB.kZ
noncomputable abbrev lb:=PB.lb
noncomputable abbrev k_:=PB.k_
noncomputable abbrev lq:=PB.lq
noncomputable abbrev la:=PB.la
noncomputable abbrev lu:=PB.lu
noncomputable abbrev lr:=PB.lr
noncomputable abbrev lx:=PB.lx
noncomputable abbrev lp:=PB.lp
noncomputable abbrev ly:=PB.ly
noncomputable abbrev iG:=PB.iG
noncomputable abbrev eo:=LV.eo
noncomputable abbrev fj:=LV.fj
noncomputable abbrev gX:=LV.gX
noncomputable abbrev gN:=LV.gN
noncomputable abbrev iA:=LV.iA
noncomputable abbrev iB:=LV.iB
noncomputable abbrev gO:=LV.gO
noncomputable def mE(b a:CM):CM:=fn 1 1 (
 av (
  aK (tB<|aq eL (ax bP<|ak (aj 0) ao)<|eC<|.int 63) (
   aG (aq aA (aP (ak (ba (ak (eC (.int 2)) (ak (eC (.int 3)) ao))) (ak (ba (ak (eC (.int 3)) (ak (eC (.int 2)) ao))) (ak (ba (ak (eC (.int 3)) (ak (eC (.int 3)) ao))) (ak (ba (ak (eC (.int 2)) (ak (eC (.int 2)) ao))) ao))))) (aq oMod (ax b (ak (aj 0) (ak (eC (.int 0)) ao))) (eC (.int 4))))) (
   aX)) (
 av (
  aK (tB<|aq oEq (aq oMod (ax nH<|ak (kP (aj 0) pq<|iL<|eC<|.int 1) ao)<|eC<|.int 32)<|eC<|.int 9) (
   aG (aq aA (aP (ak (ba (ak (eC (.int 2)) (ak (eC (.int 3)) ao))) (ak (ba (ak (eC (.int 3)) (ak (eC (.int 2)) ao))) ao))) (aq oMod (aq oDiv (ax b (ak (aj 0) (ak (eC (.int 0)) ao))) (eC (.int 32))) (eC (.int 2))))) (
   aX)) (
 aG (ax a (ak (ax b (ak (aj 0) (ak (eC (.int 0)) ao))) ao)))))
end K5
namespace LV
open VM
def Ef:um 6 (K5.mE fj gN):=by
 intro M b o s;refine bT rfl ?_;show(av _ _ [aa<|.ref 0] M).Sat _;refine aI<|bp (c:=ag) (M1:=M) ?_ (λz=>nomatch z) λ_=>?_
 ·walk_at "ev"
  have e:ai ((63:Int)<(b.length:Int))=ag:=Ut<|by omega
  simp only[o.len,gt_int,e]
 refine du ?_;dsimp only;have m:=o.cut s ae<|aa 1;have L:=aR.new M<|(VM.cut b ae<|aa 1).map .int;generalize S:M++[O.lst<|(VM.cut b ae<|aa 1).map .int]=N at m L;have l:M<+:N:=by rw[<-S];exact pre_app _ _
 refine aI<|bp (c:=ai<|(VM.cut b ae<|aa 1).sum % 32=9) (M1:=N) ?_ (λm=>?_) λm=>?_
 ·have F:=dk (M:=N) (i:=(VM.cut b ae<|aa 1).sum) (j:=32) (by decide);have f:nH [.ref M.length] N=.ok (.int (VM.cut b ae<|aa 1).sum) N:=by unfold nH;simp only[L.a9,Option.bind,xA]
  walk_at "ev"
  simp only[kP,pq,iL,R.bind,m,f,F,eq_int,aj,eC,T5]
 ·obtain⟨d,M1,u,n,a⟩:=vu [aa<|.ref 0] [(2,3),(3,2)] N;have k:=a.len;have B:bu d M1=.ok (.ref M1.length) (M1++[.lst d]):=cm (by simp at k;omega);have C:=aR.new M1 d;generalize p:M1++[O.lst d]=M2 at B C;have g:M1<+:M2:=by rw[<-p];exact pre_app _ _
  obtain⟨c,t,I,q⟩:=lT b M2 0 (o.mono<|l.trans<|n.trans g) s;have E:=eQ (M:=t) (i:=c) (j:=32) (by decide)<|by decide
  have A:=dk (M:=t) (i:=c / 32) (j:=2)<|by decide
  have H:0<=c / 32 % 2/\c / 32 % 2<2:=by omega
  generalize c / 32 % 2=i at A H;obtain⟨x,y,rfl⟩:∃x y,d=[x,y]:=by
   match d,k with
   |[x,y],_=>exact⟨x,y,rfl⟩
  cases a with
  |cons D a=>
   cases a with
   |cons T _=>
    have G:i=0\/i=1:=by omega
    have P:∃v,cH [x,y] i=aa v/\∃h w:Nat,aH M1 v [.int h,.int w]/\(1<=h/\h<=3)/\(1<=w/\w<=3)/\h*w<=6:=by
     rcases G with rfl|rfl
     ·exact⟨x,rfl,2,3,D,by decide,by decide,by decide⟩
     ·exact⟨y,rfl,3,2,T,by decide,by decide,by decide⟩
    obtain⟨v,Q,h,w,K,r⟩:=P;refine bt ?_ ⟨l.trans<|n.trans<|g.trans q,h,w,K.mono<|g.trans q,r⟩;show aq aA (aP<|p_ [(2,3),(3,2)]) _ [aa<|.ref 0] N=_;refine bx (y:=.int i) (M2:=t) (by unfold aP;rw[u];exact B) ?_ ?_
    ·simp only[aq,R.bind,ax,ak,ao,aj,eC,T5,Uo,U0,U',I,E,A]
    ·simp only[aA,(C.mono q).bD,Q]
 ·refine du ?_;obtain⟨c,M1,u,n⟩:=lT b N 0 (o.mono l) s;obtain⟨v,M2,J,g,r⟩:=CD c M1;refine bt ?_ ⟨l.trans<|n.trans g,r⟩
  walk_at "ev"
  simp only[u,J]
def call2(c:a σ M=.ok x M)(d:b σ M=.ok y M)(h:f [x,y] M=r):ax f (ak a<|ak b ao) σ M=r:=by simp only[ax,ak,ao,R.bind,c,d,h]
def Kg(c:a σ M=.ok ag M1)(d:b σ M1=r):cW a b σ M=r:=by unfold cW;rw[c];exact d
def eq_nil(he:e σ M=.ok v M1)(h:aR M1 v ws):∃M2,M1<+:M2/\aq oEq e (aP ao) σ M=.ok (.bl<|ai<|ws.length=0) M2/\aq bE e (aP ao) σ M=.ok (.bl<|!ai (ws.length=0)) M2:=by
 have n:aP ao σ M1=.ok (.ref M1.length) (M1++[.lst []]):=rfl;have b:dU (M1++[.lst []]) v (.ref M1.length)=aa (ai<|ws.length=0):=by
  obtain⟨a,rfl,c⟩:=h;unfold dU;rw[T2<|by simp[VM.dQ],dj<|az (pre_app _ _) c,dj<|bV _ _];unfold ku;cases ws with
  |nil=>rfl
  |cons x r=>rfl
 refine⟨M1++[.lst []],pre_app _ _,bx he n ?_,bx he n ?_⟩
 ·unfold oEq;rw[b]
 ·unfold bE;rw[b]
noncomputable def cT(h w:Nat)(e j f vs:W)(i g c b a d:Option W):St:=[aa<|.ref 0,aa<|.int h,aa<|.int w,aa<|.int (h*w:Nat),aa e,aa j,aa f,aa vs,i,g,c,b,a,d]
end LV
namespace K3
open VM
noncomputable abbrev gP:=PB.gP
noncomputable abbrev gL:=PB.gL
noncomputable abbrev gQ:=PB.gQ
noncomputable abbrev i8:=PB.i8
noncomputable abbrev d0:=PB.d0
noncomputable abbrev iD:=PB.iD
noncomputable abbrev e_:=PB.e_
noncomputable abbrev iz:=PB.iz
noncomputable def i9:CM:=fn 3 3 (
 pP)
noncomputable def jP:CM:=fn 3 3 (
 pP)
noncomputable def j3(a:CM):CM:=jC [83,116,97,116,101] a
noncomputable abbrev gR:=PB.gR
noncomputable abbrev ja:=PB.ja
noncomputable abbrev lh:=PB.lh
noncomputable abbrev iF:=PB.iF
noncomputable abbrev eo:=LV.eo
noncomputable abbrev fj:=LV.fj
noncomputable abbrev gX:=LV.gX
noncomputable abbrev gN:=LV.gN
noncomputable abbrev iA:=LV.iA
noncomputable abbrev iB:=LV.iB
noncomputable abbrev gO:=LV.gO
noncomputable def mE(b a:CM):CM:=fn 1 1 (
 av (
  aK (tB<|aq eL (ax bP<|ak (aj 0) ao)<|eC<|.int 63) (
   aG (aq aA (aP (ak (ba (ak (eC (.int 2)) (ak (eC (.int 3)) ao))) (ak (ba (ak (eC (.int 3)) (ak (eC (.int 2)) ao))) (ak (ba (ak (eC (.int 3)) (ak (eC (.int 3)) ao))) (ak (ba (ak (eC (.int 2)) (ak (eC (.int 2)) ao))) ao))))) (aq oMod (ax b (ak (aj 0) (ak (eC (.int 0)) ao))) (eC (.int 4))))) (
   aX)) (
 av (
  aK (tB<|aq oEq (aq oMod (ax nH<|ak (kP (aj 0) pq<|iL<|eC<|.int 1) ao)<|eC<|.int 32)<|eC<|.int 9) (
   aG (ba (ak (eC (.int 3)) (ak (eC (.int 3)) ao)))) (
   aX)) (
 aG (ax a (ak (ax b (ak (aj 0) (ak (eC (.int 0)) ao))) ao)))))
end K3
namespace LV
open VM
noncomputable def CI(f:CM):Prop:=∀(h w:Nat) (M:Mem) (d a:W) (b:List Int) (e:ee),1<=h/\h<=3->1<=w/\w<=3->aT M d b->aY (h*w) b->jq M a e->
 ∃c,f [.int h,.int w,d,a] M=.ok (.bl<|hV (ar h w) b (tabOf (ar h w) b<|h*w) (h*w) e) c/\M<+:c
noncomputable def wD(h w:Nat)(g l:W)(i:Option W)(vs:W)(k j e d a f c b:Option W):St:=[aa<|.ref 0,aa<|.int h,aa<|.int w,aa<|.int (h*w:Nat),aa g,aa l,i,aa vs,k,j,e,d,a,f,c,b]
def Dh{fs f:CM}(z:gU fs)(t:qM f):CI (PB.iF fs f):=by
 intro h w M j a b i p o y l k;obtain⟨M1,n,c,x,m,S,_,_⟩:=z h w M j b p o y l;obtain⟨M2,s,u⟩:=t M1 M.length n c h w b a i p o S l<|aH.mono k m;have g:∃r d,PB.iF fs f [.int h,.int w,j,a] M=.ok r d/\(r=.bl (hV (ar h w) b (tabOf (ar h w) b<|h*w) (h*w) i)/\M<+:d):=by refine bT rfl<|bt (M1:=M2) (v:=.bl<|hV (ar h w) b (tabOf (ar h w) b<|h*w) (h*w) i) ?_ ⟨rfl,m.trans u⟩;show ax f (ak (ax fs<|ak (aj 0)<|ak (aj 1)<|ak (aj 2) ao)<|ak (aj 3) ao) [aa<|.int h,aa<|.int w,aa j,aa a] M=_;simp only[ax,ak,ao,aj,R.bind,T',T5,x,s]
 obtain⟨r,d,e,rfl,q⟩:=g;exact⟨d,e,q⟩
end LV
namespace K3
open VM LV
end K3
namespace K7
open VM
noncomputable abbrev gP:=PB.gP
noncomputable abbrev gL:=PB.gL
noncomputable abbrev gQ:=PB.gQ
noncomputable abbrev i8:=PB.i8
noncomputable def d0:CM:=fn 3 5 (
 av (
  cF (
   aJ (aq bB (aj 0) (aj 1)) (ay 3))) (
 av (
  aK (cG<|tB<|aq bE (ax bP<|ak (aj 2) ao)<|aq bB (aj 3)<|aj 3) (
   hJ [78,111,83,104,101,101,116]) (
   aX)) (
 bM (kG<|b0<|aj 2) (ay 4) (
  aK (cG<|cW (tB<|aq oLt (aj 4)<|eC<|.int 0)<|tB<|aq eL (aj 4)<|aj 3) (
   hJ [78,111,83,104,101,101,116]) (
   aX)))))
noncomputable abbrev jO:=PB.jO
noncomputable abbrev jQ:=PB.jQ
noncomputable def jd(c a b d:CM):CM:=fn 4 5 (
 av (
  aZ (bF a (ak (aj 0) (ak (aj 1) (ak (aj 2) ao))))) (
 av (
  aZ (bF a (ak (aj 0) (ak (aj 1) (ak (aj 3) ao))))) (
 av (
  cF (
   aK (cW (tB<|aq ik (eC<|.int 0)<|aj 3)<|cz<|tB<|ax b<|ak (aj 2)<|ak (aj 3) ao) (
    aG (eC (.bl ag))) (
    aX))) (
 av (
  cF (
   bM (b0<|ax c<|ak (aj 0)<|ak (aj 1) ao) (ay 4) (
    aK (tB<|ax d<|ak (aj 4)<|ak (aj 3) ao) (
     aG (eC (.bl ag))) (
     aX)))) (
 cF (
  aG (eC (.bl af))))))))
noncomputable abbrev iD:=PB.iD
noncomputable def e_(c b a:CM):CM:=fn 4 6 (
 av (
  aZ (bF b (ak (aj 1) (ak (aj 2) (ak (aj 3) ao))))) (
 av (
  cF (
   fu [83,116,97,116,101] [104,105,103,104] (aj 0) (aj 1))) (
 av (
  cF (
   fu [83,116,97,116,101] [119,105,100,101] (aj 0) (aj 2))) (
 av (
  cF (
   fu [83,116,97,116,101] [103,114,111,117,112,115] (aj 0) (ax c (ak (aj 1) (ak (aj 2) ao))))) (
 av (
  cF (
   fu [83,116,97,116,101] [110,117,109,98,101,114,115] (aj 0) (ax hZ (ak (aj 3) ao)))) (
 av (
  cF (
   fu [83,116,97,116,101] [99,97,110] (aj 0) (nu))) (
 cF (
  bM (pA<|aj 3) (cB [ay 4,ay 5]) (
   aK (tB<|aq oEq (aj 5)<|eC<|.int 0) (
    gz (aM [83,116,97,116,101] [99,97,110] (aj 0)) (aj 4) (dW [83,116,97,116,101] [110,117,109,98,101,114,115,95,102,111,114] a (aj 0) (ak (aj 4) ao))) (
    aX))))))))))
noncomputable abbrev iz:=PB.iz
noncomputable abbrev i9:=PB.i9
noncomputable abbrev jP:=PB.jP
noncomputable def j3(a:CM):CM:=jC [83,116,97,116,101] a
noncomputable abbrev gR:=PB.gR
noncomputable abbrev ja:=PB.ja
noncomputable abbrev lh:=PB.lh
noncomputable abbrev qm:=PB.qm
noncomputable abbrev lj:=PB.lj
noncomputable abbrev kZ:=PB.kZ
noncomputable abbrev lb:=PB.lb
noncomputable abbrev t7:=PB.t7
noncomputable abbrev k_:=PB.k_
noncomputable abbrev lq:=PB.lq
noncomputable abbrev la:=PB.la
noncomputable abbrev lu:=PB.lu
noncomputable abbrev lr:=PB.lr
noncomputable abbrev lx:=PB.lx
noncomputable def iF(b a:CM):CM:=fn 4 4 (
 aG (iN a (bF b (ak (aj 0) (ak (aj 1) (ak (aj 2) ao)))) (ak (aj 3) ao)))
noncomputable def jh(b a:CM):CM:=fn 4 5 (
 av (
  aJ (bF b (ak (aj 0) (ak (aj 1) (ak (aj 2) ao)))) (ay 4)) (
 av (
  aK (cG<|cz<|tB<|ax a<|ak (aj 4)<|ak (aj 3) ao) (
   hJ [78,111,83,116,101,112]) (
   aX)) (
 cF (
  aG (aM [83,116,97,116,101] [110,117,109,98,101,114,115] (aj 4))))))
noncomputable def jR(b a:CM):CM:=fn 3 3 (
 aG (iN a (bF b (ak (aj 0) (ak (aj 1) (ak (aj 2) ao)))) (ao)))
noncomputable abbrev lp:=PB.lp
noncomputable abbrev ly:=PB.ly
noncomputable def iG(b a:CM):CM:=fn 3 5 (
 av (
  cF (
   aJ (aP (ao)) (ay 3))) (
 av (
  aJ (iN a (bF b (ak (aj 0) (ak (aj 1) (ak (aj 2) ao)))) (ak (aj 3) ao)) (ay 4)) (
 cF (
  aG (ba (ak (aj 3) (ak (aj 4) ao)))))))
noncomputable abbrev t9:=PB.t9
noncomputable abbrev i_:=PB.i_
noncomputable abbrev gM:=PB.gM
noncomputable def lD(e d c a b:CM):CM:=fn 4 9 (
 av (
  aJ (bF e (ak (aj 0) (ak (aj 1) (ak (aj 2) ao)))) (ay 4)) (
 av (
  cF (
   aK (tB<|iK<|ax c<|ak (aj 4) ao) (
    aG (eG (aq oEq (aq aA (aj 3) (eC (.int 0))) (aP (ao))) (eG (aq oEq (aq aA (aq aA (aj 3) (eC (.int 1))) (eC (.int 0))) (eC (.str [99,108,97,115,104]))) (ax a (ak (aj 4) (ak (aq aA (aj 3) (eC (.int 1))) ao)))))) (
    aX))) (
 av (
  cF (
   aJ (aP (ao)) (ay 5))) (
 av (
  cF (
   aJ (aP (ak (ba (ak (aj 4) (ak (aj 3) ao))) ao)) (ay 6))) (
 av (
  cF (
   lL 1000000000 (tB<|aq bE (aj 6)<|aP<|ao) (
    av (
     aJ (bo fM (aj 6) (ao)) (cB [ay 7,ay 8])) (
    av (
     aK (cW (cz<|tB<|ax d<|ak (aj 7)<|ak (aq aA (aj 8)<|eC<|.int 0) ao)<|cz<|tB<|ax a<|ak (aj 7)<|ak (aq aA (aj 8)<|eC<|.int 1) ao) (
      aG (eC (.bl ag))) (
      aX)) (
    av (
     aZ (bo dc (aj 5) (ak (aq aA (aq aA (aj 8) (eC (.int 1))) (eC (.int 0))) ao))) (
    aZ (bo fX (aj 6) (ak (ax b (ak (aj 7) (ak (aq aA (aj 8) (eC (.int 1))) ao))) ao)))))))) (
 cF (
  aG (nY (aq o4 (eC (.str [108,101,102,116])) (aj 5)) (aq ml (bo jg (aj 5) (ak (eC (.str [102,117,108,108])) ao)) (eC (.int 2)))))))))))
noncomputable abbrev eo:=LV.eo
noncomputable abbrev fj:=LV.fj
noncomputable abbrev gX:=LV.gX
noncomputable abbrev gN:=LV.gN
noncomputable abbrev iA:=LV.iA
noncomputable abbrev iB:=LV.iB
noncomputable abbrev gO:=LV.gO
noncomputable def xI(b c f a e d:CM):CM:=fn 5 5 (
 aK (cG<|tB<|aq oEq (aj 0)<|eC<|.int 0) (
  aZ (bF b (ak (aj 1) (ak (aj 2) (ak (aj 3) (ak (aj 4) ao)))))) (
  aK (cG<|tB<|aq oEq (aj 0)<|eC<|.int 1) (
   aZ (bF b (ak (aj 1) (ak (aj 2) (ak (aj 4) (ak (aj 3) ao)))))) (
   aK (cG<|tB<|aq oEq (aj 0)<|eC<|.int 2) (
    aZ (bF c (ak (aj 1) (ak (aj 2) (ak (aj 3) (ak (ba (ak (eC (.str [102,105,101,108,100])) (ak (eC (.int 0)) (ak (eC (.int 1)) ao)))) ao)))))) (
    aK (cG<|tB<|aq oEq (aj 0)<|eC<|.int 3) (
     aZ (bF f (ak (aj 1) (ak (aj 2) (ak (aj 3) (ak (aP (ao)) ao)))))) (
     aK (cG<|tB<|aq oEq (aj 0)<|eC<|.int 4) (
      aZ (bF a (ak (aj 1) (ak (aj 2) (ak (aj 3) ao))))) (
      aK (cG<|tB<|aq oEq (aj 0)<|eC<|.int 5) (
       aZ (bF e (ak (aj 1) (ak (aj 2) (ak (aj 3) ao))))) (
       aZ (bF d (ak (aj 1) (ak (aj 2) (ak (aj 3) (ak (ba (ak (aP (ao)) (ak (ba (ak (eC (.str [102,117,108,108])) ao)) ao))) ao))))))))))))
noncomputable def ub(a:CM):CM:=fn 5 5 (
 av (
  gD (
   aZ (bF a (ak (aj 0) (ak (aj 1) (ak (aj 2) (ak (aj 3) (ak (aj 4) ao))))))) [[78,111,83,104,101,101,116]] ae (
   aG (eC (.bl af)))) (
 aG (eC (.bl ag))))
noncomputable def t5(a:CM):CM:=fn 5 7 (
 av (
  gD (
   aZ (bF a (ak (aj 0) (ak (aj 1) (ak (aj 2) (ak (aj 3) (ak (aj 4) ao))))))) [[78,111,83,104,101,101,116],[78,111,83,116,101,112]] (aa 5) (
   av (
    aJ (aq bz (ax gF (ak (iU [[78,111,83,104,101,101,116]] [[78,111,83,116,101,112]] (aj 5)) ao)) (ax gF (ak (iU [[78,111,83,116,101,112]] [[78,111,83,104,101,101,116]] (aj 5)) ao))) (ay 6)) (
   aG (eG (aq oEq (aj 6) (eC (.int 1))) (iU [[78,111,83,104,101,101,116],[78,111,83,116,101,112]] [] (aj 5)))))) (
 aG (eC (.bl ag))))
noncomputable def mE(b a:CM):CM:=fn 1 1 (
 av (
  aK (tB<|aq eL (ax bP<|ak (aj 0) ao)<|eC<|.int 63) (
   aG (aq aA (aP (ak (ba (ak (eC (.int 2)) (ak (eC (.int 3)) ao))) (ak (ba (ak (eC (.int 3)) (ak (eC (.int 2)) ao))) (ak (ba (ak (eC (.int 3)) (ak (eC (.int 3)) ao))) (ak (ba (ak (eC (.int 2)) (ak (eC (.int 2)) ao))) ao))))) (aq oMod (ax b (ak (aj 0) (ak (eC (.int 0)) ao))) (eC (.int 4))))) (
   aX)) (
 av (
  aK (tB<|aq oEq (aq oMod (ax nH<|ak (kP (aj 0) pq<|iL<|eC<|.int 1) ao)<|eC<|.int 32)<|eC<|.int 9) (
   aG (aq aA (aP (ak (ba (ak (eC (.int 2)) (ak (eC (.int 3)) ao))) (ak (ba (ak (eC (.int 3)) (ak (eC (.int 2)) ao))) ao))) (aq oMod (aq oDiv (ax b (ak (aj 0) (ak (eC (.int 0)) ao))) (eC (.int 32))) (eC (.int 2))))) (
   aX)) (
 aG (ax a (ak (ax b (ak (aj 0) (ak (eC (.int 0)) ao))) ao)))))
noncomputable def A3(b h d c f g a e:CM):CM:=fn 1 14 (
 av (
  aJ (ax e (ak (aj 0) ao)) (cB [ay 1,ay 2])) (
 av (
  aJ (aq bB (aj 1) (aj 2)) (ay 3)) (
 av (
  aJ (ax d (ak (aj 1) (ak (aj 2) ao))) (ay 4)) (
 av (
  aJ (ax c (ak (aj 1) (ak (aj 2) (ak (ax b (ak (aj 0) (ak (eC (.int 1)) ao))) ao)))) (ay 5)) (
 av (
  aJ (aq oMod (ax b (ak (aj 0) (ak (eC (.int 2)) ao))) (aq aA (aP (ak (eC (.int 7)) (ak (eC (.int 4)) (ak (eC (.int 3)) ao)))) (aq bz (ax gF (ak (aq eL (aj 3) (eC (.int 3))) ao)) (ax gF (ak (aq eL (aj 3) (eC (.int 4))) ao))))) (ay 6)) (
 av (
  aJ (ax f (ak (aj 5) (ak (kP (aj 0) (iL (eC (.int 3))) (iL (eC (.int 19)))) (ak (aj 6) ao)))) (ay 7)) (
 av (
  aJ (ax b (ak (aj 0) (ak (eC (.int 19)) ao))) (ay 8)) (
 av (
  aJ (aq oMod (aj 8) (eC (.int 4))) (ay 9)) (
 av (
  aK (tB<|aq oEq (aj 9)<|eC<|.int 1) (
   aZ (bo u6 (aj 7) (ak (aq oMod (aq oDiv (aj 8) (eC (.int 4))) (aq bz (ax bP (ak (aj 7) ao)) (eC (.int 1)))) (ak (aq oMod (aq oDiv (aj 8) (eC (.int 4))) (eC (.int 2))) ao)))) (
   aX)) (
 av (
  aK (tB<|aq oEq (aj 9)<|eC<|.int 2) (
   aZ (bo vr (aj 7) (ak (aq oMod (aq oDiv (aj 8) (eC (.int 4))) (ax bP (ak (aj 7) ao))) ao))) (
   aX)) (
 av (
  aK (tB<|aq oEq (aj 9)<|eC<|.int 3) (
   av (
    aJ (aq oMod (ax b (ak (aj 0) (ak (eC (.int 21)) ao))) (aq wj (eC (.int 10)) (eC (.int 30)))) (ay 10)) (
   av (
    aJ (aP (ak (pL (eC (.int 1))) (ak (aq bz (aj 3) (eC (.int 1))) (ak (eC (.int 1000000000000)) (ak (aq bz (aq bz (aj 3) (eC (.int 1))) (aj 10)) (ak (aq nG (pL (eC (.int 2))) (aj 10)) ao)))))) (ay 11)) (
   aJ (aq aA (aj 11) (aq oMod (ax b (ak (aj 0) (ak (eC (.int 20)) ao))) (eC (.int 5)))) (js (aj 7) (aq oMod (aq oDiv (aj 8) (eC (.int 4))) (ax bP (ak (aj 7) ao))))))) (
   aX)) (
 av (
  bM (cQ<|eC<|.int 7) (ay 12) (
   av (
    aJ (ax hZ (ak (aj 7) ao)) (ay 13)) (
   av (
    aK (tB<|aq bE (ax g<|ak (aj 12)<|ak (aj 1)<|ak (aj 2)<|ak (aj 13)<|ak (ax hZ<|ak (aj 5) ao) ao)<|aq eL (aj 9)<|eC<|.int 0) (
     aG (eC (.bl ag))) (
     aX)) (
   av (
    aK (tB<|aq bE (ax a<|ak (aj 12)<|ak (aj 1)<|ak (aj 2)<|ak (aj 13)<|ak (ax hZ<|ak (aj 5) ao) ao)<|aq eL (aj 9)<|eC<|.int 0) (
     aG (eC (.bl ag))) (
     aX)) (
   aK (cz<|tB<|ax h<|ak (aj 13)<|ak (aj 7) ao) (
    aG (eC (.bl ag))) (
    aX)))))) (
 aG (eC (.bl af)))))))))))))))
noncomputable def tab(c:CE):CE
 |0=>gP
 |1=>gL
 |2=>gQ
 |3=>i8 (c 0) (c 1)<|c 2
 |4=>d0
 |5=>jO
 |6=>jQ
 |7=>jd (c 3) (c 4) (c 5)<|c 6
 |8=>iD
 |9=>e_ (c 3) (c 4)<|c 10
 |10=>iz<|c 8
 |11=>i9<|c 8
 |12=>jP (c 11)<|nx<|c 13
 |13=>j3<|c 9
 |14=>gR
 |15=>ja
 |16=>lh (c 14)<|c 15
 |17=>qm (c 11)<|c 16
 |18=>lj
 |19=>kZ
 |20=>lb
 |21=>t7 (c 14) (c 18) (c 19)<|c 20
 |22=>k_ (c 19)<|c 20
 |23=>lq<|c 22
 |24=>la (c 18)<|c 22
 |25=>lu<|c 15
 |26=>lr (c 23)<|c 24
 |27=>lx (c 11) (c 24) (c 25)<|c 26
 |28=>iF (c 13)<|c 16
 |29=>jh (c 13)<|c 17
 |30=>jR (c 13)<|c 27
 |31=>lp
 |32=>ly (c 12) (c 27) (c 31)<|c 32
 |33=>iG (c 13)<|c 32
 |34=>t9
 |35=>i_ (c 21)<|c 34
 |36=>gM<|c 12
 |37=>lD (c 13) (c 17) (c 23) (c 35)<|c 36
 |38=>eo
 |39=>fj
 |40=>gX<|c 38
 |41=>gN
 |42=>iA
 |43=>iB
 |44=>gO
 |45=>xI (c 7) (c 28) (c 29) (c 30) (c 33)<|c 37
 |46=>ub<|c 45
 |47=>t5<|c 45
 |48=>mE (c 39)<|c 41
 |49=>A3 (c 39) (c 40) (c 42) (c 43) (c 44) (c 46) (c 47)<|c 48
 |_=>λ_ _=>.bad
end K7
namespace LV
open VM
def Kh{m b:SM}(h:Ref m b):Ref (cF m) b:=λa M g=>by
 unfold cF at*;cases e:m a M with
 |ex v c=>rw[e] at g;exact g.elim
 |bad=>rw[e] at g;exact g.elim
 |_=>rw[h a M (by rw[e];trivial),e]
def q8{a:List W}{M M':Mem}{v:W}(e:PB.d0 a M=.ok v M'):K7.d0 a M=.ok v M':=
 kl (eu fY<|eu (Ah zt qH)<|Hr<|Ah zt qH) e
def Mf{fg b fn:CM}{a:List W}{M M':Mem}{v:W}(e:PB.e_ fg b fn a M=.ok v M'):K7.e_ fg b fn a M=.ok v M':=
 kl (eu (uH mJ)<|by repeat (first|exact fY|refine eu fY ?_)) e
def FO{fs a:CM}{b:List W}{M M':Mem}{v:W}(e:PB.iF fs a b M=.ok v M'):K7.iF fs a b M=.ok v M':=
 kl (zr<|uJ mJ) e
def Mg{fs a:CM}{b:List W}{M M':Mem}{v:W}(e:PB.jh fs a b M=.ok v M'):K7.jh fs a b M=.ok v M':=
 kl (eu (Kh<|u7 mJ)<|eu qH qH) e
def FP{fs a:CM}{b:List W}{M M':Mem}{v:W}(e:PB.jR fs a b M=.ok v M'):K7.jR fs a b M=.ok v M':=
 kl (zr<|uJ mJ) e
def HU{fs a:CM}{b:List W}{M M':Mem}{v:W}(e:PB.iG fs a b M=.ok v M'):K7.iG fs a b M=.ok v M':=
 kl (eu fY<|eu (u7<|uJ mJ) fY) e
def Ki{fg a fn:CM}(h:oK<|PB.e_ fg a fn):oK (K7.e_ fg a fn):=λg w M0 k b i d j f=>by obtain⟨l,n,c,e,q⟩:=h g w M0 k b i d j f;exact⟨l,n,c,Mf e,q⟩
def Ax{f:CM}(h:gU f):gU (nx f):=λg w M l a i b j d=>by obtain⟨k,n,c,e,q⟩:=h g w M l a i b j d;exact⟨k,n,c,L_ e,q⟩
noncomputable abbrev dq:List Nat:=[78,111,83,104,101,101,116]
def dN{m n:SM}{σ bh:St}{M M':Mem}(h:m σ M=.nx bh M'):av m n σ M=n bh M':=by unfold av;rw[h];rfl
def lP{m n:SM}{σ:St}{M M':Mem}{v:W}(h:m σ M=.ex v M'):av m n σ M=.ex v M':=by unfold av;rw[h];rfl
def rr{t:TM}{a b:SM}{σ:St}{M M':Mem}{c:Bool}(h:t σ M=.ok c M'):aK (cG t) a b σ M=if c then a σ M' else b σ M':=by unfold aK cG;rw[h];rfl
def iR{c n:Nat}{b:SM}{a:List W}{M M':Mem}{v:W}(d:a.length=c)(h:b (a.map aa++List.replicate (n-c) ae) M=.ex v M'):fn c n b a M=.ex v M':=by unfold fn;rw[T1 d,h]
def FQ{a:Nat}{M:Mem}{t:TM}{k:Int}{j i g f:Option W}{c:List Int}(w:M[a]? =aa (.lst<|c.map .int))(s:∀(n:Int),t [j,i,g,f,aa<|.int n] M=.ok (!ai (0<=n/\n<=k)) M)(q:∃n∈c,ai (0<=n/\n<=k)=ag):
 loop [(a,.lst<|c.map .int)] (ay 4) (aK (cG t) (hJ dq) aX) ((c.map W.int).map .val) [j,i,g,f,ae] M=.ex (.str dq) M:=by
 have p:bJ.ok [(a,.lst<|c.map .int)] M=af:=by simp[bJ.ok,w]
 suffices H:∀(l:List Int) (y:Option W),(∃n∈l,ai (0<=n/\n<=k)=ag)->loop [(a,.lst<|c.map .int)] (ay 4) (aK (cG t) (hJ dq) aX) ((l.map W.int).map .val) [j,i,g,f,y] M=.ex (.str dq) M from H c ae q
 intro l;induction l with
 |nil=>intro y h;obtain⟨_,h,_⟩:=h;cases h
 |cons n r u=>
  intro y h;show(if bJ.ok [(a,.lst<|c.map .int)] M then _ else _)=_;rw[T1 p];show(match aK (cG t) (hJ dq) aX [j,i,g,f,aa<|.int n] M with
   |.nx b d=>loop [(a,.lst<|c.map .int)] (ay 4) (aK (cG t) (hJ dq) aX) ((r.map W.int).map .val) b d
   |.ct b d=>loop [(a,.lst<|c.map .int)] (ay 4) (aK (cG t) (hJ dq) aX) ((r.map W.int).map .val) b d
   |.bk b d=>RS.nx b d
   |.rt v d=>.rt v d
   |.ex v d=>.ex v d
   |.bad=>.bad)=_
  rw[rr<|s n];cases e:ai (0<=n/\n<=k) with
  |false=>rfl
  |true=>
   refine u _ ?_;obtain⟨y,m,o⟩:=h;rcases T4.mp m with rfl|m
   ·rw[e] at o;cases o
   ·exact⟨y,m,o⟩
def ue(h w:Nat)(E:1<=h/\h<=3)(D:1<=w/\w<=3)(M:Mem)(v:W)(b:List Int)(l:aT M v b)(B:¬aY (h*w) b):K7.d0 [.int h,.int w,v] M=.ex (.str dq) M:=by
 refine iR rfl ?_;have r:h*w<=9:=Ug (UJ E.2 D.2)<|by decide
 have q:=cU (M:=M) (i:=(h:Int)) (j:=(w:Int))<|by omega
 have t:(h:Int)*(w:Int)=((h*w:Nat):Int):=by simp
 have A:=cU (M:=M) (i:=((h*w:Nat):Int)) (j:=((h*w:Nat):Int))<|by omega
 have g:((h*w:Nat):Int)*((h*w:Nat):Int)=((h*w*(h*w):Nat):Int):=by simp
 refine(dN (bh:=[aa<|.int h,aa<|.int w,aa v,aa<|.int (h*w:Nat),ae]) (M':=M) ?_).trans ?_
 ·unfold cF aJ
  walk_at "ev"
  simp only[q,t,R.bK]
 have k:tB (aq bE (ax bP<|ak (aj 2) ao)<|aq bB (aj 3)<|aj 3) [aa<|.int h,aa<|.int w,aa v,aa<|.int (h*w:Nat),ae] M=.ok (!ai (b.length=h*w*(h*w))) M:=by
  walk_at "ev"
  simp only[ji l,A,ne_int,g];congr 2;exact decide_eq_decide.mpr<|by omega
 by_cases e:b.length=h*w*(h*w)
 ·refine(dN (bh:=[aa<|.int h,aa<|.int w,aa v,aa<|.int (h*w:Nat),ae]) (M':=M) ?_).trans ?_
  ·rw[rr k,UA e];rfl
  obtain⟨a,rfl,p⟩:=l;have y:kG (b0<|aj 2) [aa<|.int h,aa<|.int w,aa<|.ref a,aa<|.int (h*w:Nat),ae] M=.ok ((b.map W.int).map .val,[(a,.lst<|b.map W.int)]) M:=by unfold kG b0 aj;simp only[T',T5,R.bind,p,R.cJ]
  unfold bM;rw[y];have u:∃n∈b,ai (0<=n/\n<=((h*w:Nat):Int))=ag:=by
   refine XI λx=>B ?_
   have c:∀n∈b,0<=n/\n<=((h*w:Nat):Int):=λn d=>UD<|Bool.of_not_eq_false λz=>x ⟨n,d,z⟩
   exact⟨e,λn d=>(c n d).1,λn d=>(c n d).2⟩
  have C:∀(n:Int),cW (tB<|aq oLt (aj 4)<|eC<|.int 0) (tB<|aq eL (aj 4)<|aj 3) [aa<|.int h,aa<|.int w,aa<|.ref a,aa<|.int (h*w:Nat),aa<|.int n] M=.ok (!ai (0<=n/\n<=((h*w:Nat):Int))) M:=λn=>by
   walk_at "ev"
   simp only[lt_int,gt_int];by_cases m:n<0
   ·have f:ai (n<0)=af:=UA m;have s:ai (0<=n/\n<=((h*w:Nat):Int))=ag:=Ut<|by omega
    simp only[f,s,Ul,Xj]
   ·have f:ai (n<0)=ag:=Ut m;simp only[f,UM,UG];by_cases o:((h*w:Nat):Int)<n
    ·rw[UA o,Ut<|by omega];rfl
    ·rw[Ut o,UA<|by omega];rfl
  exact FQ p C u
 ·refine lP ?_;rw[rr k,Ut e];rfl
def m9{e:EM}{σ:St}{M M':Mem}{v:W}(h:e σ M=.ex v M'):aZ e σ M=.ex v M':=by unfold aZ;rw[h];rfl
def vA{e:EM}{g:GM}{σ:St}{M M':Mem}{v:W}(h:e σ M=.ex v M'):aJ e g σ M=.ex v M':=by unfold aJ;rw[h];rfl
def Ay{e:EM}{σ:St}{M M':Mem}{v:W}(h:e σ M=.ex v M'):aG e σ M=.ex v M':=by unfold aG;rw[h];rfl
def vB{f:CM}{e:EM}{a:AM}{σ:St}{M M':Mem}{v:W}(h:e σ M=.ex v M'):iN f e a σ M=.ex v M':=by unfold iN;rw[h];rfl
def jX{c:CM}{i j k:Nat}{σ:St}{M M':Mem}{x y z v:W}(b:σ[i]? =aa (aa x))(a:σ[j]? =aa (aa y))(h3:σ[k]? =aa (aa z))(h:c [x,y,z] M=.ex v M'):bF c (ak (aj i)<|ak (aj j)<|ak (aj k) ao) σ M=.ex v M':=by unfold bF;simp only[ak,ao,aj,b,a,h3,R.bind,R.cJ,h]
def FT{c:CM}{i j k:Nat}{σ:St}{M M':Mem}{x y z v:W}(b:σ[i]? =aa (aa x))(a:σ[j]? =aa (aa y))(h3:σ[k]? =aa (aa z))(h:c [x,y,z] M=.ok v M'):bF c (ak (aj i)<|ak (aj j)<|ak (aj k) ao) σ M=.ok v M':=by unfold bF;simp only[ak,ao,aj,b,a,h3,R.bind,R.cJ,h]
def FU{fg b fn:CM}{h w:Nat}{a vs v:W}{M M':Mem}(c:b [.int h,.int w,vs] M=.ex v M'):K7.e_ fg b fn [a,.int h,.int w,vs] M=.ex v M':=
 iR rfl (lP<|m9<|jX rfl rfl rfl c)
def Eg{f:CM}{h w:Nat}{vs v:W}{M M':Mem}(b:f [.ref M.length,.int h,.int w,vs] (M++[.ins aQ []])=.ex v M'):K7.j3 f [.int h,.int w,vs] M=.ex v M':=by unfold K7.j3 jC;have a:f [.ref M.length,.int h,.int w,vs] (M++[.ins [83,116,97,116,101] []])=.ex v M':=b;rw[a];rfl
def CJ{fs a:CM}{h w:Nat}{vs b v:W}{M M':Mem}(c:fs [.int h,.int w,vs] M=.ex v M'):K7.iF fs a [.int h,.int w,vs,b] M=.ex v M':=
 iR rfl (Ay<|vB<|jX rfl rfl rfl c)
def FW{fs a:CM}{h w:Nat}{vs b v:W}{M M':Mem}(c:fs [.int h,.int w,vs] M=.ex v M'):K7.jh fs a [.int h,.int w,vs,b] M=.ex v M':=
 iR rfl (lP<|vA<|jX rfl rfl rfl c)
def CL{fs a:CM}{h w:Nat}{vs v:W}{M M':Mem}(b:fs [.int h,.int w,vs] M=.ex v M'):K7.jR fs a [.int h,.int w,vs] M=.ex v M':=
 iR rfl (Ay<|vB<|jX rfl rfl rfl b)
def Di{fs f1 f2 c a:CM}{h w:Nat}{vs b v:W}{M M':Mem}(d:fs [.int h,.int w,vs] M=.ex v M'):K7.lD fs f1 f2 c a [.int h,.int w,vs,b] M=.ex v M':=
 iR rfl (lP<|vA<|jX rfl rfl rfl d)
def Dj{fs a:CM}{h w:Nat}{vs v:W}{M M':Mem}(b:fs [.int h,.int w,vs] (M++[.lst []])=.ex v M'):K7.iG fs a [.int h,.int w,vs] M=.ex v M':=by refine iR rfl ?_;have e:cF (aJ (aP ao)<|ay 3) (List.map aa [W.int h,W.int w,vs]++List.replicate (5-3) ae) M=.nx [aa<|.int h,aa<|.int w,aa vs,aa<|.ref M.length,ae] (M++[.lst []]):=rfl;rw[dN e];exact lP<|vA<|vB<|jX (x:=.int h) (y:=.int w) (z:=vs) rfl rfl rfl b
def Dk{fg a c b:CM}{h w:Nat}{vs e v:W}{M M':Mem}(d:a [.int h,.int w,vs] M=.ex v M'):K7.jd fg a c b [.int h,.int w,vs,e] M=.ex v M':=
 iR rfl (lP<|m9<|jX rfl rfl rfl d)
def Dl{fg b d c:CM}{h w:Nat}{vs a u v:W}{M M1 M':Mem}(f:b [.int h,.int w,vs] M=.ok u M1)(e:b [.int h,.int w,a] M1=.ex v M'):K7.jd fg b d c [.int h,.int w,vs,a] M=.ex v M':=
 iR rfl ((dN (bh:=[aa<|.int h,aa<|.int w,aa vs,aa a,ae]) (M':=M1) (by unfold aZ;rw[FT (x:=.int h) (y:=.int w) (z:=vs) rfl rfl rfl f];rfl)).trans<|lP<|m9<|jX rfl rfl rfl e)
noncomputable def keeps:List Int->List Int->Bool
 |s::ss,f::a=>(ai (s=0)||ai (s=f))&&keeps ss a
 |_,_=>af
def FY(M:Mem)(v u:W)(ss fs:List Int)(C:aT M v ss)(E:aT M u fs):∃M',PB.jO [v,u] M=.ok (.bl<|keeps ss fs) M'/\M<+:M':=by
 have m:∃r M',PB.jO [v,u] M=.ok r M'/\(r=.bl (keeps ss fs)/\M<+:M'):=by
  refine bT rfl ?_;show(av _ _ [aa v,aa u,ae,ae] M).Sat _;refine aI ?_;obtain⟨a,rfl,t,G⟩:=aR.eU C;obtain⟨b,rfl,A,w⟩:=aR.eU E;have B:rQ (aj 0) (aj 1) [aa<|.ref a,aa<|.ref b,ae,ae] M=.ok (pairs (ss.map .int)<|fs.map .int,[(a,.lst<|ss.map .int),(b,.lst<|fs.map .int)]) M:=by unfold rQ;simp only[aj,T5,T',R.bind,t,A]
  have o:∀{M':Mem},M<+:M'->bJ.ok [(a,O.lst<|ss.map W.int),(b,.lst<|fs.map .int)] M'=af:=λp=>by simp[bJ.ok,az p G,az p w]
  have k:(pairs (ss.map W.int)<|fs.map .int).length=min ss.length fs.length:=by simp[pairs]
  have h:∀{j:Nat} {s f:Int},ss[j]? =aa s->fs[j]? =aa f->keeps (ss.drop j) (fs.drop j)=((ai (s=0)||ai (s=f))&&keeps (ss.drop<|j+1) (fs.drop<|j+1)):=λ{j s f} g i=>by obtain⟨D,g⟩:=T6.mp g;obtain⟨F,i⟩:=T6.mp i;rw[VF D,VF F,g,i];rfl
  refine qU B (λj n M'=>(∃x y,n=[aa<|.ref a,aa<|.ref b,x,y])/\M<+:M'/\keeps ss fs=keeps (ss.drop j) (fs.drop j)) ⟨⟨_,_,rfl⟩,dJ _,rfl⟩ ?_ ?_
  ·rintro j x n M' d ⟨⟨y,z,rfl⟩,p,hk⟩;unfold pairs at d;rw[XN,UW,UW] at d;cases g:ss[j]? with
   |none=>rw[g] at d;cases d
   |some s=>
    cases i:fs[j]? with
    |none=>rw[g,i] at d;cases d
    |some f=>
     rw[g,i] at d;have ex:x=.pair (.int s) (.int f):=(Ua d).symm;subst ex;rw[h g i] at hk;refine⟨o p,.ref M'.length,M'++[.tup [.int s,.int f]],[aa<|.ref a,aa<|.ref b,aa<|.int s,aa<|.int f],M'++[.tup [.int s,.int f]],oE _ _ _,?_,?_⟩
     ·simp only[cB,(aH.new M' _).cu,jo,ay,R.bind,UE,U_,Ul,T9,T7]
     ·refine bp (c:=!(ai (s=0)||ai (s=f))) (M1:=M'++[.tup [.int s,.int f]]) ?_ (λl=>?_) λl=>?_
      ·walk_at "ev"
       simp only[ne_int];cases ai (s=0)<;>simp
      ·refine bt rfl ?_;have:(ai (s=0)||ai (s=f))=ag:=by simpa using l
       rw[this,VR] at hk;exact⟨by rw[hk],p.trans<|pre_app _ _⟩
      ·have:(ai (s=0)||ai (s=f))=af:=by rw[Wx] at l;exact l
       rw[this,VJ] at hk;exact⟨⟨_,_,rfl⟩,p.trans<|pre_app _ _,hk⟩
  ·rintro n M' ⟨⟨y,z,rfl⟩,p,hk⟩;refine⟨o p,?_⟩;dsimp only;refine bt rfl ?_;refine⟨?_,p⟩;rw[hk,k];have:ss.drop (min ss.length fs.length)=[]\/fs.drop (min ss.length fs.length)=[]:=by
    rcases Nat.le_total ss.length fs.length with q|q
    ·rw[Nat.min_eq_left q];exact .inl<|VE
    ·rw[Nat.min_eq_right q];exact .inr<|VE
   rcases this with e|e
   ·rw[e];rfl
   ·rw[e];cases ss.drop (min ss.length fs.length)<;>rfl
 obtain⟨r,M',e,rfl,p⟩:=m;exact⟨M',e,p⟩
noncomputable def twice(g fs:List Int):Bool:=ai<|(iZ<|g.map<|aB fs).length<g.length
def FZ(M:Mem)(b a:W)(g fs:List Int)(f:aT M b g)(j:aT M a fs)(c:∀i∈g,0<=i/\i<(fs.length:Int))(h:g.length<=1000):∃M',PB.jQ [b,a] M=.ok (.bl<|twice g fs) M'/\M<+:M':=by
 have d:∃r M',PB.jQ [b,a] M=.ok r M'/\(r=.bl (twice g fs)/\M<+:M'):=by refine bT rfl ?_;show(av _ _ [aa b,aa a,ae] M).Sat _;refine aI<|bC (zu (aj 0) (aj 1) 3 rfl f j c h (λ_=>rfl)<|λ_=>rfl) ?_;simp only[T9,T7];have L:=aR.new M<|(g.map<|aB fs).map .int;refine bt (v:=.bl<|twice g fs) (M1:=M++[.lst<|(g.map<|aB fs).map .int]) ?_ ⟨rfl,pre_app _ _⟩;simp only[aq,u5,ax,ak,ao,aj,T5,T',R.bind,L.a9,Option.bind,xA];rw[T1 (by simp;omega)];simp only[R.bind,ji L,lt_int,twice,Ub];simp
 obtain⟨r,M',e,rfl,p⟩:=d;exact⟨M',e,p⟩
noncomputable def ni(ss fs:List Int)(G:List<|List Int):Bool:=!(fs.any (·==0))&&keeps ss fs&&G.all λg=>!twice g fs
def yT{f:CM}(L:oq f)(h w:Nat)(o:1<=h/\h<=3)(l:1<=w/\w<=3)(M:Mem)(v u:W)(ss fs:List Int)(H:aT M v ss)(m:aT M u fs)(U:aY (h*w) ss)(J:aY (h*w) fs):
 ∃M',PB.jd f PB.d0 PB.jO PB.jQ [.int h,.int w,v,u] M=.ok (.bl<|ni ss fs<|ar h w) M'/\M<+:M':=by
 have t:∃r M',PB.jd f PB.d0 PB.jO PB.jQ [.int h,.int w,v,u] M=.ok r M'/\(r=.bl (ni ss fs<|ar h w)/\M<+:M'):=by
  refine bT rfl ?_;show(av _ _ [aa<|.int h,aa<|.int w,aa v,aa u,ae] M).Sat _;have Y:=qC h w o l M v ss H U;have S:=qC h w o l M u fs m J;refine aI (dt (v:=.aw) (M1:=M) (by walk_at "ev";exact Y) ?_);refine aI (dt (v:=.aw) (M1:=M) (by walk_at "ev";exact S) ?_);obtain⟨M1,k1,k⟩:=FY M v u ss fs H m;refine aI ?_;have E:=vM 0 m;by_cases q:fs.any (·==0)=af
  ·refine bp (c:=af) (M1:=M) (by walk_at "ev";simp only[E,q,Ul]) (λ_=>?_) λz=>nomatch z
   refine bt rfl ⟨?_,dJ _⟩;simp[ni,q]
  ·have d:fs.any (·==0)=ag:=by cases e:fs.any (·==0) with|true=>exact absurd e q|false=>rfl
   refine bp (c:=!keeps ss fs) (M1:=M1) (by walk_at "ev";simp only[E,d,UM,UG,k1]) (λb=>?_) λb=>?_
   ·refine bt rfl ⟨?_,k⟩;have:keeps ss fs=ag:=by simpa using b
    simp[ni,this]
   ·have P:keeps ss fs=af:=by simpa using b
    refine du ?_;dsimp only;refine aI ?_;obtain⟨O,M2,g1,A,K,I,G⟩:=L h w M1 o l;have s:aT M2 u fs:=aR.mono m<|k.trans A;refine fE (v:=O) (M1:=M2) (xs:=K) (by walk_at "ev";exact g1) I (λj n M'=>(∃x,n=[aa (.int h),aa (.int w),aa v,aa u,x])/\M2<+:M'/\((ar h w).take j).all (λg=>!twice g fs)=af) ⟨⟨_,rfl⟩,dJ _,rfl⟩ (λj n M' _ ⟨_,p,_⟩=>I.mono p) ?_ ?_
    ·rintro j x n M' Q ⟨⟨y,rfl⟩,p,ha⟩;obtain⟨g,D,C⟩:=G.at Q;have a:=Vn D;obtain⟨l9,B⟩:=gx o l g a;obtain⟨X,N,F⟩:=FZ M' x u g fs (aR.mono C p) (aR.mono s p) (λi V=>by rw[J.len];exact B i V)<|by omega
     have Z:(ar h w).take (j+1)=(ar h w).take j++[g]:=by obtain⟨T,e⟩:=T6.mp D;rw[VZ,D];rfl
     simp only[T9,T7];refine bp (c:=twice g fs) (M1:=X) (by walk_at "ev";simp only[N]) (λb=>?_) λb=>?_
     ·refine bt rfl ⟨?_,k.trans<|A.trans<|p.trans F⟩;have:(ar h w).all (λg=>!twice g fs)=ag:=by rw[List.all_eq_false];exact⟨g,a,by simp[b]⟩
      simp[ni,this]
     ·refine⟨⟨_,rfl⟩,p.trans F,?_⟩;rw[Z,List.all_append,ha];simp[b]
    ·rintro n M' ⟨⟨y,rfl⟩,p,ha⟩;dsimp only;refine bt rfl ⟨?_,k.trans<|A.trans p⟩;have R:(ar h w).take K.length=ar h w:=by rw[G.len,UX]
     rw[R] at ha;simp[ni,d,P,ha]
 obtain⟨r,M',e,rfl,p⟩:=t;exact⟨M',e,p⟩
noncomputable abbrev fI:List Nat:=[102,117,108,108]
def HV{fs f1 f2 c a:CM}{b:List W}{M M':Mem}{v:W}(e:PB.lD fs f1 f2 c a b M=.ok v M'):K7.lD fs f1 f2 c a b M=.ok v M':=
 kl (eu (u7 mJ)<|eu fY<|eu fY<|eu fY<|eu fY fY) e
def Eh{f1 f2:CM}{M:Mem}{a n c h w:Nat}{ss:List Int}{e:W}(S:bL M a n c h w ss)(k:aH M e [.str fI]):∃b M',PB.i_ f1 f2 [.ref a,e] M=.ok (.bl b) M'/\M<+:M':=by
 obtain⟨l,o,_⟩:=S.ob;obtain⟨d,g,_⟩:=S.cn;refine⟨d.isEmpty,M++[.aD []],?_,pre_app _ _⟩;have j:tB (aq oEq (aq aA (aj 1)<|eC<|.int 0)<|eC<|.str [102,117,108,108]) [aa<|.ref a,aa e] M=.ok af M:=bZ<|bx (kn 1 0 k rfl rfl) rfl rfl;have i:iM (aM [83,116,97,116,101] [99,97,110]<|aj 0) [aa<|.ref a,aa e] M=.ok (.bl d.isEmpty) (M++[.aD []]):=by
  have q:aM [83,116,97,116,101] [99,97,110] (aj 0) [aa<|.ref a,aa e] M=.ok (.ref c) M:=by show lZ _ _ (.ref a) M=_;unfold lZ dO;simp only[o];rfl
  unfold iM;rw[q];show(match bq M (.ref c) with|some (_,d)=>(R.ok (W.bl d.isEmpty) (M++[O.aD []]):R W)|none=>.bad)=_;unfold bq;simp only[g]
 have f:av (aK (tB<|aq oEq (aq aA (aj 1)<|eC<|.int 0)<|eC<|.str [102,117,108,108]) (aG<|iM<|aM [83,116,97,116,101] [99,97,110]<|aj 0) aX) (av (aK (tB<|aq oEq (aq aA (aj 1)<|eC<|.int 0)<|eC<|.str [99,108,97,115,104]) (aG<|ax f1<|ak (aj 0)<|ak (aq aA (aj 1)<|eC<|.int 1) ao) aX)<|av (aK (tB<|aq oEq (aq aA (aj 1)<|eC<|.int 0)<|eC<|.str [116,114,121]) (aG<|ax f2<|ak (aj 0)<|ak (aq aA (aj 1)<|eC<|.int 1)<|ak (aq aA (aj 1)<|eC<|.int 2) ao) aX)<|aG<|eC<|.bl af) [aa<|.ref a,aa e] M=.rt (.bl d.isEmpty) (M++[.aD []]):=by unfold av aK;rw[j];show(aG _ _ _).andThen _=_;unfold aG;rw[i];rfl
 show(match(av _ _:SM) _ M with|.rt v M'=>R.ok v M'|.nx _ M'=>.ok .aw M'|.ex v M'=>.ex v M'|_=>.bad)=_;exact(UI (λr:RS=>match r with|.rt v M'=>R.ok v M'|.nx _ M'=>.ok .aw M'|.ex v M'=>.ex v M'|_=>.bad) f).trans rfl
def CN{fb:CM}{M:Mem}{x b:W}(c:aH M b [.str fI]):PB.gM fb [x,b] M=.ok (.ref M.length) (M++[.lst []]):=by have d:tB (aq bE (aq aA (aj 1)<|eC<|.int 0)<|eC<|.str [116,114,121]) [aa x,aa b] M=.ok af M:=bZ<|bx (kn 1 0 c rfl rfl) rfl rfl;unfold PB.gM fn av aK;show(match((tB _ [aa x,aa b] M).bK _:RS).andThen _ with|.rt v a=>R.ok v a|.nx _ a=>.ok .aw a|.ex v a=>.ex v a|_=>.bad)=_;rw[d];rfl
def vC{e:EM}{g:GM}{σ bN:St}{M M1 M2:Mem}{v:W}(h:e σ M=.ok v M1)(a:g v σ M1=.ok bN M2):aJ e g σ M=.nx bN M2:=by unfold aJ;rw[h];show(g v σ M1).bK _=_;rw[a];rfl
def oV{e:EM}{σ:St}{M M1:Mem}{v:W}(h:e σ M=.ok v M1):aZ e σ M=.nx σ M1:=by unfold aZ;rw[h];rfl
def pG{t:TM}{a b:SM}{σ:St}{M M1:Mem}{c:Bool}(h:t σ M=.ok c M1):aK t a b σ M=if c then a σ M1 else b σ M1:=by unfold aK;rw[h];rfl
def o9{m n:SM}{σ:St}{M M1:Mem}{v:W}(h:m σ M=.rt v M1):av m n σ M=.rt v M1:=by unfold av;rw[h];rfl
def vD{e:EM}{σ:St}{M M1:Mem}{v:W}(h:e σ M=.ok v M1):aG e σ M=.rt v M1:=by unfold aG;rw[h];rfl
def lU{c n:Nat}{b:SM}{a:List W}{M M':Mem}{v:W}(d:a.length=c)(h:b (a.map aa++List.replicate (n-c) ae) M=.rt v M'):fn c n b a M=.ok v M':=by unfold fn;rw[T1 d,h]
theorem F0{t:TM}{b:SM}{n:Nat}{σ:St}{M M1:Mem}(h:t σ M=.ok af M1):df t b (n+1) σ M=match b σ M1 with
  |.nx a c=>df t b n a c
  |.ct a c=>df t b n a c
  |.bk a c=>.nx a c
  |.rt v c=>.rt v c
  |.ex v c=>.ex v c
  |.bad=>.bad:=by
 show(t σ M).bK _=_;rw[h];rfl
def F1{t:TM}{b:SM}{n:Nat}{σ:St}{M M1:Mem}(h:t σ M=.ok ag M1):df t b (n+1) σ M=.nx σ M1:=by show(t σ M).bK _=_;rw[h];rfl
def HW{a b:EM}{σ:St}{M M1:Mem}(h:a σ M=.ok (.bl ag) M1):eG a b σ M=.ok (.bl ag) M1:=by unfold eG;rw[h];rfl
def HX{a b:EM}{σ:St}{M M1:Mem}(h:a σ M=.ok (.bl af) M1):nY a b σ M=.ok (.bl af) M1:=by unfold nY;rw[h];rfl
def qR{f:W->CM}{o:EM}{a:AM}{σ:St}{M M2:Mem}{x:W}{xs vs:List W}{r:R W}(d:o σ M=.ok x M)(c:a9 M x=aa xs)(b:a σ M=.ok vs M2)(h:f x vs M2=r):bo f o a σ M=r:=by unfold bo;rw[d];show(match a9 M x with|some _=>(a σ M).bind λvs M2=>f x vs M2|none=>.bad)=_;rw[c];show(a σ M).bind _=_;rw[b];exact h
def A4{e:EM}{σ:St}{M M1:Mem}{x:W}(h:e σ M=.ok x M1):ak e ao σ M=.ok [x] M1:=by unfold ak;rw[h];rfl
def Ei{fs fa Y fb f1 f2:CM}(hs:gU fs)(ha:qZ fa)(ht:qF Y)(h w:Nat)(hh:1<=h/\h<=3)(hw:1<=w/\w<=3)(M:Mem)(vs a L P:W)(ss:List Int)(hv:aT M vs ss)(sh:aY (h*w) ss)(tt:aH M a [L,P])(tl:aR M L [])(N:aH M P [.str fI]):∃b M',PB.lD fs fa Y (PB.i_ f1 f2) (PB.gM fb) [.int h,.int w,vs,a] M=.ok (.bl b) M'/\M<+:M':=by
 obtain⟨M1,n,c,e1,p1,S,ln,lc⟩:=hs h w M vs ss hh hw hv sh;obtain⟨v2,M2,e2,X,q2⟩:=ht M1 M.length n c h w ss hh hw S sh;have n1:n<M1.length:=(T6.mp S.nm).1;have c1:c<M1.length:=by obtain⟨k,q,_⟩:=S.cn;exact(T6.mp q).1
 have Sz:M1.length<=M2.length:=X.length_le;have C:=p1.trans X;have s1:aJ (ax fs<|ak (aj 0)<|ak (aj 1)<|ak (aj 2) ao) (ay 4) [aa<|.int h,aa<|.int w,aa vs,aa a,ae,ae,ae,ae,ae] M=.nx [aa<|.int h,aa<|.int w,aa vs,aa a,aa<|.ref M.length,ae,ae,ae,ae] M1:=by refine vC (v:=.ref M.length) (M1:=M1) ?_ rfl;simp only[ax,ak,ao,aj,R.bind,T',T5,e1]
 have s2:tB (iK<|ax Y<|ak (aj 4) ao) [aa<|.int h,aa<|.int w,aa vs,aa a,aa<|.ref M.length,ae,ae,ae,ae] M1=.ok (!iJ v2) M2:=by refine bZ (b:=!iJ v2) ?_;unfold iK;simp only[ax,ak,ao,aj,R.bind,T',T5,e2]
 rcases q2 with⟨rfl,_⟩|⟨g,m,hc,_,_⟩
 ·
  let d:=M2++[O.lst []]
  let o:=d++[O.tup [.ref M.length,a]]++[O.lst [.ref d.length]]
  have l3:d.length=M2.length+1:=by simp[d]
  have l4:(d++[O.tup [.ref M.length,a]]).length=M2.length+2:=by simp[d]
  have B:d<+:o:=by show d<+:d++[_]++[_];rw[U5];exact pre_app _ _
  have Z:M2<+:o:=(pre_app _ _).trans B;have g6:o[M2.length+2]? =aa (.lst [.ref d.length]):=by rw[<-l4];exact bV _ _
  have g5:o[M2.length]? =aa (.lst []):=az B<|bV _ _;have gt:aH o (.ref d.length) [.ref M.length,a]:=⟨_,rfl,az (pre_app _ _)<|bV _ _⟩;obtain⟨D,G,_,q5⟩:=eq_nil (e:=aj 6) (σ:=[aa<|.int h,aa<|.int w,aa vs,aa a,aa<|.ref M.length,aa<|.ref M2.length,aa<|.ref<|M2.length+2,ae,ae]) (M:=o) (M1:=o) (v:=.ref<|M2.length+2) rfl ⟨_,rfl,g6⟩;have H:=az G g6
  let p:=D.set (M2.length+2)<|.lst []
  have z4:o.length=M2.length+3:=by simp[o,d]
  have l5:M2.length+3<=D.length:=by have:=G.length_le;omega
  have OZ:M2<+:p:=j6 (Z.trans G) (by omega) _;have O0:d<+:p:=j6 (B.trans G) (by rw[l3];omega) _;have O1:p[M2.length+2]? =aa (.lst []):=by show(D.set (M2.length+2)<|.lst [])[M2.length+2]? =_;rw[UH<|by omega]
  have U:aH p (.ref d.length) [.ref M.length,a]:=by refine⟨_,rfl,?_⟩;obtain⟨_,z,q⟩:=gt;cases z;show(D.set (M2.length+2)<|.lst [])[d.length]? =_;rw[Uz (by rw[l3];omega)];exact az G q
  have F:=X.trans OZ;have A:=p1.trans F;have b1:aJ (bo fM (aj 6) ao) (cB [ay 7,ay 8]) [aa<|.int h,aa<|.int w,aa vs,aa a,aa<|.ref M.length,aa<|.ref M2.length,aa<|.ref<|M2.length+2,ae,ae] D=.nx [aa<|.int h,aa<|.int w,aa vs,aa a,aa<|.ref M.length,aa<|.ref M2.length,aa<|.ref<|M2.length+2,aa<|.ref M.length,aa a] p:=by
   refine vC (v:=.ref d.length) (M1:=p) ?_ ?_
   ·unfold bo fM;simp only[aj,ao,R.bind,T',T5,dj H,fT H];rfl
   ·unfold cB;simp only[U.cu];rfl
  obtain⟨v7,V,e7,k7,q7⟩:=ha M p M.length n c h w ss L [] hh hw A (U6 ln) (U6 lc) (S.mono F) sh ⟨[],tl,.nil⟩;have u:=k7.base A (by simp;omega);have O2:V[M2.length]? =aa (.lst []):=k7.get (az O0<|bV _ _) (by simp;omega);have O3:V[M2.length+2]? =aa (.lst []):=k7.get O1 (by simp;omega);rcases q7 with⟨rfl,fR,_,S7,_⟩|⟨_,z⟩
  ·obtain⟨b,j,e8,Q⟩:=Eh (f1:=f1) (f2:=f2) S7 (aH.mono N u);have r:=u.trans Q;have b2:cW (cz<|tB<|ax fa<|ak (aj 7)<|ak (aq aA (aj 8)<|eC<|.int 0) ao) (cz<|tB<|ax (PB.i_ f1 f2)<|ak (aj 7)<|ak (aq aA (aj 8)<|eC<|.int 1) ao) [aa<|.int h,aa<|.int w,aa vs,aa a,aa<|.ref M.length,aa<|.ref M2.length,aa<|.ref<|M2.length+2,aa<|.ref M.length,aa a] p=.ok (!b) j:=by refine Kg (M1:=V) (qN (b:=af)<|bZ<|call2 (x:=.ref M.length) (y:=L) rfl (kn 8 0 (aH.mono tt A) rfl rfl) e7) ?_;exact qN<|bZ<|call2 (x:=.ref M.length) (y:=P) rfl (kn 8 1 (aH.mono tt u) rfl rfl) e8
   have lM:M.length<=M2.length:=C.length_le;have SD:M2.length+3<=j.length:=by have a1:=k7.1;have a2:=Q.length_le;have a3:p.length=D.length:=U1;omega
   have K:lL 1000000000 (tB<|aq bE (aj 6)<|aP ao) (av (aJ (bo fM (aj 6) ao)<|cB [ay 7,ay 8])<|av (aK (cW (cz<|tB<|ax fa<|ak (aj 7)<|ak (aq aA (aj 8)<|eC<|.int 0) ao)<|cz<|tB<|ax (PB.i_ f1 f2)<|ak (aj 7)<|ak (aq aA (aj 8)<|eC<|.int 1) ao) (aG<|eC<|.bl ag) aX)<|av (aZ<|bo dc (aj 5)<|ak (aq aA (aq aA (aj 8)<|eC<|.int 1)<|eC<|.int 0) ao)<|aZ<|bo fX (aj 6)<|ak (ax (PB.gM fb)<|ak (aj 7)<|ak (aq aA (aj 8)<|eC<|.int 1) ao) ao) [aa<|.int h,aa<|.int w,aa vs,aa a,aa<|.ref M.length,aa<|.ref M2.length,aa<|.ref<|M2.length+2,ae,ae] o=.rt (.bl ag) j\/∃t f,lL 1000000000 (tB<|aq bE (aj 6)<|aP ao) (av (aJ (bo fM (aj 6) ao)<|cB [ay 7,ay 8])<|av (aK (cW (cz<|tB<|ax fa<|ak (aj 7)<|ak (aq aA (aj 8)<|eC<|.int 0) ao)<|cz<|tB<|ax (PB.i_ f1 f2)<|ak (aj 7)<|ak (aq aA (aj 8)<|eC<|.int 1) ao) (aG<|eC<|.bl ag) aX)<|av (aZ<|bo dc (aj 5)<|ak (aq aA (aq aA (aj 8)<|eC<|.int 1)<|eC<|.int 0) ao)<|aZ<|bo fX (aj 6)<|ak (ax (PB.gM fb)<|ak (aj 7)<|ak (aq aA (aj 8)<|eC<|.int 1) ao) ao) [aa<|.int h,aa<|.int w,aa vs,aa a,aa<|.ref M.length,aa<|.ref M2.length,aa<|.ref<|M2.length+2,ae,ae] o=.nx t f/\t[5]? =aa (aa<|.ref M2.length)/\f[M2.length]? =aa (.lst [.str fI])/\M<+:f:=by
    show df _ _ (999999998+1+1) _ _=_\/∃t f,df _ _ (999999998+1+1) _ _=_/\_;rw[F0<|bZ q5,dN b1];cases b with
    |false=>left;rw[o9 (v:=.bl ag) (M1:=j) (by rw[pG b2];rfl)]
    |true=>
     right;rw[dN (bh:=[aa<|.int h,aa<|.int w,aa vs,aa a,aa<|.ref M.length,aa<|.ref M2.length,aa<|.ref<|M2.length+2,aa<|.ref M.length,aa a]) (M':=j) (by rw[pG b2];rfl)]
     let f:=j.set M2.length<|.lst [.str fI]
     have E:=az Q O2;have O4:=az Q O3;have s:M<+:f:=j6 r lM _;have O5:f[M2.length]? =aa (.lst [.str fI]):=by show(j.set M2.length _)[M2.length]? =_;rw[UH<|by omega]
     have I:f[M2.length+2]? =aa (.lst []):=by show(j.set M2.length _)[M2.length+2]? =_;rw[Uz<|by omega];exact O4
     have l9:f.length=j.length:=U1;rw[dN (bh:=[aa<|.int h,aa<|.int w,aa vs,aa a,aa<|.ref M.length,aa<|.ref M2.length,aa<|.ref<|M2.length+2,aa<|.ref M.length,aa a]) (M':=f) (oV (v:=.aw) (by have q:aq aA (aq aA (aj 8)<|eC<|.int 1) (eC<|.int 0) [aa<|.int h,aa<|.int w,aa vs,aa a,aa<|.ref M.length,aa<|.ref M2.length,aa<|.ref<|M2.length+2,aa<|.ref M.length,aa a] j=.ok (.str fI) j:=bx (kn 8 1 (aH.mono tt r) rfl rfl) rfl<|eR (aH.mono N r) 0 rfl;refine qR (x:=.ref M2.length) rfl (dj E) (A4 q) ?_;unfold dc;rw[fT E];rfl))]
     let i:=f++[O.lst []]
     have T:=az (pre_app f [O.lst []]) I
     let l:=i.set (M2.length+2)<|.lst []
     have lA:i.length=j.length+1:=by simp[i,l9]
     have O6:l[M2.length+2]? =aa (.lst []):=by show(i.set _ _)[_]? =_;rw[UH<|by omega]
     have O7:l[M2.length]? =aa (.lst [.str fI]):=by show(i.set _ _)[_]? =_;rw[Uz<|by omega];exact az (pre_app _ _) O5
     have O8:M<+:l:=j6 (s.trans<|pre_app _ _) (by omega) _;have x1:aZ (bo fX (aj 6)<|ak (ax (PB.gM fb)<|ak (aj 7)<|ak (aq aA (aj 8)<|eC<|.int 1) ao) ao) [aa<|.int h,aa<|.int w,aa vs,aa a,aa<|.ref M.length,aa<|.ref M2.length,aa<|.ref<|M2.length+2,aa<|.ref M.length,aa a] f=.nx [aa<|.int h,aa<|.int w,aa vs,aa a,aa<|.ref M.length,aa<|.ref M2.length,aa<|.ref<|M2.length+2,aa<|.ref M.length,aa a] l:=by
      refine oV (v:=.aw) ?_;have q:ax (PB.gM fb) (ak (aj 7)<|ak (aq aA (aj 8)<|eC<|.int 1) ao) [aa<|.int h,aa<|.int w,aa vs,aa a,aa<|.ref M.length,aa<|.ref M2.length,aa<|.ref<|M2.length+2,aa<|.ref M.length,aa a] f=.ok (.ref f.length) i:=call2 (x:=.ref M.length) (y:=P) rfl (kn 8 1 (aH.mono tt s) rfl rfl)<|CN<|aH.mono N s;refine qR (x:=.ref<|M2.length+2) rfl (dj I) (A4 q) ?_;have ll:litOf i (.ref f.length)=aa []:=by unfold litOf;have:=bV f<|O.lst [];simp only[i,this]
      have mm:bG i (.ref<|M2.length+2)=aa (M2.length+2,[]):=fT T;unfold fX;simp only[mm,ll];rfl
     rw[x1];obtain⟨O9,J,_,O_⟩:=eq_nil (e:=aj 6) (σ:=[aa<|.int h,aa<|.int w,aa vs,aa a,aa<|.ref M.length,aa<|.ref M2.length,aa<|.ref<|M2.length+2,aa<|.ref M.length,aa a]) (M:=l) (M1:=l) (v:=.ref<|M2.length+2) rfl ⟨_,rfl,O6⟩;exact⟨_,O9,F1<|bZ O_,rfl,az J O7,O8.trans J⟩
   have s3:aJ (aP ao) (ay 5) [aa<|.int h,aa<|.int w,aa vs,aa a,aa<|.ref M.length,ae,ae,ae,ae] M2=.nx [aa<|.int h,aa<|.int w,aa vs,aa a,aa<|.ref M.length,aa<|.ref M2.length,ae,ae,ae] d:=rfl;have s4:aJ (aP<|ak (ba<|ak (aj 4)<|ak (aj 3) ao) ao) (ay 6) [aa<|.int h,aa<|.int w,aa vs,aa a,aa<|.ref M.length,aa<|.ref M2.length,ae,ae,ae] d=.nx [aa<|.int h,aa<|.int w,aa vs,aa a,aa<|.ref M.length,aa<|.ref M2.length,aa<|.ref<|M2.length+2,ae,ae] o:=by rw[<-l4];rfl
   rcases K with K|⟨t,f,K,O',g9,p9⟩
   ·refine⟨ag,j,lU rfl ?_,r⟩;refine(dN s1).trans ?_;refine(dN (by rw[pG s2];rfl)).trans ?_;exact(dN s3).trans<|(dN s4).trans<|o9 K
   ·refine⟨af,f,lU rfl ?_,p9⟩;refine(dN s1).trans ?_;refine(dN (by rw[pG s2];rfl)).trans ?_;refine(dN s3).trans<|(dN s4).trans<|(dN K).trans<|vD<|HX ?_;refine bx (x:=.str [108,101,102,116]) (y:=.ref M2.length) rfl (by unfold aj;rw[O']) ?_;unfold o4;rw[jW g9];rfl
  ·cases z
 ·obtain⟨k,rfl,hk⟩:=hc;obtain⟨d,p3,q3,_⟩:=eq_nil (σ:=[aa<|.int h,aa<|.int w,aa vs,aa a,aa<|.ref M.length,ae,ae,ae,ae]) (e:=aq aA (aj 3)<|eC<|.int 0) (kn 3 0 (aH.mono tt C) rfl rfl)<|aR.mono tl C;refine⟨ag,d,lU rfl ?_,C.trans p3⟩;refine(dN s1).trans<|o9 ?_;rw[pG s2];refine vD<|ya q3<|HW ?_;exact bx (bx (kn 3 1 (aH.mono tt<|C.trans p3) rfl rfl) rfl<|eR (aH.mono N<|C.trans p3) 0 rfl) rfl rfl
noncomputable def FR(g:Prop)(r:R W)(M:Mem):Prop:=(g->∃v a,r=.ok v a/\M<+:a)/\(¬g->∃a,r=.ex (.str dq) a/\M<+:a)
noncomputable def FS(g:Prop)(σ:St)(r:RS)(M:Mem):Prop:=(g->∃a,r=.nx σ a/\M<+:a)/\(¬g->∃a,r=.ex (.str dq) a/\M<+:a)
def mM{c:CM}{a:AM}{σ:St}{M M1:Mem}{b:List W}(d:a σ M=.ok b M1):bF c a σ M=c b M1:=by unfold bF;rw[d];rfl
def lV{c:CM}{a:AM}{σ:St}{M M1:Mem}{d:List W}{g:Prop}(f:a σ M=.ok d M1)(p:M<+:M1)(h:FR g (c d M1) M1):FS g σ (aZ (bF c a) σ M) M:=by
 refine⟨λz=>?_,λz=>?_⟩
 ·obtain⟨v,b,e,q⟩:=h.1 z;exact⟨b,oV<|(mM f).trans e,p.trans q⟩
 ·obtain⟨b,e,q⟩:=h.2 z;exact⟨b,m9<|(mM f).trans e,p.trans q⟩
structure vE(ff fo fd fp fv ft:CM):Prop where
 f1:∀(h w:Nat) (M:Mem) (vs vf:W) (ss fs:List Int),1<=h/\h<=3->1<=w/\w<=3->aT M vs ss->aT M vf fs->aY (h*w) fs->FR (aY (h*w) ss) (ff [.int h,.int w,vs,vf] M) M
 f2:∀(h w:Nat) (M:Mem) (vs vf:W) (ss fs:List Int),1<=h/\h<=3->1<=w/\w<=3->aT M vs ss->aT M vf fs->aY (h*w) fs->FR (aY (h*w) ss) (ff [.int h,.int w,vf,vs] M) M
 fo:∀(h w:Nat) (M:Mem) (vs vt:W) (ss:List Int),1<=h/\h<=3->1<=w/\w<=3->aT M vs ss->jq M vt (.fld 0 1)->FR (aY (h*w) ss) (fo [.int h,.int w,vs,vt] M) M
 fd:∀(h w:Nat) (M:Mem) (vs vt:W) (ss:List Int),1<=h/\h<=3->1<=w/\w<=3->aT M vs ss->aR M vt []->FR (aY (h*w) ss) (fd [.int h,.int w,vs,vt] M) M
 fp:∀(h w:Nat) (M:Mem) (vs:W) (ss:List Int),1<=h/\h<=3->1<=w/\w<=3->aT M vs ss->FR (aY (h*w) ss) (fp [.int h,.int w,vs] M) M
 fv:∀(h w:Nat) (M:Mem) (vs:W) (ss:List Int),1<=h/\h<=3->1<=w/\w<=3->aT M vs ss->FR (aY (h*w) ss) (fv [.int h,.int w,vs] M) M
 ft:∀(h w:Nat) (M:Mem) (vs vt vl ve:W) (ss:List Int),1<=h/\h<=3->1<=w/\w<=3->aT M vs ss->aH M vt [vl,ve]->aR M vl []->aH M ve [.str fI]->FR (aY (h*w) ss) (ft [.int h,.int w,vs,vt] M) M
def Np{x1 a b c:Option W}{M:Mem}(t k:Int):tB (aq oEq (aj 0)<|eC<|.int k) [aa<|.int t,x1,a,b,c] M=.ok (ai<|t=k) M:=bZ<|bx rfl rfl eq_int
def nB{g:Prop}{k t:Int}{a b:SM}{x1 c d e:Option W}{M:Mem}(i:t=k->FS g [aa<|.int t,x1,c,d,e] (a [aa<|.int t,x1,c,d,e] M) M)(f:t≠k->FS g [aa<|.int t,x1,c,d,e] (b [aa<|.int t,x1,c,d,e] M) M):FS g [aa<|.int t,x1,c,d,e] (aK (cG<|tB<|aq oEq (aj 0)<|eC<|.int k) a b [aa<|.int t,x1,c,d,e] M) M:=by
 rw[rr<|Np t k];by_cases h:t=k
 ·rw[UA h];exact i h
 ·rw[Ut h];exact f h
def Ej{i p k m o n:CM}(S:vE i p k m o n)(t:Int)(h w:Nat)(M:Mem)(vs f:W)(ss fs:List Int)(d:1<=h/\h<=3)(c:1<=w/\w<=3)(b:aT M vs ss)(s:aT M f fs)(x:aY (h*w) fs):
 FR (aY (h*w) ss) (K7.xI i p k m o n [.int t,.int h,.int w,vs,f] M) M:=by
 have g:FS (aY (h*w) ss) [aa<|.int t,aa<|.int h,aa<|.int w,aa vs,aa f] ((aK (cG<|tB<|aq oEq (aj 0)<|eC<|.int 0) (
  aZ (bF i (ak (aj 1) (ak (aj 2) (ak (aj 3) (ak (aj 4) ao)))))) (
  aK (cG<|tB<|aq oEq (aj 0)<|eC<|.int 1) (
   aZ (bF i (ak (aj 1) (ak (aj 2) (ak (aj 4) (ak (aj 3) ao)))))) (
   aK (cG<|tB<|aq oEq (aj 0)<|eC<|.int 2) (
    aZ (bF p (ak (aj 1) (ak (aj 2) (ak (aj 3) (ak (ba (ak (eC (.str [102,105,101,108,100])) (ak (eC (.int 0)) (ak (eC (.int 1)) ao)))) ao)))))) (
    aK (cG<|tB<|aq oEq (aj 0)<|eC<|.int 3) (
     aZ (bF k (ak (aj 1) (ak (aj 2) (ak (aj 3) (ak (aP (ao)) ao)))))) (
     aK (cG<|tB<|aq oEq (aj 0)<|eC<|.int 4) (
      aZ (bF m (ak (aj 1) (ak (aj 2) (ak (aj 3) ao))))) (
      aK (cG<|tB<|aq oEq (aj 0)<|eC<|.int 5) (
       aZ (bF o (ak (aj 1) (ak (aj 2) (ak (aj 3) ao))))) (
       aZ (bF n (ak (aj 1) (ak (aj 2) (ak (aj 3) (ak (ba (ak (aP (ao)) (ak (ba (ak (eC (.str [102,117,108,108])) ao)) ao))) ao)))))))))))) [aa (.int t),aa (.int h),aa (.int w),aa vs,aa f] M) M:=by
  refine nB (λ_=>lV rfl (dJ _)<|S.f1 h w M vs f ss fs d c b s x) λ_=>?_
  refine nB (λ_=>lV rfl (dJ _)<|S.f2 h w M vs f ss fs d c b s x) λ_=>?_
  refine nB (λ_=>lV (M1:=M++[O.tup [W.str [102,105,101,108,100],.int 0,.int 1]]) rfl (pre_app _ _)<|S.fo h w (M++[O.tup [W.str [102,105,101,108,100],W.int 0,W.int 1]]) vs (.ref M.length) ss d c (aR.mono b<|pre_app _ _)<|aH.new M [.str [102,105,101,108,100],.int 0,.int 1]) λ_=>?_
  refine nB (λ_=>lV (M1:=M++[.lst []]) rfl (pre_app _ _)<|S.fd h w _ vs (.ref M.length) ss d c (aR.mono b<|pre_app _ _)<|aR.new _ _) λ_=>?_
  refine nB (λ_=>lV rfl (dJ _)<|S.fp h w M vs ss d c b) λ_=>?_
  refine nB (λ_=>lV rfl (dJ _)<|S.fv h w M vs ss d c b) λ_=>?_
  have u:M<+:M++[O.lst []]:=pre_app _ _;have l:M++[O.lst []]<+:M++[O.lst []]++[O.tup [.str fI]]:=pre_app _ _;have j:M++[O.lst []]++[O.tup [.str fI]]<+:M++[O.lst []]++[O.tup [.str fI]]++[O.tup [.ref M.length,.ref (M++[O.lst []]).length]]:=pre_app _ _;exact lV (M1:=M++[O.lst []]++[O.tup [.str fI]]++[O.tup [.ref M.length,.ref (M++[O.lst []]).length]]) rfl (u.trans<|l.trans j)<|S.ft h w _ vs (.ref (M++[O.lst []]++[O.tup [.str fI]]).length) (.ref M.length) (.ref (M++[O.lst []]).length) ss d c (aR.mono b<|u.trans<|l.trans j) (aH.new _ _) (aR.mono (aR.new _ _)<|l.trans j)<|aH.mono (aH.new _ _) j
 refine⟨λz=>?_,λz=>?_⟩
 ·obtain⟨a,e,q⟩:=g.1 z;refine⟨.aw,a,?_,q⟩;show(match(aK _ _ _:SM) _ M with|.rt v a=>R.ok v a|.nx _ a=>.ok .aw a|.ex v a=>.ex v a|_=>.bad)=_;exact(UI (λr:RS=>match r with|.rt v a=>R.ok v a|.nx _ a=>.ok .aw a|.ex v a=>.ex v a|_=>.bad) e).trans rfl
 ·obtain⟨a,e,q⟩:=g.2 z;exact⟨a,iR rfl e,q⟩
def Dm{f:CM}{t:Int}{h w:Nat}{M:Mem}{vs d:W}{g:Prop}[Decidable g](k:FR g (f [.int t,.int h,.int w,vs,d] M) M):∃M',K7.ub f [.int t,.int h,.int w,vs,d] M=.ok (.bl<|!decide g) M'/\M<+:M':=by
 have j:ak (aj 0) (ak (aj 1)<|ak (aj 2)<|ak (aj 3)<|ak (aj 4) ao) [aa<|.int t,aa<|.int h,aa<|.int w,aa vs,aa d] M=.ok [.int t,.int h,.int w,vs,d] M:=rfl;by_cases i:g
 ·obtain⟨v,M',e,q⟩:=k.1 i;refine⟨M',lU rfl ?_,q⟩;rw[UA i];have b:=oV<|(mM (c:=f) j).trans e;refine(dN (bh:=[aa<|.int t,aa<|.int h,aa<|.int w,aa vs,aa d]) (M':=M') ?_).trans rfl;unfold gD;show(match aZ _ [aa<|.int t,aa<|.int h,aa<|.int w,aa vs,aa d] M with|.nx a M'=>RS.nx a M'|.ex (.str c) M'=>_|_=>.bad)=_;rw[b]
 ·obtain⟨M',e,q⟩:=k.2 i;refine⟨M',lU rfl<|o9 ?_,q⟩;rw[Ut i];have b:=m9<|(mM (c:=f) j).trans e;unfold gD;show(match aZ _ [aa<|.int t,aa<|.int h,aa<|.int w,aa vs,aa d] M with|.nx a M'=>RS.nx a M'|.ex (.str c) M'=>_|_=>.bad)=_;rw[b];rfl
def Ek{f:CM}{t:Int}{h w:Nat}{M:Mem}{vs d:W}{g:Prop}[Decidable g](p:FR g (f [.int t,.int h,.int w,vs,d] M) M):∃M',K7.t5 f [.int t,.int h,.int w,vs,d] M=.ok (.bl<|!decide g) M'/\M<+:M':=by
 have r:ak (aj 0) (ak (aj 1)<|ak (aj 2)<|ak (aj 3)<|ak (aj 4) ao) [aa<|.int t,aa<|.int h,aa<|.int w,aa vs,aa d,ae,ae] M=.ok [.int t,.int h,.int w,vs,d] M:=rfl;by_cases j:g
 ·obtain⟨v,M',e,q⟩:=p.1 j;refine⟨M',lU rfl ?_,q⟩;rw[UA j];have b:=oV<|(mM (c:=f) r).trans e;refine(dN (bh:=[aa<|.int t,aa<|.int h,aa<|.int w,aa vs,aa d,ae,ae]) (M':=M') ?_).trans rfl;unfold gD;show(match aZ _ [aa<|.int t,aa<|.int h,aa<|.int w,aa vs,aa d,ae,ae] M with|.nx a M'=>RS.nx a M'|.ex (.str c) M'=>_|_=>.bad)=_;rw[b]
 ·obtain⟨M',e,q⟩:=p.2 j;refine⟨M'++[.b8 dq],lU rfl<|o9 ?_,q.trans<|pre_app _ _⟩;rw[Ut j];have b:=m9<|(mM (c:=f) r).trans e;have n:=bV M'<|.b8 dq;unfold gD;show(match aZ _ [aa<|.int t,aa<|.int h,aa<|.int w,aa vs,aa d,ae,ae] M with|.nx a M'=>RS.nx a M'|.ex (.str c) M'=>_|_=>.bad)=_;rw[b];have l:∀i o (m:Option W),i.contains dq=af->iU i o (aj 5) [aa<|.int t,aa<|.int h,aa<|.int w,aa vs,aa d,aa<|.ref M'.length,m] (M'++[.b8 dq])=.ok (.bl af) (M'++[.b8 dq]):=λi o m u=>by unfold iU;show(match(M'++[O.b8 dq])[M'.length]? with|some (.b8 c)=>_|_=>_)=_;rw[n];show(if i.contains dq then _ else _)=_;rw[T1 u]
  have s:iU [[78,111,83,116,101,112]] [[78,111,83,104,101,101,116]] (aj 5) [aa<|.int t,aa<|.int h,aa<|.int w,aa vs,aa d,aa<|.ref M'.length,ae] (M'++[.b8 dq])=.ok (.bl ag) (M'++[.b8 dq]):=by unfold iU;show(match(M'++[O.b8 dq])[M'.length]? with|some (.b8 c)=>_|_=>_)=_;rw[n];rfl
  show(match(av _ _:SM) [aa<|.int t,aa<|.int h,aa<|.int w,aa vs,aa d,aa<|.ref M'.length,ae] (M'++[O.b8 dq]) with|.nx k M2=>RS.nx (k.set 5 ae) M2|.rt v M2=>.rt v M2|_=>.bad)=_;rw[dN (bh:=[aa<|.int t,aa<|.int h,aa<|.int w,aa vs,aa d,aa<|.ref M'.length,aa<|.int 1]) (M':=M'++[.b8 dq])<|vC (v:=.int 1) (bx (A0 (l _ _ _ rfl) rfl) (A0 s rfl) rfl) rfl];rw[vD<|ya rfl<|l _ _ _ rfl];rfl
noncomputable def mX(f:CM):Prop:=∀(t:Int) (h w:Nat) (M:Mem) (e g:W) (a c:List Int),1<=h/\h<=3->1<=w/\w<=3->aT M e a->aT M g c->aY (h*w) c->∃b d,f [.int t,.int h,.int w,e,g] M=.ok (.bl b) d/\M<+:d/\(b=af↔¬aY (h*w) a)
def HY{M:Mem}{a b:Nat}{c:List Int}(d:M[a]? =aa (.lst<|c.map .int))(e:M[b]? =aa (.lst<|c.map .int))(f:c.length<=1000):∃M',gX eo [.ref a,.ref b] M=.ok (.bl af) M'/\M<+:M':=
 Hy M _ _ _ (Wk.seq (ls:=[]) (rs:=[]) d e rfl<|Wk.Mc Wk.nil _<|qB c) (by simp;omega)
theorem yf:∀(l:List Int) (k:Nat),(l.map W.int).eraseIdx k=(l.eraseIdx k).map W.int
 |[],_=>by simp
 |_::_,0=>rfl
 |x::r,k+1=>UI (W.int x::·)<|yf r k
def zT{f:CM}{h w:Nat}{g e vs:W}{j:W}{i d c:Option W}{a:Int}{t:Int}{M M1 M2:Mem}{b:Bool}{k:Nat}(o:hZ [e] M=.ok (.ref k) M1)(p:f [.int t,.int h,.int w,vs,.ref k] M1=.ok (.bl b) M2)(m:b=ai (0<a)){l:W}:
 tB (aq bE (ax f<|ak (aj 12)<|ak (aj 1)<|ak (aj 2)<|ak (aj 13)<|ak (ax hZ<|ak (aj 5) ao) ao)<|aq eL (aj 9)<|eC<|.int 0) (cT h w g e j l i (aa<|.int a) d c (aa<|.int t)<|aa vs) M=.ok ag M2:=by
 have n:ax f (ak (aj 12)<|ak (aj 1)<|ak (aj 2)<|ak (aj 13)<|ak (ax hZ<|ak (aj 5) ao) ao) (cT h w g e j l i (aa<|.int a) d c (aa<|.int t)<|aa vs) M=.ok (.bl b) M2:=by unfold cT;simp only[ax,ak,ao,aj,R.bind,T',T5,o,p]
 refine bZ<|bx n (bx (x:=.int a) (y:=.int 0) rfl rfl gt_int) ?_;subst m;cases ai (0<a)<;>rfl
def HZ{fr fa:CM}(hr:mX fr)(ha:mX fa)(E:List Int)(Y:E.length<=63)(M0:Mem)(Q:dZ M0 E):
 ∃v M,K7.A3 fj (gX eo) iA iB gO fr fa (K7.mE fj gN) [.ref 0] M0=.ok v M/\v=.bl af:=by
 refine bT rfl ?_;refine HE (shape:=K7.mE fj gN) (show um 6 _ from Ef) (List.replicate 8 ae) M0 E Q Y λh w t s L M S h6=>?_
 obtain⟨s9,s1,n4⟩:=wM S.hh S.hw;have hh:=S.hh;have hw:=S.hw;obtain⟨u,M1,e1,p1,z3⟩:=Fw M E (Q.mono S.pre) Y (aa<|.int h) (aa<|.int w) ((h*w:Nat):Int)<|aa t::aa s::List.replicate 8 ae;refine iI e1 ?_;have S1:=Q.mono<|S.pre.trans p1;obtain⟨N,a,e2,p2,Z,z0⟩:=D6 M1 E S1 Y (aR.mono S.F p1) S.fl n4 S.fg (aa<|.int h) (aa<|.int w) (aa<|.int (h*w:Nat)) (aa t) u<|List.replicate 7 ae;refine iI e2 ?_;show(av _ _ (cT h w t s (.int u) (.ref N.length) ae ae ae ae ae ae) _).Sat _;have SN:dZ N E:=S1.mono p2;have sl:a.length=h*w*(h*w):=Z.len;have P:0<a.length:=by rw[sl];exact VX s1 s1
 have BS:aY (h*w) L:=⟨S.fl,λx hx=>by have:=(S.fg x hx).1;omega,λx hx=>(S.fg x hx).2⟩;have FN:aT N s L:=aR.mono S.F<|p1.trans p2;obtain⟨c,M3,e3,p3⟩:=lT E (N++.lst (a.map .int)::[]) 19 (SN.mono<|j5 _ _ _) Y;obtain⟨J,rfl⟩:=mG p3;refine iI (v:=.int c) (M1:=N++.lst (a.map .int)::J) (by unfold cT;walk_at "ev";exact e3) ?_;show(av _ _ (cT h w t s (.int u) (.ref N.length) (aa<|.int c) ae ae ae ae ae) _).Sat _;have m4:=dk (M:=N++.lst (a.map .int)::J) (i:=c) (j:=4)<|by decide
 refine iI (v:=.int (c % 4)) (M1:=N++.lst (a.map .int)::J) (by unfold cT;walk_at "ev";simp only[m4]) ?_;show(av _ _ (cT h w t s (.int u) (.ref N.length) (aa<|.int c) (aa<|.int<|c % 4) ae ae ae ae) _).Sat _;have Pa:0<=c % 4:=Vr _<|by decide
 have Pb:c % 4<4:=Vz _<|by decide
 generalize c % 4=c4 at Pa Pb;have V:∀(k:Int) (f:List Int) (o:Mem) (r p:Option W),tB (aq oEq (aj 9)<|eC<|.int k) (cT h w t s (.int u) (.ref N.length) (aa<|.int c) (aa<|.int c4) r p ae ae) (N++.lst (f.map .int)::o)=.ok (ai<|c4=k) (N++.lst (f.map .int)::o):=λk f o r p=>bZ<|bx (x:=.int c4) (y:=.int k) rfl rfl eq_int
 refine aI<|RS.Sat.mono (q:={nx:=λB D=>∃f o,B=cT h w t s (.int u) (.ref N.length) (aa<|.int c) (aa<|.int c4) ae ae ae ae/\D=N++.lst (f.map .int)::o/\((c4=1/\f.length=a.length+1)\/(c4≠1/\f=a)),rt:=λ_ _=>False}) ?_ (λB D hI=>?_) (λ_ _ z=>z.elim) (λ_ _ z=>z.elim)<|λ_ _ z=>z.elim
 ·refine bp (V 1 a J ae ae) (λC=>?_) λC=>⟨a,J,rfl,rfl,.inr ⟨Vi C,rfl⟩⟩
  have U:aT (N++.lst (a.map .int)::J) (.ref N.length) a:=⟨_,rfl,d8 _ _ _⟩;have d4:=eQ (M:=N++.lst (a.map .int)::J) (i:=c) (j:=4) (by decide)<|by decide
  have m1:=dk (M:=N++.lst (a.map .int)::J) (i:=c / 4) (j:=(a.length:Int)+1)<|by omega
  have m2:=dk (M:=N++.lst (a.map .int)::J) (i:=c / 4) (j:=2)<|by decide
  have i0:0<=c / 4 % ((a.length:Int)+1):=Vr _<|by omega
  have i1:c / 4 % ((a.length:Int)+1)<(a.length:Int)+1:=Vz _<|by omega
  refine dt (v:=.aw) (M1:=N++.lst ((a.take (c / 4 % ((a.length:Int)+1)).toNat++(c / 4 % 2)::a.drop (c / 4 % ((a.length:Int)+1)).toNat).map .int)::J) ?_ ⟨_,J,rfl,rfl,.inl ⟨UD C,by simp;omega⟩⟩;refine qR (x:=.ref N.length) (M2:=N++.lst (a.map .int)::J) (vs:=[.int<|c / 4 % ((a.length:Int)+1),.int<|c / 4 % 2]) rfl (dj<|d8 _ _ _) ?_ ?_
  ·unfold cT
   walk_at "ev"
   simp only[d4,ji U,m1,m2]
  ·unfold u6;simp only[fT<|d8 N J _];rw[T1 ⟨i0,by simp;omega,by simp[lim];omega⟩,j4];simp
 obtain⟨g,K,rfl,rfl,q1⟩:=hI;dsimp only;refine aI<|RS.Sat.mono (q:={nx:=λB D=>∃f o,B=cT h w t s (.int u) (.ref N.length) (aa<|.int c) (aa<|.int c4) ae ae ae ae/\D=N++.lst (f.map .int)::o/\((c4=1/\f.length=a.length+1)\/(c4=2/\f.length+1=a.length)\/(c4≠1/\c4≠2/\f=a)),rt:=λ_ _=>False}) ?_ (λB D hI=>?_) (λ_ _ z=>z.elim) (λ_ _ z=>z.elim)<|λ_ _ z=>z.elim
 ·refine bp (V 2 g K ae ae) (λC=>?_) λC=>⟨g,K,rfl,rfl,?_⟩
  ·have c2:=UD C;have R:g=a:=by
    rcases q1 with⟨z,_⟩|⟨_,z⟩
    ·omega
    ·exact z
   subst R;have U:aT (N++.lst (g.map .int)::K) (.ref N.length) g:=⟨_,rfl,d8 _ _ _⟩;have d4:=eQ (M:=N++.lst (g.map .int)::K) (i:=c) (j:=4) (by decide)<|by decide
   have m1:=dk (M:=N++.lst (g.map .int)::K) (i:=c / 4) (j:=(g.length:Int))<|by omega
   obtain⟨i0,i1⟩:=zG (c / 4) P;obtain⟨y,hy⟩:∃y,(g.map W.int)[(c / 4 % (g.length:Int)).toNat]? =aa y:=⟨_,VW (by simp;omega)⟩;refine dt (v:=y) (M1:=N++.lst ((g.eraseIdx (c / 4 % (g.length:Int)).toNat).map .int)::K) ?_ ⟨_,K,rfl,rfl,.inr<|.inl ⟨c2,by rw[List.length_eraseIdx,T1<|by omega];omega⟩⟩;refine qR (x:=.ref N.length) (M2:=N++.lst (g.map .int)::K) (vs:=[.int<|c / 4 % (g.length:Int)]) rfl (dj<|d8 _ _ _) ?_ ?_
   ·unfold cT
    walk_at "ev"
    simp only[d4,ji U,m1]
   ·have ix:ck (g.map W.int).length (c / 4 % (g.length:Int))=aa (c / 4 % (g.length:Int)).toNat:=by unfold ck;rw[T1 i0,T1 (by simp;omega)]
    have b2:(c / 4 % (g.length:Int)).natAbs<lK:=by unfold lK;omega
    unfold vr;simp only[fT<|d8 N K _,ix,hy];rw[T1 b2,j4,yf]
  ·rcases q1 with z|⟨z,e⟩
   ·exact .inl z
   ·exact .inr<|.inr ⟨z,Vi C,e⟩
 obtain⟨d,J2,rfl,rfl,q2⟩:=hI;dsimp only;refine aI<|RS.Sat.mono (q:={nx:=λB D=>∃f o r p,B=cT h w t s (.int u) (.ref N.length) (aa<|.int c) (aa<|.int c4) r p ae ae/\D=N++.lst (f.map .int)::o/\f.length<=82/\(0<c4↔¬aY (h*w) f),rt:=λ_ _=>False}) ?_ (λB D hI=>?_) (λ_ _ z=>z.elim) (λ_ _ z=>z.elim)<|λ_ _ z=>z.elim
 ·have h2:c4≠3->(0<c4↔¬aY (h*w) d)/\d.length<=82:=λn3=>by
   rcases q2 with⟨z,l⟩|⟨z,l⟩|⟨n1,n2,rfl⟩
   ·exact⟨⟨λ_ q=>by have:=q.len;omega,λ_=>by omega⟩,by omega⟩
   ·exact⟨⟨λ_ q=>by have:=q.len;omega,λ_=>by omega⟩,by omega⟩
   ·exact⟨⟨λz=>by omega,λq=>absurd Z q⟩,by omega⟩
  refine bp (V 3 d J2 ae ae) (λC=>?_) λC=>⟨d,J2,ae,ae,rfl,rfl,(h2<|Vi C).2,(h2<|Vi C).1⟩
  have c3:=UD C;have R:d=a:=by
   rcases q2 with⟨z,_⟩|⟨z,_⟩|⟨_,_,z⟩
   ·omega
   ·omega
   ·exact z
  subst R;obtain⟨G,M4,e4,p4⟩:=lT E (N++.lst (d.map .int)::J2) 21 (SN.mono<|j5 _ _ _) Y;obtain⟨A,rfl⟩:=mG p4;have Pc:=dk (M:=N++.lst (d.map .int)::A) (i:=G) (j:=1000000000000000000000000000000)<|by decide
  have pw:∀(M:Mem),wj (.int 10) (.int 30) M=.ok (.int 1000000000000000000000000000000) M:=λM=>rfl
  refine iI (v:=.int (G % 1000000000000000000000000000000)) (M1:=N++.lst (d.map .int)::A) (by unfold cT;walk_at "ev";simp only[e4,pw,Pc]) ?_;have f0:0<=G % 1000000000000000000000000000000:=Vr _<|by decide
  generalize G % 1000000000000000000000000000000=c9 at f0;show(av _ _ (cT h w t s (.int u) (.ref N.length) (aa<|.int c) (aa<|.int c4) (aa<|.int c9) ae ae ae) _).Sat _;have en:aP (ak (pL<|eC<|.int 1)<|ak (aq bz (aj 3)<|eC<|.int 1)<|ak (eC<|.int 1000000000000)<|ak (aq bz (aq bz (aj 3)<|eC<|.int 1)<|aj 10)<|ak (aq nG (pL<|eC<|.int 2)<|aj 10) ao) (cT h w t s (.int u) (.ref N.length) (aa<|.int c) (aa<|.int c4) (aa<|.int c9) ae ae ae) (N++.lst (d.map .int)::A)=.ok (.ref (N++.lst (d.map .int)::A).length) (N++.lst (d.map .int)::A++[.lst<|[-1,((h*w:Nat):Int)+1,1000000000000,((h*w:Nat):Int)+1+c9,-2-c9].map .int]):=rfl;refine iI en ?_;generalize hk:(N++.lst (d.map .int)::A).length=k;have gk:(N++.lst (d.map .int)::A++[O.lst<|[-1,((h*w:Nat):Int)+1,1000000000000,((h*w:Nat):Int)+1+c9,-2-c9].map .int])[k]? =aa (.lst<|[-1,((h*w:Nat):Int)+1,1000000000000,((h*w:Nat):Int)+1+c9,-2-c9].map .int):=by rw[<-hk];exact bV _ _
  rw[m7] at gk⊢;generalize A++[O.lst<|[-1,((h*w:Nat):Int)+1,1000000000000,((h*w:Nat):Int)+1+c9,-2-c9].map .int]=X at gk⊢;obtain⟨m,M6,e6,p6⟩:=lT E (N++.lst (d.map .int)::X) 20 (SN.mono<|j5 _ _ _) Y;obtain⟨I,rfl⟩:=mG p6;have Pd:=az p6 gk;have LO:aT (N++.lst (d.map .int)::I) (.ref k) [-1,((h*w:Nat):Int)+1,1000000000000,((h*w:Nat):Int)+1+c9,-2-c9]:=⟨_,rfl,Pd⟩;have U:aT (N++.lst (d.map .int)::I) (.ref N.length) d:=⟨_,rfl,d8 _ _ _⟩;have Pe:=dk (M:=N++.lst (d.map .int)::I) (i:=m) (j:=5)<|by decide
  have k0:0<=m % 5:=Vr _<|by decide
  have k5:m % 5<5:=Vz _<|by decide
  have ix:=iO LO k0 k5;have d4:=eQ (M:=N++.lst (d.map .int)::I) (i:=c) (j:=4) (by decide)<|by decide
  have m1:=dk (M:=N++.lst (d.map .int)::I) (i:=c / 4) (j:=(d.length:Int))<|by omega
  obtain⟨i0,i1⟩:=zG (c / 4) P;refine oT (v:=.int (aB [-1,((h*w:Nat):Int)+1,1000000000000,((h*w:Nat):Int)+1+c9,-2-c9] (m % 5))) (M1:=N++.lst (d.map .int)::I) (by unfold cT;walk_at "ev";simp only[e6,Pe,ix]) (J' (i:=c / 4 % (d.length:Int)) rfl (by unfold cT;walk_at "ev";simp only[d4,ji U,m1]) i0 i1) ?_;refine⟨_,I,aa<|.int c9,aa<|.ref k,rfl,rfl,by rw[U1];omega,λ_ q=>?_,λ_=>by omega⟩;have hx:aB [-1,((h*w:Nat):Int)+1,1000000000000,((h*w:Nat):Int)+1+c9,-2-c9] (m % 5)<0\/((h*w:Nat):Int)<aB [-1,((h*w:Nat):Int)+1,1000000000000,((h*w:Nat):Int)+1+c9,-2-c9] (m % 5):=by
   have ek:m % 5=0\/m % 5=1\/m % 5=2\/m % 5=3\/m % 5=4:=by omega
   rcases ek with z|z|z|z|z<;>rw[z]
   ·exact .inl<|show(-1:Int)<0 by decide
   ·exact .inr<|show((h*w:Nat):Int)<((h*w:Nat):Int)+1 by omega
   ·exact .inr<|show((h*w:Nat):Int)<1000000000000 by omega
   ·exact .inr<|show((h*w:Nat):Int)<((h*w:Nat):Int)+1+c9 by omega
   ·exact .inl<|show-2-c9<0 by omega
  have hm:aB [-1,((h*w:Nat):Int)+1,1000000000000,((h*w:Nat):Int)+1+c9,-2-c9] (m % 5)∈d.set (c / 4 % (d.length:Int)).toNat (aB [-1,((h*w:Nat):Int)+1,1000000000000,((h*w:Nat):Int)+1+c9,-2-c9]<|m % 5):=List.mem_set (by omega) _;have a1:=q.lo _ hm;have a2:=q.hi _ hm;omega
 obtain⟨f,J3,r,p,rfl,rfl,SF,q3⟩:=hI;dsimp only;refine aI ?_;refine iH (lo:=0) (n:=7) (M1:=N++.lst (f.map .int)::J3) (by rfl) (λj B D=>∃o T H,B=cT h w t s (.int u) (.ref N.length) (aa<|.int c) (aa<|.int c4) r p T H/\D=N++.lst (f.map .int)::o) ⟨J3,ae,ae,rfl,rfl⟩ ?_ ?_
 ·rintro j B D hj ⟨o,T,H,rfl,rfl⟩;show(av _ _ (cT h w t s (.int u) (.ref N.length) (aa<|.int c) (aa<|.int c4) r p (aa<|.int<|0+(j:Int)) H) _).Sat _;have U:aT (N++.lst (f.map .int)::o) (.ref N.length) f:=⟨_,rfl,d8 _ _ _⟩;have n1:=qK U<|by omega
  refine iI (v:=.ref (N++.lst (f.map .int)::o).length) (by unfold cT;walk_at "ev";exact n1) ?_;have gh:=bV (N++.lst (f.map .int)::o)<|O.lst<|f.map .int;generalize (N++.lst (f.map .int)::o).length=k at gh⊢;rw[m7] at gh⊢;generalize o++[O.lst<|f.map .int]=A at gh⊢;show(av _ _ (cT h w t s (.int u) (.ref N.length) (aa<|.int c) (aa<|.int c4) r p (aa<|.int<|0+(j:Int))<|aa<|.ref k) _).Sat _;have F4:aT (N++.lst (f.map .int)::A) s L:=aR.mono FN<|j5 _ _ _;have f4:=qK F4 (by rw[S.fl];omega);have P4:N++.lst (f.map .int)::A<+:N++.lst (f.map .int)::A++[O.lst<|L.map .int]:=pre_app _ _;obtain⟨b5,M5,e5,p5,w5⟩:=hr (0+(j:Int)) h w _ (.ref k) (.ref (N++.lst (f.map .int)::A).length) f L hh hw ⟨_,rfl,az P4 gh⟩ ⟨_,rfl,bV _ _⟩ BS;have Pf:b5=ai (0<c4):=by rw[U3,w5,UQ];exact q3.symm
  obtain⟨X,rfl⟩:=mG<|P4.trans p5;have BU:=az (P4.trans p5) gh;refine aI<|bp (zT f4 e5 Pf) (λz=>nomatch z) λ_=>du ?_
  dsimp only;have F5:aT (N++.lst (f.map .int)::X) s L:=aR.mono FN<|j5 _ _ _;have f5:=qK F5 (by rw[S.fl];omega);have P5:N++.lst (f.map .int)::X<+:N++.lst (f.map .int)::X++[O.lst<|L.map .int]:=pre_app _ _;obtain⟨b6,M6,e6,p6,w6⟩:=ha (0+(j:Int)) h w _ (.ref k) (.ref (N++.lst (f.map .int)::X).length) f L hh hw ⟨_,rfl,az P5 BU⟩ ⟨_,rfl,bV _ _⟩ BS;have Pg:b6=ai (0<c4):=by rw[U3,w6,UQ];exact q3.symm
  obtain⟨I,rfl⟩:=mG<|P5.trans p6;have Ph:=az (P5.trans p6) BU;refine aI<|bp (zT f5 e6 Pg) (λz=>nomatch z) λ_=>du ?_
  dsimp only;obtain⟨M7,e7,p7⟩:=HY Ph (d8 N I<|O.lst<|f.map .int)<|by omega
  obtain⟨J7,rfl⟩:=mG p7;refine bp (c:=ag) (M1:=N++.lst (f.map .int)::J7) (qN<|bZ (b:=af)<|call2 (x:=.ref k) (y:=.ref N.length) rfl rfl e7) (λz=>nomatch z) λ_=>du ?_
  exact⟨J7,_,_,rfl,rfl⟩
 ·rintro B D ⟨o,T,H,rfl,rfl⟩;dsimp only;exact bt (v:=.bl af) (M1:=N++.lst (f.map .int)::o) rfl rfl
def Kj{f:CM}(h:∀(t:Int) (h w:Nat) (M:Mem) (vs a:W) (ss fs:List Int),1<=h/\h<=3->1<=w/\w<=3->aT M vs ss->aT M a fs->aY (h*w) fs->FR (aY (h*w) ss) (f [.int t,.int h,.int w,vs,a] M) M):mX (K7.ub f):=λt b w M vs a ss fs d c g k j=>by
 haveI:=Classical.propDecidable<|aY (b*w) ss
 obtain⟨i,e,p⟩:=Dm<|h t b w M vs a ss fs d c g k j;exact⟨_,i,e,p,by simp⟩
def Kk{f:CM}(h:∀(t:Int) (h w:Nat) (M:Mem) (vs a:W) (ss fs:List Int),1<=h/\h<=3->1<=w/\w<=3->aT M vs ss->aT M a fs->aY (h*w) fs->FR (aY (h*w) ss) (f [.int t,.int h,.int w,vs,a] M) M):mX (K7.t5 f):=λt b w M vs a ss fs d c g k j=>by
 haveI:=Classical.propDecidable<|aY (b*w) ss
 obtain⟨i,e,p⟩:=Ek<|h t b w M vs a ss fs d c g k j;exact⟨_,i,e,p,by simp⟩
def xJ{c c':CM}{a:AM}(d:∀{b:List W} {M M':Mem} {v:W},c b M=.ok v M'->c' b M=.ok v M'):l6 (ax c a) (bF c' a):=λe M v M' h=>by
 unfold ax at h;unfold bF;cases q:a e M with
 |ok b M1=>rw[q] at h;exact d h
 |ex v M1=>rw[q] at h;cases h
 |bad=>rw[q] at h;cases h
def Az{fg b a:CM}{c:List W}{M M':Mem}{v:W}(e:PB.jd fg PB.d0 b a c M=.ok v M'):K7.jd fg K7.d0 b a c M=.ok v M':=
 kl (eu (uH<|xJ q8)<|eu (uH<|xJ q8)<|eu fY<|eu fY fY) e
noncomputable def uR(f:CM):Prop:=∀(h w:Nat) (M:Mem) (c:W) (a:List Int),1<=h/\h<=3->1<=w/\w<=3->aT M c a->¬aY (h*w) a->∃b,f [.int h,.int w,c] M=.ex (.str dq) b/\M<+:b
def F2{fg fn:CM}:uR (K7.j3<|K7.e_ fg K7.d0 fn):=λh w M f a c b d e=>⟨_,Eg<|FU<|ue h w c b _ f a (aR.mono d<|pre_app _ _) e,pre_app _ _⟩
def Kl{fg fs fst fa wU wV wW f1 f2 fb:CM}(B:oq fg)(m:gU fs)(k:uR fs)(L:qM fst)(C:qZ fa)(K:oN wU)(x:mW 81 wV)(y:qF wW):
 vE (K7.jd fg K7.d0 PB.jO PB.jQ) (K7.iF fs fst) (K7.jh fs fa) (K7.jR fs wU) (K7.iG fs wV) (K7.lD fs fa wW (PB.i_ f1 f2)<|PB.gM fb) where
 f1:=λh w M i l f q d c g o s=>⟨λz=>by obtain⟨a,e,p⟩:=yT B h w d c M i l f q g o z s;exact⟨_,a,Az e,p⟩,λz=>⟨M,Dk (ue h w d c M i f g z),dJ _⟩⟩
 f2:=λh w M i l f q d c g o s=>⟨λz=>by obtain⟨a,e,p⟩:=yT B h w d c M l i q f o g s z;exact⟨_,a,Az e,p⟩,λz=>⟨M,Dl (q8 (qC h w d c M l q o s)) (ue h w d c M i f g z),dJ _⟩⟩
 fo:=λh w M i j f d c g A=>⟨λz=>by
  obtain⟨a,e,p⟩:=Dh m L h w M i j f _ d c g z A;exact⟨_,a,FO e,p⟩,λz=>by
  obtain⟨a,e,p⟩:=k h w M i f d c g z;exact⟨a,CJ e,p⟩⟩
 fd:=λh w M i j f d c g N=>⟨λz=>(by
  rcases HS m C h w M i j f [] d c g z ⟨[],N,.nil⟩ with⟨u,n,a,_,_,e,p,_⟩|⟨r,_⟩
  ·exact⟨_,a,Mg e,p⟩
  ·cases r),λz=>by
  obtain⟨a,e,p⟩:=k h w M i f d c g z;exact⟨a,FW e,p⟩⟩
 fp:=λh w M i f d c g=>⟨λz=>by
  obtain⟨v,a,O,Q,D,u,e,p,_⟩:=Dg m K h w M i f d c g z;exact⟨v,a,FP e,p⟩,λz=>by
  obtain⟨a,e,p⟩:=k h w M i f d c g z;exact⟨a,CL e,p⟩⟩
 fv:=λh w M i f d c g=>⟨λz=>by
  obtain⟨v,a,l,j,t,F,P,e,p,_⟩:=Ed m x h w M i f d c g z;exact⟨v,a,HU e,p⟩,λz=>by
  obtain⟨a,e,p⟩:=k h w (M++[.lst []]) i f d c (aR.mono g<|pre_app _ _) z;exact⟨a,Dj e,(pre_app _ _).trans p⟩⟩
 ft:=λh w M i j J I f d c g G E H=>⟨λz=>by
  obtain⟨b,a,e,p⟩:=Ei (f1:=f1) (f2:=f2) (fb:=fb) m C y h w d c M i j J I f g z G E H;exact⟨_,a,HV e,p⟩,λz=>by
  obtain⟨a,e,p⟩:=k h w M i f d c g z;exact⟨a,Di e,p⟩⟩
end LV
namespace K7
open VM LV
def El:oK (K7.e_ (PB.i8 PB.gP PB.gL PB.gQ) K7.d0<|PB.iz PB.iD):=
 Ki (HD xY (λh w b a M v f i k=>q8<|qC h w b a M v f i k) λb a n l c e d g m o j=>D4 o6 b a n l c e d g m o j)
def yU(k:Nat):ou qa jF (aV tab (k+2) 22):=yG ⟨_,rfl,Co⟩
def yV(k:Nat):ou n8 kU (aV tab (k+2) 22):=yG ⟨_,rfl,CH⟩
def uS(k:Nat):oN (aV tab (k+6) 27):=HQ (qE o6) (zJ yF<|yV<|k+2) (FD uN)<|D_ (x9<|yU<|k+1)<|zJ yF<|yV<|k+1
def uz(k:Nat):gU (aV tab (k+5) 13):=Fv El
def F3(k:Nat):uR (aV tab (k+5) 13):=F2
def F8:∀(z k:Nat),mW z (aV tab (k+7+z) 32):=by
 intro z;induction z using Nat.strongRecOn with
 |_ z d=>
  intro k;rcases z with _|z
  ·exact zR (yd (qE o6)<|Ax<|uz k) (uS k) yP λa b=>absurd b<|Nat.not_lt_zero _
  ·have e:aV tab (k+7+(z+1))=aV tab (k+z+7+1):=UI (aV tab) (by omega);rw[e];refine zR (yd (qE o6)<|Ax<|uz<|k+z+1) (uS<|k+z+1) yP λa b=>?_
   have:=d a b<|k+(z-a);have c:k+(z-a)+7+a=k+z+7:=by omega
   rw[c] at this;exact this
def math(ns:List Int)(l:ns.length<=63):∃M,aV tab 110 49 [.ref 0] [.aU<|ns.map .int]=.ok (.bl af) M:=by
 have k:vE (aV tab 107 7) (aV tab 107 28) (aV tab 107 29) (aV tab 107 30) (aV tab 107 33) (aV tab 107 37):=
  Kl (fg:=aV tab 106 3) (fs:=aV tab 106 13) (fst:=aV tab 106 16) (fa:=aV tab 106 17) (wU:=aV tab 106 27) (wV:=aV tab 106 32) (wW:=aV tab 106 23) (f1:=aV tab 105 21) (f2:=aV tab 105 34) (fb:=aV tab 105 12)
   xY (uz 101) (F3 101) (zF uN) (Kf (qE o6)<|zF uN) (uS 100) (F8 81 18) (x9<|yU 103)
 have b:∀(t:Int) (h w:Nat) (M:Mem) (f c:W) (d a:List Int),1<=h/\h<=3->1<=w/\w<=3->aT M f d->aT M c a->aY (h*w) a->FR (aY (h*w) d) (aV tab 108 45 [.int t,.int h,.int w,f,c] M) M:=λt h w M f c d a p o m j n=>Ej k t h w M f c d a p o m j n
 have g:mX (aV tab 109 46):=Kj b;have i:mX (aV tab 109 47):=Kk b;obtain⟨v,M,e,rfl⟩:=HZ g i ns l [.aU<|ns.map .int] rfl;exact⟨M,e⟩
end K7
open VM(AW aA aG aJ aK aM aP aS aV aX aZ aj ak ao aq av ax b0 bB bE bF bM bP bU ba bo bu bz cD cF cG cI cM cw dB dP dU dW dc df dg dm eG eL eM eV eX fM fX f_ gA gB gD gF hJ hY hZ iK iL iM iN iU iZ ia ic ik iq jC jg jn jo kF kG kO kP kQ kj lK lL lN lZ ml nG nH nI nJ nL nY nu nv ny o3 o4 pA pL pO pZ pq px rQ ri u5 u6 vr wI wj wo)
namespace SV
open PySem L2
noncomputable abbrev Fg:=PySem.W.Frag
noncomputable def txt(x:List Nat):Str:=⟨x.toArray⟩
def q9(h:txt x=txt y):x=y:=by have e:x.toArray=y.toArray:=UI Str.cps h;simpa using e
noncomputable def RV(c:List Addr):VM.W->V->Prop
 |.aw,v=>v=.aw
 |.bl b,v=>v=.bl b
 |.int i,v=>v=.int i
 |.str x,v=>v=.str (txt x)
 |.ref a,v=>∃p,c[a]? =aa p/\v=.ref p
noncomputable abbrev bj(a:List Addr):List VM.W->List V->Prop:=Paired<|RV a
noncomputable def jJ(a:List Addr):Option VM.W->Option V->Prop
 |none,_=>True
 |some w,q=>∃v,q=aa v/\RV a w v
noncomputable abbrev bb(a:List Addr):VM.St->L2.St->Prop:=Paired<|jJ a
noncomputable def su(K:Fg)(H:Hp)(p:Addr)(vs:List V):Prop:=
 (∃o,H p=aa (.aU o<|.lst vs))\/
  ∃(o:Obj) (a:Array ah) (n:Nat),K.lookup p=aa o/\o.cls=.type "list"/\o.dict=ae/\o.data=.seq a n/\a.size<=sizeLine/\Vals vs a.toList
def su.sq(h:su K H p vs):bg K H p vs:=by
 rcases h with⟨o,h⟩|h
 ·exact .inl<|.inr ⟨o,h⟩
 ·exact .inr h
noncomputable abbrev dC(a:List Addr):List (Int×VM.W)->List (Key×V)->Prop:=Paired λp q=>q.1=Sum.inl p.1/\RV a p.2 q.2
noncomputable abbrev ir(a:List Addr):List (List Nat×VM.W)->List (Str×V)->Prop:=Paired λp q=>q.1=txt p.1/\RV a p.2 q.2
noncomputable def excAt(p C:Addr)(h:Heap):Prop:=∃o a,h.get? p=aa o/\o.cls=.ref C/\o.data=.fields a
noncomputable def RO(K:Fg)(b:List Addr)(H:Hp)(p:Addr):VM.O->Prop
 |.lst xs=>∃a,H p=aa (.lst a)/\bj b xs a
 |.tup xs=>∃a,H p=aa (.tup a)/\bj b xs a
 |.aU xs=>∃a,su K H p a/\bj b xs a
 |.aD d=>∃e,H p=aa (.dK e)/\dC b d e
 |.ins c j=>∃C i h,PySem.W.nsIn K mainGlobals (txt c)=aa (aa<|.ref C)/\H p=aa (.ins C i h)/\ir b j h
 |.di x=>PySem.W.nsIn K mainGlobals (txt x)=aa (aa<|.ref p)
 |.a8 g d=>∃o k e f,b[g]? =aa f/\H p=aa (.aU o<|.dK e)/\o.data=.dict k f/\dC b d e
 |.bR=>True
 |.b8 c=>∃C,PySem.W.nsIn K mainGlobals (txt c)=aa (aa<|.ref C)/\H p=aa (.ext<|excAt p C)
noncomputable def live:VM.O->Bool
 |.lst _=>af
 |.tup _=>af
 |.aU _=>ag
 |.aD _=>af
 |.ins _ _=>af
 |.di _=>ag
 |.a8 _ _=>af
 |.bR=>ag
 |.b8 _=>af
noncomputable abbrev gy:Str:="place_to_try"
noncomputable abbrev dw:Str:="place_to_try.<locals>.<lambda>"
noncomputable def jv(H:Hp)(c:Array ah):Prop:=TriplesOk c.toList/\∀a d,codeAmong a c.toList=aa d->∃b f e t,d=.ref b/\H b=aa (.aU f<|.own b)/\f.data=.fields e/\e[1]? =aa (.str dw t)
noncomputable def Tb(K:Fg)(H:Hp):Prop:=∀c P,PySem.W.tabIn K gy=aa (c,P)->∃a,H P=aa (.cS a)/\jv H a
def jv.upd(h:jv H ps)(i:∀a c,H p≠aa (.aU a<|.own c)):jv (upd H p u) ps:=
 ⟨h.1,λb j e=>by obtain⟨d,a,l,t,k,f,g,m⟩:=h.2 b j e;exact⟨d,a,l,t,k,by rw[aL (λz=>i a d (by rw[<-z];exact f))];exact f,g,m⟩⟩
def Tb.upd(h:Tb K H)(g:∀a,H p≠aa (.cS a))(d:∀i c,H p≠aa (.aU i<|.own c)):Tb K (upd H p u):=λc P e=>by obtain⟨a,b,f⟩:=h c P e;exact⟨a,by rw[aL<|λz=>g a (by rw[<-z];exact b)];exact b,f.upd d⟩
def Tb.new(h:Tb K H)(a:H p=ae):Tb K (L2.upd H p u):=h.upd (λb e=>by rw[a] at e;cases e) λd c e=>by rw[a] at e;cases e
structure Rel(K:Fg)(ι:List Addr)(M:VM.Mem)(H:Hp):Prop where
 len:ι.length=M.length
 obj:∀(a:Nat) (p:Addr) (o:VM.O),ι[a]? =aa p->M[a]? =aa o->RO K ι H p o
 inj:∀(a b:Nat) (p:Addr) (oa ob:VM.O),ι[a]? =aa p->ι[b]? =aa p->M[a]? =aa oa->M[b]? =aa ob->live oa=af->live ob=af->a=b
 tb:Tb K H
section
variable{ι cb:List Addr}
def dM(h:ι<+:cb){a:Nat}(e:ι[a]? =aa p):cb[a]? =aa p:=by obtain⟨r,rfl⟩:=h;have b:=(T6.mp e).1;rw[UU b];exact e
def RV.mono(h:ι<+:cb)(r:RV ι w v):RV cb w v:=by
 cases w with
 |ref a=>obtain⟨p,e,q⟩:=r;exact⟨p,dM h e,q⟩
 |aw=>exact r
 |bl _=>exact r
 |int _=>exact r
 |str _=>exact r
theorem Paired.nS{F G:α->β->Prop}(f:∀a b,F a b->G a b):∀{l:List α} {m:List β},Paired F l m->Paired G l m
 |_,_,.nil=>.nil
 |_,_,.cons r t=>.cons (f _ _ r)<|Paired.nS f t
def bj.mono(h:ι<+:cb)(r:bj ι ws vs):bj cb ws vs:=Paired.nS (λ_ _ q=>RV.mono h q) r
def dC.mono(h:ι<+:cb)(r:dC ι ws vs):dC cb ws vs:=Paired.nS (λ_ _ q=>⟨q.1,RV.mono h q.2⟩) r
def ir.mono(h:ι<+:cb)(r:ir ι ws vs):ir cb ws vs:=Paired.nS (λ_ _ q=>⟨q.1,RV.mono h q.2⟩) r
def jJ.mono(h:ι<+:cb)(r:jJ ι o q):jJ cb o q:=by
 cases o with
 |none=>exact r
 |some w=>obtain⟨v,e,q⟩:=r;exact⟨v,e,q.mono h⟩
def bb.mono(h:ι<+:cb)(r:bb ι σ τ):bb cb σ τ:=Paired.nS (λ_ _ q=>jJ.mono h q) r
def c_:ι<+:ι:=List.prefix_refl _
end
theorem Paired.len{F:α->β->Prop}:∀{l:List α} {m:List β},Paired F l m->l.length=m.length
 |_,_,.nil=>rfl
 |_,_,.cons _ t=>by simp[Paired.len t]
theorem Paired.at{F:α->β->Prop}:∀{l:List α} {m:List β} {i:Nat} {x:α},Paired F l m->l[i]? =aa x->∃y,m[i]? =aa y/\F x y
 |_,_,_,_,.nil,e=>by simp at e
 |_,_,0,_,.cons r _,e=>by simp at e;subst e;exact⟨_,rfl,r⟩
 |_,_,i+1,x,.cons _ t,e=>by
  obtain⟨y,b,a⟩:=Paired.at t<|by simpa using e
  exact⟨y,by simpa using b,a⟩
theorem Paired.jw{F:α->β->Prop}{x:α}{y:β}(r:F x y):∀{l:List α} {m:List β} (i),Paired F l m->Paired F (l.set i x) (m.set i y)
 |_,_,_,.nil=>.nil
 |_,_,0,.cons _ t=>.cons r t
 |_,_,i+1,.cons q t=>.cons q<|Paired.jw r i t
theorem Paired.app{F:α->β->Prop}:∀{l b:List α} {m a:List β},Paired F l m->Paired F b a->Paired F (l++b) (m++a)
 |_,_,_,_,.nil,s=>s
 |_,_,_,_,.cons r t,s=>.cons r<|Paired.app t s
theorem Paired.rH{F:α->β->Prop}:∀{l:List α} {m:List β} (n),Paired F l m->Paired F (l.take n) (m.take n)
 |_,_,0,_=>.nil
 |_,_,_+1,.nil=>.nil
 |_,_,n+1,.cons r t=>.cons r<|Paired.rH n t
theorem Paired.vQ{F:α->β->Prop}:∀{l:List α} {m:List β} (n),Paired F l m->Paired F (l.drop n) (m.drop n)
 |_,_,0,r=>r
 |_,_,_+1,.nil=>.nil
 |_,_,n+1,.cons _ t=>Paired.vQ n t
def Paired.Em{F:α->β->Prop}{l:List α}{m:List β}(h:Paired F l m):Paired F l.dropLast m.dropLast:=by rw[XO,XO,<-Paired.len h];exact Paired.rH _ h
section
variable{K:Fg}{ι:List Addr}{M:VM.Mem}{H:Hp}
def RO.mono(h:ι<+:cb)(r:RO K ι H p o):RO K cb H p o:=by
 cases o with
 |lst xs=>obtain⟨a,e,q⟩:=r;exact⟨a,e,bj.mono h q⟩
 |tup xs=>obtain⟨a,e,q⟩:=r;exact⟨a,e,bj.mono h q⟩
 |aU xs=>obtain⟨a,e,q⟩:=r;exact⟨a,e,bj.mono h q⟩
 |aD xs=>obtain⟨a,e,q⟩:=r;exact⟨a,e,dC.mono h q⟩
 |ins c xs=>obtain⟨C,b,j,n,e,q⟩:=r;exact⟨C,b,j,n,e,ir.mono h q⟩
 |di x=>exact r
 |a8 g xs=>obtain⟨o,f,a,i,k,e,d,q⟩:=r;exact⟨o,f,a,i,dM h k,e,d,dC.mono h q⟩
 |bR=>exact r
 |b8 c=>exact r
def RO.other(r:RO K ι H p o)(h:live o=af->p≠q)(d:∀a vs,H q≠aa (.aU a<|.lst vs)):RO K ι (upd H q u) p o:=by
 cases o with
 |lst xs=>obtain⟨vs,e,z⟩:=r;exact⟨vs,by rw[aL<|h rfl];exact e,z⟩
 |tup xs=>obtain⟨vs,e,z⟩:=r;exact⟨vs,by rw[aL<|h rfl];exact e,z⟩
 |aU xs=>
  obtain⟨vs,e,z⟩:=r;refine⟨vs,?_,z⟩;rcases e with⟨a,e⟩|e
  ·refine .inl ⟨a,?_⟩;have m:p≠q:=by rintro rfl;exact d _ _ e
   rw[aL m];exact e
  ·exact .inr e
 |aD xs=>obtain⟨vs,e,z⟩:=r;exact⟨vs,by rw[aL<|h rfl];exact e,z⟩
 |ins c xs=>obtain⟨C,b,k,n,e,z⟩:=r;exact⟨C,b,k,n,by rw[aL<|h rfl];exact e,z⟩
 |di x=>exact r
 |a8 g xs=>obtain⟨o,i,vs,j,l,e,f,z⟩:=r;exact⟨o,i,vs,j,l,by rw[aL<|h rfl];exact e,f,z⟩
 |bR=>exact r
 |b8 c=>obtain⟨C,n,e⟩:=r;exact⟨C,n,by rw[aL<|h rfl];exact e⟩
def RO.none(r:RO K ι H p o)(b:live o=af)(a:H p=ae):False:=by
 cases o with
 |lst xs=>obtain⟨d,e,_⟩:=r;rw[a] at e;cases e
 |tup xs=>obtain⟨d,e,_⟩:=r;rw[a] at e;cases e
 |aU xs=>cases b
 |aD xs=>obtain⟨d,e,_⟩:=r;rw[a] at e;cases e
 |ins c xs=>obtain⟨_,_,_,_,e,_⟩:=r;rw[a] at e;cases e
 |di x=>cases b
 |a8 g xs=>obtain⟨o,f,d,h,_,e,_⟩:=r;rw[a] at e;cases e
 |bR=>cases b
 |b8 c=>obtain⟨C,_,e⟩:=r;rw[a] at e;cases e
def RO.Mh(r:RO K ι H p o)(b:live o=af)(ob)(vs)(a:H p=aa (.aU ob<|.lst vs)):False:=by
 cases o with
 |lst xs=>obtain⟨vs,e,_⟩:=r;rw[a] at e;cases e
 |tup xs=>obtain⟨vs,e,_⟩:=r;rw[a] at e;cases e
 |aU xs=>cases b
 |aD xs=>obtain⟨vs,e,_⟩:=r;rw[a] at e;cases e
 |ins c xs=>obtain⟨_,_,_,_,e,_⟩:=r;rw[a] at e;cases e
 |di x=>cases b
 |a8 g xs=>obtain⟨o,d,vs,f,_,e,_⟩:=r;rw[a] at e;cases e
 |bR=>cases b
 |b8 c=>obtain⟨C,_,e⟩:=r;rw[a] at e;cases e
def RO.apart(r:RO K ι H p o)(a:live o=af):(∀d,H p≠aa (.cS d))/\∀f c,H p≠aa (.aU f<|.own c):=by
 cases o with
 |lst xs=>obtain⟨b,e,_⟩:=r;exact⟨λ_ z=>(by rw[e] at z;cases z),λ_ _ z=>(by rw[e] at z;cases z)⟩
 |tup xs=>obtain⟨b,e,_⟩:=r;exact⟨λ_ z=>(by rw[e] at z;cases z),λ_ _ z=>(by rw[e] at z;cases z)⟩
 |aU xs=>cases a
 |aD xs=>obtain⟨b,e,_⟩:=r;exact⟨λ_ z=>(by rw[e] at z;cases z),λ_ _ z=>(by rw[e] at z;cases z)⟩
 |ins c xs=>obtain⟨_,_,_,_,e,_⟩:=r;exact⟨λ_ z=>(by rw[e] at z;cases z),λ_ _ z=>(by rw[e] at z;cases z)⟩
 |di x=>cases a
 |a8 g xs=>obtain⟨o,h,b,i,_,e,_⟩:=r;exact⟨λ_ z=>(by rw[e] at z;cases z),λ_ _ z=>(by rw[e] at z;cases z)⟩
 |bR=>cases a
 |b8 c=>obtain⟨C,_,e⟩:=r;exact⟨λ_ z=>(by rw[e] at z;cases z),λ_ _ z=>(by rw[e] at z;cases z)⟩
def Rel.new(R:Rel K ι M H){p:Addr}(m:H p=ae){o:VM.O}{u:HO}(D:∀l,ι<+:l->RO K l (upd H p u) p o):Rel K (ι++[p]) (M++[o]) (upd H p u):=by
 have pre:ι<+:ι++[p]:=⟨[p],rfl⟩;have w:∀a q x,ι[a]? =aa q->M[a]? =aa x->RO K (ι++[p]) (upd H p u) q x:=λa q x g f=>by
  have r:=R.obj a q x g f;refine RO.mono pre<|RO.other r (λv=>?_) λE F e=>?_
  ·rintro rfl;exact r.none v m
  ·rw[m] at e;cases e
 have i:∀a x,ι[a]? =aa p->M[a]? =aa x->live x=af->False:=λa x g f v=>by exact(R.obj a p x g f).none v m
 have split:∀a q,(ι++[p])[a]? =aa q->(a<ι.length/\ι[a]? =aa q)\/(a=ι.length/\q=p):=λa q h=>by
  by_cases d:a<ι.length
  ·rw[UU d] at h;exact .inl ⟨d,h⟩
  ·rw[Ve<|VT d] at h;have:a-ι.length=0:=by
    cases C:a-ι.length with
    |zero=>rfl
    |succ k=>rw[C] at h;simp at h
   rw[this] at h;simp at h;exact .inr ⟨by omega,h.symm⟩
 have c:∀a x,(M++[o])[a]? =aa x->(a<ι.length->M[a]? =aa x)/\(a=ι.length->x=o):=λa x h=>by
  refine⟨λd=>?_,λd=>?_⟩
  ·rw[UU (by rw[<-R.len];exact d)] at h;exact h
  ·subst d;rw[R.len] at h;simp at h;exact h.symm
 refine⟨by simp[R.len],λa q x g f=>?_,λa b q s n g f h3 z A B=>?_,R.tb.new m⟩
 ·rcases split a q g with⟨d,g⟩|⟨d,rfl⟩
  ·exact w a q x g<|(c a x f).1 d
  ·rw[(c a x f).2 d];exact D _ pre
 ·rcases split a q g with⟨d,y⟩|⟨d,eq1⟩
  ·rcases split b q f with⟨j,t⟩|⟨j,eq2⟩
   ·exact R.inj a b q s n y t ((c a s h3).1 d) ((c b n z).1 j) A B
   ·rw[eq2] at y;exact(i a s y ((c a s h3).1 d) A).elim
  ·rcases split b q f with⟨j,t⟩|⟨j,_⟩
   ·rw[eq1] at t;exact(i b n t ((c b n z).1 j) B).elim
   ·rw[d,j]
def Rel.ma(R:Rel K ι M H){a:Nat}{p:Addr}{o o':VM.O}{u:HO}(r:ι[a]? =aa p)(k:M[a]? =aa o)(l:live o=af)(P:live o'=af)(N:RO K ι (upd H p u) p o'):Rel K ι (M.set a o') (upd H p u):=by
 have m:a<M.length:=(T6.mp k).1;have n:=R.obj a p _ r k;have f:∀b x,(M.set a o')[b]? =aa x->(b=a/\x=o')\/(b≠a/\M[b]? =aa x):=λb x h=>by
  by_cases j:b=a
  ·subst j;rw[UH m] at h;exact .inl ⟨rfl,(Ua h).symm⟩
  ·rw[Uz<|Uq j] at h;exact .inr ⟨j,h⟩
 have d:∀b x,(M.set a o')[b]? =aa x->live x=af->∃y,M[b]? =aa y/\live y=af:=λb x h F=>by
  rcases f b x h with⟨rfl,rfl⟩|⟨_,h⟩
  ·exact⟨_,k,l⟩
  ·exact⟨x,h,F⟩
 refine⟨by simp[R.len],λb q x g i=>?_,λb c q L E g i h3 t v w=>?_,R.tb.upd (n.apart l).1 (n.apart l).2⟩
 ·rcases f b x i with⟨rfl,rfl⟩|⟨j,i⟩
  ·rw[r] at g;cases g;exact N
  ·refine RO.other (R.obj b q x g i) (λC=>?_) λD s e=>n.Mh l D s e
   rintro rfl;exact j<|R.inj b a q x _ g r i k C l
 ·obtain⟨G,I,J⟩:=d b L h3 v;obtain⟨A,B,z⟩:=d c E t w;exact R.inj b c q G A g i I B J z
def Rel.set(R:Rel K ι M H){a:Nat}{p:Addr}{xs ys:List VM.W}{us:List V}(d:ι[a]? =aa p)(c:M[a]? =aa (.lst xs))(b:bj ι ys us):Rel K ι (M.set a<|.lst ys) (upd H p<|.lst us):=
 R.ma d c rfl rfl ⟨us,bW,b⟩
def Rel.a9(R:Rel K ι M H)(e:VM.a9 M w=aa xs)(r:RV ι w v):∃p vs,v=.ref p/\bg K H p vs/\bj ι xs vs:=by
 cases w with
 |ref a=>
  obtain⟨p,j,rfl⟩:=r;simp only[VM.a9] at e;cases d:M[a]? with
  |none=>rw[d] at e;cases e
  |some o=>
   rw[d] at e;have i:=R.obj a p o j d;cases o with
   |lst b=>cases e;obtain⟨vs,h,f⟩:=i;exact⟨p,vs,rfl,bg.of h,f⟩
   |aU b=>cases e;obtain⟨vs,h,f⟩:=i;exact⟨p,vs,rfl,h.sq,f⟩
   |tup b=>cases e
   |aD b=>cases e
   |ins c b=>cases e
   |di x=>cases e
   |a8 g x=>cases e
   |bR=>cases e
   |b8 c=>cases e
 |aw=>cases e
 |bl _=>cases e
 |int _=>cases e
 |str _=>cases e
def Rel.cu(R:Rel K ι M H)(e:VM.cu M w=aa xs)(r:RV ι w v):∃p vs,v=.ref p/\H p=aa (.tup vs)/\bj ι xs vs:=by
 cases w with
 |ref a=>
  obtain⟨p,j,rfl⟩:=r;simp only[VM.cu] at e;cases d:M[a]? with
  |none=>rw[d] at e;cases e
  |some o=>
   rw[d] at e;have h:=R.obj a p o j d;cases o with
   |tup b=>cases e;obtain⟨vs,i,f⟩:=h;exact⟨p,vs,rfl,i,f⟩
   |aU b=>cases e
   |lst b=>cases e
   |aD b=>cases e
   |ins c b=>cases e
   |di x=>cases e
   |a8 g x=>cases e
   |bR=>cases e
   |b8 c=>cases e
 |aw=>cases e
 |bl _=>cases e
 |int _=>cases e
 |str _=>cases e
def Rel.bD(R:Rel K ι M H)(e:VM.bD M w=aa xs)(r:RV ι w v):∃p vs,v=.ref p/\(bg K H p vs\/dA K H p vs)/\bj ι xs vs:=by
 unfold VM.bD at e;cases h:VM.a9 M w with
 |some d=>rw[h] at e;cases e;obtain⟨p,vs,a,b,c⟩:=R.a9 h r;exact⟨p,vs,a,.inl b,c⟩
 |none=>rw[h] at e;obtain⟨p,vs,a,b,c⟩:=R.cu e r;exact⟨p,vs,a,.inr<|dA.of b,c⟩
def Rel.bG(R:Rel K ι M H)(e:VM.bG M w=aa (a,xs))(r:RV ι w v):∃p vs,w=.ref a/\ι[a]? =aa p/\M[a]? =aa (.lst xs)/\v=.ref p/\H p=aa (.lst vs)/\bj ι xs vs:=by
 cases w with
 |ref b=>
  obtain⟨p,h,rfl⟩:=r;simp only[VM.bG] at e;cases d:M[b]? with
  |none=>rw[d] at e;cases e
  |some o=>
   rw[d] at e;have j:=R.obj b p o h d;cases o with
   |lst f=>cases e;obtain⟨vs,k,i⟩:=j;exact⟨p,vs,rfl,h,d,rfl,k,i⟩
   |aU f=>cases e
   |tup f=>cases e
   |aD f=>cases e
   |ins c f=>cases e
   |di x=>cases e
   |a8 g x=>cases e
   |bR=>cases e
   |b8 c=>cases e
 |aw=>cases e
 |bl _=>cases e
 |int _=>cases e
 |str _=>cases e
end
noncomputable def au(rel:List Addr->α->β->Prop)(K:Fg)(e:List Addr)(r:VM.R α)(Q:β->Hp->Prop):Prop:=match r with
 |.ok a f=>∀c d b,e<+:c->Rel K c f d->rel c a b->Q b d
 |.ex _ _=>False
 |.bad=>False
def au.seq{o:List Addr->α->β->Prop}{m:List Addr->γ->δ->Prop}{r:VM.R α}{f:α->VM.Mem->VM.R γ}{Q:δ->Hp->Prop}{n:β->Hp->Prop}(h:au m K ι (r.bind f) Q)(k:∀g j a M' b,ι<+:g->Rel K g M' j->o g a b->au m K g (f a M') Q->n b j):au o K ι r n:=by
 cases r with
 |ok a M'=>
  intro g j b p R s;refine k g j a M' b p R s ?_;have i:au m K ι (f a M') Q:=h;cases e:f a M' with
  |ok c M2=>rw[e] at i;exactλl u d t R2 q=>i l u d (Ux p t) R2 q
  |ex _ _=>rw[e] at i;exact i.elim
  |bad=>rw[e] at i;exact i.elim
 |ex _ _=>exact(h).elim
 |bad=>exact(h).elim
def au.up{c:List Addr->α->β->Prop}{r:VM.R α}{Q:β->Hp->Prop}(p:ι<+:cb)(h:au c K ι r Q):au c K cb r Q:=by
 cases r with
 |ok a M=>exactλd g b f R2 e=>h d g b (Ux p f) R2 e
 |ex _ _=>exact h
 |bad=>exact h
def au.ok{c:List Addr->α->β->Prop}{a:α}{Q:β->Hp->Prop}{b:β}(h:au c K ι (.ok a M) Q)(R:Rel K ι M H)(r:c ι a b):Q b H:=h ι H b c_ R r
noncomputable def a7(K:Fg)(f:List Addr)(r:VM.RS)(D:Ends):Prop:=match r with
 |.nx c e=>∀a d b,f<+:a->Rel K a e d->bb a c b->D.nx b d
 |.rt w e=>∀a d v,f<+:a->Rel K a e d->RV a w v->D.rt v d
 |.bk c e=>∀a d b,f<+:a->Rel K a e d->bb a c b->D.bk b d
 |.ct c e=>∀a d b,f<+:a->Rel K a e d->bb a c b->D.ct b d
 |.ex _ _=>False
 |.bad=>False
def a7.mono(p:ι<+:cb)(h:a7 K ι r D):a7 K cb r D:=by
 cases r with
 |nx σ M=>exactλa d t c R2 b=>h a d t (Ux p c) R2 b
 |rt w M=>exactλa d t c R2 b=>h a d t (Ux p c) R2 b
 |bk σ M=>exactλa d t c R2 b=>h a d t (Ux p c) R2 b
 |ct σ M=>exactλa d t c R2 b=>h a d t (Ux p c) R2 b
 |ex _ _=>exact h
 |bad=>exact h
def a7.seq{g:List Addr->α->β->Prop}{r:VM.R α}{f:α->VM.Mem->VM.RS}{e:β->Hp->Prop}(h:a7 K ι (r.bK f) D)(k:∀c d a M' b,ι<+:c->Rel K c M' d->g c a b->a7 K c (f a M') D->e b d):au g K ι r e:=by
 cases r with
 |ok a M'=>exactλc d b i R j=>k c d a M' b i R j<|a7.mono i h
 |ex _ _=>exact(h).elim
 |bad=>exact(h).elim
noncomputable def SE(X:Cx)(e:Expr)(m:VM.EM):Prop:=∃d,PE X e d/\∀a M H b c Q,Rel X.K a M H->bb a b c->au RV X.K a (m b M) Q->d c H Q
noncomputable abbrev rB:List Addr->Bool->Bool->Prop:=λ_ a b=>a=b
noncomputable def eZ(X:Cx)(e:Expr)(m:VM.TM):Prop:=∃d,PT X e d/\∀a M H b c Q,Rel X.K a M H->bb a b c->au rB X.K a (m b M) Q->d c H Q
noncomputable def SW(X:Cx)(e:Expr)(m:VM.TM):Prop:=∃d,PW X e d/\∀a M H b c Q,Rel X.K a M H->bb a b c->au rB X.K a (m b M) Q->d c H Q
noncomputable def SA(X:Cx)(e:List Expr)(m:VM.AM):Prop:=∃d,PA X e d/\∀a M H b c Q,Rel X.K a M H->bb a b c->au bj X.K a (m b M) Q->d c H Q
noncomputable def SG(X:Cx)(d:Expr)(m:VM.GM):Prop:=∃g,PG X d g/\∀a M H b c w v Q,Rel X.K a M H->bb a b c->RV a w v->au bb X.K a (m w b M) Q->g v c H Q
noncomputable def sv(X:Cx)(b:List Expr)(c:List VM.GM):Prop:=b.length=c.length/\∃g,pW X b g/\∀a M H d e h f Q,Rel X.K a M H->bb a d e->bj a h f->au bb X.K a (jo c h d M) Q->g f e H Q
noncomputable def SS(X:Cx)(st:Stmt)(m:VM.SM):Prop:=∃t,PS X st t/\∀a M H b c D,Rel X.K a M H->bb a b c->a7 X.K a (m b M) D->t D c H
noncomputable def e9(X:Cx)(st:List Stmt)(m:VM.SM):Prop:=∃t,fy X st t/\∀a M H b c D,Rel X.K a M H->bb a b c->a7 X.K a (m b M) D->t D c H
noncomputable def dD(X:Cx)(f:ah->ah->Sem ah)(m:dB):Prop:=∃r,bO X f r/\∀a M H x y v u Q,Rel X.K a M H->RV a x v->RV a y u->au RV X.K a (m x y M) Q->r v u H Q
noncomputable def SC(X:Cx)(f:ah)(m:VM.CM):Prop:=∃r,f9 X f r/\∀a M H c b Q,Rel X.K a M H->bj a c b->au RV X.K a (m c M) Q->r b H Q
section
variable{X:Cx}
def Km(i)(b:X.N[i]? =aa x:=by rfl)(j:nV X.env.scope x:=by first|exact Or.inl rfl|exact Or.inr (Or.inl rfl)|exact Or.inr<|Or.inr rfl)(c:(x==("__debug__":Str))=ag:=by decide+kernel)(a:(x==("__classdict__":Str))=ag:=by decide+kernel):SE X (.Name x pos) (aj i):=by
 refine⟨wb i,ng b j c a,λk M H g l Q R S h=>?_⟩;unfold aj at h;cases e:g[i]? with
 |none=>rw[e] at h;exact(h).elim
 |some o=>
  cases o with
  |none=>rw[e] at h;exact(h).elim
  |some w=>rw[e] at h;obtain⟨q,d,v,rfl,f⟩:=Paired.at S e;exact⟨v,d,au.ok h R f⟩
def Kn{j pos}:SE X (.Constant (.int i) j pos) (VM.eC<|.int i):=⟨_,Jl,λa M H b c Q R S h=>au.ok h R rfl⟩
def Mi{j pos}:SE X (.Constant (.bool b) j pos) (VM.eC<|.bl b):=⟨_,Ly,λa M H c d Q R S h=>au.ok h R rfl⟩
def Ko{j pos}:SE X (.Constant .none j pos) (VM.eC .aw):=⟨_,Jm,λa M H b c Q R S h=>au.ok h R rfl⟩
def Kp(cs){j pos}(a:x=txt cs:=by first|rfl|decide+kernel):SE X (.Constant (.str x) j pos) (VM.eC<|.str cs):=by subst a;exact⟨_,z7,λb M H c d Q R S h=>au.ok h R rfl⟩
def Kq:SA X [] ao:=⟨_,fi,λa M H b c Q R S h=>au.ok h R .nil⟩
def H8(g:SE X e m)(p:SA X es n)(q:starEach (e::es) X.env=(ag,eval e X.env)::starEach es X.env:=by rfl):SA X (e::es) (ak m n):=by
 obtain⟨C,f,d⟩:=g;obtain⟨E,k,s⟩:=p;refine⟨_,dE f k q,λy M H c b Q R S h=>?_⟩;refine d y M H c b _ R S<|au.seq h λa t x M1 u o l i z=>?_
 refine s a M1 t c b _ l (S.mono o)<|au.seq z λr D B M2 A j R2 v w=>?_
 exact au.ok w R2<|.cons (i.mono j) v
def ow(R:Rel K ι M H)(r:bj ι ws vs)(h:au RV K ι (bu ws M) Q):
 vs.length<=sizeLine/\∀p,H p=ae->Q (.ref p) (upd H p<|.lst vs):=by
 unfold bu at h;by_cases a:ws.length<=VM.lim
 ·rw[T1 a] at h;refine⟨by rw[<-Paired.len r];exact a,λp c=>?_⟩;refine h (ι++[p]) _ _ ⟨[p],rfl⟩ (R.new c λb pre=>⟨vs,bW,r.mono pre⟩) ⟨p,?_,rfl⟩;rw[<-R.len];simp
 ·rw[T2 a] at h;exact(h).elim
def yg(R:Rel K ι M H)(r:bj ι ws vs)(h:au RV K ι (ic ws M) Q):
 vs.length<=sizeLine/\∀p,H p=ae->Q (.ref p) (upd H p<|.tup vs):=by
 unfold ic at h;by_cases a:ws.length<=VM.lim
 ·rw[T1 a] at h;refine⟨by rw[<-Paired.len r];exact a,λp c=>?_⟩;refine h (ι++[p]) _ _ ⟨[p],rfl⟩ (R.new c λb pre=>⟨vs,bW,r.mono pre⟩) ⟨p,?_,rfl⟩;rw[<-R.len];simp
 ·rw[T2 a] at h;exact(h).elim
def Kr{pos}(k:SA X es n):SE X (.List es pos) (aP n):=by obtain⟨l,c,g⟩:=k;refine⟨_,JI c,λi M H j a Q R S h=>?_⟩;exact g i M H j a _ R S<|au.seq h λf o x M1 u m d b e=>ow d b e
def Ks{x1 pos}(k:SA X es n):SE X (.Tuple es x1 pos) (ba n):=by obtain⟨l,c,g⟩:=k;refine⟨_,Ac c,λi M H j a Q R S h=>?_⟩;exact g i M H j a _ R S<|au.seq h λf o x M1 u m d b e=>yg d b e
def Mj{pos}(z:dD X (binaryOp op) f)(k:SE X a m)(l:SE X b n):SE X (.BinOp a op b pos) (aq f m n):=by
 obtain⟨r,A,j⟩:=z;obtain⟨J,q,B⟩:=k;obtain⟨K,s,G⟩:=l;refine⟨_,LJ A q s,λF M H g e Q R S h=>?_⟩;refine B F M H g e _ R S<|au.seq h λc C x M1 u w t o I=>?_
 refine G c M1 C g e _ t (S.mono w)<|au.seq I λd i y M2 v p R2 D E=>?_
 exact j d M2 i x y u v Q R2 (o.mono p) D E
def Kt{pos}(z:dD X (compareOp op) f)(k:SE X a m)(l:SE X b n)(A:behindInMarks op b=ag):SE X (.Compare a [op] [b] pos) (aq f m n):=by
 obtain⟨r,B,j⟩:=z;obtain⟨K,q,C⟩:=k;obtain⟨L,s,I⟩:=l;refine⟨_,zj B q s A,λG M H g e Q R S h=>?_⟩;refine C G M H g e _ R S<|au.seq h λc D x M1 u w t o J=>?_
 refine I c M1 D g e _ t (S.mono w)<|au.seq J λd i y M2 v p R2 E F=>?_
 exact j d M2 i x y u v Q R2 (o.mono p) E F
def Ku{pos}(F:dD X (compareOp op) f)(q:SE X a m)(s:SE X b n)(I:behindInMarks op b=ag):eZ X (.Compare a [op] [b] pos) (VM.tB<|aq f m n):=by
 obtain⟨r,J,o⟩:=F;obtain⟨Y,B,L⟩:=q;obtain⟨Z,C,T⟩:=s;refine⟨_,zk J B C I,λd M H c i Q R S h=>?_⟩;have U:au rB X.K d ((m c M).bind λx M1=>(n c M1).bind λy M2=>(f x y M2).bind λz j=>match z with|.bl b=>.ok b j|_=>.bad) Q:=by
  unfold VM.tB aq at h;revert h;cases m c M with
  |ok x M1=>
   show au rB X.K d (((n c M1).bind λy M2=>f x y M2).bind _) Q->au rB X.K d ((n c M1).bind _) Q;cases n c M1 with
   |ok y M2=>exactλh=>h
   |ex _ _=>exactλh=>h
   |bad=>exactλh=>h
  |ex _ _=>exactλh=>h
  |bad=>exactλh=>h
 refine L d M H c i _ R S<|au.seq U λe N x M1 u E D w V=>?_
 refine T e M1 N c i _ D (S.mono E)<|au.seq V λg l y M2 v A R2 O P=>?_
 refine o g M2 l x y u v _ R2 (w.mono A) O<|au.seq P λG H3 z j t W p k h3=>?_
 cases z with
 |bl b=>cases k;exact⟨b,rfl,au.ok h3 p rfl⟩
 |aw=>exact(h3).elim
 |int _=>exact(h3).elim
 |str _=>exact(h3).elim
 |ref _=>exact(h3).elim
end
section
variable{X:Cx}
def o_{g:Int->Int->V}{m:dB}{gw:Int->Int->VM.W}(h:bO X f<|jA g)(c:∀a i j,RV a (gw i j)<|g i j)(b:∀x y M,(∃i j,x=VM.W.int i/\y=VM.W.int j/\m x y M=.ok (gw i j) M)\/m x y M=.bad):dD X f m:=by
 refine⟨_,h,λa M H x y v u Q R k d q=>?_⟩;rcases b x y M with⟨i,j,rfl,rfl,e⟩|e
 ·rw[e] at q;exact⟨i,j,k,d,au.ok q R<|c a i j⟩
 ·rw[e] at q;exact(q).elim
def Kv:dD X (binaryOp .Sub) nG:=o_ JC (gw:=λi j=>.int<|i-j) (λ_ _ _=>rfl) λx y M=>by cases x<;>cases y<;>first|exact .inl ⟨_,_,rfl,rfl,rfl⟩|exact .inr rfl
def Ml:dD X (compareOp .Lt) VM.oLt:=o_ LP (gw:=λi j=>.bl<|ai<|i<j) (λ_ _ _=>rfl) λx y M=>by cases x<;>cases y<;>first|exact .inl ⟨_,_,rfl,rfl,rfl⟩|exact .inr rfl
def Mm:dD X (compareOp .LtE) VM.oLe:=o_ LQ (gw:=λi j=>.bl<|ai<|i<=j) (λ_ _ _=>rfl) λx y M=>by cases x<;>cases y<;>first|exact .inl ⟨_,_,rfl,rfl,rfl⟩|exact .inr rfl
def Mn:dD X (compareOp .Gt) eL:=o_ LR (gw:=λi j=>.bl<|ai<|j<i) (λ_ _ _=>rfl) λx y M=>by cases x<;>cases y<;>first|exact .inl ⟨_,_,rfl,rfl,rfl⟩|exact .inr rfl
def Mo:dD X (compareOp .GtE) ml:=o_ LU (gw:=λi j=>.bl<|ai<|j<=i) (λ_ _ _=>rfl) λx y M=>by cases x<;>cases y<;>first|exact .inl ⟨_,_,rfl,rfl,rfl⟩|exact .inr rfl
def q_{C:Int->Int->Prop}{g:Int->Int->V}{m:dB}{gw:Int->Int->VM.W}(h:bO X f<|rI C g)(d:∀a i j,RV a (gw i j)<|g i j)(b:∀x y M,(∃i j,x=VM.W.int i/\y=VM.W.int j/\C i j/\m x y M=.ok (gw i j) M)\/m x y M=.bad):dD X f m:=by
 refine⟨_,h,λa M H x y v u Q R l k q=>?_⟩;rcases b x y M with⟨i,j,rfl,rfl,c,e⟩|e
 ·rw[e] at q;exact⟨i,j,l,k,c,au.ok q R<|d a i j⟩
 ·rw[e] at q;exact(q).elim
def Kw:dD X (binaryOp .Mult) bB:=q_ JD (gw:=λi j=>.int<|i*j) (λ_ _ _=>rfl) λx y M=>by
 cases x<;>cases y<;>first
  |exact .inr rfl
  |(rename_i i j
    by_cases c:i.natAbs<hY\/j.natAbs<hY
    ·exact .inl ⟨i,j,rfl,rfl,by unfold rO;unfold hY at c;omega,T1 c⟩
    ·exact .inr (T2 c))
def Kx:dD X (binaryOp .FloorDiv) VM.oDiv:=q_ Hc (gw:=λi j=>.int<|i / j) (λ_ _ _=>rfl) λx y M=>by
 cases x<;>cases y<;>first
  |exact .inr rfl
  |(rename_i i j
    by_cases c:0<j/\j.natAbs<1073741824
    ·exact .inl ⟨i,j,rfl,rfl,by unfold Bb;omega,T1 c⟩
    ·exact .inr (T2 c))
def Ky:dD X (binaryOp .Mod) VM.oMod:=q_ JE (gw:=λi j=>.int<|i % j) (λ_ _ _=>rfl) λx y M=>by
 cases x<;>cases y<;>first
  |exact .inr rfl
  |(rename_i i j
    by_cases c:0<j
    ·exact .inl ⟨i,j,rfl,rfl,c,T1 c⟩
    ·exact .inr (T2 c))
def Kz:dD X (binaryOp .Add) bz:=by
 refine⟨_,bO.or JB JR,λC M H x y v u Q R h g q=>?_⟩;cases x with
 |int i=>
  cases y with
  |int j=>cases h;cases g;exact .inl ⟨i,j,rfl,rfl,au.ok q R rfl⟩
  |_=>exact(q).elim
 |ref a=>
  cases y with
  |ref b=>
   have c:au RV X.K C (match VM.bG M (.ref a),VM.bG M (.ref b) with|some (_,f),aa (_,l)=>bu (f++l) M|_,_=>.bad) Q:=q;cases d:VM.bG M (.ref a) with
   |none=>rw[d] at c;exact(c).elim
   |some s=>
    cases e:VM.bG M (.ref b) with
    |none=>rw[d,e] at c;exact(c).elim
    |some t=>obtain⟨E,f⟩:=s;obtain⟨F,l⟩:=t;rw[d,e] at c;obtain⟨p,w,_,_,_,rfl,D,n⟩:=R.bG d h;obtain⟨o,m,_,_,_,rfl,A,B⟩:=R.bG e g;have r:=Paired.app n B;obtain⟨z,k⟩:=ow R r c;exact .inr ⟨p,o,w,m,rfl,rfl,D,A,by rw[Ur] at z;exact z,k⟩
  |_=>exact(q).elim
 |_=>exact(q).elim
def RV.dQ{x y:VM.W}{v u:V}(c:RV ι x v)(b:RV ι y u)(h:VM.dQ x y=af):L2.dQ v u=af/\ai (v=u)=ai (x=y):=by
 cases x with
 |ref a=>cases y<;>exact absurd h Uk
 |aw=>
  cases c;cases y with
  |ref a=>exact absurd h Uk
  |aw=>cases b;exact⟨rfl,rfl⟩
  |bl j=>cases b;exact⟨rfl,rfl⟩
  |int j=>cases b;exact⟨rfl,rfl⟩
  |str j=>cases b;exact⟨rfl,rfl⟩
 |bl i=>
  cases c;cases y with
  |ref a=>exact absurd h Uk
  |aw=>cases b;exact⟨rfl,rfl⟩
  |bl j=>cases b;exact⟨rfl,by simp⟩
  |int j=>exact absurd h Uk
  |str j=>cases b;exact⟨rfl,rfl⟩
 |int i=>
  cases c;cases y with
  |ref a=>exact absurd h Uk
  |aw=>cases b;exact⟨rfl,rfl⟩
  |bl j=>exact absurd h Uk
  |int j=>cases b;exact⟨rfl,by simp⟩
  |str j=>cases b;exact⟨rfl,rfl⟩
 |str i=>
  cases c;cases y with
  |ref a=>exact absurd h Uk
  |aw=>cases b;exact⟨rfl,rfl⟩
  |bl j=>cases b;exact⟨rfl,rfl⟩
  |int j=>cases b;exact⟨rfl,rfl⟩
  |str j=>
   cases b;refine⟨rfl,?_⟩;by_cases e:i=j
   ·subst e;simp
   ·have d:¬(V.str (txt i)=V.str (txt j)):=λz=>e (q9<|by injection z)
    have f:¬(VM.W.str i=VM.W.str j):=λz=>e<|by injection z
    rw[Ut d,Ut f]
def RV.flat{x:VM.W}{v:V}(r:RV ι x v)(h:VM.flat x=af):dF v=af:=by cases x<;>first|exact absurd h Uk|(cases r;rfl)
def H9(i j):(txt i==txt j)=(i==j):=by
 by_cases e:i=j
 ·subst e;simp
 ·have h:=λz=>e (q9 z)
  rw[Va.mpr h,Va.mpr e]
def RV.fA{x y:VM.W}{v u:V}(c:RV ι x v)(d:RV ι y u)(a:VM.flat x=af)(b:VM.flat y=af):dh v u=VM.fA x y:=by
 cases x<;>cases y<;>first
  |exact absurd a Uk
  |exact absurd b Uk
  |(cases c;cases d;first|rfl|exact H9 _ _)
theorem bj.flat:∀{xs:List VM.W} {vs:List V},bj ι xs vs->xs.all VM.flat=af->vs.all dF=af
 |_,_,.nil,_=>rfl
 |_,_,.cons r t,h=>by rw[Vf,T_] at h⊢;exact⟨r.flat h.1,bj.flat t h.2⟩
noncomputable def gf:List V->List V->Bool
 |[],[]=>af
 |x::xs,y::a=>dh x y&&gf xs a
 |_,_=>ag
theorem bj.gd:∀{xs ys:List VM.W} {vs us:List V},bj ι xs vs->bj ι ys us->xs.all VM.flat=af->ys.all VM.flat=af->gf vs us=VM.gd xs ys
 |_,_,_,_,.nil,.nil,_,_=>rfl
 |_,_,_,_,.nil,.cons _ _,_,_=>rfl
 |_,_,_,_,.cons _ _,.nil,_,_=>rfl
 |_,_,_,_,.cons r t,.cons b c,h,a=>by rw[Vf,T_] at h a;show(dh _ _&&gf _ _)=(VM.fA _ _&&VM.gd _ _);rw[RV.fA r b h.1 a.1,bj.gd t c h.2 a.2]
theorem qu:∀{vs us:List V},vs.length=us.length->((List.range vs.length).all λj=>dh (vs.getD j .aw)<|us.getD j .aw)=gf vs us
 |[],[],_=>rfl
 |[],_::_,h=>by simp at h
 |_::_,[],h=>by simp at h
 |x::xs,y::a,h=>by
  have b:=@qu xs a<|by simpa using h
  rw[UE,List.range_succ_eq_map,Vf,List.all_map];show(dh x y&&_)=(dh x y&&gf xs a);rw[<-b];rfl
noncomputable def wx(K:Fg)(neg:Bool):R2:=λx y H Q=>∃p q a b,x=.ref p/\y=.ref q/\bg K H p a/\bg K H q b/\ ((a.length≠b.length/\Q (.bl<|if neg then af else ag) H)\/(a.length=b.length/\a.all dF=af/\b.all dF=af/\Q (.bl<|if neg then !gf a b else gf a b) H))
def mO{a:List ah}(r:Vals xs a){j:Nat}(h):RelV (xs.getD j .aw) a[j]:=by
 have c:j<xs.length:=by rw[r.length];exact h
 obtain⟨u,b,e⟩:=r.get (i:=j) (x:=xs[j])<|by simp[c]
 have d:=by rw[VW h] at b;exact Ua b
 have f:xs.getD j .aw=xs[j]:=by simp[c]
 rw[d,f];exact e
def mY{xs:List V}{j:Nat}(h:xs.all dF=af)(a:j<xs.length):dF (xs.getD j .aw)=af:=by
 have b:xs.getD j .aw=xs[j]:=by simp[a]
 rw[b];exact UO.mp h _<|VG a
def Dp(o:X.A.units<cLine):bO X (compareOp .Eq) (wx X.K ag):=by
 intro l s M H x y v u Q I F D h;obtain⟨p,q,k,w,rfl,rfl,i,g,z⟩:=h;cases F;cases D;obtain⟨b,r,n,L⟩:=I.list i;obtain⟨a,t,c,G⟩:=I.list g;have B:=r.length;have J:=t.length;rcases z with⟨m,q⟩|⟨m,f1,f2,q⟩
 ·exact SeqAt.eq_list_lengthsAt n.isList c.isList (by simp only[Uh,bne_iff_ne];omega) o ⟨.bl ag,H,I,rfl,q⟩
 ·refine SeqAt.eq_listAt (e:=λj=>dh (k.getD j .aw)<|w.getD j .aw) n.isList c.isList (by simp only[Uh];omega) o (λj i g=>?_) ⟨.bl<|gf k w,H,I,?_,q⟩
  ·have f:=by simpa using i
   have d:=by simpa using g
   have E:b.toArray[j]=b[j]:=by simp
   have C:a.toArray[j]=a[j]:=by simp
   rw[E,C];exact rg (mO r f) (mO t d) (mY f1<|by omega)<|mY f2<|by omega
  ·show Value.bool _=Value.bool _;rw[Uh,<-B,qu m]
def Dq(o:X.A.units<cLine):bO X (compareOp .NotEq) (wx X.K af):=by
 intro l s M H x y v u Q I F D h;obtain⟨p,q,k,w,rfl,rfl,i,g,z⟩:=h;cases F;cases D;obtain⟨b,r,n,L⟩:=I.list i;obtain⟨a,t,c,G⟩:=I.list g;have B:=r.length;have J:=t.length;rcases z with⟨m,q⟩|⟨m,f1,f2,q⟩
 ·exact SeqAt.RcNeAt.lists_lengths n.isList c.isList (by simp only[Uh,bne_iff_ne];omega) o _ _ _ _ ⟨.bl af,H,I,rfl,q⟩
 ·refine SeqAt.RcNeAt.lists (e:=λj=>dh (k.getD j .aw)<|w.getD j .aw) n.isList c.isList (by simp only[Uh];omega) o (λj i g=>?_) _ _ _ _ ⟨.bl<|!gf k w,H,I,?_,q⟩
  ·have f:=by simpa using i
   have d:=by simpa using g
   have E:b.toArray[j]=b[j]:=by simp
   have C:a.toArray[j]=a[j]:=by simp
   rw[E,C];exact rg (mO r f) (mO t d) (mY f1<|by omega)<|mY f2<|by omega
  ·show Value.bool _=Value.bool _;rw[Uh,<-B,qu m]
theorem yW:∀{vs us:List V},vs.length≠us.length->gf vs us=ag
 |[],[],h=>absurd rfl h
 |[],_::_,_=>rfl
 |_::_,[],_=>rfl
 |x::xs,y::a,h=>by show(dh x y&&gf xs a)=ag;rw[yW<|by simpa using h,Vo]
noncomputable def rR(K:Fg)(neg:Bool):R2:=λx y H Q=>∃p q a c b,x=.ref p/\y=.ref q/\H p=aa (.tup a)/\H q=aa (.tup c)/\ ((a.all dF=af/\c.all dF=af/\b=gf a c)\/((a.length=0\/c.length=0)/\b=ai (a.length=c.length)))/\Q (.bl<|if neg then !b else b) H
def Inv.tupI{σ:L2.St}{H:Hp}{s:Shared}{p:Addr}{xs:List V}(I:Inv X pins σ H s)(h:H p=aa (.tup xs)):∃a:List ah,Vals xs a/\s.heap.IsTuple p a.toArray:=by obtain⟨_,a,r,o,c,b,h3⟩:=I.aF p _ h;exact⟨a,r,o,c,b,h3⟩
def yX{pins:List (Addr×Obj)}{σ:L2.St}{H:Hp}{s:Shared}{A:Around}{xs ys:List V}{c a:List ah}{b:Bool}(r:Vals xs c)(l:Vals ys a)(i:(xs.all dF=af/\ys.all dF=af/\b=gf xs ys)\/((xs.length=0\/ys.length=0)/\b=ai (xs.length=ys.length))): (∀j (m) (k:j<a.toArray.size),SeqAt.EqAt A s c.toArray[j] a.toArray[j]<|dh (xs.getD j .aw)<|ys.getD j .aw)/\ ((List.range<|min c.toArray.size a.toArray.size).all (λj=>dh (xs.getD j .aw)<|ys.getD j .aw)&&c.toArray.size==a.toArray.size)=b:=by
 have t:=r.length;have u:=l.length;refine⟨λj m k=>?_,?_⟩
 ·have e:=by simpa using m
  have f:=by simpa using k
  have p:c.toArray[j]=c[j]:=by simp
  have o:a.toArray[j]=a[j]:=by simp
  rw[p,o];rcases i with⟨g,h,q⟩|⟨d,q⟩
  ·exact rg (mO r e) (mO l f) (mY g<|by omega)<|mY h<|by omega
  ·omega
 ·rw[Uh,Uh,<-t,<-u];rcases i with⟨g,h,q⟩|⟨d,q⟩
  ·by_cases d:xs.length=ys.length
   ·rw[<-d,Nat.min_self,qu d,V0,We,q]
   ·rw[Va.mpr d,Vo,q,yW d]
  ·have n:min xs.length ys.length=0:=by omega
   rw[n,q];show(af&&_)=_;rw[VJ];by_cases d:xs.length=ys.length
   ·rw[UA d,d,V0]
   ·rw[Ut d,Va.mpr d]
def Eo(m:X.A.units<cLine):bO X (compareOp .Eq) (rR X.K ag):=by intro a s e H x y v u Q I w g h;obtain⟨p,q,z,B,b,rfl,rfl,l,n,f,q⟩:=h;cases w;cases g;obtain⟨j,r,k⟩:=Inv.tupI I l;obtain⟨d,o,c⟩:=Inv.tupI I n;obtain⟨t,i⟩:=yX (pins:=a) (σ:=e) (H:=H) r o f;refine SeqAt.eq_tupleAt k c m t ?_;rw[i];exact⟨.bl b,H,I,rfl,q⟩
def Ep(m:X.A.units<cLine):bO X (compareOp .NotEq) (rR X.K af):=by intro a s e H x y v u Q I w g h;obtain⟨p,q,z,B,b,rfl,rfl,l,n,f,q⟩:=h;cases w;cases g;obtain⟨j,r,k⟩:=Inv.tupI I l;obtain⟨d,o,c⟩:=Inv.tupI I n;obtain⟨t,i⟩:=yX (pins:=a) (σ:=e) (H:=H) r o f;refine SeqAt.RcNeAt.tuples k c m t _ _ _ _ ?_;rw[i];exact⟨.bl<|!b,H,I,rfl,q⟩
def yY{M:VM.Mem}{H:Hp}{x y:VM.W}{v u:V}{b:Bool}{neg:Bool}{Q:VK}(R:Rel X.K ι M H)(t:RV ι x v)(s:RV ι y u)(e:dU M x y=aa b)(q:Q (.bl<|if neg then !b else b) H): ((if neg then L2.Bv v u H Q else L2.Bu v u H Q)\/wx X.K neg v u H Q)\/rR X.K neg v u H Q:=by
 unfold dU at e;by_cases w:VM.dQ x y=af
 ·rw[T1 w] at e;obtain⟨D,E⟩:=RV.dQ t s w;have a:=Ua e;refine .inl<|.inl ?_;cases neg with
  |true=>exact⟨D,by rw[E,a];exact q⟩
  |false=>exact⟨D,by rw[E,a];exact q⟩
 ·rw[T2 w] at e;have c:(match VM.cu M x,VM.cu M y with|some xs,aa f=>AW xs f|_,_=>ae)=aa b->rR X.K neg v u H Q:=λe=>by
   cases g:VM.cu M x with
   |none=>rw[g] at e;cases e
   |some xs=>
    cases h:VM.cu M y with
    |none=>rw[g,h] at e;cases e
    |some f=>
     rw[g,h] at e;obtain⟨p,n,rfl,r,j⟩:=R.cu g t;obtain⟨m,l,rfl,o,k⟩:=R.cu h s;have z:=Paired.len j;have A:=Paired.len k;have a:(if(xs.all VM.flat&&f.all VM.flat)=af then aa (VM.gd xs f) else if xs.length=0\/f.length=0 then aa (ai<|xs.length=f.length) else ae)=aa b:=e;refine⟨p,m,n,l,b,rfl,rfl,r,o,?_,q⟩;by_cases d:(xs.all VM.flat&&f.all VM.flat)=af
     ·rw[T1 d] at a;rw[T_] at d;have i:=Ua a;exact .inl ⟨bj.flat j d.1,bj.flat k d.2,by rw[bj.gd j k d.1 d.2,i]⟩
     ·rw[T2 d] at a;by_cases B:xs.length=0\/f.length=0
      ·rw[T1 B] at a;have i:=Ua a;exact .inr ⟨by omega,by rw[<-i,z,A]⟩
      ·rw[T2 B] at a;cases a
  cases g:VM.a9 M x with
  |none=>rw[g] at e;exact .inr<|c e
  |some xs=>
   cases h:VM.a9 M y with
   |none=>rw[g,h] at e;exact .inr<|c e
   |some f=>
    refine .inl<|.inr ?_;rw[g,h] at e;obtain⟨p,n,rfl,r,j⟩:=R.a9 g t;obtain⟨m,l,rfl,o,k⟩:=R.a9 h s;have z:=Paired.len j;have A:=Paired.len k;have a:(if xs.length≠f.length then aa ag else if(xs.all VM.flat&&f.all VM.flat)=af then aa (VM.gd xs f) else ae)=aa b:=e;by_cases C:xs.length≠f.length
    ·rw[T1 C] at a;have i:=Ua a;subst i;refine⟨p,m,n,l,rfl,rfl,r,o,.inl ⟨by omega,?_⟩⟩;cases neg<;>exact q
    ·rw[T2 C] at a;by_cases d:(xs.all VM.flat&&f.all VM.flat)=af
     ·rw[T1 d] at a;rw[T_] at d;have i:=Ua a;refine⟨p,m,n,l,rfl,rfl,r,o,.inr ⟨by omega,bj.flat j d.1,bj.flat k d.2,?_⟩⟩;rw[bj.gd j k d.1 d.2,i];exact q
     ·rw[T2 d] at a;cases a
def Er(d:X.A.units<cLine):bO X (compareOp .Eq) (λx y H Q=>∃p xs,x=.aw/\y=.ref p/\bg X.K H p xs/\Q (.bl ag) H):=by intro a s j H x y v u Q I f e h;obtain⟨p,xs,rfl,rfl,b,q⟩:=h;cases f;cases e;obtain⟨c,r,g,i⟩:=I.list b;exact SeqAt.RcAt.none_list g.isList d _ _ _ _ ⟨.bl ag,H,I,rfl,q⟩
def Mp(d:X.A.units<cLine):dD X (compareOp .Eq) VM.oEq:=by
 refine⟨_,bO.or (bO.or (bO.or LM<|Dp d)<|Eo d)<|Er d,λk M H x y v u Q R h g q=>?_⟩;unfold VM.oEq at q;cases e:dU M x y with
 |none=>
  rw[e] at q;have c:=q;by_cases a:pO M x y=af
  ·rw[T1 a] at c;unfold pO at a;rw[T_] at a;cases x with
   |aw=>
    cases f:VM.a9 M y with
    |none=>rw[f] at a;cases a.2
    |some l=>obtain⟨p,i,rfl,j,_⟩:=R.a9 f g;cases h;exact .inr ⟨p,i,rfl,rfl,j,au.ok c R rfl⟩
   |bl _=>cases a.1
   |int _=>cases a.1
   |str _=>cases a.1
   |ref _=>cases a.1
  ·rw[T2 a] at c;exact(c).elim
 |some b=>rw[e] at q;exact .inl<|yY (neg:=ag) R h g e<|au.ok q R rfl
def Mq(a:X.A.units<cLine):dD X (compareOp .NotEq) bE:=by
 refine⟨_,bO.or (bO.or LN<|Dq a)<|Ep a,λf M H x y v u Q R d c q=>?_⟩;unfold bE at q;cases e:dU M x y with
 |none=>rw[e] at q;exact(q).elim
 |some b=>rw[e] at q;exact yY (neg:=af) R d c e<|au.ok q R rfl
theorem vF{x:VM.W}{v:V}(b:RV ι x v)(a:VM.flat x=af):∀{xs:List VM.W} {vs:List V},bj ι xs vs->xs.all VM.flat=af->r_ v vs=kO x xs
 |_,_,.nil,_=>rfl
 |_,_,.cons r t,h=>by rw[Vf,T_] at h;have c:=vF b a t h.2;show(dh _ v||r_ v _)=(VM.fA _ x||kO x _);rw[RV.fA r b h.1 a,c]
def Mr:dD X (compareOp .In) ik:=by
 refine⟨_,DS,λf M H x y v u Q R d g q=>?_⟩;unfold ik at q;cases e:VM.bD M y with
 |none=>rw[e] at q;exact(q).elim
 |some xs=>
  rw[e] at q;have b:au RV X.K f (if(VM.flat x&&xs.all VM.flat)=af then .ok (.bl<|kO x xs) M else .bad) Q:=q;by_cases a:(VM.flat x&&xs.all VM.flat)=af
  ·rw[T1 a] at b;rw[T_] at a;obtain⟨p,h,rfl,i,c⟩:=R.bD e g;refine⟨p,h,rfl,i,d.flat a.1,bj.flat c a.2,?_⟩;rw[vF d a.1 c a.2];exact au.ok b R rfl
  ·rw[T2 a] at b;exact(b).elim
def F9:dD X (compareOp .NotIn) o4:=by
 refine⟨_,Cq,λf M H x y v u Q R d g q=>?_⟩;unfold o4 at q;cases e:VM.bD M y with
 |none=>rw[e] at q;exact(q).elim
 |some xs=>
  rw[e] at q;have b:au RV X.K f (if(VM.flat x&&xs.all VM.flat)=af then .ok (.bl<|!kO x xs) M else .bad) Q:=q;by_cases a:(VM.flat x&&xs.all VM.flat)=af
  ·rw[T1 a] at b;rw[T_] at a;obtain⟨p,h,rfl,i,c⟩:=R.bD e g;refine⟨p,h,rfl,i,d.flat a.1,bj.flat c a.2,?_⟩;rw[vF d a.1 c a.2];exact au.ok b R rfl
  ·rw[T2 a] at b;exact(b).elim
def H_{xs:List VM.W}{vs:List V}(r:bj ι xs vs){i:Int}{w:VM.W}(e:VM.cH xs i=aa w):∃v,L2.cH vs i=aa v/\RV ι w v:=by
 have b:=Paired.len r;unfold VM.cH at e;unfold L2.cH;have c:L2.ck vs.length i=VM.ck xs.length i:=by rw[<-b];rfl
 rw[c];cases h:VM.ck xs.length i with
 |none=>rw[h] at e;cases e
 |some j=>rw[h] at e;obtain⟨v,d,a⟩:=Paired.at r<|e;exact⟨v,d,a⟩
def Ms{m n:VM.EM}{pos}(A:SE X a m)(B:SE X b n)(J:zo b:=by intro _ _;rfl):SE X (.Subscript a b pos) (aq aA m n):=by
 obtain⟨Y,E,N⟩:=A;obtain⟨Z,F,U⟩:=B;refine⟨_,L4 (zp.or Ad) E F J,λT M H t o Q R S h=>?_⟩;refine N T M H t o _ R S<|au.seq h λk O x M1 u I G C L=>?_
 refine U k M1 O t o _ G (S.mono I)<|au.seq L λf W y M2 v D R2 P s=>?_
 have V:=C.mono D;cases y with
 |int i=>
  cases P;have g:au RV X.K f (match VM.bD M2 x with|some xs=>(match VM.cH xs i with|some v=>VM.R.ok v M2|none=>.bad)|none=>.bad) Q:=s;cases e:VM.bD M2 x with
  |none=>rw[e] at g;exact(g).elim
  |some xs=>
   rw[e] at g;have d:au RV X.K f (match VM.cH xs i with|some v=>VM.R.ok v M2|none=>.bad) Q:=g;cases j:VM.cH xs i with
   |none=>rw[j] at d;exact(d).elim
   |some w=>
    rw[j] at d;obtain⟨p,r,rfl,c,z⟩:=R2.bD e V;obtain⟨v,q,l⟩:=H_ z j;rcases c with c|c
    ·exact .inl ⟨p,r,i,v,rfl,rfl,c,q,au.ok d R2 l⟩
    ·exact .inr ⟨p,r,i,v,rfl,rfl,c,q,au.ok d R2 l⟩
 |_=>cases x<;>exact(s).elim
noncomputable def SO(X:Cx)(e:Option Expr)(m:VM.PM):Prop:=∃t,PO X e t/\∀c M H d f Q,Rel X.K c M H->bb c d f->au (λ_ (a b)=>a=b) X.K c (m d M) Q->t f H Q
def Ia:SO X ae pq:=⟨_,Hi,λa M H b c Q R S h=>au.ok h R rfl⟩
def Ic{m:VM.EM}(n:SE X e m):SO X (aa e) (iL m):=by
 obtain⟨o,d,j⟩:=n;refine⟨_,Hj d,λk M H l b Q R S h=>?_⟩;refine j k M H l b _ R S<|au.seq h λg q x M1 u p f c a=>?_
 cases x with
 |int i=>cases c;exact⟨i,rfl,au.ok a f rfl⟩
 |_=>exact(a).elim
def zU{xs:List VM.W}{vs:List V}(r:bj ι xs vs)(lo hi):bj ι (VM.cut xs lo hi) (kE vs lo hi):=by
 have a:=Paired.len r;unfold VM.cut kE;have e:∀n d o,HT.a_ n d o=VM.a_ n d o:=λn d o=>by cases o<;>rfl
 rw[e,e,<-a];exact Paired.rH _<|Paired.vQ _ r
def Mt{lo I:Option Expr}{m:VM.EM}{l h:VM.PM}{j pos}(ha:SE X a m)(y:SO X lo l)(hh:SO X I h):SE X (.Subscript a (.Slice lo I ae j) pos) (kP m l h):=by
 obtain⟨ta,Y,ka⟩:=ha;obtain⟨tl,pl,T⟩:=y;obtain⟨th,ph,P⟩:=hh;refine⟨_,Fe (kK.or Hk JL) Y pl ph,λι M H E w Q R S q=>?_⟩;refine ka ι M H E w _ R S<|au.seq q λB H1 x M1 u J Z W h1=>?_
 refine T B M1 H1 E w _ Z (S.mono J)<|au.seq h1 λD U b M2 G j R2 r2 h2=>?_
 refine P D M2 U E w _ R2 (S.mono<|Ux J j)<|au.seq h2 λg H3 c f N V i O h3=>?_
 cases r2;cases O;have L:=(W.mono j).mono V;have k:au RV X.K g (match VM.a9 f x with|some xs=>bu (VM.cut xs b c) f|none=>(match VM.cu f x with|some xs=>(if VM.a_ xs.length 0 b=0/\VM.a_ xs.length xs.length c=xs.length then .bad else ic (VM.cut xs b c) f)|none=>.bad)) Q:=h3;cases e:VM.a9 f x with
 |some xs=>rw[e] at k;obtain⟨p,A,rfl,z,r⟩:=i.a9 e L;exact .inl ⟨p,A,rfl,z,(ow i (zU r b c) k).2⟩
 |none=>
  rw[e] at k;have s:=k;cases v:VM.cu f x with
  |none=>rw[v] at s;exact(s).elim
  |some xs=>
   rw[v] at s;obtain⟨p,A,rfl,z,r⟩:=i.cu v L;have t:au RV X.K g (if VM.a_ xs.length 0 b=0/\VM.a_ xs.length xs.length c=xs.length then .bad else ic (VM.cut xs b c) f) Q:=s;by_cases C:VM.a_ xs.length 0 b=0/\VM.a_ xs.length xs.length c=xs.length
   ·rw[T1 C] at t;exact(t).elim
   ·rw[T2 C] at t;have y:=Paired.len r;refine .inr ⟨p,A,rfl,dA.of z,?_,(yg i (zU r b c) t).2⟩;have F:∀n d o,HT.a_ n d o=VM.a_ n d o:=λn d o=>by cases o<;>rfl
    rw[F,F,<-y];exact C
end
section
variable{X:Cx}
def RV.iJ(r:RV ι x v):ai (v=.aw)=VM.iJ x:=by
 cases x with
 |ref a=>obtain⟨p,_,rfl⟩:=r;rfl
 |aw=>cases r;rfl
 |bl _=>cases r;rfl
 |int _=>cases r;rfl
 |str _=>cases r;rfl
def vi(g:∀a M H σ c Q,Rel X.K a M H->bb a σ c->au RV X.K a (m σ M) Q->ta c H Q)(R:Rel X.K a M H)(S:bb a σ c)(h:au rB X.K a (VM.tB m σ M) Q):L2.tB ta c H Q:=by
 refine g a M H σ c _ R S<|au.seq h λf k x M1 u j e i d=>?_
 cases x with
 |bl b=>cases i;exact⟨b,rfl,au.ok d e rfl⟩
 |_=>exact(d).elim
def KA{j p pos}(n:SE X a m):eZ X (.Compare a [.Is] [.Constant .none j p] pos) (VM.tB<|kF m):=by
 obtain⟨o,f,l⟩:=n;refine⟨_,z8<|Jn f,λc M H d b Q R S h=>vi (λc M H d b Q R S h=>?_) R S h⟩;refine l c M H d b _ R S<|au.seq h λk r x M1 u q g e i=>?_
 rw[e.iJ];exact au.ok i g rfl
def Ie{j p pos}(n:SE X a m):eZ X (.Compare a [.IsNot] [.Constant .none j p] pos) (VM.tB<|iK m):=by
 obtain⟨o,f,l⟩:=n;refine⟨_,z8<|G_ f,λc M H d b Q R S h=>vi (λc M H d b Q R S h=>?_) R S h⟩;refine l c M H d b _ R S<|au.seq h λk r x M1 u q g e i=>?_
 rw[e.iJ];exact au.ok i g rfl
def KC{e:Expr}{m:VM.EM}(f:SE X e m)(c:∀a,isTrue e X.env a=(do let v<-a;standAt e.pos;holding [v] (truthy v)):=by intro _;rfl):eZ X e (VM.tB m):=by obtain⟨k,d,b⟩:=f;exact⟨_,Jo d c,λg M H j i Q R S h=>vi b R S h⟩
def Ig{pos}(d:eZ X a m):SW X (.BoolOp .And [a] pos) m:=by obtain⟨e,b,c⟩:=d;exact⟨_,G' b,c⟩
def KD{pos}(d:eZ X a m):SW X (.BoolOp .Or [a] pos) m:=by obtain⟨e,b,c⟩:=d;exact⟨_,Jp b,c⟩
def KG{rest:List Expr}{pos}(t:eZ X a m)(i:SW X (.BoolOp .And (b::rest) pos) n):SW X (.BoolOp .And (a::b::rest) pos) (VM.nE m n):=by
 obtain⟨v,k,p⟩:=t;obtain⟨w,l,s⟩:=i;refine⟨_,Jq k l,λr M H g d Q R S h=>?_⟩;refine p r M H g d _ R S<|au.seq h λc q x M1 u o e j f=>?_
 cases j;cases x with
 |true=>exact s c M1 q g d Q e (S.mono o) f
 |false=>exact au.ok f e rfl
def Mu{rest:List Expr}{pos}(t:eZ X a m)(i:SW X (.BoolOp .Or (b::rest) pos) n):SW X (.BoolOp .Or (a::b::rest) pos) (VM.cW m n):=by
 obtain⟨v,k,p⟩:=t;obtain⟨w,l,s⟩:=i;refine⟨_,LA k l,λr M H g d Q R S h=>?_⟩;refine p r M H g d _ R S<|au.seq h λc q x M1 u o e j f=>?_
 cases j;cases x with
 |true=>exact au.ok f e rfl
 |false=>exact s c M1 q g d Q e (S.mono o) f
def Ih(h:SW X e m):eZ X e m:=by obtain⟨t,p,k⟩:=h;exact⟨t,p.pt,k⟩
def KH{pos}(l:eZ X a m):eZ X (.UnaryOp .Not a pos) (VM.cz m):=by
 obtain⟨n,d,i⟩:=l;refine⟨_,Jr d,λj M H k b Q R S h=>?_⟩;refine i j M H k b _ R S<|au.seq h λg p x M1 u o e c f=>?_
 cases c;exact au.ok f e rfl
def KI{op}{pos}(d:SE X a m):SE X (.BoolOp op [a] pos) m:=by obtain⟨e,b,c⟩:=d;exact⟨_,Js b,c⟩
def KJ{rest:List Expr}{pos}(v:SE X a m)(j:SE X (.BoolOp .And (b::rest) pos) n):SE X (.BoolOp .And (a::b::rest) pos) (eG m n):=by
 obtain⟨w,l,q⟩:=v;obtain⟨y,o,t⟩:=j;refine⟨_,Jt l o,λs M H i f Q R S h=>?_⟩;refine q s M H i f _ R S<|au.seq h λe r x M1 u p g k d=>?_
 cases x with
 |bl c=>
  cases k;refine⟨c,rfl,?_⟩;cases c with
  |true=>rw[T1 rfl];exact t e M1 r i f Q g (S.mono p) d
  |false=>rw[T2 Uk];exact au.ok d g rfl
 |_=>exact(d).elim
def Mv{rest:List Expr}{pos}(v:SE X a m)(j:SE X (.BoolOp .Or (b::rest) pos) n):SE X (.BoolOp .Or (a::b::rest) pos) (nY m n):=by
 obtain⟨w,l,q⟩:=v;obtain⟨y,o,t⟩:=j;refine⟨_,LD l o,λs M H i f Q R S h=>?_⟩;refine q s M H i f _ R S<|au.seq h λe r x M1 u p g k d=>?_
 cases x with
 |bl c=>
  cases k;refine⟨c,rfl,?_⟩;cases c with
  |true=>rw[T1 rfl];exact au.ok d g rfl
  |false=>rw[T2 Uk];exact t e M1 r i f Q g (S.mono p) d
 |_=>exact(d).elim
def KL{pos}(n:SE X a m):SE X (.UnaryOp .Not a pos) (wo m):=by
 obtain⟨o,f,j⟩:=n;refine⟨_,Ju f,λk M H l d Q R S h=>?_⟩;refine j k M H l d _ R S<|au.seq h λi q x M1 u p g e b=>?_
 cases x with
 |bl c=>cases e;exact⟨c,rfl,au.ok b g rfl⟩
 |_=>exact(b).elim
def KN:SC X (.builtin "len") bP:=by
 refine⟨_,xp,λc M H g i Q R r h=>?_⟩;cases r with
 |nil=>exact(h).elim
 |cons d t=>
  cases t with
  |cons _ _=>exact(h).elim
  |nil=>
   rename_i x v
   have q:au RV X.K c (match VM.bD M x with|some xs=>VM.R.ok (.int xs.length) M|none=>.bad) Q:=h;cases e:VM.bD M x with
   |none=>rw[e] at q;exact(q).elim
   |some xs=>rw[e] at q;obtain⟨p,a,rfl,f,b⟩:=R.bD e d;exact⟨p,a,rfl,f,by rw[<-Paired.len b];exact au.ok q R rfl⟩
def Ii:SC X (.type "list") hZ:=by
 refine⟨_,Cr,λc M H g i Q R r h=>?_⟩;cases r with
 |nil=>exact(h).elim
 |cons d t=>
  cases t with
  |cons _ _=>exact(h).elim
  |nil=>
   rename_i x v
   have q:au RV X.K c (match VM.bD M x with|some xs=>bu xs M|none=>.bad) Q:=h;cases e:VM.bD M x with
   |none=>rw[e] at q;exact(q).elim
   |some xs=>rw[e] at q;obtain⟨p,a,rfl,f,b⟩:=R.bD e d;exact⟨p,a,rfl,f,(ow R b q).2⟩
def KO:SC X (.type "int") gF:=by
 refine⟨_,DO,λc M H e d Q R r h=>?_⟩;cases r with
 |nil=>exact(h).elim
 |cons a t=>
  cases t with
  |cons _ _=>rename_i x _ _ _ _ _ _ _;cases x<;>exact(h).elim
  |nil=>
   rename_i x v
   cases x with
   |int i=>cases a;exact .inl ⟨i,rfl,au.ok h R rfl⟩
   |bl b=>cases a;exact .inr ⟨b,rfl,au.ok h R rfl⟩
   |_=>exact(h).elim
def yZ{g:String}(i:SC X (.builtin g) f)(v:X.mg x=ae)(j:SA X (e::es) a)(B:Gl X x:=by rfl)(t:bootBuiltins x=aa (.builtin g):=by rfl)(n:x≠"__name__":=by decide+kernel)(d:(x==("__debug__":Str))=ag:=by decide+kernel)(he:starEach (e::es) X.env=(ag,eval e X.env)::starEach es X.env:=by rfl)(b:(backTo pos<|starEach es X.env).any (·.1)=ag:=by rfl):SE X (.Call (.Name x p) (e::es) [] pos) (ax f a):=by obtain⟨r,l,o⟩:=i;obtain⟨D,q,w⟩:=j;refine⟨_,mP l B v t q n d he b,λz M H A k Q R S h=>?_⟩;exact w z M H A k _ R S<|au.seq h λc y x M1 u E s m C=>o c M1 y x u Q s m C
def yh(g:SC X (.type T) f)(t:X.mg x=ae)(i:SA X (e::es) a)(A:Gl X x:=by rfl)(s:bootBuiltins x=aa (.type T):=by rfl)(m:x≠"__name__":=by decide+kernel)(d:(x==("__debug__":Str))=ag:=by decide+kernel)(he:starEach (e::es) X.env=(ag,eval e X.env)::starEach es X.env:=by rfl)(b:(backTo pos<|starEach es X.env).any (·.1)=ag:=by rfl):SE X (.Call (.Name x p) (e::es) [] pos) (ax f a):=by obtain⟨r,k,n⟩:=g;obtain⟨C,o,v⟩:=i;refine⟨_,uj k A t s o m d he b,λy M H z j Q R S h=>?_⟩;exact v y M H z j _ R S<|au.seq h λc w x M1 u D q l B=>n c M1 w x u Q q l B
noncomputable def mw(K:Fg)(n:Nat)(f:VM.CM):Sp:=λb H Q _=>b.length=n/\∃a M c,Rel K a M H/\bj a c b/\au RV K a (f c M) Q
structure jK(P:Program)(w:World)(K:Fg)(mg:Str->Option ah)(base:Heap)(k:Nat)(x:Str)(f:Addr)(fd:FuncData)(ps:List Str)(c:VM.CM):Prop where
 ok:dS P w K mg base fz k f fd ps (mw K ps.length c)
 mg:mg x=aa (.ref f)
 kp:PySem.W.keepIn K (.ref f)=af
 bi:Binds K fd ps []
 ln:∀ws M,ws.length≠ps.length->c ws M=.bad
def Ij(F:jK X.prog X.w X.K X.mg X.base k x f fd ps c)(s:bA k X.A)(z:SA X (e::es) a)(y:Gl X x:=by rfl)(i:(x==("__debug__":Str))=ag:=by decide+kernel)(n:starEach (e::es) X.env=(ag,eval e X.env)::starEach es X.env:=by rfl)(b:(backTo pos<|starEach es X.env).any (·.1)=ag:=by rfl):
 SE X (.Call (.Name x p) (e::es) [] pos) (ax c a):=by
 obtain⟨B,q,t⟩:=z;refine⟨_,u3 F.ok s y F.mg F.kp F.bi .nil rD q i n b,λu M H v o Q R S h=>?_⟩;refine t u M H v o _ R S<|au.seq h λg E j M1 D C r l d=>?_
 rw[UZ];by_cases m:j.length=ps.length
 ·exact⟨by rw[<-Paired.len l];exact m,g,M1,j,r,l,d⟩
 ·rw[F.ln j M1 m] at d;exact(d).elim
end
section
variable{X:Cx}
noncomputable def SM(X:Cx)(e:String)(f:VM.W->VM.CM):Prop:=∃r,iY X e r/\∀a M H x v c b Q,Rel X.K a M H->RV a x v->bj a c b->au RV X.K a (f x c M) Q->(∃p d,v=.ref p/\bg X.K H p d)/\r v b H Q
def Es:SM X "list.append" dc:=by
 refine⟨_,DT,λj M H x v s o Q R n r h=>?_⟩;cases r with
 |nil=>exact(h).elim
 |cons k t=>
  cases t with
  |cons _ _=>exact(h).elim
  |nil=>
   rename_i y u
   have q:au RV X.K j (match VM.bG M x with|some (a,b)=>(if b.length<VM.lim then .ok .aw (M.set a<|.lst<|b++[y]) else .bad)|none=>.bad) Q:=by
    unfold dc at h;cases e:VM.bG M x with
    |none=>rw[e] at h;exact h
    |some z=>rw[e] at h;exact h
   cases e:VM.bG M x with
   |none=>rw[e] at q;exact(q).elim
   |some z=>
    obtain⟨a,b⟩:=z;rw[e] at q;have c:au RV X.K j (if b.length<VM.lim then .ok .aw (M.set a<|.lst<|b++[y]) else .bad) Q:=q;obtain⟨p,f,rfl,l,m,rfl,g,i⟩:=R.bG e n;by_cases d:b.length<VM.lim
    ·rw[T1 d] at c;refine⟨⟨p,f,rfl,bg.of g⟩,p,f,u,rfl,rfl,g,by rw[<-Paired.len i];exact d,?_⟩;exact au.ok c (R.set l m<|Paired.app i<|.cons k .nil) rfl
    ·rw[T2 d] at c;exact(c).elim
def CO(c:Addr)(a:Array ah)(k:Nat)(h:Addr)(b:Array ah)(j:Nat)(dd:Option Addr)(m:Array<|Option ah)(h0:¬(!a.isEmpty&&Builtin.List.listTooLong (a.size+b.size))=af)(n:a.size<=sizeLine)(l:a.size+b.size<=sizeLine+1):
 Meets (Builtin.«list.extend» ⟨[.ref c,.ref h],[]⟩) (λ_ R s=>
  s.heap.get? c=aa {cls:=.type "list",dict:=ae,data:=.seq a k,slots:= #[]}/\
  s.heap.get? h=aa {cls:=.type "tuple",dict:=dd,data:=.seq b j,slots:=m}/\
  R (.ok (.ret Value.none)) {s with heap:=s.heap.update c (Obj.mapSeq λx=>x++b),toks:=s.toks}):=
 .of_wp λf w A R s q=>by
  obtain⟨v,z,d,u,B⟩:=s;obtain⟨g,i,q⟩:=q;have y:=AutoSeq1.idx_int;have t:=AutoSeq1.sub_tuple_tuple;have o:=AutoSeq1.sub_list_list;have p:=AutoSeq1.sub_tuple_list;have r:=AutoSeq1.sub_list_tuple;have e:(a++b).size<=sizeLine+1:=by rw[Array.size_append];exact l
  wp_walk using(WD g rfl (hz:=n) (_hz':=e)),wpAny_loadPart' g,wpAny_loadPart' i
  exact⟨_,rfl,q⟩
noncomputable def F_:V->List V->Hp->VK->Prop:=λx d H Q=>∃l b a c,x=.ref l/\d=[.ref b]/\H l=aa (.lst a)/\H b=aa (.tup c)/\a.length+c.length<=sizeLine/\Q .aw (upd H l<|.lst<|a++c)
def Dr:iY X "list.extend" F_:=by
 intro j s R H x P v G Q I E p h;obtain⟨l,b,J,L,rfl,rfl,k,D,N,q⟩:=h;cases E;obtain⟨u,rfl,t⟩:=p.one;cases t;obtain⟨z,c,n,r,O,e⟩:=I.iT k;obtain⟨M,a,m,o,y,d,w,i⟩:=I.aF b _ D;have A:=m.length;obtain⟨K,B,S,C⟩:=o;simp only at d i;subst d i;have g:c.toArray.size+a.toArray.size<=sizeLine:=by rw[Uh,Uh];omega
 have f:¬(!c.toArray.isEmpty&&Builtin.List.listTooLong (c.toArray.size+a.toArray.size))=af:=by rw[yw g,Vo];exact Uk
 refine Vu WX ⟨_,e,rfl⟩ F.entry_list_extend (F.args_list_extend_2 _ _) (CO l c.toArray n b a.toArray w B C f (by rw[Uh];omega)<|by omega) ⟨e,y,?_⟩;refine⟨.aw,_,I.nF k e (by simp) (r.append m) ?_,rfl,q⟩;rw[Ur];omega
def Rel.litOf(R:Rel K ι M H)(e:VM.litOf M w=aa xs)(r:RV ι w v):∃p vs,v=.ref p/\(H p=aa (.lst vs)\/H p=aa (.tup vs))/\bj ι xs vs:=by
 cases w with
 |ref a=>
  obtain⟨p,j,rfl⟩:=r;simp only[VM.litOf] at e;cases d:M[a]? with
  |none=>rw[d] at e;cases e
  |some o=>
   rw[d] at e;have i:=R.obj a p o j d;cases o with
   |lst b=>cases e;obtain⟨vs,h,f⟩:=i;exact⟨p,vs,rfl,.inl h,f⟩
   |tup b=>cases e;obtain⟨vs,h,f⟩:=i;exact⟨p,vs,rfl,.inr h,f⟩
   |aU b=>cases e
   |aD b=>cases e
   |ins c b=>cases e
   |di x=>cases e
   |a8 g x=>cases e
   |bR=>cases e
   |b8 c=>cases e
 |aw=>cases e
 |bl _=>cases e
 |int _=>cases e
 |str _=>cases e
def Et:SM X "list.extend" fX:=by
 refine⟨_,iY.or DU Dr,λA M H x v G F Q R C r h=>?_⟩;cases r with
 |nil=>exact(h).elim
 |cons B t=>
  cases t with
  |cons _ _=>exact(h).elim
  |nil=>
   rename_i y u
   have q:au RV X.K A (match VM.bG M x,VM.litOf M y with|some (a,f),aa g=>(if f.length+g.length<=VM.lim then .ok .aw (M.set a<|.lst<|f++g) else .bad)|_,_=>.bad) Q:=h;cases e:VM.bG M x with
   |none=>rw[e] at q;exact(q).elim
   |some z=>
    cases m:VM.litOf M y with
    |none=>rw[e,m] at q;exact(q).elim
    |some g=>
     obtain⟨a,f⟩:=z;rw[e,m] at q;have l:au RV X.K A (if f.length+g.length<=VM.lim then .ok .aw (M.set a<|.lst<|f++g) else .bad) Q:=q;obtain⟨p,k,rfl,D,E,rfl,o,w⟩:=R.bG e C;obtain⟨s,d,rfl,b,i⟩:=R.litOf m B;by_cases n:f.length+g.length<=VM.lim
     ·rw[T1 n] at l;have j:=au.ok l (R.set D E<|Paired.app w i) rfl;have c:k.length+d.length<=sizeLine:=by rw[<-Paired.len w,<-Paired.len i];exact n
      refine⟨⟨p,k,rfl,bg.of o⟩,?_⟩;rcases b with b|b
      ·exact .inl ⟨p,s,k,d,rfl,rfl,o,b,c,j⟩
      ·exact .inr ⟨p,s,k,d,rfl,rfl,o,b,c,j⟩
     ·rw[T2 n] at l;exact(l).elim
def KP:SM X "list.pop" fM:=by
 refine⟨_,JP,λj M H x v t s Q R o r h=>?_⟩;cases r with
 |cons _ _=>exact(h).elim
 |nil=>
  have q:au RV X.K j (match VM.bG M x with|some (a,b)=>(match b[b.length-1]? with|some y=>.ok y (M.set a<|.lst b.dropLast)|none=>.bad)|none=>.bad) Q:=by
   unfold fM at h;cases e:VM.bG M x with
   |none=>rw[e] at h;exact h
   |some z=>rw[e] at h;exact h
  cases e:VM.bG M x with
  |none=>rw[e] at q;exact(q).elim
  |some z=>
   obtain⟨a,b⟩:=z;rw[e] at q;have c:au RV X.K j (match b[b.length-1]? with|some y=>.ok y (M.set a<|.lst b.dropLast)|none=>.bad) Q:=q;obtain⟨p,g,rfl,m,n,rfl,i,f⟩:=R.bG e o;cases d:b[b.length-1]? with
   |none=>rw[d] at c;exact(c).elim
   |some y=>rw[d] at c;obtain⟨v,l,k⟩:=Paired.at f d;refine⟨⟨p,g,rfl,bg.of i⟩,p,g,v,rfl,rfl,i,by rw[<-Paired.len f];exact l,?_⟩;exact au.ok c (R.set m n<|Paired.Em f) k
def F'{l:String}(g:Slot "list" name l)(n:typeOf (.builtin l)=pure (.type "method_descriptor"))(B:SM X l f)(A:SE X o m)(b:attributeBase o name X.env (eval o X.env)=eval o X.env:=by rfl)(c:(apos.endLine==bf.line)=af:=by rfl):SE X (.Call (.Attribute o name apos) [] [] bf) (bo f m ao):=by
 obtain⟨r,I,s⟩:=B;obtain⟨J,w,C⟩:=A;refine⟨_,JO XP g n I w b c,λE M H G t Q R S h=>?_⟩;refine C E M H G t _ R S<|au.seq h λi D x M1 u L y v j=>?_
 have a:au RV X.K i (match VM.a9 M1 x with|some _=>f x [] M1|none=>.bad) Q:=by
  cases d:VM.a9 M1 x with
  |none=>rw[d] at j;exact j
  |some k=>rw[d] at j;exact j
 cases d:VM.a9 M1 x with
 |none=>rw[d] at a;exact(a).elim
 |some k=>rw[d] at a;obtain⟨⟨p,k,e,z⟩,q⟩:=s i M1 D x u [] [] Q y v .nil a;subst e;exact⟨.inl ⟨rfl,k,z⟩,q⟩
def oW{o e:Expr}{j:List Expr}{name:Str}{q:String}{f:VM.W->VM.CM}{m:VM.EM}{a:VM.AM}{g b:Pos}(n:Slot "list" name q)(s:typeOf (.builtin q)=pure (.type "method_descriptor"))(V:SM X q f)(T:SE X o m)(J:SA X (e::j) a)(i:attributeBase o name X.env (eval o X.env)=eval o X.env:=by rfl)(l:((backTo b<|starEach (e::j) X.env).all (λx=>!x.1)&&(backToKw b<|keywordEach [] X.env).all (λx=>x.1.isSome)
  &&ai ((e::j).length+([]:List Keyword).length+(if([]:List Keyword).isEmpty then 0 else 1)<30))=af:=by rfl)
 (k:(g.endLine==b.line)=af:=by rfl) (P:starEach (e::j) X.env=(ag,eval e X.env)::starEach j X.env:=by rfl) (c:(backTo b<|starEach j X.env).any (·.1)=ag:=by rfl):
 SE X (.Call (.Attribute o name g) (e::j) [] b) (bo f m a):=by
 obtain⟨r,pm,I⟩:=V;obtain⟨ta,L,Y⟩:=T;obtain⟨tb,N,kb⟩:=J;refine⟨_,L6 XP n s pm L N i l k P c,λι M H C z Q R S h=>?_⟩;refine Y ι M H C z _ R S<|au.seq h λw Z x M1 u O B A h1=>?_
 have d:=h1;cases v:VM.a9 M1 x with
 |none=>rw[v] at d;exact(d).elim
 |some xs=>rw[v] at d;obtain⟨p,D,E,t,_⟩:=B.a9 v A;subst E;refine⟨.inl ⟨rfl,D,t⟩,kb w M1 Z C z _ B (S.mono O)<|au.seq d λy G ws M2 U K R2 r2 h2=>?_⟩;exact(I y M2 G x _ ws U Q R2 (A.mono K) r2 h2).2
def Ik{pos}(c:X.N.Nodup)(d:X.N[i]? =aa x:=by rfl)(a:Loc X.env.scope x:=by first|exact Or.inl rfl|exact Or.inr rfl)(b:X.fn x=af\/X.env.scope.names.lookup x=aa .local:=by first|exact .inl rfl|exact .inr rfl|assumption):SG X (.Name x pos) (VM.ay i):=by refine⟨_,zf c d a b,λe M H f g w v Q R S r h=>?_⟩;exact au.ok h R<|Paired.jw (x:=aa w) ⟨v,rfl,r⟩ i S
def Il:sv X [] []:=by
 refine⟨rfl,_,Ha,λa M H b c e d Q R S r h=>?_⟩;cases r with
 |nil=>exact⟨rfl,au.ok h R S⟩
 |cons _ _=>exact(h).elim
def Ga(e:SG X t g)(s:sv X ts gs)(q:(assignEach (t::ts) X.env).map (·.2)=assign t X.env::(assignEach ts X.env).map (·.2):=by rfl):sv X (t::ts) (g::gs):=by
 obtain⟨A,o,k1⟩:=e;obtain⟨l,B,j,k2⟩:=s;refine⟨by simp[l],_,E8 o j q,λy M H z i f b Q R S r h=>?_⟩;cases r with
 |nil=>exact(h).elim
 |cons k u=>
  rename_i w v f b
  refine⟨v,b,rfl,k1 y M H z i w v _ R S k<|au.seq h λd x a M1 c p n m e=>?_⟩;exact k2 d M1 x a c f b Q n m (bj.mono p u) e
def KQ{pos}(j:X.calm=af)(h:sv X es gs)(n:(assignEach es X.env).length=es.length:=by rfl)(c:(assignEach es X.env).findIdx? (·.1)=ae:=by rfl):SG X (.Tuple es k pos) (VM.cB gs):=by
 obtain⟨o,s,m,k2⟩:=h;refine⟨_,Jw j m n c,λg M H i l w v Q R S r h=>?_⟩;unfold VM.cB at h;cases e:VM.cu M w with
 |none=>rw[e] at h;exact(h).elim
 |some xs=>
  rw[e] at h;have a:au bb X.K g (if xs.length=gs.length then jo gs xs i M else .bad) Q:=h;by_cases b:xs.length=gs.length
  ·rw[T1 b] at a;obtain⟨p,d,rfl,q,f⟩:=R.cu e r;exact⟨p,d,rfl,dA.of q,by rw[<-Paired.len f,b,o],k2 g M H i l xs d Q R S f a⟩
  ·rw[T2 b] at a;exact(a).elim
def KR{pos}(P:SE X o m)(J:SE X i n)(F:∀v,assign (.Subscript o i pos) X.env v=(do
  let g<-holding [v] (eval o X.env)
  let q<-holding [v,g] (eval i X.env)
  standAt pos
  holding [v,g,q] (setItem g q v)
  release [v,g,q] []):=by intro _;rfl):SG X (.Subscript o i pos) (VM.js m n):=by
 obtain⟨t1,N,k1⟩:=P;obtain⟨t2,G,k2⟩:=J;refine⟨_,Jx N G set_list F,λY M H l D w v Q R S r h=>?_⟩;refine k1 Y M H l D _ R S<|au.seq h λB V x M1 u t L I Z=>?_
 refine k2 B M1 V l D _ L (S.mono t)<|au.seq Z λc H2 y M2 u2 s R2 W d=>?_
 cases y with
 |int k=>
  cases W;have h3:au bb X.K c (match VM.bG M2 x with|some (a,b)=>(match VM.ck b.length k with|some j=>.ok l (M2.set a<|.lst<|b.set j w)|none=>.bad)|none=>.bad) Q:=by
   cases e:VM.bG M2 x with
   |none=>rw[e] at d;exact d
   |some z=>rw[e] at d;exact d
  cases e:VM.bG M2 x with
  |none=>rw[e] at h3;exact(h3).elim
  |some z=>
   obtain⟨a,b⟩:=z;rw[e] at h3;have f:au bb X.K c (match VM.ck b.length k with|some j=>.ok l (M2.set a<|.lst<|b.set j w)|none=>.bad) Q:=h3;obtain⟨p,E,rfl,T,U,rfl,O,C⟩:=R2.bG e<|I.mono s;cases A:VM.ck b.length k with
   |none=>rw[A] at f;exact(f).elim
   |some j=>rw[A] at f;refine⟨p,E,k,j,rfl,rfl,O,by rw[<-Paired.len C];exact A,?_⟩;exact au.ok f (R2.set T U<|Paired.jw (RV.mono s<|RV.mono t r) j C)<|S.mono<|Ux t s
 |_=>exact(d).elim
def a7.Nq(h:a7 K ι (r.andThen f) D)(k:∀a c bh M' b,ι<+:a->Rel K a M' c->bb a bh b->a7 K a (f bh M') D->N b c):a7 K ι r {D with nx:=N}:=by
 cases r with
 |nx σ M=>exactλa c b p R S=>k a c σ M b p R S<|a7.mono p h
 |rt w M=>exact h
 |bk σ M=>exact h
 |ct σ M=>exact h
 |ex _ _=>exact h
 |bad=>exact h
def Im:e9 X [] aX:=⟨_,zc,λa M H c b D R S h=>h a H b c_ R S⟩
def zV(h:SS X st m):e9 X [st] m:=by obtain⟨t,p,k⟩:=h;exact⟨t,zd p,k⟩
def Gb{rest:List Stmt}(h:SS X st m)(g:e9 X rest n):e9 X (st::rest) (av m n):=by obtain⟨t,p,k⟩:=h;obtain⟨u,q,l⟩:=g;refine⟨_,yr p q,λo M H r d D R S h=>?_⟩;exact k o M H r d _ R S<|a7.Nq h λc j a M1 b s f e i=>l c M1 j a b D f e i
def KS{pos}(j:SE X e m)(F:SG X tg g)(z:swapsWithSole [tg] e pos.line X.env=pure ag:=by rfl)(A:swappedStores [tg] e X.env=pure ae:=by rfl)(b:(assignEach [tg] X.env).map (·.2)=[assign tg X.env]:=by rfl):SS X (.Assign [tg] e pos) (aJ m g):=by
 obtain⟨t,p,k⟩:=j;obtain⟨u,q,l⟩:=F;refine⟨_,Jy p q z A b,λE M H i f D R S h=>?_⟩;refine k E M H i f _ R S<|a7.seq h λc B x M1 v w s r b=>?_
 exact l c M1 B i f x v D.nx s (S.mono w) r<|a7.seq b λd o n M2 a G R2 y C=>C d o a c_ R2 y
def KU{pos pos'}(o:X.N.Nodup)(b:SE X e m)(g:X.N[i]? =aa x:=by rfl)(d:Loc X.env.scope x:=by first|exact Or.inl rfl|exact Or.inr rfl)(n:swapsWith e (aa<|.Name x pos') pos.line X.env=pure ag:=by rfl)(hf:X.fn x=af\/X.env.scope.names.lookup x=aa .local:=by first|exact .inl rfl|exact .inr rfl|assumption):SS X (.Assign [.Name x pos'] e pos) (aJ m<|VM.ay i):=by
 obtain⟨t,p,k⟩:=b;refine⟨_,z_ o g d p n hf,λs M H u c D R S h=>?_⟩;refine k s M H u c _ R S<|a7.seq h λa r w M1 v l j f q=>?_
 exact q a r _ c_ j<|Paired.jw (x:=aa w) ⟨v,rfl,f⟩ i<|S.mono l
def Io{pos}(c:SE X e m)(g:swapsWith e ae pos.line X.env=pure ag:=by rfl):SS X (.Expr e pos) (aZ m):=by obtain⟨t,p,k⟩:=c;refine⟨_,ze p g,λl M H n b D R S h=>?_⟩;exact k l M H n b _ R S<|a7.seq h λa j x M1 v f d o i=>i a j b c_ d<|S.mono f
def AA{pos}(b:SE X e m):SS X (.Return (aa e) pos) (aG m):=by obtain⟨t,p,k⟩:=b;refine⟨_,z9 p,λj M H l c D R S h=>?_⟩;exact k j M H l c _ R S<|a7.seq h λa i x M1 v n f d g=>g a i v c_ f d
def Gd{pos}:SS X (.Break pos) wI:=⟨_,E7,λa M H c b D R S h=>h a H b c_ R S⟩
def Mw{pos}(l:eZ X c t)(A:e9 X a m)(o:e9 X b n):SS X (.If c a b pos) (aK t m n):=by
 obtain⟨B,p,r⟩:=l;obtain⟨C,s,w⟩:=A;obtain⟨E,v,z⟩:=o;refine⟨_,AU p s v,λy M H f e D R S h=>?_⟩;refine r y M H f e _ R S<|a7.seq h λd k x M1 u i g q j=>?_
 cases q;cases x with
 |true=>rw[T1 rfl];exact w d M1 k f e D g (S.mono i) j
 |false=>rw[T2 Uk];exact z d M1 k f e D g (S.mono i) j
def Ge{pos}(P:PassesOwn (model X.prog X.w) X.A X.env X.xe)(G:eZ X c t)(I:e9 X body m):SS X (.While c body [] pos) (lL n t m):=by
 obtain⟨T,J,N⟩:=G;obtain⟨U,O,Q⟩:=I;refine⟨_,E9 P J O,λg M H f l D R S h=>?_⟩;refine⟨λk l H=>∃g M f,Rel X.K g M H/\bb g f l/\a7 X.K g (df t m k f M) D,⟨n,g,M,f,R,S,h⟩,?_⟩;rintro k l H ⟨g,M,f,R,S,h⟩;cases k with
 |zero=>exact(h).elim
 |succ k=>
  refine N g M H f l _ R S<|a7.seq h λi C x M1 u B z L E=>?_
  cases L;cases x with
  |false=>rw[T2 Uk];exact E i C l c_ z<|S.mono B
  |true=>
   rw[T1 rfl];refine⟨λo y=>∃g M f,Rel X.K g M y/\bb g f o/\a7 X.K g (df t m k f M) D,λo y q=>⟨k,WQ _,q⟩,?_⟩;refine Q i M1 C f l _ z (S.mono B) ?_;have d:a7 X.K i (match m f M1 with
    |.nx a b=>df t m k a b
    |.ct a b=>df t m k a b
    |.bk a b=>.nx a b
    |.rt v b=>.rt v b
    |.ex v b=>.ex v b
    |.bad=>.bad) D:=E
   cases e:m f M1 with
   |nx a b=>rw[e] at d;exactλj F p r R2 s=>⟨j,b,a,R2,s,a7.mono r d⟩
   |ct a b=>rw[e] at d;exactλj F p r R2 s=>⟨j,b,a,R2,s,a7.mono r d⟩
   |bk a b=>rw[e] at d;exact d
   |rt v b=>rw[e] at d;exact d
   |ex v b=>rw[e] at d;exact d
   |bad=>rw[e] at d;exact d
end
structure gg(K:Fg)(ι:List Addr)(J:It)(aO:List VM.Src)(iu:VM.bJ):Prop where
 go:∀i cb M H x,ι<+:cb->Rel K cb M H->iu.ok M=af->aO[i]? =aa x->J.go i H
 jz:∀i cb M H x v H',ι<+:cb->Rel K cb M H->iu.ok M=af->aO[i]? =aa x->J.jz i H v H'->∃i5 w M2,cb<+:i5/\x.get M=.ok w M2/\Rel K i5 M2 H'/\RV i5 w v
 stop:∀i cb M H,ι<+:cb->Rel K cb M H->iu.ok M=af->aO.length<=i->J.stop i H
noncomputable abbrev rI(K:Fg):List Addr->(List VM.Src×VM.bJ)->It->Prop:=λb a J=>gg K b J a.1 a.2
noncomputable def SI(X:Cx)(f a:Expr)(m:VM.IM):Prop:=∃c,PI X f a c/\∀b M H d e Q,Rel X.K b M H->bb b d e->au (rI X.K) X.K b (m d M) Q->c e H Q
section
variable{X:Cx}{tg:Expr}
def rS(h:VM.bJ.ok [(a,o)] M=af):M[a]? =aa o:=by simpa[VM.bJ.ok] using h
def rb{xs:List VM.W}{i:Nat}(h:(xs.map VM.Src.val)[i]? =aa x):∃w,xs[i]? =aa w/\x=.val w:=by
 rw[UW] at h;cases e:xs[i]? with
 |none=>rw[e] at h;cases h
 |some w=>rw[e] at h;exact⟨w,rfl,(Ua h).symm⟩
def AB(t:ι[a]? =aa p)(s:o=.lst xs\/o=.aU xs):gg K ι (wA K p) (xs.map .val) [(a,o)]:=by
 have d:∀{b M H},ι<+:b->Rel K b M H->VM.bJ.ok [(a,o)] M=af->∃c,bg K H p c/\bj b xs c:=λ{b M H} q R h=>by
  have u:=rS h;have m:=R.obj a p o (dM q t) u;rcases s with rfl|rfl
  ·obtain⟨c,g,f⟩:=m;exact⟨c,bg.of g,f⟩
  ·obtain⟨c,g,f⟩:=m;exact⟨c,g.sq,f⟩
 refine⟨λi b M H x q R h j=>?_,λi b M H x v A q R h j y=>?_,λi b M H q R h r=>?_⟩
 ·obtain⟨c,g,f⟩:=d q R h;obtain⟨w,l,rfl⟩:=rb j;obtain⟨v,k,_⟩:=Paired.at f l;exact⟨c,v,g,k⟩
 ·obtain⟨c,g,f⟩:=d q R h;obtain⟨w,l,rfl⟩:=rb j;obtain⟨rfl,y⟩:=y;obtain⟨z,k,n⟩:=Paired.at f l;have e:=y c g;rw[k] at e;cases e;exact⟨b,w,M,c_,rfl,R,n⟩
 ·obtain⟨c,g,f⟩:=d q R h;exact⟨c,g,by rw[<-Paired.len f];simpa using r⟩
def KW(o:ι[a]? =aa p):gg K ι (wC K p) (xs.map .val) [(a,.tup xs)]:=by
 have c:∀{b M H},ι<+:b->Rel K b M H->VM.bJ.ok [(a,.tup xs)] M=af->∃d,dA K H p d/\bj b xs d:=λ{b M H} q R f=>by have r:=rS f;obtain⟨d,h,g⟩:=R.obj a p _ (dM q o) r;exact⟨d,dA.of h,g⟩
 refine⟨λi b M H x q R f j=>?_,λi b M H x v t q R f j y=>?_,λi b M H q R f n=>?_⟩
 ·obtain⟨d,h,g⟩:=c q R f;obtain⟨w,l,rfl⟩:=rb j;obtain⟨v,k,_⟩:=Paired.at g l;exact⟨d,v,h,k⟩
 ·obtain⟨d,h,g⟩:=c q R f;obtain⟨w,l,rfl⟩:=rb j;obtain⟨rfl,y⟩:=y;obtain⟨s,k,m⟩:=Paired.at g l;have e:=y d h;rw[k] at e;cases e;exact⟨b,w,M,c_,rfl,R,m⟩
 ·obtain⟨d,h,g⟩:=c q R f;exact⟨d,h,by rw[<-Paired.len g];simpa using n⟩
def AD(lo)(n):gg K ι (pX lo n) (VM.cV lo n) []:=by
 have f:(VM.cV lo n).length=n:=by simp[VM.cV]
 have a:∀{i:Nat} {x:VM.Src},(VM.cV lo n)[i]? =aa x->i<n/\x=.val (.int<|lo+(i)):=λ{i x} h=>by
  have c:i<n:=by rw[<-f];exact(T6.mp h).1
  unfold VM.cV at h;rw[UW,List.getElem?_range c] at h;exact⟨c,(Ua h).symm⟩
 refine⟨λi b M H x q R e d=>(a d).1,λi b M H x v g q R e d y=>?_,λi b M H q R e c=>by rw[f] at c;exact c⟩;obtain⟨rfl,rfl⟩:=y;obtain⟨_,rfl⟩:=a d;exact⟨b,.int<|lo+i,M,c_,rfl,R,rfl⟩
def Mx{a:Expr}{d c:TI}(f:PI X tg a d)(e:PI X tg a c):PI X tg a (λσ H R=>d σ H R\/c σ H R):=by
 intro b s σ H R I q;rcases q with q|q
 ·exact f b s σ H R I q
 ·exact e b s σ H R I q
end
section
variable{X:Cx}{tg:Expr}
def KY(he:SE X e m):SI X tg e (b0 m):=by
 obtain⟨t,p,k⟩:=he;refine⟨_,Mx (Hb p)<|JA p,λw M H y z Q R S h=>?_⟩;unfold b0 at h;cases j:m y M with
 |ok x M1=>
  rw[j] at h;cases x with
  |ref a=>
   have b:au (rI X.K) X.K w (match M1[a]? with|some (.lst xs)=>.ok (xs.map .val,[(a,.lst xs)]) M1|some (.aU xs)=>.ok (xs.map .val,[(a,.aU xs)]) M1|some (.tup xs)=>.ok (xs.map .val,[(a,.tup xs)]) M1|_=>.bad) Q:=h;cases e:M1[a]? with
   |none=>rw[e] at b;exact(b).elim
   |some o=>
    rw[e] at b;cases o with
    |lst xs=>refine .inl<|k w M H y z _ R S ?_;rw[j];intro d v u n i l;obtain⟨q,f,rfl⟩:=l;obtain⟨s,r,A⟩:=i.obj a q _ f e;exact⟨q,rfl,⟨s,bg.of r⟩,b d v _ n i<|AB f<|.inl rfl⟩
    |aU xs=>refine .inl<|k w M H y z _ R S ?_;rw[j];intro d v u n i l;obtain⟨q,f,rfl⟩:=l;obtain⟨s,r,A⟩:=i.obj a q _ f e;exact⟨q,rfl,⟨s,r.sq⟩,b d v _ n i<|AB f<|.inr rfl⟩
    |tup xs=>refine .inr<|k w M H y z _ R S ?_;rw[j];intro d v u n i l;obtain⟨q,f,rfl⟩:=l;obtain⟨s,r,A⟩:=i.obj a q _ f e;exact⟨q,rfl,⟨s,dA.of r⟩,b d v _ n i<|KW f⟩
    |aD xs=>exact(b).elim
    |ins c xs=>exact(b).elim
    |di x=>exact(b).elim
    |a8 g x=>exact(b).elim
    |bR=>exact(b).elim
    |b8 c=>exact(b).elim
  |_=>exact(h).elim
 |ex _ _=>rw[j] at h;exact(h).elim
 |bad=>rw[j] at h;exact(h).elim
def Ip(hm:X.mg "range"=ae)(g:SE X e m)(s:Gl X "range":=by rfl)(d:starEach [e] X.env=[(ag,eval e X.env)]:=by rfl):SI X tg (.Call (.Name "range" p) [e] [] pos) (VM.cQ m):=by
 obtain⟨t,i,k⟩:=g;refine⟨_,DM s hm (dE i fi d) d,λq M H r l Q R S h=>?_⟩;refine k q M H r l _ R S<|au.seq h λc w x M1 u v o n f=>?_
 cases x with
 |int j=>
  cases n;have b:au (rI X.K) X.K c (if j.natAbs<cw then .ok (VM.cV 0 j.toNat,[]) M1 else .bad) Q:=f;by_cases a:j.natAbs<cw
  ·rw[T1 a] at b;exact⟨j,rfl,by unfold cw at a;omega,by unfold cw at a;omega,au.ok b o<|AD 0 j.toNat⟩
  ·rw[T2 a] at b;exact(b).elim
 |_=>exact(f).elim
def Iq(hm:X.mg "range"=ae)(s:SE X e m)(w:SE X f n)(J:Gl X "range":=by rfl)(q:starEach [e,f] X.env=[(ag,eval e X.env),(ag,eval f X.env)]:=by rfl)(a:starEach [f] X.env=[(ag,eval f X.env)]:=by rfl):SI X tg (.Call (.Name "range" p) [e,f] [] pos) (VM.f7 m n):=by
 obtain⟨t,z,k⟩:=s;obtain⟨u,N,l⟩:=w;refine⟨_,DN J hm (dE z (dE N fi a)<|q.trans<|by rw[a]) q a,λI M H r o Q R S h=>?_⟩;refine k I M H r o _ R S<|au.seq h λc F x M1 u D C A E=>?_
 refine l c M1 F r o _ C (S.mono D)<|au.seq E λd O y M2 v B R2 G g=>?_
 have L:=A.mono B;cases x with
 |int i=>
  cases y with
  |int j=>
   cases L;cases G;have h3:au (rI X.K) X.K d (if i.natAbs<cw/\j.natAbs<cw then .ok (VM.cV i (j-i).toNat,[]) M2 else .bad) Q:=g;by_cases b:i.natAbs<cw/\j.natAbs<cw
   ·rw[T1 b] at h3;exact⟨i,j,rfl,by unfold cw at b;omega,au.ok h3 R2<|AD i (j-i).toNat⟩
   ·rw[T2 b] at h3;exact(h3).elim
  |_=>exact(g).elim
 |_=>cases y<;>exact(g).elim
def yi{F:TG}{tb:TS}{g:VM.GM}{m:VM.SM}(kg:∀u M H σ o w v Q,Rel X.K u M H->bb u σ o->RV u w v->au bb X.K u (g w σ M) Q->F v o H Q)(kb:∀u M H σ o D,Rel X.K u M H->bb u σ o->a7 X.K u (m σ M) D->tb D o H){j:List Addr}{M1:VM.Mem}{H1:Hp}{σ:VM.St}{o:L2.St}{J:It}{aO:List VM.Src}{a:VM.bJ}{D:Ends}(R1:Rel X.K j M1 H1)(S1:bb j σ o)(Z:gg X.K j J aO a)(h1:a7 X.K j (VM.loop a g m aO σ M1) D):
 ∃W:Nat->Nat->L2.St->Hp->Prop,(∃m,W 0 m o H1)/\∀i m σ H,W i m σ H->(J.stop i H/\D.nx σ H)\/(J.go i H/\∃N:L2.St->Hp->Prop,(∀bh p,N bh p->∃m',m'<m/\W (i+1) m' bh p)/\∀x p,J.jz i H x p->F x σ p λb H2=>tb {D with nx:=N,ct:=N,bk:=D.nx} b H2):=by
 refine⟨λi k o H=>i<=aO.length/\k=aO.length-i/\∃c M σ,j<+:c/\Rel X.K c M H/\bb c σ o/\a7 X.K c (VM.loop a g m (aO.drop i) σ M) D,
  ⟨aO.length,Vc _,rfl,j,M1,σ,c_,R1,S1,h1⟩,?_⟩
 rintro i k o H ⟨hi,rfl,c,M,σ,q,R,S,h⟩;by_cases C:i<aO.length
 ·have ex:aO[i]? =aa aO[i]:=by simp[C]
  rw[VF C] at h;have r:a7 X.K c (if a.ok M=af then (aO[i].get M).bK λv M1=>(g v σ M1).bK λE M2=>match m E M2 with
    |.nx b d=>VM.loop a g m (aO.drop<|i+1) b d
    |.ct b d=>VM.loop a g m (aO.drop<|i+1) b d
    |.bk b d=>.nx b d
    |.rt v d=>.rt v d
    |.ex v d=>.ex v d
    |.bad=>.bad
   else .bad) D:=h
  by_cases f:a.ok M=af
  ·rw[T1 f] at r;refine .inr ⟨Z.go i c M H _ q R f ex,λG p=>∃l M σ,j<+:l/\Rel X.K l M p/\bb l σ G/\a7 X.K l (VM.loop a g m (aO.drop<|i+1) σ M) D,λG p z=>⟨aO.length-(i+1),by omega,C,rfl,z⟩,λv p y=>?_⟩;obtain⟨l,w,M2,U,eg,R2,rv⟩:=Z.jz i c M H _ v p q R f ex y;rw[eg] at r;have h2:a7 X.K l ((g w σ M2).bK λE M2=>match m E M2 with
    |.nx b d=>VM.loop a g m (aO.drop<|i+1) b d
    |.ct b d=>VM.loop a g m (aO.drop<|i+1) b d
    |.bk b d=>.nx b d
    |.rt v d=>.rt v d
    |.ex v d=>.ex v d
    |.bad=>.bad) D:=a7.mono U r
   refine kg l M2 p σ o w v _ R2 (S.mono U) rv<|a7.seq h2 λs H3 L d V q3 R3 S3 h3=>?_
   refine kb s d H3 L V _ R3 S3 ?_;have I:j<+:s:=Ux q<|Ux U q3;cases e:m L d with
   |nx n t=>rw[e] at h3;have A:a7 X.K s (VM.loop a g m (aO.drop<|i+1) n t) D:=h3;exactλB H4 P O Y T=>⟨B,t,n,Ux I O,Y,T,a7.mono O A⟩
   |ct n t=>rw[e] at h3;have A:a7 X.K s (VM.loop a g m (aO.drop<|i+1) n t) D:=h3;exactλB H4 P O Y T=>⟨B,t,n,Ux I O,Y,T,a7.mono O A⟩
   |bk n t=>rw[e] at h3;exact h3
   |rt v t=>rw[e] at h3;exact h3
   |ex v t=>rw[e] at h3;exact h3
   |bad=>rw[e] at h3;exact h3
  ·rw[T2 f] at r;exact(r:False).elim
 ·have hz:i=aO.length:=by omega
  subst hz;rw[VE] at h;have r:a7 X.K c (if a.ok M=af then .nx σ M else .bad) D:=h;by_cases f:a.ok M=af
  ·rw[T1 f] at r;exact .inl ⟨Z.stop _ c M H q R f<|T8 _,r c H o c_ R S⟩
  ·rw[T2 f] at r;exact(r:False).elim
def KZ{pos}(r:PassesOwn (model X.prog X.w) X.A X.env X.xe)(e:X.calm=af)(l:SI X tg iter mi)(z:SG X tg g)(f:e9 X body m)(q:∀x,foldedSetIterable iter X.env x=pure x:=by intro _;rfl):SS X (.For tg iter body [] pos) (bM mi g m):=by
 obtain⟨F,d,p⟩:=l;obtain⟨b,B,s⟩:=z;obtain⟨I,k,y⟩:=f;refine⟨_,vn r e d B k q,λu M H v i D R S h=>?_⟩;refine p u M H v i _ R S<|a7.seq h λt G c M1 J o n E C=>?_
 obtain⟨a,j⟩:=c;exact yi s y n (S.mono o) E C
end
open PySem PySem.Spec PyProof.Rows L2
theorem Cu{prog:Program}{w:World}{A:Around}{R:Result->Shared->Prop}{s:Shared}{elt a l:Expr}{q:List Expr}{scope:Scope}{pos:Pos}{it t:ah}{env:Env}(I:Nat->Shared->Prop)(turn:∀n s,I n s->wpAny (model prog w) A (pyNext it) (λr b=>match r with
  |none=>R (.ok .next) b
  |some v=>wpAny (model prog w) A (letOwnedTupleGo a it v) (λ_ f=>wpAny (model prog w) A (assign a env v) (λ_ p=>
   wpAny (model prog w) A (forIn q af λc r=>if r=af then do let ok<-isTrue c env (eval c env);pure (ForInStep.yield ok) else pure (ForInStep.yield r)) (λok d=>
    if ok=af then wpAny (model prog w) A (eval elt env) (λx o=>wpAny (model prog w) A (call (.builtin "list.append") [t,x]) (λ_ i=>∃m,m<n/\I m i) (notedBy (model prog w) A env λe s'=>R (.error e) s') o) (notedBy (model prog w) A env λe s'=>R (.error e) s') d
    else∃m,m<n/\I m d) (notedBy (model prog w) A env λe s'=>R (.error e) s') p) (notedBy (model prog w) A env λe s'=>R (.error e) s') f) (notedBy (model prog w) A env λe s'=>R (.error e) s') b) (notedBy (model prog w) A env λe s'=>R (.error e) s') s)
 (n:Nat) (h:I n s):
 codeAny (model prog w) A (.compLoop (.ListComp elt [⟨a,l,q,0⟩] scope pos) 0 it t env) R s:=by
 refine codeAny_loop rfl I (λn s C=>?_) n h;show wpAny _ A ((compTurn (.ListComp elt [⟨a,l,q,0⟩] scope pos) 0 it t env).onRaise (λx=>do noteFrame x env;theTreesLotGoes x)) _ _ s;refine wpAny_noted ?_;rw[compTurn_list];refine T3<|wpAny_standAt<|T3<|Uv (turn n s C) (λr b k=>?_) λ_ _ g=>g
 cases r with
 |none=>exact Uj k
 |some v=>
  refine T3<|Uv k (λ_ f u=>?_) λ_ _ g=>g
  refine T3<|Uv u (λ_ p z=>T3<|Uv z (λok d j=>?_) λ_ _ g=>g) λ_ _ g=>g
  cases ok with
  |false=>exact Uj ⟨rfl,j⟩
  |true=>exact T3<|T3<|Uv j (λx o y=>T3<|Uv y (λ_ i B=>Uj<|Uj ⟨rfl,B⟩) λ_ _ g=>g) λ_ _ g=>g
noncomputable def Nr(ifs:List Expr)(env:Env):Sem Bool:=forIn ifs af λc r=>if r=af then do let ok<-isTrue c env (eval c env);pure (ForInStep.yield ok) else pure (ForInStep.yield r)
noncomputable def iV(X:Cx)(c:List Expr)(m:VM.TM):Prop:=∃f:TT,(∀(a) (s) (b) (H) (Q),Inv X a b H s->f b H Q->wpAny (model X.prog X.w) X.A (Nr c X.env) (TP X a b Q) X.xe s)/\
 ∀d M H b e Q,Rel X.K d M H->bb d b e->au rB X.K d (m b M) Q->f e H Q
def Gf:iV X [] dP:=by refine⟨λ_ H Q=>Q af H,λa s b H Q I h=>?_,λc M H b d Q R S h=>au.ok h R rfl⟩;exact Uj ⟨H,I,h⟩
def Gg(h:eZ X c m):iV X [c] m:=by obtain⟨t,p,k⟩:=h;exact⟨t,λa s b H Q I h=>wpAny_tests_one<|p a s b H Q I h,k⟩
noncomputable def dr(X:Cx)(N:List Str)(scope:Scope)(cl:List<|Str×Addr)(C:Addr)(b:Shared)(a:Hp)(c:List Addr):Cx:=
 {X with N:=N,c7:=b,lW:=a,env:=compEnvC scope cl C X.env,outer:=X.stack,stack:=X.stack,ex:=c,fn:=λ_=>ag,pn:=[],xe:=λ_ _=>False}
noncomputable def bQ(cells:List<|Str×Addr):List (Str×NameKind)->List (Str×Addr)->List (Str×Addr)
 |[],acc=>acc
 |(n,k)::r,acc=>if k==.free then(match cells.lookup n with|some c=>bQ cells r ((n,c)::acc)|none=>bQ cells r acc) else bQ cells r acc
noncomputable def freeOk(env:Env):List (Str×NameKind)->Bool
 |[]=>af
 |(n,k)::r=>(!(k==.free)||((env.cells.lookup n).isSome&&(env.kindOf n==aa .cell||env.kindOf n==aa .free)))&&freeOk env r
def yj(cells)(n)(k)(r)(acc):bQ cells ((n,k)::r) acc=if k==.free then(match cells.lookup n with|some c=>bQ cells r ((n,c)::acc)|none=>bQ cells r acc) else bQ cells r acc:=rfl
theorem uf:∀(names) (b),freeOk env names=af-> (forIn (m:=Sem) names b λ(x) (j)=>if x.2==.free then do let a<-cellOf env x.1;pure (ForInStep.yield<|(x.1,a)::j) else pure (ForInStep.yield j))=pure (bQ env.cells names b)
 |[],b,_=>by simp[bQ]
 |(n,k)::r,b,h=>by
  unfold freeOk at h;rw[T_] at h;rw[List.forIn_cons];by_cases d:(k==NameKind.free)=af
  ·have f:=h.1;rw[d] at f;simp only[Wh,Vw,T_] at f;cases e:env.cells.lookup n with
   |none=>rw[e] at f;exact absurd f.1<|by simp
   |some c=>
    have g:=uf r ((n,c)::b) h.2;simp only[d];have ec:cellOf env n=pure c:=by unfold cellOf;rw[e]
    rw[ec];show(forIn (m:=Sem) r ((n,c)::b) _)=_;rw[g];rw[yj,T1 d,e]
  ·have g:=uf r b h.2;have i:(k==NameKind.free)=ag:=by simpa using d
   simp only[i];show(forIn (m:=Sem) r b _)=_;rw[g];rw[yj,T2 d]
def t_(h:freeOk env scope.names=af):closureFor scope env=pure (bQ env.cells scope.names []):=by unfold closureFor;have e:=uf scope.names [] h;simp only[bind_pure];exact e
theorem mZ:∀(names) (a) {x:Str} {c:Addr},(∀y d,(y,d)∈a->cells.lookup y=aa d)->(x,c)∈bQ cells names a->cells.lookup x=aa c
 |[],a,x,c,h,e=>h x c e
 |(n,k)::r,a,x,c,h,e=>by
  unfold bQ at e;by_cases b:(k==NameKind.free)=af
  ·rw[T1 b] at e;cases q:cells.lookup n with
   |none=>rw[q] at e;exact mZ r a h e
   |some d=>
    rw[q] at e;refine mZ r ((n,d)::a) (λy g f=>?_) e;rcases T4.mp f with z|z
    ·cases z;exact q
    ·exact h y g z
  ·rw[T2 b] at e;exact mZ r a h e
theorem qv:∀(names) (a) {p:Str×Addr},p∈a->p∈bQ cells names a
 |[],a,p,h=>h
 |(n,k)::r,a,p,h=>by
  unfold bQ;split
  ·split
   ·exact qv r _<|Up _ h
   ·exact qv r _ h
  ·exact qv r _ h
theorem oO:∀(names) (a) {x:Str} {c:Addr},(x,NameKind.free)∈names->cells.lookup x=aa c->(x,c)∈bQ cells names a
 |[],a,x,c,h,e=>by simp at h
 |(n,k)::r,a,x,c,h,e=>by
  unfold bQ;rcases T4.mp h with z|z
  ·cases z;rw[T1<|by rfl,e];exact qv r _ UC
  ·split
   ·split
    ·exact oO r _ z e
    ·exact oO r _ z e
   ·exact oO r _ z e
theorem t6:∀{l:List (Str×α)} {x:Str} {c:α},(x,c)∈l->∃d,l.lookup x=aa d
 |[],x,c,h=>by simp at h
 |(n,d)::r,x,c,h=>by
  rw[Vs];cases a:x==n with
  |true=>exact⟨d,rfl⟩
  |false=>
   rcases T4.mp h with z|z
   ·cases z;simp at a
   ·exact t6 z
theorem xq{env:Env}:∀{names:List (Str×NameKind)} {x:Str} {k:NameKind},(∀y∈names,y.2≠.cell)-> (names.map λ(n,k)=>if(k==NameKind.free&&env.scope.kind==.function&&env.kindOf n==aa .cell) then(n,NameKind.cell) else(n,k)).lookup x=aa k->k=.cell\/k=.free->(x,NameKind.free)∈names
 |[],x,k,_,h,_=>by simp at h
 |(n,k0)::r,x,k,e,h,c=>by
  have f:=@xq env r x k<|λy g=>e y<|Up _ g
  rw[Uo] at h;by_cases b:(k0==NameKind.free&&env.scope.kind==.function&&env.kindOf n==aa .cell)=af
  ·have j:=by rw[T_,T_] at b;exact US.mp b.1.1
   subst j;have d:(match((n,NameKind.free):Str×NameKind) with|(n,k)=>if(k==NameKind.free&&env.scope.kind==.function&&env.kindOf n==aa .cell) then(n,NameKind.cell) else(n,k))=(n,NameKind.cell):=T1 b;rw[d,Vs] at h;cases a:x==n with
   |true=>rw[US.mp a];exact UC
   |false=>rw[a] at h;exact Up _<|f h c
  ·have d:(match((n,k0):Str×NameKind) with|(n,k)=>if(k==NameKind.free&&env.scope.kind==.function&&env.kindOf n==aa .cell) then(n,NameKind.cell) else(n,k))=(n,k0):=T2 b;rw[d,Vs] at h;cases a:x==n with
   |true=>
    rw[a] at h;have i:=Ua h;subst i;rcases c with z|z
    ·exact absurd z<|e (n,k0) UC
    ·subst z;rw[US.mp a];exact UC
   |false=>rw[a] at h;exact Up _<|f h c
theorem ug:∀{names:List (Str×NameKind)} {x:Str},freeOk env names=af->(x,NameKind.free)∈names->(∃c,env.cells.lookup x=aa c)/\(env.kindOf x=aa .cell\/env.kindOf x=aa .free)
 |[],x,_,h=>by simp at h
 |(n,k)::r,x,h,hm=>by
  unfold freeOk at h;rw[T_] at h;rcases T4.mp hm with z|z
  ·cases z;have d:=h.1;simp only[V0,Wh,Vw,T_,VL] at d;obtain⟨a,b⟩:=d;refine⟨WS.mp a,?_⟩;rcases b with b|b
   ·exact .inl<|US.mp b
   ·exact .inr<|US.mp b
  ·exact ug h.2 z
noncomputable def nT(cl:List Nat)(a:L2.St):L2.St:=cl.foldl (λa j=>a.set j ae) a
theorem zW:∀(cl) {σ:VM.St} {a:L2.St},bb ι σ a->bb ι (eX cl σ) (nT cl a)
 |[],_,_,h=>h
 |j::r,_,_,h=>zW r<|Paired.jw (x:=ae) trivial j h
theorem y0:∀(cl) (a),(nT cl a).length=a.length
 |[],_=>rfl
 |j::r,a=>by show(nT r<|a.set j ae).length=_;rw[y0 r,U1]
theorem y2:∀(cl) (b) {i:Nat} {v:V},(nT cl b)[i]? =aa (aa v)->i∉cl/\b[i]? =aa (aa v)
 |[],_,i,v,h=>⟨by simp,h⟩
 |j::r,b,i,v,h=>by
  obtain⟨e,a⟩:=y2 r (b.set j ae) h;by_cases c:i=j
  ·subst c;by_cases d:i<b.length
   ·rw[UH d] at a;cases a
   ·rw[Xl (by rw[U1];omega)] at a;cases a
  ·rw[Uz<|Uq c] at a;exact⟨by simp[e,c],a⟩
theorem zX:∀k:Nat,bb ι (List.replicate k ae) (List.replicate k ae)
 |0=>.nil
 |k+1=>.cons trivial<|zX k
structure i6(X:Cx)(N:List Str)(k:Nat)(cl:List Nat)(scope:Scope):Prop where
 len:N.length=X.N.length+k
 pre:∀i,i<X.N.length->N[i]? =X.N[i]?
 free:freeOk X.env scope.names=af
 cell:∀y∈scope.names,y.2≠.cell
 kind:scope.kind=.function
 names:∀y∈scope.names,y.2=.local->scope.names.lookup y.1=aa .local
 own:∀i x,N[i]? =aa x->(relabel scope X.env).names.lookup x=aa .local->i∈cl\/X.N.length<=i
def Eu{X:Cx}{N:List Str}{k:Nat}{cl:List Nat}{scope:Scope}{pins:List (Addr×Obj)}{K:L2.St}{H:Hp}{s s4:Shared}{Z:List Addr}{C D:Addr}{P:Obj}{mC:Str->Option ah}(B:i6 X N k cl scope)(I:Inv X pins K H s)(r:∀b∈Z,eW X pins H b)(W:∀b∈Z,b<s.heap.objs.size)(l:∀b o,s.heap.get? b=aa o->s4.heap.get? b=aa o)(Pj:s4.os=s.os)(A:AllBare s4.gens)(hC:s.heap.objs.size<=C)(hD:s.heap.objs.size<=D)(qf:D≠C)(hn:s4.heap.Ns C mC)(Pk:s4.heap.get? D=aa P)(Pl:∀v,P.data≠.cell v):
 Inv (dr X N scope (bQ X.env.cells scope.names []) C s H Z) [(D,P)] (nT cl<|K++List.replicate k ae) H s4:=by
 have a:∀x c,(bQ X.env.cells scope.names []).lookup x=aa c->X.env.cells.lookup x=aa c:=λx c e=>mZ scope.names [] (λy d hy=>by simp at hy)<|Vd e
 have E:∀x j,(relabel scope X.env).names.lookup x=aa j->j=.cell\/j=.free->(x,NameKind.free)∈scope.names:=λx j h hk=>xq B.cell h hk
 have G:∀b∈cA X.stack,b<s.heap.objs.size:=λb g=>by obtain⟨_,o,M,_⟩:=I.stack.mem g;exact Ui M
 refine⟨⟨I.ok.mod,B.kind,I.ok.glob,I.ok.blt,hC,λx y c Q n=>I.ok.inj x y c (a x c Q)<|a y c n,λx hx=>?_,λx c h _=>absurd (show ag=af from h)<|by decide,I.ok.hd,I.ok.frames,.inl rfl,λb g=>⟨?_,λx c h=>?_⟩,I.bs,Ug I.ok.ij I.sz,λb o e g=>?_,λb g BV=>?_,I.stack,I.qT⟩,
  Pj,A,Un.kept l,⟨mC,hn,λi x v Q n h3=>?_⟩,λx c h=>?_,I.aF.fresh hC,λx c h=>I.eA x c (a x c h),λp hp=>?_,I.aF.kept l,?_⟩
 ·have S:(relabel scope X.env).names.lookup x=aa .cell\/(relabel scope X.env).names.lookup x=aa .free:=hx;have O:(x,NameKind.free)∈scope.names:=by
   rcases S with z|z
   ·exact E x _ z<|.inl rfl
   ·exact E x _ z<|.inr rfl
  obtain⟨⟨c,U⟩,_⟩:=ug B.free O;exact t6<|oO scope.names [] O U
 ·exact UB<|Um (W b g) hC
 ·exact(r b g).2.2.2.2.1 x c<|a x c h
 ·rcases(r b g).2.2.2.1 with z|z
  ·exact I.ok.cJ b o e z
  ·exact absurd (Um (Ui (I.ok.bs b o e).1) z)<|UY _
 ·rcases T4.mp (I.rd b BV) with z|z
  ·exact(r b g).2.1 z
  ·exact(r b g).2.2.1 z
 ·obtain⟨J,n⟩:=y2 cl _ n;have L:i<K.length:=by
   by_cases L:i<K.length
   ·exact L
   ·rw[Ve<|VT L,Xy] at n;split at n<;>cases n
  rw[UU L] at n;have T:i<X.N.length:=by rw[<-I.len];exact L
  have Pm:X.N[i]? =aa x:=by rw[<-B.pre i T];exact Q
  have R:(relabel scope X.env).names.lookup x=aa .local\/(relabel scope X.env).names.lookup x=aa .cell\/(relabel scope X.env).names.lookup x=aa .free:=h3;have Y:∃j,(relabel scope X.env).names.lookup x=aa j/\(j=.cell\/j=.free):=by
   rcases R with z|z|z
   ·rcases B.own i x Q z with q|q
    ·exact absurd q J
    ·omega
   ·exact⟨_,z,.inl rfl⟩
   ·exact⟨_,z,.inr rfl⟩
  obtain⟨j,t,F⟩:=Y;have O:=E x j t F;obtain⟨⟨c,U⟩,f⟩:=ug B.free O;obtain⟨m,_,hl⟩:=I.loc;obtain⟨u,ru,lk⟩:=hl i x v Pm n (by rcases f with z|z;exact .inr<|.inl z;exact .inr<|.inr z);refine⟨u,ru,.inr ⟨by rcases F with z|z<;>subst z;exact .inl t;exact .inr t,?_⟩⟩;obtain⟨d,hd⟩:=t6<|oO scope.names [] O U;have ed:=a x d hd;rcases lk with⟨q,_⟩|⟨_,c',qd,nt⟩
  ·rcases f with z|z
   ·rw[z] at q;cases q
   ·rw[z] at q;cases q
  ·rw[qd] at ed;cases ed;refine⟨d,hd,?_⟩;obtain⟨o,M,w⟩:=nt;exact⟨o,l _ o M,w⟩
 ·obtain⟨v,o,M,w⟩:=I.cell x c (a x c h);exact⟨v,o,l _ o M,w⟩
 ·have V:p∈([]:List<|Addr×Obj)++[(D,P)]:=hp;have e:p=(D,P):=by simpa using V
  subst e;refine⟨Pk,I.aF.fresh hD,qf,λg=>?_,Pl⟩;exact absurd (Um (G D g) hD)<|UY _
 ·show(nT cl<|K++List.replicate k ae).length=N.length;rw[y0,Ur,WT,I.len,B.len]
def Ir{X:Cx}{N:List Str}{scope:Scope}{j:List (Str×Addr)}{pins i:List (Addr×Obj)}{G I:L2.St}{s H:Hp}{k s':Shared}{t:List Addr}{C D:Addr}{x:Obj}{h:List ah}{vs:List V}{n:Nat}(A:Inv X pins G s k)(d:∀b∈t,eW X pins s b)(l:Inv (dr X N scope j C k s t) i I H s')(Q:k.heap.objs.size<=C)(S:k.heap.objs.size<=D)(L:D≠C)(K:H D=ae)(M:s'.heap.get? D=aa {cls:=.type "list",data:=.seq h.toArray n})(r:Vals vs h)(hz:vs.length<=sizeLine)(F:s'.heap.get? C=aa x)(E:∀v,x.data≠.cell v):
 Inv X (pins++[(C,x)]) G (upd H D<|.lst vs) s':=by
 have c:∀{b:Addr} {u:HO},H b=aa u->b≠D:=λe=>cP e K
 have g:Un (cA X.stack) t s H k.heap s'.heap:=l.base;have B:H C=ae:=l.free;have u:Un (cA X.stack) t s (upd H D<|.lst vs) k.heap s'.heap:=⟨g.keep,g.slot,λb o e Y U=>by rw[aL<|UB<|Um (Ui e) S];exact g.free b o e Y U,g.there,
  λb O e=>by have f:=g.fq b O e;rw[aL (c f)];exact f,λb o w e=>by have f:=g.fJ b o w e;rw[aL (c f)];exact f,λb T e=>by obtain⟨m,f⟩:=g.gc b T e;exact⟨m,by rw[aL (c f)];exact f⟩⟩
 have J:bS X.prog X.w (upd H D<|.lst vs) s'.heap:=λa o e=>by
  by_cases R:a=D
  ·subst R;rw[bW] at e;cases e;exact⟨hz,h,n,r,M⟩
  ·rw[aL R] at e;exact(l.aF a o e).eE (λb w _ q=>q) (λb q=>by rw[aL<|c q];exact q) λb O q=>by rw[aL<|c q];exact q
 have P:Inv X pins G (upd H D<|.lst vs) s':=A.AS (ch:=t) l.os u J l.bare λb y=>⟨(d b y).2.2.2.1,(d b y).2.1,(d b y).2.2.2.2.1,(d b y).2.2.2.2.2⟩
 refine P.j0 λp W=>?_
 rcases Vb.mp W with z|z
 ·exact P.pin p<|Uu _ z
 ·have e:p=(C,x):=by simpa using z
  subst e;exact⟨F,by rw[aL<|Uq L];exact B,VQ<|Um A.lt Q,A.rM Q,E⟩
def uT{X:Cx}{pins:List (Addr×Obj)}{l a:L2.St}{i H:Hp}{h s':Shared}{C:Addr}{g:Obj}{h':Heap}(d:Inv X pins l i h)(f:h.heap.objs.size<=C)(I:Inv X (pins++[(C,g)]) a H s')(n:Heap.SameBut C s'.heap h'):Inv X pins a H {s' with heap:=h'}:=by
 obtain⟨_,k,j,_,_⟩:=I.pin (C,g)<|Uu _<|Uu _<|by simp
 refine Inv.turned (t':=s'.toks) (it:=C) I.oy (λb o m e=>n.extBut b o m e) k j (.inr<|Ug d.sz f) (λx c e z=>?_) λp r z=>?_
 ·obtain⟨v,q⟩:=d.cell x c e;exact absurd (Um q.lt (by rw[z];exact f))<|UY _
 ·exact absurd (Um (Ui (d.pin p r).1) (by rw[z];exact f))<|UY _
def bind_assoc(r:VM.R α)(f)(h:β->VM.Mem->VM.R γ):(r.bind f).bind h=r.bind λa M=>(f a M).bind h:=by cases r<;>rfl
def Ew(iu)(g)(t)(m)(x)(r)(σ)(M)(ws)(h:iu.ok M=af): (VM.comp iu g t m (x::r) σ M ws).bind bu=(x.get M).bind λv M1=>(g v σ M1).bind λbN M2=>(t bN M2).bind λb M3=>if b then(m bN M3).bind λy a=>(VM.comp iu g t m r bN a<|ws++[y]).bind bu else(VM.comp iu g t m r bN M3 ws).bind bu:=by
 rw[VM.comp,T1 h,bind_assoc];congr 1;funext v M1;rw[bind_assoc];congr 1;funext bN M2;rw[bind_assoc];congr 1;funext b M3;cases b
 ·rfl
 ·exact bind_assoc _ _ _
theorem uU:∀{aO:List VM.Src} {σ:VM.St} {M:VM.Mem} {c r:List VM.W} {M':VM.Mem},VM.comp iu g t m aO σ M c=.ok r M'->c.length<=r.length
 |[],σ,M,c,r,M',h=>by
  rw[VM.comp] at h;split at h
  ·cases h;exact T8 _
  ·cases h
 |x::rest,σ,M,c,r,M',h=>by
  rw[VM.comp] at h;split at h
  ·cases f:x.get M with
   |ok v M1=>
    rw[f] at h;cases e:g v σ M1 with
    |ok a M2=>
     simp only[VM.R.bind,e] at h;cases d:t a M2 with
     |ok b j=>
      simp only[d] at h;cases b with
      |true=>
       simp only[Ul] at h;cases i:m a j with
       |ok y k=>simp only[i] at h;have:=uU h;rw[Ur,Wr] at this;omega
       |ex _ _=>simp only[i] at h;cases h
       |bad=>simp only[i] at h;cases h
      |false=>simp only[UM] at h;exact uU h
     |ex _ _=>simp only[d] at h;cases h
     |bad=>simp only[d] at h;cases h
    |ex _ _=>simp only[VM.R.bind,e] at h;cases h
    |bad=>simp only[VM.R.bind,e] at h;cases h
   |ex _ _=>rw[f] at h;cases h
   |bad=>rw[f] at h;cases h
  ·cases h
def Gh{K:Fg}(h:au RV K ι ((VM.comp iu g t m aO σ M ws).bind bu) Q):ws.length<=sizeLine:=by
 cases e:VM.comp iu g t m aO σ M ws with
 |ok r d=>
  rw[e] at h;have a:au RV K ι (bu r d) Q:=h;have c:=uU e;unfold bu at a;by_cases b:r.length<=VM.lim
  ·exact Ug c b
  ·rw[T2 b] at a;exact(a).elim
 |ex _ _=>rw[e] at h;exact(h).elim
 |bad=>rw[e] at h;exact(h).elim
def uA{X:Cx}{N:List Str}{k:Nat}{cl:List Nat}{scope:Scope}{tg iter elt:Expr}{ifs:List Expr}{pos:Pos}{g:VM.GM}{t:VM.TM}{m:VM.EM}{pins:List (Addr×Obj)}{τ:L2.St}{H2:Hp}{P:Shared}{J:It}{O:List Addr}{it:Addr}{tn:Nat->Heap->Prop}{ι:List Addr}{M:VM.Mem}{σ:VM.St}{aO:List VM.Src}{h:VM.bJ}{Qv:VK}{RR:ah->Addr->Result->Shared->Prop}{E:ah->Shared->Prop}(B:i6 X N k cl scope)(calm:X.calm=af)(hg:∀C s H O,SG (dr X N scope (bQ X.env.cells scope.names []) C s H O) tg g)(ht:∀C s H O,iV (dr X N scope (bQ X.env.cells scope.names []) C s H O) ifs t)(hm:∀C s H O,SE (dr X N scope (bQ X.env.cells scope.names []) C s H O) elt m)(I2:Inv X pins τ H2 P)(T:Turn X.prog X.w X.K tg J O it tn)(st:tn 0 P.heap)(og:∀b∈O,eW X pins H2 b)(R2:Rel X.K ι M H2)(S2:bb ι σ τ)(J2:gg X.K ι J aO h)(My:au RV X.K ι ((VM.comp h g t m aO (eX cl<|σ++List.replicate k ae) M []).bind bu) Qv)(Pn:∀D C oC mC s' H',P.heap.objs.size<=C->s'.heap.Ns C mC->Inv X (pins++[(C,oC)]) τ H' s'->Qv (.ref D) H'->RR (.ref D) C (.ok .next) s'):
 wpAny (model X.prog X.w) X.A (newList []) (λacc Nt=>wpAny (model X.prog X.w) X.A (newFunctionEnv scope X.env.globals (bQ X.env.cells scope.names []) [] X.env.qual ae .none<|aa X.env) (λBn Nu=>codeAny (model X.prog X.w) X.A (.compStart (.ListComp elt [⟨tg,iter,ifs,0⟩] scope pos) 0 (.ref it) acc {Bn with scope:=relabel scope X.env}) (RR acc Bn.locals) Nu) E Nt) E P:=by
 refine V9<|wpAny_newFunctionEnv B.cell (by intro y hy;simp at hy) (λkI G a=>?_) B.kind;dsimp only at G a⊢;generalize wX:P.heap.push {cls:=.type "list",dict:=ae,data:=.seq ([]:List ah).toArray}=HP at G a⊢;generalize Po:HP.objs.size=C at G a⊢;generalize BW:P.heap.objs.size=D at G a⊢;have hC:C=D+1:=by rw[<-Po,<-wX,Wn,BW]
 have qf:D≠C:=by omega
 have sy:P.heap.objs.size<=D:=by omega
 have wY:P.heap.objs.size<=C:=by omega
 have below:∀b,b<P.heap.objs.size->b≠C/\b≠D:=λb Z=>⟨by omega,by omega⟩
 have old:∀b o,P.heap.get? b=aa o->kI.get? b=aa o:=λb o e=>a.extBut b o (below b<|Ui e).1<|Uw _<|wX▸Uw _ e
 have Nv:kI.get? D=aa {cls:=.type "list",data:=.seq ([]:List ah).toArray 0}:=a.extBut _ _ qf<|Uw _ (by rw[<-wX,<-BW];exact UR _ rfl);have sA:∀b∈O,b<P.heap.objs.size:=λb Z=>by obtain⟨o,e,_⟩:=T.obj 0 _ st b Z;exact Ui e
 have wZ:∀{rJ:List (Addr×Obj)} {H:Hp},(∀b∈O,H b=ae)->(∀p∈rJ,p.1=D)->∀b∈O,eW (dr X N scope (bQ X.env.cells scope.names []) C P H2 O) rJ H b:=λ{rJ H} hn hp b Z=>by
  refine⟨hn b Z,(below b<|sA b Z).1,λz=>?_,.inl Z,λx c e=>?_,λp Pp z=>?_⟩
  ·rcases T4.mp (I2.rd b z) with q|q
   ·exact(og b Z).2.1 q
   ·exact(og b Z).2.2.1 q
  ·exact(og b Z).2.2.2.2.1 x c<|mZ scope.names [] (λy d hy=>by simp at hy)<|Vd e
  ·have mx:p∈([]:List<|Addr×Obj)++rJ:=Pp;rw[UK] at mx;exact(below b<|sA b Z).2<|by rw[<-z,hp p mx]
 have loop:∀s3:Shared,s3={P with heap:=kI,toks:=P.toks+([]:List<|Str×ah).length}->
  codeAny (model X.prog X.w) X.A (.compLoop (.ListComp elt [⟨tg,iter,ifs,0⟩] scope pos) 0 (.ref it) (.ref D)<|compEnvC scope (bQ X.env.cells scope.names []) C X.env) (RR (.ref D) C) s3:=by
  rintro s3 rfl;have Ib:=Eu (s4:={P with heap:=kI,toks:=P.toks+([]:List<|Str×ah).length}) B I2 og sA old rfl I2.bare wY sy qf G Nv<|λv z=>nomatch z
  refine Cu (λn s=>∃i j M' bh Y H' ws vs l nn,i<=aO.length/\n=aO.length+1-i/\Inv (dr X N scope (bQ X.env.cells scope.names []) C P H2 O) [(D,{cls:=.type "list",data:=.seq (l:List ah).toArray nn})] Y H' s/\tn i s.heap/\(∀b∈O,H' b=ae)/\
   ι<+:j/\Rel X.K j M' H'/\bb j bh Y/\bj j ws vs/\Vals vs l/\au RV X.K j ((VM.comp h g t m (aO.drop i) bh M' ws).bind bu) Qv) ?_ (aO.length+1)
   ⟨0,ι,M,_,_,H2,[],[],[],0,Vc _,rfl,Ib,T.keep _ _ _ st<|λb Z o e=>old b o e,λb Z=>(og b Z).1,c_,R2,zW cl<|Paired.app S2<|zX k,.nil,.nil,My⟩
  rintro n s ⟨i,j,M',bh,Y,H',ws,vs,l,nn,hi,rfl,I,BX,hn,sC,R,S,sD,rv,hp⟩;by_cases oe:i<aO.length
  ·have ex:aO[i]? =aa aO[i]:=by simp[oe]
   rw[VF oe] at hp;have Q:h.ok M'=af:=by
    by_cases Q:h.ok M'=af
    ·exact Q
    ·rw[VM.comp,T2 Q] at hp;exact(hp:False).elim
   rw[Ew _ _ _ _ _ _ _ _ _ Q] at hp;refine aN (T.item (dr X N scope (bQ X.env.cells scope.names []) C P H2 O) rfl rfl rfl calm i _ s Y H' _ I (wZ hn<|by simp) BX<|J2.go i j M' H' _ sC R Q ex) λr s1 ⟨u,hr,h1⟩=>?_
   subst hr;refine aN h1 λ_ qg ⟨x,H1,I1,rx,y1,w4,Pq⟩=>?_
   obtain⟨i5,w,M2,q2,eg,Pr,Pu⟩:=J2.jz i j M' H' _ x H1 sC R Q ex y1;rw[eg] at hp;have Pw:=I1.pinned (wZ Pq<|by simp)<|T.obj _ _ w4;obtain⟨gt,pg,kg⟩:=hg C P H2 O;obtain⟨tt,pt,kt⟩:=ht C P H2 O;obtain⟨te,pe,ke⟩:=hm C P H2 O;have Px:au RV X.K i5 ((g w bh M2).bind λbN M2=>(t bN M2).bind λb M3=>if b then(m bN M3).bind λy M4=>(VM.comp h g t m (aO.drop (i+1)) bN M4 (ws++[y])).bind bu else(VM.comp h g t m (aO.drop (i+1)) bN M3 ws).bind bu) Qv:=au.up q2 hp
   have again:∀{n':Nat} {sE:L2.St} {H7:Hp} {s7:Shared} {my:List Addr} {M7:VM.Mem} {sF:VM.St} {sG:List VM.W} {sH:List V} {rT:List ah},Inv (dr X N scope (bQ X.env.cells scope.names []) C P H2 O) ([(D,{cls:=.type "list",data:=.seq rT.toArray n'})]++j_ O qg.heap) sE H7 s7->
    ι<+:my->Rel X.K my M7 H7->bb my sF sE->bj my sG sH->Vals sH rT->au RV X.K my ((VM.comp h g t m (aO.drop<|i+1) sF M7 sG).bind bu) Qv->
    ∃n,n<aO.length+1-i/\∃i j M' bh Y H' ws vs l nn,i<=aO.length/\n=aO.length+1-i/\Inv (dr X N scope (bQ X.env.cells scope.names []) C P H2 O) [(D,{cls:=.type "list",data:=.seq (l:List ah).toArray nn})] Y H' s7/\tn i s7.heap/\(∀b∈O,H' b=ae)/\
     ι<+:j/\Rel X.K j M' H'/\bb j bh Y/\bj j ws vs/\Vals vs l/\au RV X.K j ((VM.comp h g t m (aO.drop i) bh M' ws).bind bu) Qv:=by
    intro n' sE H7 s7 my M7 sF sG sH rT I7 p7 R7 S7 Py Pz PD;refine⟨aO.length+1-(i+1),by omega,i+1,my,M7,sF,sE,H7,sG,sH,rT,n',oe,rfl,I7.oy,T.keep _ _ _ w4 λb Z o e=>(I7.pin (b,o)<|Uu _<|Uu _<|qp Z e).1,λb Z=>?_,p7,R7,S7,Py,Pz,PD⟩;obtain⟨o,e,d⟩:=T.obj _ _ w4 b Z;exact(I7.pin (b,o)<|Uu _<|Uu _<|qp Z e).2.1
   refine Uv (pg _ qg Y H1 x u _ Pw rx (kg i5 M2 H1 bh Y w x (λjL H3=>∃iv M3 L,i5<+:iv/\Rel X.K iv M3 H3/\bb iv L jL/\au RV X.K iv ((t L M3).bind λb M4=>if b then(m L M4).bind λy M5=>(VM.comp h g t m (aO.drop (i+1)) L M5 (ws++[y])).bind bu else(VM.comp h g t m (aO.drop (i+1)) L M4 ws).bind bu) Qv) Pr (S.mono q2) Pu (au.seq Px λiv H3 L M3 jL q3 R3 S3 h3=>⟨iv,M3,L,q3,R3,S3,h3⟩))) (λ_ s3 ⟨jL,H3,I3,iv,M3,L,q3,R3,S3,h3⟩=>?_) λ_ _ f=>f.elim
   refine Uv (pt _ s3 jL H3 (λb H4=>∃U M4,iv<+:U/\Rel X.K U M4 H4/\au RV X.K U (if b then(m L M4).bind λy M5=>(VM.comp h g t m (aO.drop<|i+1) L M5<|ws++[y]).bind bu else(VM.comp h g t m (aO.drop<|i+1) L M4 ws).bind bu) Qv)
    I3 (kt iv M3 H3 L jL _ R3 S3 (au.seq h3 λU H4 b M4 b' q4 R4 e4 h4=>by cases e4;exact⟨U,M4,q4,R4,h4⟩))) (λb s4 ⟨H4,I4,U,M4,q4,R4,h4⟩=>?_) λ_ _ f=>f.elim
   have BY:ι<+:U:=sC.trans<|q2.trans<|q3.trans q4;have BZ:j<+:U:=q2.trans<|q3.trans q4;cases b with
   |false=>rw[T2 Uk];exact again I4 BY R4 (S3.mono q4) (bj.mono BZ sD) rv h4
   |true=>
    rw[T1 rfl];refine Uv (pe _ s4 jL H4 (λv H5=>∃mz M5 y,U<+:mz/\Rel X.K mz M5 H5/\RV mz y v/\au RV X.K mz ((VM.comp h g t m (aO.drop<|i+1) L M5<|ws++[y]).bind bu) Qv)
     I4 (ke U M4 H4 L jL _ R4 (S3.mono q4) (au.seq h4 λmz H5 y M5 v q5 R5 r5 h5=>⟨mz,M5,y,q5,R5,r5,h5⟩))) (λyv s5 ⟨v,H5,I5,PF,mz,M5,y,q5,R5,r5,h5⟩=>?_) λ_ _ f=>f.elim
    have Nw:=Gh h5;have PH:ws.length=l.length:=(Paired.len sD).trans rv.length;obtain⟨eD,nD,w8,B0,_⟩:=I5.pin (D,{cls:=.type "list",data:=.seq l.toArray nn}) (by show _∈([]:List<|Addr×Obj)++_;simp);refine Vu WW ⟨_,eD,rfl⟩ F.entry_list_append (F.args_list_append_2 _ _) (PySem.list_append D l.toArray nn yv (by rw[Uh,<-PH];rw[Ur,Wr] at Nw;omega)) ⟨eD,?_⟩;obtain⟨n',PJ⟩:∃n':Nat,(s5.heap.update D<|Obj.mapSeq λmB=>mB.push yv).get? D=aa {cls:=.type "list",data:=.seq (l++[yv]).toArray n'}:=by
     have q:=PySem.IsL.update eD<|λmB=>mB.push yv
     have e3:l.toArray.push yv=(l++[yv]).toArray:=by simp
     rw[e3] at q;exact⟨_,q⟩
    have I6:Inv (dr X N scope (bQ X.env.cells scope.names []) C P H2 O) (j_ O qg.heap) jL H5 {s5 with heap:=s5.heap.update D (Obj.mapSeq λmB=>mB.push yv),toks:=s5.toks}:=by
     refine Inv.turned (it:=D) (t':=s5.toks) (I5.j0 λp hp=>I5.pin p<|Uu _<|Uu _ hp) (λb o Z e=>(WV _ _<|Uq Z).trans e) nD w8 (.inr sy) (λx c e z=>?_) λp hp z=>?_
     ·obtain⟨vv,q⟩:=I2.cell x c (mZ scope.names [] (λy d hy=>by simp at hy)<|Vd e);exact absurd (Um q.lt (by rw[z];exact sy))<|UY _
     ·have mx:p∈([]:List<|Addr×Obj)++j_ O qg.heap:=hp;rw[UK] at mx;exact(below p.1<|sA p.1 (xO mx).1).2 z
    have I7:Inv (dr X N scope (bQ X.env.cells scope.names []) C P H2 O) ([(D,{cls:=.type "list",data:=.seq (l++[yv]).toArray n'})]++j_ O qg.heap) jL H5 {s5 with heap:=s5.heap.update D (Obj.mapSeq λmB=>mB.push yv),toks:=s5.toks}:=by
     refine I6.j0 λp hp=>?_
     rcases Vb.mp hp with z|z
     ·have e:p=(D,{cls:=.type "list",data:=.seq (l++[yv]).toArray n'}):=by simpa using z
      subst e;exact⟨PJ,nD,w8,B0,λv z=>nomatch z⟩
     ·exact I6.pin p<|Uu _ z
    refine again I7 (BY.trans q5) R5 (S3.mono<|q4.trans q5) (Paired.app (bj.mono (BZ.trans q5) sD)<|.cons r5 .nil) (rv.append<|.cons PF .nil) h5
  ·have hz:i=aO.length:=by omega
   subst hz;rw[VE] at hp;have Q:h.ok M'=af:=by
    by_cases Q:h.ok M'=af
    ·exact Q
    ·rw[VM.comp,T2 Q] at hp;exact(hp).elim
   have mx:=by rw[VM.comp,T1 Q] at hp;exact hp
   refine aN (T.done (dr X N scope (bQ X.env.cells scope.names []) C P H2 O) rfl rfl rfl calm aO.length _ s Y H' _ I (wZ hn<|by simp) BX<|J2.stop _ j M' H' sC R Q<|T8 _) λr s1 ⟨hr,I1⟩=>?_
   subst hr;obtain⟨eD,nD,w8,B0,_⟩:=I1.pin (D,{cls:=.type "list",data:=.seq l.toArray nn})<|by simp
   obtain⟨mC,sI,_⟩:=I1.loc;obtain⟨oC,es,ep,PK,PL,_⟩:=id sI;have fin:=ow R sD mx;refine Pn D C oC mC s1 _ wY sI (Ir I2 og I1 wY sy qf nD eD rv fin.1 PK λv z=>by rw[PL] at z;cases z)<|fin.2 D nD
 exact codeAny_compStart_list (loop _ rfl)<|T.self _ 0 _ _ _ (T.keep _ _ _ st λb Z o e=>old b o e)<|loop _ rfl
theorem xo{env:Env}:∀{names:List (Str×NameKind)} {x:Str}, (names.map λ(n,k)=>if(k==NameKind.free&&env.scope.kind==.function&&env.kindOf n==aa .cell) then(n,NameKind.cell) else(n,k)).lookup x=aa .local->names.lookup x=aa .local
 |[],x,h=>by simp at h
 |(n,k0)::r,x,h=>by
  have c:=@xo env r x;rw[Uo] at h;by_cases d:(k0==NameKind.free&&env.scope.kind==.function&&env.kindOf n==aa .cell)=af
  ·have b:(match((n,k0):Str×NameKind) with|(n,k)=>if(k==NameKind.free&&env.scope.kind==.function&&env.kindOf n==aa .cell) then(n,NameKind.cell) else(n,k))=(n,NameKind.cell):=T1 d;rw[b,Vs] at h;rw[Vs];cases a:x==n with
   |true=>rw[a] at h;cases h
   |false=>rw[a] at h;exact c h
  ·have b:(match((n,k0):Str×NameKind) with|(n,k)=>if(k==NameKind.free&&env.scope.kind==.function&&env.kindOf n==aa .cell) then(n,NameKind.cell) else(n,k))=(n,k0):=T2 d;rw[b,Vs] at h;rw[Vs];cases a:x==n with
   |true=>rw[a] at h;exact h
   |false=>rw[a] at h;exact c h
noncomputable def Mz(N:List Str)(cl:List Nat)(n:Nat)(names:List<|Str×NameKind):Bool:=(List.range N.length).all λi=>match N[i]? with
 |some x=>!(names.lookup x==aa NameKind.local)||cl.contains i||ai (n<=i)
 |none=>af
def K0(free:freeOk X.env scope.names=af)(a:∀y∈scope.names,y.2≠.cell)(kind:scope.kind=.function)(names:∀y∈scope.names,y.2=.local->scope.names.lookup y.1=aa .local)(own:Mz (X.N++ex) cl X.N.length scope.names=af):i6 X (X.N++ex) ex.length cl scope:=by refine⟨by simp,λi c=>by rw[UU c],free,a,kind,names,λi x e f=>?_⟩;have h3:=xo f;have c:=(T6.mp e).1;have d:=UO.mp own i<|UL.mpr c;rw[e] at d;have b:(!(scope.names.lookup x==aa NameKind.local)||cl.contains i||ai (X.N.length<=i))=af:=d;rw[h3] at b;simp only[V0,Wh,Vw,VL,List.contains_eq_mem,UQ] at b;exact b
def vj{X:Cx}{ex:List Str}{cl:List Nat}{scope:Scope}{y c elt:Expr}{n:List Expr}{pos:Pos}{E:VM.IM}{g:VM.GM}{t:VM.TM}{m:VM.EM}(B:i6 X (X.N++ex) ex.length cl scope)(calm:X.calm=af)(hi:SI X y c E)(hg:∀C s H l,SG (dr X (X.N++ex) scope (bQ X.env.cells scope.names []) C s H l) y g)(ht:∀C s H l,iV (dr X (X.N++ex) scope (bQ X.env.cells scope.names []) C s H l) n t)(hm:∀C s H l,SE (dr X (X.N++ex) scope (bQ X.env.cells scope.names []) C s H l) elt m)(hs:∀x,foldedSetIterable c X.env x=pure x:=by intro _;rfl):SE X (.ListComp elt [⟨y,c,n,0⟩] scope pos) (bU ex.length cl E g t m):=by
 obtain⟨wi,Z,ki⟩:=hi;refine⟨λk H Q=>∃f M j,Rel X.K f M H/\bb f j k/\au RV X.K f (bU ex.length cl E g t m j M) Q,λd s k H Q I h=>?_,λf M H j k Q R S h=>⟨f,M,j,R,S,h⟩⟩;obtain⟨f,M,j,R,S,h⟩:=h;rw[eval_ListComp];refine Xm (use:=ae) rfl hs (t_ B.free) B.kind B.names (aN (Z d s k H (λJ U=>∃a M1 b i,f<+:a/\Rel X.K a M1 U/\gg X.K a J b i/\au RV X.K a ((VM.comp i g t m b (eX cl<|j++List.replicate ex.length ae) M1 []).bind bu) Q) I (ki f M H j k _ R S (au.seq h λa U O M1 J u r L G=>⟨a,M1,O.1,O.2,u,r,L,G⟩))) λv s1 G=>aN G λW s2 h2=>?_)
 obtain⟨it,l,tn,J,H2,e,P,T,p,f2,a,M1,b,i,u,r,L,hp⟩:=h2;subst e;exact uA (RR:=λz C=>compPost (model X.prog X.w) X.A X.xe ae (EP X d k Q) z C) B calm hg ht hm P T p f2 r (S.mono u) L hp λD C oC Y s' V hC o I' q=>⟨Y,o,λh' F=>⟨.ref D,V,uT P hC I' F,rfl,q⟩⟩
def Iu{X:Cx}{ex:List Str}{cl:List Nat}{scope:Scope}{Y b elt:Expr}{k:List Expr}{pos l V:Pos}{y:Str}{i:Nat}{Z:VM.IM}{g:VM.GM}{t:VM.TM}{m:VM.EM}(hN:X.N.Nodup)(B:i6 X (X.N++ex) ex.length cl scope)(calm:X.calm=af)(hi:SI X Y b Z)(hg:∀C s H E,SG (dr X (X.N++ex) scope (bQ X.env.cells scope.names []) C s H E) Y g)(ht:∀C s H E,iV (dr X (X.N++ex) scope (bQ X.env.cells scope.names []) C s H E) k t)(hm:∀C s H E,SE (dr X (X.N++ex) scope (bQ X.env.cells scope.names []) C s H E) elt m)(hy:X.N[i]? =aa y:=by rfl)(hx:Loc X.env.scope y:=by first|exact Or.inl rfl|exact Or.inr rfl)(hf:X.fn y=af\/X.env.scope.names.lookup y=aa .local:=by first|exact .inl rfl|exact .inr rfl|assumption)(PN:swapsWith (.ListComp elt [⟨Y,b,k,0⟩] scope pos) (aa<|.Name y V) l.line X.env=pure af:=by rfl)(hs:∀x,foldedSetIterable b X.env x=pure x:=by intro _;rfl):SS X (.Assign [.Name y V] (.ListComp elt [⟨Y,b,k,0⟩] scope pos) l) (aJ (bU ex.length cl Z g t m)<|VM.ay i):=by
 obtain⟨wi,pi,ki⟩:=hi;refine⟨λD f H=>∃j M n,Rel X.K j M H/\bb j n f/\a7 X.K j (aJ (bU ex.length cl Z g t m) (VM.ay i) n M) D,λd s f H D I h=>?_,λj M H n f D R S h=>⟨j,M,n,R,S,h⟩⟩;obtain⟨j,M,n,R,S,h⟩:=h;have h0:au RV X.K j (bU ex.length cl Z g t m n M) (λv p=>D.nx (f.set i<|aa v) p):=a7.seq h λa p w M1 v W U r1 G=>G a p _ c_ U (Paired.jw (F:=jJ a) (x:=aa w) (y:=aa v) ⟨v,rfl,r1⟩ i<|S.mono W)
 rw[exec_Assign_Name_used _ _ _ _ PN];refine T3<|wpAny_standAt<|T3 ?_;show wpAny _ X.A (do let _<-comprehension (.ListComp elt [⟨Y,b,k,0⟩] scope pos) scope X.env _ (newList []) ag (eval b X.env) (aa<|assign (.Name y V) X.env)) _ _ s;refine T3 (Uv (Xm (use:=aa<|assign (.Name y V) X.env) (Q:=λ_ z=>SP X d D .next z) rfl hs (t_ B.free) B.kind B.names (aN (pi d s f H (λJ p=>∃a M1 c u,j<+:a/\Rel X.K a M1 p/\gg X.K a J c u/\au RV X.K a ((VM.comp u g t m c (eX cl<|n++List.replicate ex.length ae) M1 []).bind bu) (λv p=>D.nx (f.set i<|aa v) p)) I (ki j M H n f _ R S (au.seq h0 λa p pr M1 J W U J1 G=>⟨a,M1,pr.1,pr.2,W,U,J1,G⟩))) λv s1 G=>aN G λBt s2 h2=>?_)) (λ_ z hq=>Uj (Uj hq)) λ_ _ e=>e)
 obtain⟨it,E,tn,J,H2,e,I2,T,PQ,f2,a,M1,c,u,W,U,J1,hp⟩:=h2;subst e;refine uA (RR:=λacc C=>compPost (model X.prog X.w) X.A X.xe (aa<|assign (.Name y V) X.env) (λ_ z=>SP X d D .next z) acc C) B calm hg ht hm I2 T PQ f2 U (S.mono W) J1 hp λA' C oC mC z H' hC sI I' q=>?_
 obtain⟨eC,_⟩:=I'.pin (C,oC)<|Uu _<|Uu _<|by simp
 refine aN (zf hN hy hx hf _ z f H' (.ref A') (.ref A') (λL O=>L=f.set i (aa<|.ref A')/\O=H') I' rfl ⟨rfl,rfl⟩) λ_ SH ⟨L,O,P,e1,e2⟩=>?_
 subst e1 e2;obtain⟨PR,_⟩:=P.pin (C,oC)<|Uu _<|Uu _<|by simp
 refine⟨mC,?_,λh' w9=>⟨_,_,uT I2 hC P w9,q⟩⟩;obtain⟨o,es,ep,ho,r⟩:=sI;rw[eC] at ho;cases ho;exact⟨oC,es,ep,PR,r⟩
def ox(r:bj ι a vs)(N):bb ι (a.map aa++List.replicate (N.length-a.length) ae) (L2.start N vs):=by
 unfold L2.start;have c:∀{a:List VM.W} {vs:List V},bj ι a vs->bb ι (a.map aa) (vs.map aa):=by
  intro a vs r;induction r with
  |nil=>exact .nil
  |cons h _ b=>exact .cons ⟨_,rfl,h⟩ b
 have d:∀n:Nat,bb ι (List.replicate n ae) (List.replicate n ae):=by
  intro n;induction n with
  |zero=>exact .nil
  |succ n b=>exact .cons trivial b
 rw[Paired.len r];exact Paired.app (c r)<|d _
def AE{K:Fg}{st:Stmt}(F:gH K x qual st f fd)(S:fV N ps<|cc st)(J:mg x=aa (.ref f))(y:Binds K fd ps [])(D:∀(c) (A) (outer) (s) (H) (E),bA k (A.deeper<|envOfC qual (cc st) s.heap.objs.size f c)->e9 (cj fz P w K mg base N qual (cc st) f c A outer s H E).cX (fD st) body)(B:N.length=n:=by rfl)(I:ps.length=np:=by rfl):jK P w K mg base (k+1) x f fd ps (VM.fn np n body):=by
 subst B I;refine⟨F.ok S (λG H Q E h=>h.1)<|λc A outer s H G Q E C h=>?_,J,F.kp,y,λd M i=>T2 i⟩;obtain⟨z,l,M,d,R,r,h⟩:=h;obtain⟨t,u,O⟩:=D c A outer s H E C;refine⟨t,u,O l M H _ _ _ R (ox r N) ?_⟩;have i:d.length=ps.length:=by rw[Paired.len r];exact z
 have b:au RV K l (match body (d.map aa++List.replicate (N.length-ps.length) ae) M with
  |.rt v a=>.ok v a
  |.nx _ a=>.ok .aw a
  |.ex v a=>.ex v a
  |_=>.bad) Q:=by
  have m:au RV K l (if d.length=ps.length then(match body (d.map aa++List.replicate (N.length-ps.length) ae) M with
   |.rt v a=>.ok v a
   |.nx _ a=>.ok .aw a
   |.ex v a=>.ex v a
   |_=>.bad) else .bad) Q:=h
  rw[T1 i] at m;exact m
 rw[i];cases e:body (d.map aa++List.replicate (N.length-ps.length) ae) M with
 |nx g a=>rw[e] at b;exactλj o q p L T=>b j o .aw p L rfl
 |rt v a=>rw[e] at b;exact b
 |bk g a=>rw[e] at b;exact(b).elim
 |ct g a=>rw[e] at b;exact(b).elim
 |ex v a=>rw[e] at b;exact(b).elim
 |bad=>rw[e] at b;exact(b).elim
def Gi{P:Program}{w:World}{K:Fg}{e:Str->Option ah}{base:Heap}{x:Str}{f:Addr}{d:FuncData}{c:List Str}(i:e x=aa (.ref f))(j:PySem.W.keepIn K (.ref f)=af)(k:Binds K d c []):
 jK P w K e base 0 x f d c (λ_ _=>.bad):=by
 have g:∀a H Q E,¬mw K c.length (λ_ _=>.bad) a H Q E:=λa H Q E h=>by obtain⟨_,_,_,_,_,_,h⟩:=h;exact h
 exact⟨⟨λa H Q E h=>absurd h<|g a H Q E,λA b s H args l a Q E _ _ _ _ h=>absurd h<|g a H Q E⟩,i,j,k,λ_ _ _=>rfl⟩
noncomputable def pH(K:Fg):Sp:=λg H Q _=>∃(a:Addr) (c:List Int),g=[.ref a]/\bg K H a (c.map V.int)/\c.length<=63/\(∀b,H b=ae\/(∃o d,H b=aa (.aU o<|.lst d))\/∃e,H b=aa (.cS e))/\Tb K H/\∀f,Q (.bl af) f
def K1{K:Fg}(F:jK P w K mg base k x f fd [a0] c)(math:∀d:List Int,d.length<=63->∃M,c [.ref 0] [.aU<|d.map .int]=.ok (.bl af) M):dS P w K mg base fz k f fd [a0] (pH K):=by
 refine F.ok.imp λR H Q E h=>?_
 obtain⟨a,d,rfl,i,g,u,B,q⟩:=h;obtain⟨L,j⟩:=math d g;have t:bj [a] (d.map VM.W.int) (d.map V.int):=by
  clear i g q j;induction d with
  |nil=>exact .nil
  |cons n r C=>exact .cons rfl C
 have G:su K H a (d.map V.int):=by
  rcases i with(h|⟨o,h⟩)|h
  ·rcases u a with z|⟨o,xs,z⟩|⟨ps,z⟩
   ·rw[z] at h;cases h
   ·rw[z] at h;cases h
   ·rw[z] at h;cases h
  ·exact .inl ⟨o,h⟩
  ·exact .inr h
 refine⟨rfl,[a],[.aU<|d.map .int],[.ref 0],⟨rfl,λb p o l e=>?_,λb J p O D l e h3 I y N=>?_,B⟩,.cons ⟨a,rfl,rfl⟩ .nil,?_⟩
 ·cases b with
  |zero=>cases l;cases e;exact⟨_,G,t⟩
  |succ b=>cases e
 ·cases b with
  |zero=>cases h3;cases y
  |succ b=>cases h3
 ·rw[j];intro A m v _ _ s;cases s;exact q m
noncomputable def gb:VM.Kd->String
 |.int=>"int"
 |.bool=>"bool"
 |.str=>"str"
 |.list=>"list"
 |.tuple=>"tuple"
inductive iw where
 |aw|bl|int|str|lst|tup
noncomputable def iw.name:iw->String
 |.aw=>"NoneType"
 |.bl=>"bool"
 |.int=>"int"
 |.str=>"str"
 |.lst=>"list"
 |.tup=>"tuple"
noncomputable def iw.is:iw->VM.Kd->Bool
 |.aw,_=>ag
 |.bl,k=>ai<|k=.bool\/k=.int
 |.int,k=>ai<|k=.int
 |.str,k=>ai<|k=.str
 |.lst,k=>ai<|k=.list
 |.tup,k=>ai<|k=.tuple
def y6(K:Fg)(t:iw)(k):PySem.W.kitOne K (.type t.name) (.type<|gb k)=aa (t.is k):=by cases t<;>cases k<;>kernel_rfl
theorem yk(K:Fg)(t:iw):∀a:List VM.Kd,PySem.W.kitAny K (.type t.name) (a.map λk=>.type<|gb k)=aa (a.any t.is)
 |[]=>rfl
 |k::r=>by rw[Uo,PySem.W.kitAny,y6,yk K t r,U4];cases t.is k<;>rfl
def A5{K:Fg}{n:List Addr}{M:VM.Mem}{H:Hp}{w:VM.W}{v:V}{d:List VM.Kd}{b:Bool}(R:Rel K n M H)(r:RV n w v)(e:dm M w d=aa b)(h:d≠[]):∃t:iw,dR K H v (.type t.name)/\d.any t.is=b:=by
 have l:∃t:iw,dR K H v (.type t.name)/\∀k,cM M w k=aa (t.is k):=by
  cases w with
  |aw=>cases r;exact⟨.aw,.aw,λk=>rfl⟩
  |bl x=>cases r;exact⟨.bl,.bl x,λk=>rfl⟩
  |int i=>cases r;exact⟨.int,.int i,λk=>rfl⟩
  |str x=>cases r;exact⟨.str,.str _,λk=>rfl⟩
  |ref a=>
   obtain⟨p,z,rfl⟩:=r;cases f:M[a]? with
   |none=>
    exfalso;cases d with
    |nil=>exact h rfl
    |cons k rest=>
     have:cM M (.ref a) k=ae:=by unfold cM;simp only[f]
     rw[dm,this] at e;cases e
   |some o=>
    have q:=R.obj a p o z f;cases o with
    |lst xs=>obtain⟨y,j,_⟩:=q;exact⟨.lst,.lst j,λk=>by unfold cM;simp only[f]<;>rfl⟩
    |tup xs=>obtain⟨y,j,_⟩:=q;exact⟨.tup,.tup j,λk=>by unfold cM;simp only[f]<;>rfl⟩
    |aU xs=>
     exfalso;cases d with
     |nil=>exact h rfl
     |cons k rest=>
      have:cM M (.ref a) k=ae:=by unfold cM;simp only[f]
      rw[dm,this] at e;cases e
    |aD xs=>
     exfalso;cases d with
     |nil=>exact h rfl
     |cons k rest=>
      have:cM M (.ref a) k=ae:=by unfold cM;simp only[f]
      rw[dm,this] at e;cases e
    |ins c xs=>
     exfalso;cases d with
     |nil=>exact h rfl
     |cons k rest=>
      have:cM M (.ref a) k=ae:=by unfold cM;simp only[f]
      rw[dm,this] at e;cases e
    |di xs=>
     exfalso;cases d with
     |nil=>exact h rfl
     |cons k rest=>
      have:cM M (.ref a) k=ae:=by unfold cM;simp only[f]
      rw[dm,this] at e;cases e
    |a8 g xs=>
     exfalso;cases d with
     |nil=>exact h rfl
     |cons k rest=>
      have:cM M (.ref a) k=ae:=by unfold cM;simp only[f]
      rw[dm,this] at e;cases e
    |bR=>
     exfalso;cases d with
     |nil=>exact h rfl
     |cons k rest=>
      have:cM M (.ref a) k=ae:=by unfold cM;simp only[f]
      rw[dm,this] at e;cases e
    |b8 c=>
     exfalso;cases d with
     |nil=>exact h rfl
     |cons k rest=>
      have:cM M (.ref a) k=ae:=by unfold cM;simp only[f]
      rw[dm,this] at e;cases e
 obtain⟨t,j,s⟩:=l;refine⟨t,j,?_⟩;have m:∀d,dm M w d=aa (d.any t.is):=by
  intro d;induction d with
  |nil=>rfl
  |cons k r u=>rw[dm,s k,u,U4]
 rw[m d] at e;exact Ua e
section
variable{X:Cx}{pins:List (Addr×Obj)}{σ:L2.St}{H:Hp}{s:Shared}
def A6{t:iw}(I:Inv X pins σ H s)(b:RelV x u)(ty:dR X.K H x<|.type t.name):∃f:Heap->Prop,PySem.W.KitX X.K u (.type t.name) f/\f s.heap/\u≠.builtin "__main__.__loader__#opaque":=by
 generalize e:Value.type t.name=tv at ty;cases ty with
 |aw=>cases(b);exact⟨_,PySem.W.kitx_none,trivial,λz=>nomatch z⟩
 |bl y=>cases(b);exact⟨_,PySem.W.kitx_bool,trivial,λz=>nomatch z⟩
 |int i=>obtain⟨g,q⟩:=(b);cases q;exact⟨_,PySem.W.kitx_int,trivial,λz=>nomatch z⟩
 |str y=>obtain⟨g,q⟩:=(b);cases q;exact⟨_,PySem.W.kitx_str,trivial,λz=>nomatch z⟩
 |iX y=>obtain⟨g,q⟩:=(b);cases q;exact⟨_,PySem.W.kitx_float,trivial,λz=>nomatch z⟩
 | @lst a xs c=>cases(b);obtain⟨_,_,n,_,d⟩:=(I.aF a _ c);exact⟨_,PySem.W.kitx_list,⟨_,d,rfl⟩,λz=>nomatch z⟩
 | @aU a l xs c=>cases(b);obtain⟨_,_,_,n,_,d⟩:=(I.aF a _ c);exact⟨_,PySem.W.kitx_list,⟨_,d,rfl⟩,λz=>nomatch z⟩
 | @tup a xs c=>cases(b);obtain⟨_,_,_,p⟩:=(I.aF a _ c);obtain⟨o,d,h,_⟩:=p;exact⟨_,PySem.W.kitx_tuple,⟨o,d,h⟩,λz=>nomatch z⟩
 |dK c=>cases t<;>(injection e with z;exact absurd z<|by decide)
 |dT c=>cases t<;>(injection e with z;exact absurd z<|by decide)
 |ins c cl k m j hm=>cases e
def Ex:f9 X (.builtin "isinstance") (λxs H Q=>∃(x:V) (t:iw) (k:VM.Kd),xs=[x,.ty<|gb k]/\dR X.K H x (.type t.name)/\Q (.bl<|t.is k) H):=by
 intro pins s σ H xs g Q I r h;obtain⟨x,t,k,rfl,ty,q⟩:=h;cases r with
 |cons f d=>
  cases d with
  |cons rc b=>
   cases b
   rename_i u c
   have ec:=rc;subst ec;obtain⟨i,Z,e,a⟩:=A6 I f ty;exact PySem.W.kia_one Z I.dz e (y6 X.K t k) a λj=>⟨.bl<|t.is k,H,I.tok _,rfl,q⟩
theorem zY:∀{a:List VM.Kd} {us:List ah},Vals (a.map λk=>V.ty<|gb k) us->us=a.map λk=>Value.type (gb k)
 |[],_,.nil=>rfl
 |k::r,_,.cons h t=>by have e:=h;rw[Uo,e,zY t]
def Ey:f9 X (.builtin "isinstance") (λxs H Q=>∃(x:V) (t:iw) (b:List VM.Kd) (p:Addr),xs=[x,.ref p]/\H p=aa (.tup<|b.map λk=>V.ty<|gb k)/\dR X.K H x (.type t.name)/\Q (.bl<|b.any t.is) H):=by
 intro pins s σ H xs z Q I r h;obtain⟨x,t,b,p,rfl,v,ty,q⟩:=h;cases r with
 |cons y w=>
  cases w with
  |cons rc f=>
   cases f
   rename_i u c
   have ec:=rc;subst ec;obtain⟨_,l,g,o,m,a,n,e⟩:=I.aF p _ v;have i:=zY g;subst i;obtain⟨A,D,E,F⟩:=o;simp only at a e;subst a e;obtain⟨B,Z,j,d⟩:=A6 I y ty;exact PySem.W.kia_tup Z I.dz j m (yk X.K t b) d λC=>⟨.bl<|b.any t.is,H,I.tok _,rfl,q⟩
end
def Rel.other{K:Fg}{h:List Addr}{M:VM.Mem}{H:Hp}(R:Rel K h M H){p:Addr}(b:H p=ae)(u:HO):Rel K h M (upd H p u):=by
 refine⟨R.len,λa q o i j=>?_,R.inj,R.tb.new b⟩;have r:=R.obj a q o i j;refine RO.other r (λf=>?_) λm d e=>by rw[b] at e;cases e
 rintro rfl;cases o with
 |lst xs=>obtain⟨d,e,_⟩:=r;rw[b] at e;cases e
 |tup xs=>obtain⟨d,e,_⟩:=r;rw[b] at e;cases e
 |aU xs=>cases f
 |aD xs=>obtain⟨d,e,_⟩:=r;rw[b] at e;cases e
 |ins c xs=>obtain⟨_,_,_,_,e,_⟩:=r;rw[b] at e;cases e
 |di x=>cases f
 |a8 g xs=>obtain⟨o,k,d,l,_,e,_⟩:=r;rw[b] at e;cases e
 |bR=>cases f
 |b8 c=>obtain⟨C,_,e⟩:=r;rw[b] at e;cases e
def dR.other{K:Fg}(h:dR K H v t)(a:H p=ae)(u):dR K (upd H p u) v t:=by
 cases h with
 |aw=>exact .aw
 |bl x=>exact .bl x
 |int x=>exact .int x
 |str x=>exact .str x
 |iX x=>exact .iX x
 |lst e=>exact .lst (by rw[aL<|cP e a];exact e)
 |aU e=>exact .aU (by rw[aL<|cP e a];exact e)
 |tup e=>exact .tup (by rw[aL<|cP e a];exact e)
 |dK e=>exact .dK (by rw[aL<|cP e a];exact e)
 |dT e=>exact .dT (by rw[aL<|cP e a];exact e)
 |ins e cl d c b hm=>exact .ins (by rw[aL<|cP e a];exact e) cl d c b hm
section
variable{X:Cx}
def A7(k):bootBuiltins (Str.ofString<|gb k)=aa (.type<|gb k):=by cases k<;>kernel_rfl
def K2{a:Expr}{m:VM.EM}{x:Str}(k:VM.Kd)(C:X.mg "isinstance"=ae)(g:X.mg x=ae)(I:SE X a m)(r:x=Str.ofString (gb k):=by rfl)(G:Gl X "isinstance":=by rfl)(d:Gl X x:=by rfl)(u:x≠"__name__":=by decide+kernel)(i:(x==("__debug__":Str))=ag:=by decide+kernel)(he:starEach [a,.Name x p2] X.env=(ag,eval a X.env)::starEach [.Name x p2] X.env:=by rfl)(f:(backTo pos<|starEach [.Name x p2] X.env).any (·.1)=ag:=by rfl)(j:starEach [.Name x p2] X.env=(ag,eval (.Name x p2) X.env)::starEach [] X.env:=by rfl):
 SE X (.Call (.Name "isinstance" p) [a,.Name x p2] [] pos) (cI [k] m):=by
 obtain⟨J,y,D⟩:=I;have z:PE X (.Name x p2) (tC<|.ty<|gb k):=uZ d g (by rw[r];exact A7 k) (rfl) u i;refine⟨_,mP Ex G C (by kernel_rfl) (dE y (dE z fi j) he) (by decide+kernel) (by decide+kernel) he f,λE M H F q Q R S h=>?_⟩;refine D E M H F q _ R S<|au.seq h λB L w M1 v K n s A=>?_
 have c:=A;cases e:dm M1 w [k] with
 |none=>rw[e] at c;exact(c).elim
 |some b=>
  rw[e] at c;obtain⟨t,ty,o⟩:=A5 n s e<|by simp
  refine⟨v,t,k,rfl,ty,?_⟩;have l:=by simpa using o
  rw[l];exact au.ok c n rfl
noncomputable def rV(X:Cx)(b:List Expr)(a:List VM.Kd):Prop:=PA X b<|λ_ H Q=>Q (a.map λk=>V.ty<|gb k) H
def Gj:rV X [] []:=fi
def Ez(k)(c:X.mg x=ae)(d:rV X es ks)(e:x=Str.ofString (gb k):=by rfl)(a:Gl X x:=by rfl)(f:x≠"__name__":=by decide+kernel)(b:(x==("__debug__":Str))=ag:=by decide+kernel)(g:starEach (.Name x p2::es) X.env=(ag,eval (.Name x p2) X.env)::starEach es X.env:=by rfl):
 rV X (.Name x p2::es) (k::ks):=by
 have h:PE X (.Name x p2) (tC<|.ty<|gb k):=uZ a c (by rw[e];exact A7 k) (rfl) f b;exact dE h d g
def Iv{x1}(y:X.mg "isinstance"=ae)(n:SE X a m)(l:rV X es ks)(k:ks≠[]:=by simp)(s:ks.length<=64:=by decide)(C:Gl X "isinstance":=by rfl)(he:starEach [a,.Tuple es x1 p2] X.env=(ag,eval a X.env)::starEach [.Tuple es x1 p2] X.env:=by rfl)(d:(backTo pos<|starEach [.Tuple es x1 p2] X.env).any (·.1)=ag:=by rfl)(f:starEach [.Tuple es x1 p2] X.env=(ag,eval (.Tuple es x1 p2) X.env)::starEach [] X.env:=by rfl):
 SE X (.Call (.Name "isinstance" p) [a,.Tuple es x1 p2] [] pos) (cI ks m):=by
 obtain⟨E,u,z⟩:=n;refine⟨_,mP Ey C y (by kernel_rfl) (dE u (dE (Ac l) fi f) he) (by decide+kernel) (by decide+kernel) he d,λA M H B o Q R S h=>?_⟩;refine z A M H B o _ R S<|au.seq h λx G w M1 v F i r D=>?_
 have c:=D;cases e:dm M1 w ks with
 |none=>rw[e] at c;exact(c).elim
 |some b=>rw[e] at c;obtain⟨t,ty,j⟩:=A5 i r e k;refine⟨by rw[Ub];exact Ug s (by decide),λq g=>?_⟩;refine⟨v,t,ks,q,rfl,bW,dR.other ty g _,?_⟩;rw[j];exact au.ok c (i.other g _) rfl
end
noncomputable def w_(K:Fg)(a b:Addr):It:=
 ⟨λi H=>∃c x d y,bg K H a c/\c[i]? =aa x/\bg K H b d/\d[i]? =aa y,
  λi H v e=>∃p x y,H p=ae/\v=.ref p/\e=upd H p (.tup [x,y])/\(∀c,bg K H a c->c[i]? =aa x)/\∀d,bg K H b d->d[i]? =aa y,
  λi H=>∃c d,bg K H a c/\bg K H b d/\(c.length<=i\/d.length<=i)⟩
def Gk{P:Program}{w:World}{K:Fg}{elts:List Expr}{x1:Nat}{pos:Pos}(a b z TI TO A B:Addr)(D:ZipApart z TI TO A B a b):
 Turn P w K (.Tuple elts x1 pos) (w_ K a b) [z,TI,TO,A,B] z (λi h=>IsZip h z TI TO .none/\IsPair h TI (.ref A) (.ref B)/\(∃u v,IsPair h TO u v)/\h.IsListIter A a i/\h.IsListIter B b i) where
 mem:=by simp
 obj:=λi h O c hc=>by
  obtain⟨M,j,⟨u,v,t⟩,R,Q⟩:=O;simp only[T4,Ud,Ue] at hc;rcases hc with rfl|rfl|rfl|rfl|rfl
  ·exact⟨_,M,λv z=>nomatch z⟩
  ·exact⟨_,j,λv z=>nomatch z⟩
  ·exact⟨_,t,λv z=>nomatch z⟩
  ·obtain⟨o,e,c,d⟩:=R;exact⟨o,e,λv z=>by rw[d] at z;cases z⟩
  ·obtain⟨o,e,c,d⟩:=Q;exact⟨o,e,λv z=>by rw[d] at z;cases z⟩
 keep:=λi h h' O k=>by obtain⟨M,j,⟨u,v,t⟩,R,Q⟩:=O;exact⟨k z (by simp) _ M,k TI (by simp) _ j,⟨u,v,k TO (by simp) _ t⟩,R.at λo e=>k A (by simp) o e,Q.at λo e=>k B (by simp) o e⟩
 item:=by
  intro X hP hw hK hc i S s σ H E I C O hg;subst hP hw hK;obtain⟨M,j,⟨u,v,t⟩,R,Q⟩:=O;obtain⟨xs,x,ys,y,hq,hx,N,hy⟩:=hg;obtain⟨xa,rv,p,_⟩:=I.list hq;obtain⟨Z,Y,p2,_⟩:=I.list N;obtain⟨ux,PU,PV⟩:=rv.get hx;obtain⟨uy,PX,PY⟩:=Y.get hy;refine wpAny_pyNext_zip_item D M j t R Q p.isList p2.isList (x:=ux) (y:=uy) (by simpa using PU) (by simpa using PX) λh' a1 a2 a3 a4 a5 a6 kk=>?_
  refine⟨_,rfl,wpAny_letOwnedTupleGo_zip a1 λV PZ F=>?_⟩;have fr:H s.heap.objs.size=ae:=I.aF.fresh<|T8 _;have W:∀{c:Addr} {o:Obj},s.heap.get? c=aa o->c≠s.heap.objs.size:=λe=>UB<|Ui e
  have P0:z≠s.heap.objs.size:=W M;have G:∀c o,c∉([z,TO,A,B]:List Addr)->s.heap.get? c=aa o->V.get? c=aa o:=λc o f e=>by simp only[T4,Ud,Ue,not_or] at f;exact F.extBut c o f.1<|kk c o f.1 f.2.1 f.2.2.1 f.2.2.2 e
  have L:∀{c:Addr} {o:HO},H c=aa o->c∉([z,TO,A,B]:List Addr):=λ{c o} e f=>by
   have:c∈([z,TI,TO,A,B]:List Addr):=by
    simp only[T4,Ud,Ue] at f⊢;rcases f with q|q|q|q
    ·exact .inl q
    ·exact .inr<|.inr<|.inl q
    ·exact .inr<|.inr<|.inr<|.inl q
    ·exact .inr<|.inr<|.inr<|.inr q
   rw[(C c this).1] at e;cases e
  have g:∀c∈([z,TO,A,B]:List Addr),c∈([z,TI,TO,A,B]:List Addr):=λc f=>by
   simp only[T4,Ud,Ue] at f⊢;rcases f with q|q|q|q
   ·exact .inl q
   ·exact .inr<|.inr<|.inl q
   ·exact .inr<|.inr<|.inr<|.inl q
   ·exact .inr<|.inr<|.inr<|.inr q
  have J:∀{c:Addr} {o:HO},H c=aa o->c≠s.heap.objs.size:=λe=>cP e fr
  have aF:bS X.prog X.w (upd H s.heap.objs.size<|.tup [x,y]) V:=λc o e=>by
   by_cases l:c=s.heap.objs.size
   ·subst l;rw[bW] at e;cases e;exact⟨by show 2<=sizeLine;decide,[ux,uy],.cons PV<|.cons PY .nil,⟨_,F.extBut _ _ (Uq P0) a5,rfl,_,rfl⟩⟩
   ·rw[aL l] at e;refine(I.aF c o e).eE (λd v T q=>?_) (λd q=>by rw[aL<|J q];exact q) λd zs q=>by rw[aL<|J q];exact q
    rcases T with rfl|T
    ·exact G _ v (L e) q
    ·exact G _ v (L T) q
  have I':Inv X S σ (upd H s.heap.objs.size<|.tup [x,y]) {s with heap:=V}:=by
   refine I.step (g':=s.gens) (d':=s.drawn) (t':=s.toks) (ch:=[z,TO,A,B]) (λc f=>⟨(C c<|g c f).2.2.2.1,(C c<|g c f).2.1,(C c<|g c f).2.2.2.2.1,(C c<|g c f).2.2.2.2.2⟩) (λc o _ _ f e _=>G c o f e) (λc o _ _ f e _=>⟨o.slots,G c o f e⟩) (λc o _ e n=>by rw[aL<|W e];exact n) (λc o f e=>⟨o,G c o f e⟩) (λc zs e=>by rw[aL<|J e];exact e) (λc o u e=>by rw[aL<|J e];exact e) (λc ps e=>⟨#[],by rw[aL<|J e,e];simp⟩) (λm hm=>?_) aF I.bare
   obtain⟨o,es,ep,ho,r⟩:=hm;refine⟨o,es,ep,G _ o (λf=>?_) ho,r⟩;exact(C _<|g _ f).2.1 rfl
  refine⟨.ref s.heap.objs.size,_,I',rfl,⟨s.heap.objs.size,x,y,fr,rfl,rfl,λzs U=>by rw[I.qG U hq];exact hx,λzs U=>by rw[I.qG U N];exact hy⟩,?_,λc f=>?_⟩
  ·exact⟨PZ,F.extBut _ _ D.TIz<|kk _ _ D.TIz D.TITO D.TIi1 D.TIi2 j,⟨_,_,F.extBut _ _ D.TOz a2⟩,a3.extBut F.extBut D.i1z,a4.extBut F.extBut D.i2z⟩
  ·have xb:=(C c f).1;by_cases l:c=s.heap.objs.size
   ·exfalso;simp only[T4,Ud,Ue] at f;obtain⟨o1,e1,_⟩:=R;obtain⟨o2,e2,_⟩:=Q;rcases f with q|q|q|q|q
    ·exact W M<|q▸l
    ·exact W j<|q▸l
    ·exact W t<|q▸l
    ·exact W e1<|q▸l
    ·exact W e2<|q▸l
   ·rw[aL l];exact xb
 done:=by
  intro X hP hw hK hc i S s σ H E I C O hg;subst hP hw hK;obtain⟨M,j,⟨u,v,t⟩,R,Q⟩:=O;obtain⟨xs,ys,hq,N,hl⟩:=hg;obtain⟨xa,rv,p,_⟩:=I.list hq;obtain⟨Z,Y,p2,_⟩:=I.list N;have l1:=rv.length;have l2:=Y.length;refine wpAny_pyNext_zip_end (I.ok.hd hc) D M j t R Q p.isList p2.isList (by rcases hl with q|q;exact .inl (by simp;omega);exact .inr (by simp;omega)) λh' kk=>⟨rfl,?_⟩
  have g:∀c∈([z,TO,A,B]:List Addr),c∈([z,TI,TO,A,B]:List Addr):=λc f=>by
   simp only[T4,Ud,Ue] at f⊢;rcases f with q|q|q|q
   ·exact .inl q
   ·exact .inr<|.inr<|.inl q
   ·exact .inr<|.inr<|.inr<|.inl q
   ·exact .inr<|.inr<|.inr<|.inr q
  have G:∀c o,c∉([z,TO,A,B]:List Addr)->s.heap.get? c=aa o->h'.get? c=aa o:=λc o f e=>by simp only[T4,Ud,Ue,not_or] at f;exact kk c o f.1 f.2.1 f.2.2.1 f.2.2.2 e
  have L:∀{c:Addr} {o:HO},H c=aa o->c∉([z,TO,A,B]:List Addr):=λ{c o} e f=>by rw[(C c<|g c f).1] at e;cases e
  refine I.step (g':=s.gens) (d':=s.drawn) (t':=s.toks) (ch:=[z,TO,A,B]) (λc f=>⟨(C c<|g c f).2.2.2.1,(C c<|g c f).2.1,(C c<|g c f).2.2.2.2.1,(C c<|g c f).2.2.2.2.2⟩) (λc o _ _ f e _=>G c o f e) (λc o _ _ f e _=>⟨o.slots,G c o f e⟩) (λc o _ e n=>n) (λc o f e=>⟨o,G c o f e⟩) (λc zs e=>e) (λc o u e=>e) (λc ps e=>⟨#[],by rw[e];simp⟩) (λm hm=>?_) (λc o e=>?_) I.bare
  ·obtain⟨o,es,ep,ho,r⟩:=hm;refine⟨o,es,ep,G _ o (λf=>?_) ho,r⟩;exact(C _<|g _ f).2.1 rfl
  ·refine(I.aF c o e).eE (λd v T q=>?_) (λd q=>q) λd zs q=>q
   rcases T with rfl|T
   ·exact G _ v (L e) q
   ·exact G _ v (L T) q
 self:=λ_ _ _ _ _ O h=>wpAny_pyIter_zip O.1 h
def d9{a b:Nat}(h:a≠b):(show Addr from a)≠(show Addr from b):=h
def CP(n b a:Nat)(d:b<n)(c:a<n):ZipApart (n+4) (n+2) (n+3) n (n+1) b a:=
 ⟨d9<|by omega,d9<|by omega,d9<|by omega,d9<|by omega,d9<|by omega,d9<|by omega,d9<|by omega,d9<|by omega,d9<|by omega,d9<|by omega,d9<|by omega,d9<|by omega,d9<|by omega,d9<|by omega,d9<|by omega,d9<|by omega,d9<|by omega,d9<|by omega⟩
section
variable{X:Cx}{elts:List Expr}{x1:Nat}{tpos:Pos}
noncomputable def MA(K:Fg)(h:TA):TI:=λf H R=>h f H λg c=>∃a b,g=[.ref a,.ref b]/\(∃d,bg K c a d)/\(∃e,bg K c b e)/\R (w_ K a b) c
def EA:bootBuiltins "zip"=aa (.type "zip"):=by kernel_rfl
def K4{a b:Expr}{D:TA}{p pos:Pos}(hg:Gl X "zip")(Z:X.mg "zip"=ae)(ha:PA X [a,b] D)(W:starEach [a,b] X.env=[(ag,eval a X.env),(ag,eval b X.env)]:=by rfl)(j:starEach [b] X.env=[(ag,eval b X.env)]:=by rfl):
 PI X (.Tuple elts x1 tpos) (.Call (.Name "zip" p) [a,b] [] pos) (MA X.K D):=by
 intro f s G H R I h;refine Call_<|j9 I hg Z EA (V3 (aN (ha pos f s G H _ I h) λus d ⟨vs,F,g,P,V⟩=>?_) (by rw[W,j]) (by rw[j];rfl)) (by decide+kernel)<|by decide+kernel
 obtain⟨m,t,e,⟨xs,Q⟩,⟨ys,N⟩,q⟩:=V;subst e;cases P with
 |cons r k=>
  cases k with
  |cons M k=>
   cases k;have U:_=Value.ref m:=r;have O:_=Value.ref t:=M;subst U O;obtain⟨S,rv,E,_⟩:=g.list Q;obtain⟨y,Y,C,_⟩:=g.list N;refine call_zip_2 E.isList C.isList λT A l u v w hsz L=>?_
   have n:m<d.heap.objs.size:=by obtain⟨o,e,_⟩:=E.isList;exact Ui e
   have x:t<d.heap.objs.size:=by obtain⟨o,e,_⟩:=C.isList;exact Ui e
   have J:Inv X f G F {d with heap:=T}:=g.kept (t':=d.toks) λc o e=>L c o e
   refine wpAny_pyIter_zip A ?_;refine⟨d.heap.objs.size+4,[d.heap.objs.size+4,d.heap.objs.size+2,d.heap.objs.size+3,d.heap.objs.size,d.heap.objs.size+1],_,_,F,rfl,J,
    Gk m t (d.heap.objs.size+4) (d.heap.objs.size+2) (d.heap.objs.size+3) d.heap.objs.size (d.heap.objs.size+1) (CP _ _ _ n x),
    ⟨A,l,⟨_,_,u⟩,v,w⟩,λc B=>?_,q⟩
   have i:d.heap.objs.size<=c:=by simp only[T4,Ud,Ue] at B;rcases B with q|q|q|q|q<;>rw[q]<;>first|exact T8 _|exact Xn _ _
   exact g.kD i<|g.aF.fresh i
def uB{K:Fg}{i:List Addr}{M:VM.Mem}{H:Hp}(R:Rel K i M H){w:VM.W}{v:V}{a:Nat}{o:VM.O}{xs:List VM.W}(e:VM.eU M w=aa (a,o,xs))(r:RV i w v):
 ∃p vs,i[a]? =aa p/\v=.ref p/\bg K H p vs/\(o=.lst xs\/o=.aU xs):=by
 cases w with
 |ref b=>
  obtain⟨p,j,rfl⟩:=r;simp only[VM.eU] at e;cases h:M[b]? with
  |none=>rw[h] at e;cases e
  |some l=>
   rw[h] at e;have k:=R.obj b p l j h;cases l with
   |lst d=>cases e;obtain⟨vs,f,m⟩:=k;exact⟨p,vs,j,rfl,bg.of f,.inl rfl⟩
   |aU d=>cases e;obtain⟨vs,f,m⟩:=k;exact⟨p,vs,j,rfl,f.sq,.inr rfl⟩
   |tup d=>cases e
   |aD d=>cases e
   |ins c d=>cases e
   |di x=>cases e
   |a8 g x=>cases e
   |bR=>cases e
   |b8 c=>cases e
 |aw=>cases e
 |bl _=>cases e
 |int _=>cases e
 |str _=>cases e
def yl{xs ys:List VM.W}{i:Nat}{x:VM.Src}(h:(VM.pairs xs ys)[i]? =aa x):∃u v,xs[i]? =aa u/\ys[i]? =aa v/\x=.pair u v:=by
 unfold VM.pairs at h;rw[XN] at h;cases a:xs[i]? with
 |none=>rw[a] at h;cases h
 |some u=>
  cases b:ys[i]? with
  |none=>rw[a,b] at h;cases h
  |some v=>rw[a,b] at h;exact⟨u,v,rfl,rfl,(Ua h).symm⟩
def K6{K:Fg}{P:List Addr}{a b:Nat}{p q:Addr}{o u:VM.O}{xs ys:List VM.W}(w:P[a]? =aa p)(B:P[b]? =aa q)(t:o=.lst xs\/o=.aU xs)(N:u=.lst ys\/u=.aU ys):gg K P (w_ K p q) (VM.pairs xs ys) [(a,o),(b,u)]:=by
 have G:∀{M:VM.Mem},VM.bJ.ok [(a,o),(b,u)] M=af->M[a]? =aa o/\M[b]? =aa u:=λ{M} h=>by simpa[VM.bJ.ok] using h
 have c:∀{d M H} {a:Nat} {p:Addr} {o:VM.O} {xs:List VM.W},d[a]? =aa p->(o=.lst xs\/o=.aU xs)->Rel K d M H->M[a]? =aa o->∃e,bg K H p e/\bj d xs e:=λ{d M H a p o xs} w t R hm=>by
  have V:=R.obj a p o w hm;rcases t with rfl|rfl
  ·obtain⟨e,g,f⟩:=V;exact⟨e,bg.of g,f⟩
  ·obtain⟨e,g,f⟩:=V;exact⟨e,g.sq,f⟩
 refine⟨λi d M H x pre R n E=>?_,λi d M H x v H' pre R n E y=>?_,λi d M H pre R n hi=>?_⟩
 ·obtain⟨z,r⟩:=G n;obtain⟨e,g,s⟩:=c (dM pre w) t R z;obtain⟨m,f,A⟩:=c (dM pre B) N R r;obtain⟨I,C,F,D,_⟩:=yl E;obtain⟨S,l,_⟩:=Paired.at s F;obtain⟨U,k,_⟩:=Paired.at A D;exact⟨e,S,m,U,g,l,f,k⟩
 ·obtain⟨z,r⟩:=G n;obtain⟨e,g,s⟩:=c (dM pre w) t R z;obtain⟨m,f,A⟩:=c (dM pre B) N R r;obtain⟨I,C,F,D,rfl⟩:=yl E;obtain⟨S,l,L⟩:=Paired.at s F;obtain⟨U,k,J⟩:=Paired.at A D;obtain⟨T,x',y',hT,rfl,rfl,k1,k2⟩:=y;have Q:=k1 e g;have Y:=k2 m f;rw[l] at Q;cases Q;rw[k] at Y;cases Y;refine⟨d++[T],.ref M.length,M++[.tup [I,C]],⟨[T],rfl⟩,rfl,R.new (o:=.tup [I,C]) hT λi5 j=>⟨_,bW,.cons (L.mono j)<|.cons (J.mono j) .nil⟩,T,?_,rfl⟩;rw[<-R.len];simp
 ·obtain⟨z,r⟩:=G n;obtain⟨e,g,s⟩:=c (dM pre w) t R z;obtain⟨m,f,A⟩:=c (dM pre B) N R r;refine⟨e,m,g,f,?_⟩;have l1:=Paired.len s;have l2:=Paired.len A;have Z:(VM.pairs xs ys).length=min xs.length ys.length:=by simp[VM.pairs]
  rw[Z] at hi;omega
def K8{a b:Expr}{m n:VM.EM}{p pos:Pos}{k:Nat}(hr:bA k X.A)(Y:X.mg "zip"=ae)(D:SE X a m)(E:SE X b n)(hg:Gl X "zip":=by rfl)(r:starEach [a,b] X.env=[(ag,eval a X.env),(ag,eval b X.env)]:=by rfl)(c:starEach [b] X.env=[(ag,eval b X.env)]:=by rfl):
 SI X (.Tuple elts x1 tpos) (.Call (.Name "zip" p) [a,b] [] pos) (rQ m n):=by
 obtain⟨ta,J,Z⟩:=D;obtain⟨tb,N,kb⟩:=E;refine⟨_,K4 hg Y (dE J (dE N fi c)<|r.trans<|by rw[c]) r c,λι M H s l Q R S h=>?_⟩;refine Z ι M H s l _ R S<|au.seq h λf H1 x M1 u P O F W=>?_
 refine kb f M1 H1 s l _ O (S.mono P)<|au.seq W λg H2 y M2 v G R2 r2 h2=>?_
 have rx:=F.mono G;have h3:au (rI X.K) X.K g (match VM.eU M2 x,VM.eU M2 y with|some (a,o,j),aa (b,q,t)=>.ok (VM.pairs j t,[(a,o),(b,q)]) M2|_,_=>.bad) Q:=h2;cases ex:VM.eU M2 x with
 |none=>rw[ex] at h3;exact(h3:False).elim
 |some V=>
  cases i:VM.eU M2 y with
  |none=>rw[ex,i] at h3;exact(h3:False).elim
  |some C=>obtain⟨a1,o1,j⟩:=V;obtain⟨a2,o2,t⟩:=C;rw[ex,i] at h3;obtain⟨T,U,e,rfl,L,z⟩:=uB R2 ex rx;obtain⟨I,w,d,rfl,s2,B⟩:=uB R2 i r2;exact⟨T,I,rfl,⟨U,L⟩,⟨w,s2⟩,au.ok h3 R2<|K6 e d z B⟩
end
theorem uV:∀{d:List VM.W} {vs:List V} {b:List Int},bj ι d vs->VM.intsOf d=aa b->vs=b.map V.int
 |_,_,_,.nil,e=>by cases e;rfl
 |_,_,b,.cons (a:=w) r t,e=>by
  cases w with
  |int i=>
   cases r;simp only[VM.intsOf] at e;cases c:VM.intsOf _ with
   |none=>rw[c] at e;cases e
   |some ms=>rw[c] at e;cases e;rw[uV t c];rfl
  |aw=>cases e
  |bl _=>cases e
  |str _=>cases e
  |ref _=>cases e
theorem intsAre_of:∀{b:List Int} {a:List ah},Vals (b.map V.int) a->IntsAre a b
 |[],_,.nil=>.nil
 |n::r,_,.cons h t=>by obtain⟨c,rfl⟩:=(h);exact .cons n c<|intsAre_of t
section
variable{X:Cx}
def EB(t:X.A.handled=ae):f9 X (.builtin "sum") (λxs H Q=>∃(p:Addr) (b:List Int),xs=[.ref p]/\bg X.K H p (b.map V.int)/\Q (.int b.sum) H):=by
 intro e s z H xs w Q I r h;obtain⟨p,b,rfl,n,q⟩:=h;obtain⟨u,rfl,v⟩:=vals1 r;cases v;obtain⟨a,i,m,_⟩:=I.list n;have g:=intsAre_of i;obtain⟨f,d⟩:=g.allInts.items;have k:numsOf a.toArray.toList=b:=by rw[show a.toArray.toList=a from rfl];exact g.numsOf
 have c:(f.toList.map (·.1))=b:=by rw[<-nums_intItems,<-d];exact k
 have l:s.heap.IsList p (intItems f):=by rw[<-d];exact m.isList
 refine sum_intListG t l λx y o j=>?_
 refine⟨.int b.sum,H,I.kept j,⟨o,?_⟩,q⟩;rw[preSum_eq,XQ<|by simp,c]
def K9(i:X.A.handled=ae):SC X (.builtin "sum") nH:=by
 refine⟨_,EB i,λc M H l k Q R r h=>?_⟩;cases r with
 |nil=>exact(h).elim
 |cons d t=>
  cases t with
  |cons _ _=>exact(h).elim
  |nil=>
   rename_i x v
   have q:au RV X.K c (match(VM.a9 M x).bind VM.intsOf with|some ns=>VM.R.ok (.int ns.sum) M|none=>.bad) Q:=h;cases e:VM.a9 M x with
   |none=>rw[e] at q;exact(q).elim
   |some xs=>
    rw[e] at q;obtain⟨p,j,rfl,f,g⟩:=R.a9 e d;have a:au RV X.K c (match VM.intsOf xs with|some ns=>VM.R.ok (.int ns.sum) M|none=>.bad) Q:=q;cases b:VM.intsOf xs with
    |none=>rw[b] at a;exact(a).elim
    |some ns=>rw[b] at a;have:=uV g b;subst this;exact⟨p,ns,rfl,f,au.ok a R rfl⟩
def AF(ns):firstMet (λi=>ns.getD i 0) ns.length=iZ ns:=by
 unfold firstMet iZ;have e:(List.range ns.length).map (λi=>ns.getD i 0)=ns:=by
  apply List.ext_getElem
  ·simp
  ·intro i a b;have:=by simpa using a
   simp[this]
 rw[e];rfl
def EC(x:X.A.handled=ae):f9 X (.type "set") (λxs H Q=>∃(p:Addr) (c:List Int),xs=[.ref p]/\bg X.K H p (c.map V.int)/\c.length<4000/\∀q,H q=ae->Q (.ref q) (upd H q (.set (λf=>(iZ c).any (·==f)) (iZ c).length))):=by
 intro i s D H xs z Q I r h;obtain⟨p,c,rfl,v,B,q⟩:=h;obtain⟨u,rfl,y⟩:=vals1 r;cases y;obtain⟨g,j,t,_⟩:=I.list v;have m:=intsAre_of j;have a:=j.length;rw[Ub] at a;refine call_set_list x t.isList (by simpa using m) (by unfold scanBound;rw[Uh];omega) λC w k l=>?_
 have d:g.toArray.size=c.length:=by rw[Uh,a]
 rw[d,AF] at k;have n:=I.laid (t':=w) (o:=.set (λf=>(iZ c).any (·==f)) (iZ c).length) (λb o e=>l b o (Ui e) e) (T8 _) k;exact⟨.ref s.heap.objs.size,_,n,rfl,q _<|I.aF.fresh<|T8 _⟩
def ED:f9 X (.builtin "len") (λxs H Q=>∃p S n,xs=[.ref p]/\H p=aa (.set S n)/\n<4000/\Q (.int n) H):=by intro b s t H xs k Q I r h;obtain⟨p,S,n,rfl,g,m,q⟩:=h;obtain⟨u,rfl,j⟩:=vals1 r;cases j;obtain⟨o,e,l,v,i,a,c,_,_,_,d,f⟩:=(I.aF p _ g);subst f;exact call_len_set i a c d (by omega) ⟨.int e.size,H,I.tok _,⟨_,rfl⟩,q⟩
def EE{a:Expr}{m:VM.EM}{k:Nat}{p o pos b:Pos}(F:bA k X.A)(s:X.mg "len"=ae)(w:X.mg "set"=ae)(P:SE X a m)(t:Gl X "len":=by rfl)(v:Gl X "set":=by rfl)(he:starEach [a] X.env=(ag,eval a X.env)::starEach [] X.env:=by rfl)(r:(backTo b<|starEach [] X.env).any (·.1)=ag:=by rfl)(f:starEach [.Call (.Name "set" o) [a] [] b] X.env=(ag,eval (.Call (.Name "set" o) [a] [] b) X.env)::starEach [] X.env:=by rfl)(c:(backTo pos<|starEach [] X.env).any (·.1)=ag:=by rfl):
 SE X (.Call (.Name "len" p) [.Call (.Name "set" o) [a] [] b] [] pos) (u5 m):=by
 obtain⟨U,E,J⟩:=P;refine⟨_,mP ED t s PySem.boot_len (dE (uj (EC F.hd) v w (by kernel_rfl) (dE E fi he) (by decide+kernel) (by decide+kernel) he r) fi f) (by decide+kernel) (by decide+kernel) f c,λN M H O B Q R S h=>?_⟩;refine J N M H O B _ R S<|au.seq h λd W x M1 u V y C I=>?_
 have q:=I;cases e:VM.a9 M1 x with
 |none=>rw[e] at q;exact(q).elim
 |some xs=>
  rw[e] at q;obtain⟨z,T,rfl,G,L⟩:=y.a9 e C;have i:au RV X.K d (match VM.intsOf xs with|some ns=>(if ns.length<4000 then VM.R.ok (.int (iZ ns).length) M1 else .bad)|none=>.bad) Q:=q;cases n:VM.intsOf xs with
  |none=>rw[n] at i;exact(i).elim
  |some ns=>
   rw[n] at i;have j:au RV X.K d (if ns.length<4000 then VM.R.ok (.int (iZ ns).length) M1 else .bad) Q:=i;have:=uV L n;subst this;by_cases g:ns.length<4000
   ·rw[T1 g] at j;refine⟨z,ns,rfl,G,g,λD l=>⟨D,_,_,rfl,bW,?_,au.ok j (y.other l _) rfl⟩⟩;exact Nat.lt_of_le_of_lt (by rw[<-AF];exact firstMet_length_le _ _) g
   ·rw[T2 g] at j;exact(j).elim
theorem xK(b:RV ι x v)(a:VM.flat x=af):∀{xs:List VM.W} {vs:List V},bj ι xs vs->xs.all VM.flat=af->(vs.countP λy=>dh y v)=xs.countP λz=>VM.fA z x
 |_,_,.nil,_=>rfl
 |_,_,.cons r t,h=>by rw[Vf,T_] at h;have c:=xK b a t h.2;rw[Vq,Vq,c,RV.fA r b h.1 a]
theorem xM:∀{xs:List V} {us:List ah},Vals xs us->xs.all dF=af->us.countP (eK x)=xs.countP λy=>dh y x
 |_,_,.nil,_=>rfl
 |_,_,.cons r t,f=>by rw[Vf,T_] at f;rw[Vq,Vq,xM t f.2,vq r f.1]
noncomputable def K_(K:Fg):V->List V->Hp->VK->Prop:=λx b H Q=>∃p a y,x=.ref p/\b=[y]/\H p=aa (.lst a)/\dF y=af/\a.all dF=af/\Q (.int<|a.countP λz=>dh z y) H
def Gm:iY X "list.count" (K_ X.K):=by intro b s A H x w v o Q I m g h;obtain⟨p,d,y,rfl,rfl,i,k,c,q⟩:=h;cases m;obtain⟨u,rfl,j⟩:=g.one;obtain⟨z,a,n,r,t,e⟩:=I.iT i;refine Vu F.slot_list_count ⟨_,e,rfl⟩ F.entry_list_count (F.args_list_count_2 _ _) (SeqAt.list_countAt p a.toArray n ae #[] u (eK y)) ⟨e,λf l=>mQ j k r c f<|by simpa using l,?_⟩;refine⟨.int<|d.countP λz=>dh z y,H,I.tok _,⟨s.toks,?_⟩,q⟩;rw[show a.toArray.toList=a from rfl,xM r c]
def Gn:SM X "list.count" jg:=by
 refine⟨_,Gm,λk M H x v s m Q R l r h=>?_⟩;cases r with
 |nil=>exact(h).elim
 |cons g t=>
  cases t with
  |cons _ _=>exact(h).elim
  |nil=>
   rename_i y u
   have q:au RV X.K k (match VM.bG M x with|some (_,c)=>(if(VM.flat y&&c.all VM.flat)=af then .ok (.int<|c.countP λz=>VM.fA z y) M else .bad)|none=>.bad) Q:=by
    unfold jg at h;cases e:VM.bG M x with
    |none=>rw[e] at h;exact h
    |some z=>rw[e] at h;exact h
   cases e:VM.bG M x with
   |none=>rw[e] at q;exact(q).elim
   |some z=>
    obtain⟨a,c⟩:=z;rw[e] at q;have d:au RV X.K k (if(VM.flat y&&c.all VM.flat)=af then .ok (.int<|c.countP λz=>VM.fA z y) M else .bad) Q:=q;obtain⟨p,f,rfl,n,o,rfl,i,j⟩:=R.bG e l;by_cases b:(VM.flat y&&c.all VM.flat)=af
    ·rw[T1 b] at d;rw[T_] at b;refine⟨⟨p,f,rfl,bg.of i⟩,p,f,u,rfl,rfl,i,g.flat b.1,bj.flat j b.2,?_⟩;rw[xK g b.1 j b.2];exact au.ok d R rfl
    ·rw[T2 b] at d;exact(d).elim
end
section
variable{X:Cx}
def K':dD X (binaryOp .Pow) wj:=q_ JF (gw:=λi j=>.int<|i ^ j.toNat) (λ_ _ _=>rfl) λx y M=>by
 cases x<;>cases y<;>first
  |exact .inr rfl
  |(rename_i i j
    by_cases c:0<=j/\j.natAbs<=1000000/\i.natAbs<hY
    ·exact .inl ⟨i,j,rfl,rfl,by unfold Bc;unfold hY at c;omega,T1 c⟩
    ·exact .inr (T2 c))
def La{pos}(n:SE X a m):SE X (.UnaryOp .USub a pos) (pL m):=by
 obtain⟨o,e,j⟩:=n;refine⟨_,LK JG e,λk M H l c Q R S h=>?_⟩;refine j k M H l c _ R S<|au.seq h λg q x M1 u p f d b=>?_
 cases x with
 |int i=>cases d;exact⟨i,rfl,au.ok b f rfl⟩
 |_=>exact(b).elim
def Ds{a b c:Expr}{f g:dB}{m n o:VM.EM}{op op':CmpOp}{r B:R2}{G N C:TE}(U:∀d M H x y v u Q,Rel X.K d M H->RV d x v->RV d y u->au RV X.K d (f x y M) Q->r v u H Q)(l:∀d M H x y v u Q,Rel X.K d M H->RV d x v->RV d y u->au RV X.K d (g x y M) Q->B v u H Q)(ka:∀d M H σ e Q,Rel X.K d M H->bb d σ e->au RV X.K d (m σ M) Q->G e H Q)(kb:∀d M H σ e Q,Rel X.K d M H->bb d σ e->au RV X.K d (n σ M) Q->N e H Q)(Y:∀d M H σ e Q,Rel X.K d M H->bb d σ e->au RV X.K d (o σ M) Q->C e H Q):
 ∀d M H σ e Q,Rel X.K d M H->bb d σ e->au RV X.K d (o3 f g m n o σ M) Q->Ab r B G N C e H Q:=by
 intro d M H σ e Q R S h;refine ka d M H σ e _ R S<|au.seq h λs H1 x M1 u I R1 W h1=>?_
 refine kb s M1 H1 σ e _ R1 (S.mono I)<|au.seq h1 λA T y M2 v F R2 L h2=>?_
 refine U A M2 T x y u v _ R2 (W.mono F) L<|au.seq h2 λi H3 z J t E D O h3=>?_
 cases z with
 |bl k=>
  cases O;refine⟨k,rfl,?_⟩;cases k with
  |false=>exact au.ok (b:=V.bl ag) h3 D rfl
  |true=>
   have P:au RV X.K i ((o σ J).bind λw p=>g y w p) Q:=h3;refine Y i J H3 σ e _ D (S.mono<|Ux I<|Ux F E)<|au.seq P λj Z w p q p4 R4 r4 h5=>?_
   exact l j p Z y w v q Q R4 ((L.mono E).mono p4) r4 h5
 |aw=>exact(h3:False).elim
 |int _=>exact(h3:False).elim
 |str _=>exact(h3:False).elim
 |ref _=>exact(h3:False).elim
def Gp{pos}(t:dD X (compareOp op) f)(h:dD X (compareOp op') g)(x:SE X a m)(k:SE X b n)(j:SE X c o)(hm:lastMarks [op,op'] [b,c]=ag:=by with_unfolding_all rfl):SE X (.Compare a [op,op'] [b,c] pos) (o3 f g m n o):=by obtain⟨r,u,i⟩:=t;obtain⟨y,d,e⟩:=h;obtain⟨A,q,v⟩:=x;obtain⟨B,s,w⟩:=k;obtain⟨z,l,p⟩:=j;exact⟨_,E_ u d q s l hm,Ds (a:=a) (b:=b) (c:=c) (op:=op) (op':=op') i e v w p⟩
theorem Paired.eraseP{F:α->β->Prop}:∀{l:List α} {m:List β} (n),Paired F l m->Paired F (l.eraseIdx n) (m.eraseIdx n)
 |_,_,_,.nil=>.nil
 |_,_,0,.cons _ t=>t
 |_,_,n+1,.cons r t=>.cons r<|Paired.eraseP n t
def Ae(h:VM.ck n i=aa k):seqIndex? i n=aa k:=by
 unfold VM.ck at h;unfold seqIndex?;by_cases b:0<=i
 ·rw[T1 b] at h;by_cases a:i<n
  ·rw[T1 a] at h;have:¬i<0:=by omega
   simp only[this];rw[T1 (by simp;omega)];exact h
  ·rw[T2 a] at h;cases h
 ·rw[T2 b] at h;by_cases a: -(n)<=i
  ·rw[T1 a] at h;have:i<0:=by omega
   simp only[this];rw[T1 (by simp;omega)];exact h
  ·rw[T2 a] at h;cases h
def Gq:SM X "list.pop" vr:=by
 refine⟨_,Ff,λo M H x v q E Q R A r h=>?_⟩;have j:∃i a c k y,q=[.int i]/\VM.bG M x=aa (a,c)/\VM.ck c.length i=aa k/\c[k]? =aa y/\i.natAbs<lK/\au RV X.K o (.ok y<|M.set a<|.lst<|c.eraseIdx k) Q:=by
  cases q with
  |nil=>exact(h).elim
  |cons w t=>
   cases t with
   |cons _ _=>cases w<;>exact(h).elim
   |nil=>
    cases w with
    |int i=>
     have b:au RV X.K o (match VM.bG M x with
      |some (a,c)=>(match VM.ck c.length i with
       |some k=>(match c[k]? with
        |some y=>(if i.natAbs<lK then .ok y (M.set a<|.lst<|c.eraseIdx k) else .bad)
        |none=>.bad)
       |none=>.bad)
      |none=>.bad) Q:=h
     cases e:VM.bG M x with
     |none=>rw[e] at b;exact(b).elim
     |some z=>
      obtain⟨a,c⟩:=z;rw[e] at b;simp only at b;cases f:VM.ck c.length i with
      |none=>rw[f] at b;exact(b).elim
      |some k=>
       rw[f] at b;simp only at b;cases d:c[k]? with
       |none=>rw[d] at b;exact(b).elim
       |some y=>
        rw[d] at b;simp only at b;by_cases g:i.natAbs<lK
        ·rw[T1 g] at b;exact⟨i,a,c,k,y,rfl,rfl,f,d,g,b⟩
        ·rw[T2 g] at b;exact(b).elim
    |_=>exact(h).elim
 obtain⟨i,a,c,k,y,rfl,e,f,d,g,b⟩:=j;obtain⟨p,m,rfl,C,D,rfl,n,l⟩:=R.bG e A;cases r with
 |cons u t=>cases t;cases u;obtain⟨v,B,s⟩:=Paired.at l d;unfold lK at g;refine⟨⟨p,m,rfl,bg.of n⟩,p,m,i,k,v,rfl,rfl,n,by omega,by omega,by rw[<-Paired.len l];exact Ae f,B,?_⟩;exact au.ok b (R.set C D<|Paired.eraseP k l) s
end
def dC.val(r:dC ι kvs ks)(k): (aS kvs k=ae/\cC ks (Sum.inl k)=ae)\/∃w v,aS kvs k=aa w/\cC ks (Sum.inl k)=aa v/\RV ι w v:=by
 induction r with
 |nil=>exact .inl ⟨rfl,rfl⟩
 | @cons p q a b h t i=>
   obtain⟨c,d⟩:=h;by_cases e:p.1=k
   ·refine .inr ⟨p.2,q.2,by simp[aS,e],oA<|by rw[c,e],d⟩
   ·have g:aS (p::a) k=aS a k:=by simp[aS,e]
    have f:cC (q::b) (Sum.inl k:Key)=cC b (Sum.inl k):=oB (by rw[c];intro z;exact e<|Wl z);rw[g,f];exact i
def dC.pJ(r:dC ι kvs ks)(k)(c:RV ι w v):
 dC ι (kvs.map λkv=>if kv.1=k then(kv.1,w) else kv) (ks.map λkv=>if kv.1=(Sum.inl k:Key) then(kv.1,v) else kv):=by
 induction r with
 |nil=>exact .nil
 | @cons p q f g h t d=>
   obtain⟨a,b⟩:=h;rw[Uo,Uo];refine .cons ?_ d;by_cases e:p.1=k
   ·rw[T1 e,T1<|by rw[a,e]];exact⟨a,c⟩
   ·rw[T2 e,T2 (by rw[a];intro z;exact e<|Wl z)];exact⟨a,b⟩
def mR(k)(kvs):(kvs.any λkv=>ai<|kv.1=k)=(aS kvs k).isSome:=by unfold aS;rw[WZ,List.isSome_find?]
def dC.put(r:dC ι kvs ks)(k)(c:RV ι w v):dC ι (VM.dput kvs k w) (putK ks (Sum.inl k) v):=by
 unfold VM.dput putK;rw[mR,uF];rcases r.val k with⟨b,a⟩|⟨_,_,b,a,_⟩
 ·rw[b,a];exact Paired.app r<|.cons ⟨rfl,c⟩ .nil
 ·rw[b,a];exact r.pJ k c
def dC.drop(r:dC ι kvs ks)(k):dC ι (f_ kvs k) (kr ks<|Sum.inl k):=by
 induction r with
 |nil=>exact .nil
 | @cons p q c d h t a=>
   unfold f_ kr at a⊢;rw[Vg,Vg];by_cases e:p.1=k
   ·rw[T2<|by simp[e],T2<|by simp[h.1,e]];exact a
   ·have b:¬q.1=(Sum.inl k:Key):=by rw[h.1];intro z;exact e (Wl z)
    rw[T1<|by simp[e],T1<|by simp[b]];exact .cons h a
section
variable{K:Fg}{ι:List Addr}{M:VM.Mem}{H:Hp}
def Rel.bq(R:Rel K ι M H)(e:VM.bq M w=aa (a,kvs))(r:RV ι w v):∃p h,w=.ref a/\ι[a]? =aa p/\M[a]? =aa (.aD kvs)/\v=.ref p/\H p=aa (.dK h)/\dC ι kvs h:=by
 cases w with
 |ref b=>
  obtain⟨p,i,rfl⟩:=r;simp only[VM.bq] at e;cases d:M[b]? with
  |none=>rw[d] at e;cases e
  |some o=>
   rw[d] at e;have k:=R.obj b p o i d;cases o with
   |aD f=>cases e;obtain⟨l,m,j⟩:=k;exact⟨p,l,rfl,i,d,rfl,m,j⟩
   |lst f=>cases e
   |aU f=>cases e
   |tup f=>cases e
   |ins c f=>cases e
   |di x=>cases e
   |a8 g x=>cases e
   |bR=>cases e
   |b8 c=>cases e
 |aw=>cases e
 |bl _=>cases e
 |int _=>cases e
 |str _=>cases e
def Rel.dO(R:Rel K ι M H)(e:VM.dO M w=aa (a,c,fs))(r:RV ι w v):
 ∃p C i f,w=.ref a/\ι[a]? =aa p/\M[a]? =aa (.ins c fs)/\v=.ref p/\PySem.W.nsIn K mainGlobals (txt c)=aa (aa<|.ref C)/\H p=aa (.ins C i f)/\ir ι fs f:=by
 cases w with
 |ref b=>
  obtain⟨p,j,rfl⟩:=r;simp only[VM.dO] at e;cases d:M[b]? with
  |none=>rw[d] at e;cases e
  |some o=>
   rw[d] at e;have l:=R.obj b p o j d;cases o with
   |ins q h=>cases e;obtain⟨C,i,f,n,m,k⟩:=l;exact⟨p,C,i,f,rfl,j,d,rfl,n,m,k⟩
   |lst h=>cases e
   |aU h=>cases e
   |tup h=>cases e
   |aD h=>cases e
   |di x=>cases e
   |a8 g x=>cases e
   |bR=>cases e
   |b8 c=>cases e
 |aw=>cases e
 |bl _=>cases e
 |int _=>cases e
 |str _=>cases e
def ry(R:Rel K ι M H)(e:nv M w=af)(r:RV ι w v):∃p,v=.ref p/\nX H p:=by
 unfold nv at e;cases h:VM.bq M w with
 |none=>rw[h] at e;cases e
 |some z=>obtain⟨a,c⟩:=z;obtain⟨p,b,_,_,_,rfl,d,_⟩:=R.bq h r;exact⟨p,rfl,.inl ⟨b,.inl d⟩⟩
end
def Dt(x y)(M):(nI x y M=.bad)\/∃(i:Int) (a:Nat) (kvs:List<|Int×VM.W),y=.int i/\VM.bq M x=aa (a,kvs)/\nI x y M=(match aS kvs i with|some v=>.ok v M|none=>.bad):=by
 unfold nI;cases y with
 |int i=>cases e:VM.bq M x with
  |none=>exact .inl rfl
  |some q=>exact .inr ⟨i,q.1,q.2,rfl,rfl,rfl⟩
 |aw=>exact .inl rfl
 |bl _=>exact .inl rfl
 |str _=>exact .inl rfl
 |ref _=>exact .inl rfl
def CQ(x y)(M)(z):(dg x y z M=.bad)\/∃(i:Int) (a:Nat) (kvs:List<|Int×VM.W),y=.int i/\VM.bq M x=aa (a,kvs)/\dg x y z M=.ok ((aS kvs i).getD z) M:=by
 unfold dg;cases y with
 |int i=>cases e:VM.bq M x with
  |none=>exact .inl rfl
  |some q=>exact .inr ⟨i,q.1,q.2,rfl,rfl,rfl⟩
 |aw=>exact .inl rfl
 |bl _=>exact .inl rfl
 |str _=>exact .inl rfl
 |ref _=>exact .inl rfl
def CS(x y)(M)(z):(gA x y z M=.bad)\/∃(i:Int) (a:Nat) (kvs:List<|Int×VM.W),y=.int i/\VM.bq M x=aa (a,kvs)/\gA x y z M=(match aS kvs i with|some v=>.ok v M|none=>if kvs.length<VM.lim then .ok z (M.set a<|.aD<|VM.dput kvs i z) else .bad):=by
 unfold gA;cases y with
 |int i=>cases e:VM.bq M x with
  |none=>exact .inl rfl
  |some q=>exact .inr ⟨i,q.1,q.2,rfl,rfl,rfl⟩
 |aw=>exact .inl rfl
 |bl _=>exact .inl rfl
 |str _=>exact .inl rfl
 |ref _=>exact .inl rfl
def Du(x y)(M):(nJ x y M=.bad)\/∃(i:Int) (a:Nat) (kvs:List<|Int×VM.W),y=.int i/\VM.bq M x=aa (a,kvs)/\nJ x y M=(match aS kvs i with|some v=>.ok v (M.set a<|.aD<|f_ kvs i)|none=>.bad):=by
 unfold nJ;cases y with
 |int i=>cases e:VM.bq M x with
  |none=>exact .inl rfl
  |some q=>exact .inr ⟨i,q.1,q.2,rfl,rfl,rfl⟩
 |aw=>exact .inl rfl
 |bl _=>exact .inl rfl
 |str _=>exact .inl rfl
 |ref _=>exact .inl rfl
def EF(x y)(M)(neg):(kQ neg y x M=.bad)\/∃(i:Int) (a:Nat) (kvs:List<|Int×VM.W),y=.int i/\VM.bq M x=aa (a,kvs)/\kQ neg y x M=.ok (.bl<|(aS kvs i).isSome != neg) M:=by
 unfold kQ;cases y with
 |int i=>cases e:VM.bq M x with
  |none=>exact .inl rfl
  |some q=>exact .inr ⟨i,q.1,q.2,rfl,rfl,rfl⟩
 |aw=>exact .inl rfl
 |bl _=>exact .inl rfl
 |str _=>exact .inl rfl
 |ref _=>exact .inl rfl
def Dv(x y)(M)(v)(σ):(nL x y v σ M=.bad)\/∃(i:Int) (a:Nat) (kvs:List<|Int×VM.W),y=.int i/\VM.bq M x=aa (a,kvs)/\nL x y v σ M=(if kvs.length<VM.lim then .nx σ (M.set a<|.aD<|VM.dput kvs i v) else .bad):=by
 unfold nL;cases y with
 |int i=>cases e:VM.bq M x with
  |none=>exact .inl rfl
  |some q=>exact .inr ⟨i,q.1,q.2,rfl,rfl,rfl⟩
 |aw=>exact .inl rfl
 |bl _=>exact .inl rfl
 |str _=>exact .inl rfl
 |ref _=>exact .inl rfl
section
variable{X:Cx}
def Iw{pos}:SE X (.Dict [] [] pos) nu:=by refine⟨_,uG,λb M H d e Q R S h p c=>?_⟩;refine h (b++[p]) _ _ ⟨[p],rfl⟩ (R.new c λa pre=>⟨[],bW,.nil⟩) ⟨p,?_,rfl⟩;rw[<-R.len];simp
def Iy{pos}(G:X.A.units+1<cLine)(D:SE X o d)(t:SE X i k)(C:wh i:=by intro _ _;rfl):SE X (.Subscript o i pos) (ia d k):=by
 obtain⟨P,pd,L⟩:=D;obtain⟨T,B,q⟩:=t;refine⟨_,zq G pd B C,λK M H l j Q R S h=>?_⟩;refine L K M H l j _ R S<|au.seq h λg I x M1 u z w r N=>?_
 refine q g M1 I l j _ w (S.mono z)<|au.seq N λF O y M2 v s R2 J b=>?_
 rcases Dt x y M2 with c|⟨n,a,kvs,rfl,e,c⟩
 ·rw[c] at b;exact(b).elim
 rw[c] at b;have h3:=b;obtain⟨p,U,_,_,_,rfl,E,m⟩:=R2.bq e<|r.mono s;cases J;rcases m.val n with⟨f,_⟩|⟨w',v',f,e2,rv⟩
 ·rw[f] at h3;exact(h3).elim
 ·rw[f] at h3;exact⟨p,v',rfl,by have:=eF.k (k:=(Sum.inl n:Key)) E;rw[e2] at this;exact this,au.ok h3 R2 rv⟩
def xN(R:Rel X.K ι M H)(l:RV ι x<|.ref p)(i:RV ι y v)(m:RV ι z u)(h:au RV X.K ι (dg x y z M) Q):∃o,eF H p v o/\Q (o.getD u) H:=by
 rcases CQ x y M z with c|⟨n,a,kvs,rfl,e,c⟩
 ·rw[c] at h;exact(h).elim
 rw[c] at h;have h3:=h;obtain⟨r,g,_,_,_,j,q,f⟩:=R.bq e l;cases j;cases i;refine⟨cC g<|Sum.inl n,eF.k (k:=(Sum.inl n:Key)) q,?_⟩;rcases f.val n with⟨d,b⟩|⟨w',v',d,b,rv⟩
 ·rw[d] at h3;rw[b];exact au.ok h3 R m
 ·rw[d] at h3;rw[b];exact au.ok h3 R rv
def oQ{a:List Addr->α->β->Prop}{K:Fg}{r:VM.R α}{Q:β->Hp->Prop}(h:au a K ι (if c=af then r else .bad) Q):c=af/\au a K ι r Q:=by
 cases c with
 |true=>rw[T1 rfl] at h;exact⟨rfl,h⟩
 |false=>rw[T2 Uk] at h;exact(h).elim
def Gr{apos bf}(C:X.A.units+1<cLine)(t:SE X o d)(l:SE X e k)(m:M1 X o "get" apos e bf):SE X (.Call (.Attribute o "get" apos) [e] [] bf) (iq (λx y=>dg x y .aw) d k):=by
 obtain⟨K,pd,I⟩:=t;obtain⟨L,s,n⟩:=l;refine⟨_,Fi C pd s m,λG M H i c Q R S h=>?_⟩;refine I G M H i c _ R S<|au.seq h λa D x M1 u r g f b=>?_
 obtain⟨j,b⟩:=oQ b;obtain⟨p,rfl,w⟩:=ry g j f;refine⟨p,rfl,w,n a M1 D i c _ g (S.mono r)<|au.seq b λB J y M2 v q R2 E F=>?_⟩;exact xN (z:=.aw) R2 (f.mono q) E rfl F
def Gs{apos bf}(P:X.A.units+1<cLine)(L:SE X o d)(C:SE X e k)(D:SE X f z)(m:M2 X o "get" apos e f bf):SE X (.Call (.Attribute o "get" apos) [e,f] [] bf) (eM dg d k z):=by
 obtain⟨td,pd,Y⟩:=L;obtain⟨tk,K,G⟩:=C;obtain⟨Z,J,E⟩:=D;refine⟨_,Fj P pd K J m,λW M H g a Q R S h=>?_⟩;refine Y W M H g a _ R S<|au.seq h λb T x M1 u r q l i=>?_
 obtain⟨B,i⟩:=oQ i;obtain⟨p,rfl,O⟩:=ry q B l;refine⟨p,rfl,O,G b M1 T g a _ q (S.mono r)<|au.seq i λc F y M2 v n R2 U V=>?_⟩;refine E c M2 F g a _ R2 ((S.mono r).mono n)<|au.seq V λN H3 w M3 t j I s h3=>?_
 exact xN I ((l.mono n).mono j) (U.mono j) s h3
noncomputable def Lb(h ty f:TE):TE:=λc H Q=>h c H λx e=>∃a,x=.ref a/\nX e a/\ty c e λy g=>f c g λz d=>∃b k,d a=aa (.dK b)/\y=kV k/\ (∀v,cC b k=aa v->Q v d)/\(cC b k=ae->b.length<sizeLine/\Q z (upd d a<|.dK<|putK b k z))
def Gu(I:Inv X pins σ H s)(e:H a=aa (.dK kvs))(n:RelV (kV k) u)(y:RelV z r)(D:∀v f s',cC kvs k=aa v->Inv X pins σ H s'->RelV v f->Q f s')(C:cC kvs k=ae->kvs.length<sizeLine/\∀s',Inv X pins σ (upd H a<|.dK<|putK kvs k z) s'->Q r s'):wpAny (model X.prog X.w) A (call (.builtin "dict.setdefault") [.ref a,u,r]) Q E s:=by
 obtain⟨m,g,x,b,h⟩:=pj I.aF e;refine Vx XR h.typeIs PySem.F.entry_dict_setdefault (PySem.F.args_dict_setdefault_3 _ _ _) (kt_meets_setdefault (cY X.prog X.w) a (jm n) g r)
  ⟨x,h,by rw[<-b.length];exact m,λf B=>?_,λo p d t=>?_⟩
 ·have c:=b.val k;rw[B] at c;cases q:cC kvs k with
  |none=>rw[q] at c;exact(c).elim
  |some v=>rw[q] at c;exact D v f _ q (I.tok _) c
 ·have c:=b.val k;rw[o] at c;cases q:cC kvs k with
  |some v=>rw[q] at c;exact(c).elim
  |none=>
   obtain⟨G,i⟩:=C q;have l:∃q,p.get? a=aa q:=let⟨q,_,_,j,_⟩:=d;⟨q,j⟩
   refine i _<|oS I (by rw[e];exact True.intro) t l<|rh ?_ g (b.put k y) d;have:=ua kvs k z;omega
def Gv(M:PE X o td)(r:PE X e ty)(t:PE X f tx)(m:M2 X o "setdefault" apos e f bf):PE X (.Call (.Attribute o "setdefault" apos) [e,f] [] bf) (Lb td ty tx):=by
 intro b s g H Q I h;refine V' m.base m.mj m.line Wa XR PySem.F.type_dict_setdefault<|aN (M b s g H _ I h) λu J ⟨x,O,j,L,a,ex,d,K⟩=>?_
 subst ex;obtain rfl:u=Value.ref a:=L;obtain⟨w,B,_⟩:=oZ j d;refine⟨w,B,?_⟩;rw[m.trees];refine VD rfl (VS (VB (aN (r b J g O _ j K) λW U ⟨y,A,q,D,G⟩=>VB (aN (t b U g A _ q G) λZ Y ⟨z,R,N,n,S,k,E,T,P,p⟩=>V5 ?_))))
 subst T;exact Gu N E D n (λv V C l i c=>⟨v,R,i,c,P v l⟩) λl=>⟨(p l).1,λC i=>⟨z,_,i,n,(p l).2⟩⟩
def Gw{apos bf}(ho:SE X o d)(T:SE X e k)(U:SE X f z)(m:M2 X o "setdefault" apos e f bf):SE X (.Call (.Attribute o "setdefault" apos) [e,f] [] bf) (eM gA d k z):=by
 obtain⟨td,pd,kd⟩:=ho;obtain⟨tk,pk,W⟩:=T;obtain⟨tz,pz,P⟩:=U;refine⟨_,Gv pd pk pz m,λι M H G A Q R S h=>?_⟩;refine kd ι M H G A _ R S<|au.seq h λE H1 x M1 u N L J D=>?_
 obtain⟨O,D⟩:=oQ D;obtain⟨p,rfl,hp⟩:=ry L O J;refine⟨p,rfl,hp,W E M1 H1 G A _ L (S.mono N)<|au.seq D λF V y M2 v K R2 r2 h2=>?_⟩;refine P F M2 V G A _ R2 ((S.mono N).mono K)<|au.seq h2 λC H3 w M3 t Y r I h3=>?_
 rcases CS x y M3 w with q|⟨n,a,kvs,rfl,e,q⟩
 ·rw[q] at h3;exact(h3).elim
 rw[q] at h3;have c:=h3;obtain⟨p',ks,_,ha,hm,Z,s,g⟩:=r.bq e<|(J.mono K).mono Y;cases Z;cases r2;refine⟨ks,Sum.inl n,s,rfl,λv' l=>?_,λl=>?_⟩
 ·rcases g.val n with⟨_,b⟩|⟨w',v2,j,b,rv⟩
  ·rw[b] at l;cases l
  ·rw[b] at l;cases l;rw[j] at c;exact au.ok c r rv
 ·rcases g.val n with⟨j,_⟩|⟨w',v2,j,b,rv⟩
  ·rw[j] at c;have i:=c;by_cases B:kvs.length<VM.lim
   ·rw[T1 B] at i;refine⟨by rw[<-Paired.len g];exact B,?_⟩;exact i C _ _ c_ (r.ma ha hm rfl rfl ⟨_,bW,g.put n I⟩) I
   ·rw[T2 B] at i;exact(i).elim
  ·rw[b] at l;cases l
def Gx{apos bf}(I:SE X o d)(B:SE X e k)(m:M1 X o "pop" apos e bf):SE X (.Call (.Attribute o "pop" apos) [e] [] bf) (iq nJ d k):=by
 obtain⟨Y,pd,T⟩:=I;obtain⟨Z,G,C⟩:=B;refine⟨_,Fl pd G m,λO M H z s Q R S h=>?_⟩;refine T O M H z s _ R S<|au.seq h λl L x M1 u F w t j=>?_
 obtain⟨A,j⟩:=oQ j;obtain⟨p,rfl,J⟩:=ry w A t;refine⟨p,rfl,J,C l M1 L z s _ w (S.mono F)<|au.seq j λq V y M2 v D R2 N c=>?_⟩;rcases Du x y M2 with f|⟨n,a,kvs,rfl,e,f⟩
 ·rw[f] at c;exact(c).elim
 rw[f] at c;have b:=c;obtain⟨W,P,_,U,K,E,g,r⟩:=R2.bq e<|t.mono D;cases E;cases N;rcases r.val n with⟨i,_⟩|⟨w',v2,i,e2,rv⟩
 ·rw[i] at b;exact(b).elim
 ·rw[i] at b;exact⟨P,Sum.inl n,v2,g,rfl,e2,b q _ _ c_ (R2.ma U K rfl rfl ⟨_,bW,r.drop n⟩) rv⟩
def Gy(R:Rel X.K ι M H)(l:RV ι x u)(i:RV ι y v)(h:au RV X.K ι (kQ neg y x M) Q):∃a o,u=.ref a/\eF H a v o/\Q (.bl<|o.isSome != neg) H:=by
 rcases EF x y M neg with b|⟨n,a,kvs,rfl,e,b⟩
 ·rw[b] at h;exact(h).elim
 rw[b] at h;have h3:=h;obtain⟨p,d,_,_,_,rfl,m,g⟩:=R.bq e l;cases i;refine⟨p,cC d<|Sum.inl n,rfl,eF.k (k:=(Sum.inl n:Key)) m,?_⟩;have j:(aS kvs n).isSome=(cC d (Sum.inl n:Key)).isSome:=by rcases g.val n with⟨f,c⟩|⟨w',v',f,c,rv⟩<;>rw[f,c]<;>rfl
 rw[j] at h3;exact au.ok h3 R rfl
def EG(i:X.A.units+1<cLine):dD X (compareOp .NotIn) (kQ af):=by
 refine⟨λx y H Q=>∃a o,y=.ref a/\eF H a x o/\Q (.bl<|!o.isSome) H,λd s l H x y v u Q I c b h=>?_,λk M H x y v u Q R c b h=>?_⟩
 ·obtain⟨a,o,rfl,g,q⟩:=h;obtain rfl:u=Value.ref a:=b;exact Hn i I g c λj f=>⟨.bl<|!o.isSome,H,f,rfl,q⟩
 ·obtain⟨a,o,e,g,q⟩:=Gy R b c h;exact⟨a,o,e,g,by simpa using q⟩
def Iz{pos pos'}(Z:X.A.units+1<cLine)(U:SE X o d)(L:SE X i k)(Q:SE X value e)(T:swapsWith value (aa<|.Subscript o i pos') pos.line X.env=pure ag:=by rfl):
 SS X (.Assign [.Subscript o i pos'] value pos) (VM.gz d k e):=by
 obtain⟨td,pd,kd⟩:=U;obtain⟨tk,O,J⟩:=L;obtain⟨tv,pv,G⟩:=Q;refine⟨_,Hq Z pd O pv T,λι M H c j D R S h=>?_⟩;refine G ι M H c j _ R S<|a7.seq h λs H1 v M1 t q N K W=>?_
 refine kd s M1 H1 c j _ N (S.mono q)<|a7.seq W λw I x M2 u l R2 r2 h2=>?_
 refine J w M2 I c j _ R2 ((S.mono q).mono l)<|a7.seq h2 λr H3 y P z g C E h3=>?_
 rcases Dv x y P v c with f|⟨n,a,kvs,rfl,e,f⟩
 ·rw[f] at h3;exact(h3).elim
 rw[f] at h3;have F:=h3;obtain⟨p,ks,_,ha,Y,rfl,V,B⟩:=C.bq e<|r2.mono g;cases E;have b:=F;by_cases m:kvs.length<VM.lim
 ·rw[T1 m] at b;refine⟨p,_,rfl,pK.k (k:=(Sum.inl n:Key)) V (by rw[<-Paired.len B];exact m),?_⟩;exact b r _ _ c_ (C.ma ha Y rfl rfl ⟨_,bW,B.put n<|(K.mono l).mono g⟩)<|((S.mono q).mono l).mono g
 ·rw[T2 m] at b;exact(b).elim
def ir.get(r:ir ι fs gs)(f):(cD f fs=ae/\gs.lookup (txt f)=ae)\/∃w v,cD f fs=aa w/\gs.lookup (txt f)=aa v/\RV ι w v:=by
 induction r with
 |nil=>exact .inl ⟨rfl,rfl⟩
 | @cons p q a b h t k=>
   obtain⟨g,x⟩:=p;obtain⟨l,y⟩:=q;obtain⟨c,d⟩:=h;subst c;by_cases e:g=f
   ·subst e;refine .inr ⟨x,y,T1 rfl,?_,d⟩;simp[List.lookup]
   ·have j:cD f ((g,x)::a)=cD f a:=T2 e;have i:List.lookup (txt f) ((txt g,y)::b)=List.lookup (txt f) b:=by
     have:(txt f==txt g)=ag:=by rw[Va];exactλz=>e (q9 z).symm
     simp only[List.lookup,this]
    rw[j,i];exact k
def ir.bH(r:ir ι fs gs)(f)(i:RV ι w v):ir ι (VM.bH f w fs) (L2.bH (txt f) v gs):=by
 induction r with
 |nil=>exact .cons ⟨rfl,i⟩ .nil
 | @cons p q a b h t l=>
   obtain⟨g,x⟩:=p;obtain⟨m,y⟩:=q;obtain⟨j,k⟩:=h;subst j;by_cases e:g=f
   ·subst e;have d:VM.bH g w ((g,x)::a)=(g,w)::a:=T1 rfl;have c:L2.bH (txt g) v ((txt g,y)::b)=(txt g,v)::b:=T1 rfl;rw[d,c];exact .cons ⟨rfl,i⟩ t
   ·have d:VM.bH f w ((g,x)::a)=(g,x)::VM.bH f w a:=T2 e;have c:L2.bH (txt f) v ((txt g,y)::b)=(txt g,y)::L2.bH (txt f) v b:=T2 λz=>e<|q9 z
    rw[d,c];exact .cons ⟨rfl,k⟩ l
structure jx(K:Fg)(c:List Nat)(C:Addr):Prop where
 at_:PySem.W.nsIn K mainGlobals (txt c)=aa (aa<|.ref C)
 cl:d_ K C
def Lc{pos}(T:jx X.K c C)(A:fe X.K C g)(F:SE X o m)(O:g=txt f:=by first|rfl|decide+kernel)(s:attributeBase o g X.env (eval o X.env)=eval o X.env:=by rfl):SE X (.Attribute o g pos) (aM c f m):=by
 subst O;obtain⟨P,J,r⟩:=F;refine⟨_,vo J s,λL M H N t Q R S h=>?_⟩;refine r L M H N t _ R S<|au.seq h λb Y x M1 u V n y I=>?_
 have i:au RV X.K b (match VM.dO M1 x with|some (_,d,j)=>if d=c then(match cD f j with|some v=>.ok v M1|none=>.bad) else .bad|none=>.bad) Q:=I;cases e:VM.dO M1 x with
 |none=>rw[e] at i;exact(i).elim
 |some z=>
  obtain⟨a,d,j⟩:=z;rw[e] at i;obtain⟨p,U,D,E,_,Z,W,rfl,q,G,B⟩:=n.dO e y;have h3:au RV X.K b (if d=c then(match cD f j with|some v=>.ok v M1|none=>.bad) else .bad) Q:=i;by_cases l:d=c
  ·subst l;rw[T1 rfl] at h3;rw[T.at_] at q;cases q;rcases B.get f with⟨k,_⟩|⟨w,v,k,e2,rv⟩
   ·rw[k] at h3;exact(h3).elim
   ·rw[k] at h3;exact⟨p,C,D,E,v,rfl,G,T.cl,A,e2,au.ok h3 n rv⟩
  ·rw[T2 l] at h3;exact(h3).elim
def Ld{pos pos'}(T:jx X.K c C)(I:fe X.K C g)(P:SE X o m)(N:SE X value e)(hg:g=txt f:=by first|rfl|decide+kernel)(O:swapsWith value (aa<|.Attribute o g pos') pos.line X.env=pure ag:=by rfl):
 SS X (.Assign [.Attribute o g pos'] value pos) (VM.fu c f m e):=by
 subst hg;obtain⟨to,Y,F⟩:=P;obtain⟨tv,pv,E⟩:=N;refine⟨_,JH Y pv O,λι M H l r D R S h=>?_⟩;refine E ι M H l r _ R S<|a7.seq h λq Z v M1 t w L G V=>?_
 refine F q M1 Z l r _ L (S.mono w)<|a7.seq V λd H2 x M2 u s R2 r2 h2=>?_
 have b:a7 X.K d (match VM.dO M2 x with|some (a,k,i)=>if k=c/\i.length<1000 then .nx l (M2.set a<|.ins c<|VM.bH f v i) else .bad|none=>.bad) D:=h2;cases e:VM.dO M2 x with
 |none=>rw[e] at b;exact(b).elim
 |some z=>
  obtain⟨a,k,i⟩:=z;rw[e] at b;obtain⟨p,C',A,Q,_,ha,W,rfl,B,U,y⟩:=R2.dO e r2;have h3:a7 X.K d (if k=c/\i.length<1000 then .nx l (M2.set a<|.ins c<|VM.bH f v i) else .bad) D:=b;by_cases n:k=c/\i.length<1000
  ·rw[T1 n] at h3;obtain⟨rfl,J⟩:=n;have j:=B;rw[T.at_] at j;cases j;refine⟨p,C,A,Q,rfl,U,T.cl,I,by rw[<-Paired.len y];exact J,?_⟩;exact h3 d _ _ c_ (R2.ma ha W rfl rfl ⟨C,A,_,B,bW,y.bH f<|G.mono s⟩)<|(S.mono w).mono s
  ·rw[T2 n] at h3;exact(h3).elim
structure sJ(P:Program)(w:World)(K:Fg)(mg:Str->Option ah)(base:Heap)(k:Nat)(f:Addr)(fd:FuncData)(ps:List Str)(c:VM.CM):Prop where
 ok:dS P w K mg base fz k f fd ps (mw K ps.length c)
 bi:Binds K fd ps []
 ln:∀ws M,ws.length≠ps.length->c ws M=.bad
def Lf{K:Fg}{st:Stmt}(F:gH K x qual st f fd)(S:fV N ps<|cc st)(y:Binds K fd ps [])(D:∀(c) (A) (outer) (s) (H) (E),bA k (A.deeper<|envOfC qual (cc st) s.heap.objs.size f c)->e9 (cj fz P w K mg base N qual (cc st) f c A outer s H E).cX (fD st) body)(B:N.length=n:=by rfl)(I:ps.length=np:=by rfl):sJ P w K mg base (k+1) f fd ps (VM.fn np n body):=by
 subst B I;refine⟨F.ok S (λG H Q E h=>h.1)<|λc A outer s H G Q E C h=>?_,y,λd M i=>T2 i⟩;obtain⟨z,l,M,d,R,r,h⟩:=h;obtain⟨t,u,L⟩:=D c A outer s H E C;refine⟨t,u,L l M H _ _ _ R (ox r N) ?_⟩;have i:d.length=ps.length:=by rw[Paired.len r];exact z
 have b:au RV K l (match body (d.map aa++List.replicate (N.length-ps.length) ae) M with
  |.rt v a=>.ok v a
  |.nx _ a=>.ok .aw a
  |.ex v a=>.ex v a
  |_=>.bad) Q:=by
  have m:au RV K l (if d.length=ps.length then(match body (d.map aa++List.replicate (N.length-ps.length) ae) M with
   |.rt v a=>.ok v a
   |.nx _ a=>.ok .aw a
   |.ex v a=>.ex v a
   |_=>.bad) else .bad) Q:=h
  rw[T1 i] at m;exact m
 rw[i];cases e:body (d.map aa++List.replicate (N.length-ps.length) ae) M with
 |nx g a=>rw[e] at b;exactλj o q p J O=>b j o .aw p J rfl
 |rt v a=>rw[e] at b;exact b
 |bk g a=>rw[e] at b;exact(b).elim
 |ct g a=>rw[e] at b;exact(b).elim
 |ex v a=>rw[e] at b;exact(b).elim
 |bad=>rw[e] at b;exact(b).elim
def Gz{K:Fg}(d:Binds K fd ps []):sJ P w K mg base 0 f fd ps (λ_ _=>.bad):=by
 have c:∀a H Q E,¬mw K ps.length (λ_ _=>.bad) a H Q E:=λa H Q E h=>by obtain⟨_,_,_,_,_,_,h⟩:=h;exact h
 exact⟨⟨λa H Q E h=>absurd h<|c a H Q E,λA b s H args e a Q E _ _ _ _ h=>absurd h<|c a H Q E⟩,d,λ_ _ _=>rfl⟩
def GA{K:Fg}(T:jx K c C)(R:Rel K ι M H)(e:jn c m M w=af)(r:RV ι w v):∃p d b,v=.ref p/\H p=aa (.ins C d b)/\b.lookup (txt m)=ae:=by
 unfold jn at e;cases h:VM.dO M w with
 |none=>rw[h] at e;cases e
 |some z=>
  obtain⟨a,n,o⟩:=z;rw[h] at e;rw[T_,UQ] at e;obtain⟨rfl,f⟩:=e;obtain⟨p,k,d,b,_,s,l,rfl,g,j,i⟩:=R.dO h r;rw[T.at_] at g;cases g;refine⟨p,d,b,rfl,j,?_⟩;rcases i.get m with⟨_,q⟩|⟨w',v',q,_⟩
  ·exact q
  ·rw[q] at f;cases f
def vR{K:Fg}{b:List Str}(e:∀a M,a.length≠b.length->c a M=.bad)(R:Rel K ι M H)(r:bj ι a vs)(h:au RV K ι (c a M) Q)(E):mw K b.length c vs H Q E:=by
 by_cases d:a.length=b.length
 ·exact⟨by rw[<-Paired.len r];exact d,ι,M,a,R,r,h⟩
 ·rw[e a M d] at h;exact(h).elim
def GB{k:Nat}{c n:List Nat}{m:Str}{C f:Addr}{B:FuncData}{E:List Str}{s:VM.CM}{o e:Expr}{d:List Expr}{v:VM.EM}{a:VM.AM}{b pos:Pos}{pl:Sem Bool}(T:jx X.K c C)(Z:Meth X.K C m f)(F:sJ X.prog X.w X.K X.mg X.base k f B E s)(U:bA k X.A)(W:SE X o v)(ha:SA X (e::d) a)(hg:m=txt n:=by first|rfl|decide+kernel)(i:starEach (e::d) X.env=(ag,eval e X.env)::starEach d X.env:=by rfl)(g:(backTo pos<|starEach d X.env).any (·.1)=ag:=by rfl)(G:eval (.Call (.Attribute o m b) (e::d) [] pos) X.env=(do
  let y<-eval o X.env
  standAt b.atName
  let(f,first)<-holding [y] (getMethod y m pl)
  callWith pos f first (backTo pos (starEach (e::d) X.env)) (backToKw pos (keywordEach [] X.env))):=by rfl):
 SE X (.Call (.Attribute o m b) (e::d) [] pos) (dW c n s v a):=by
 subst hg;obtain⟨to,po,D⟩:=W;obtain⟨ta,L,ka⟩:=ha;refine⟨_,Hf po T.cl Z F.ok U F.bi .nil rD L i g G,λι M H z q Q R S h=>?_⟩;refine D ι M H z q _ R S<|au.seq h λj H1 x M1 u O t r l=>?_
 obtain⟨N,l⟩:=oQ l;obtain⟨p,P,V,rfl,Y,J⟩:=GA T t N r;refine⟨p,P,V,rfl,Y,J,ka j M1 H1 z q _ t (S.mono O)<|au.seq l λi5 H2 ws M2 vs I R2 r2 h2=>?_⟩;rw[UZ];exact vR F.ln R2 (.cons (r.mono I) r2) h2 _
structure xc(P:Program)(w:World)(K:Fg)(mg:Str->Option ah)(base:Heap)(k:Nat)(x:Str)(np:Nat)(c:VM.CM):Prop where
 run:∀(X:Cx),X.prog=P->X.w=w->X.K=K->X.mg=mg->X.base=base->bA k X.A->∀(e:Expr) (es:List Expr) (a:VM.AM) (p pos:Pos),SA X (e::es) a->Gl X x->(x==("__debug__":Str))=ag->
  starEach (e::es) X.env=(ag,eval e X.env)::starEach es X.env->(backTo pos<|starEach es X.env).any (·.1)=ag->SE X (.Call (.Name x p) (e::es) [] pos) (ax c a)
def IA(F:xc X.prog X.w X.K X.mg X.base k x np c)(f:bA k X.A)(h:SA X (e::es) a)(g:Gl X x:=by rfl)(b:(x==("__debug__":Str))=ag:=by decide+kernel)(he:starEach (e::es) X.env=(ag,eval e X.env)::starEach es X.env:=by rfl)(d:(backTo pos<|starEach es X.env).any (·.1)=ag:=by rfl):SE X (.Call (.Name x p) (e::es) [] pos) (ax c a):=
 F.run X rfl rfl rfl rfl rfl f e es a p pos h g b he d
end
noncomputable def xf(K:Fg)(l:Addr):It:=
 ⟨λi H=>∃a x,bg K H l a/\a[i]? =aa x,
  λi H v b=>∃p x,H p=ae/\v=.ref p/\b=upd H p (.tup [.int i,x])/\∀a,bg K H l a->a[i]? =aa x,
  λi H=>∃a,bg K H l a/\a.length<=i⟩
def EH{P:Program}{w:World}{K:Fg}{elts:List Expr}{x1:Nat}{pos:Pos}(l e it:Addr)(N:e≠it):
 Turn P w K (.Tuple elts x1 pos) (xf K l) [e,it] e (λi h=>(∃t,IsEnum h e it i t)/\h.IsListIter it l i) where
 mem:=by simp
 obj:=λi h C c M=>by
  obtain⟨⟨t,A⟩,F⟩:=C;simp only[T4,Ud,Ue] at M;rcases M with rfl|rfl
  ·exact⟨_,A,λv z=>nomatch z⟩
  ·obtain⟨o,e,c,d⟩:=F;exact⟨o,e,λv z=>by rw[d] at z;cases z⟩
 keep:=λi h h' C k=>by obtain⟨⟨t,A⟩,F⟩:=C;exact⟨⟨t,k e (by simp) _ A⟩,F.at λo q=>k it (by simp) o q⟩
 item:=by
  intro X hP hw W M i D s σ H E I b C hg;subst hP hw W;obtain⟨⟨t,A⟩,F⟩:=C;obtain⟨xs,x,O,hx⟩:=hg;obtain⟨xa,U,p,_⟩:=I.list O;obtain⟨ux,V,S⟩:=U.get hx;refine wpAny_pyNext_enum_item A F p.isList (x:=ux) (by simpa using V) N λh' a1 a2 a3 a4 Y=>?_
  refine⟨_,rfl,wpAny_letOwnedTupleGo_enum a1 λJ P1 L=>?_⟩;have fr:H s.heap.objs.size=ae:=I.aF.fresh<|T8 _;have R:∀{c:Addr} {o:Obj},s.heap.get? c=aa o->c≠s.heap.objs.size:=λe=>UB<|Ui e
  have T:e≠s.heap.objs.size:=R A;have g:∀c o,c∉([e,it]:List Addr)->s.heap.get? c=aa o->J.get? c=aa o:=λc o a q=>by simp only[T4,Ud,Ue,not_or] at a;exact L.extBut c o a.1<|Y c o a.1 a.2 q
  have y:∀{c:Addr} {o:HO},H c=aa o->c∉([e,it]:List Addr):=λ{c o} q a=>by rw[(b c a).1] at q;cases q
  have B:∀{c:Addr} {o:HO},H c=aa o->c≠s.heap.objs.size:=λq=>cP q fr
  have aF:bS X.prog X.w (upd H s.heap.objs.size<|.tup [.int i,x]) J:=λc o q=>by
   by_cases f:c=s.heap.objs.size
   ·subst f;rw[bW] at q;cases q;exact⟨by show 2<=sizeLine;decide,[.int i s.toks,ux],.cons ⟨_,rfl⟩<|.cons S .nil,⟨_,L.extBut _ _ (Uq T) a3,rfl,_,rfl⟩⟩
   ·rw[aL f] at q;refine(I.aF c o q).eE (λd v G z=>?_) (λd z=>by rw[aL<|B z];exact z) λd Q z=>by rw[aL<|B z];exact z
    rcases G with rfl|G
    ·exact g _ v (y q) z
    ·exact g _ v (y G) z
  have I':Inv X D σ (upd H s.heap.objs.size<|.tup [.int i,x]) {s with heap:=J,toks:=s.toks+1}:=by
   refine I.step (λc a=>⟨(b c a).2.2.2.1,(b c a).2.1,(b c a).2.2.2.2.1,(b c a).2.2.2.2.2⟩) (λc o _ _ a q _=>g c o a q) (λc o _ _ a q _=>⟨o.slots,g c o a q⟩) (λc o _ q n=>by rw[aL<|R q];exact n) (λc o a q=>⟨o,g c o a q⟩) (λc Q q=>by rw[aL<|B q];exact q) (λc o u q=>by rw[aL<|B q];exact q) (λc ps q=>⟨#[],by rw[aL<|B q,q];simp⟩) (λm hm=>?_) aF I.bare
   obtain⟨o,es,ep,ho,r⟩:=hm;refine⟨o,es,ep,g _ o (λa=>?_) ho,r⟩;exact(b _ a).2.1 rfl
  refine⟨.ref s.heap.objs.size,_,I',rfl,⟨s.heap.objs.size,x,fr,rfl,rfl,λQ qb=>by rw[I.qG qb O];exact hx⟩,?_,λc a=>?_⟩
  ·exact⟨⟨_,P1⟩,a2.extBut L.extBut<|Uq N⟩
  ·have Z:=(b c a).1;by_cases f:c=s.heap.objs.size
   ·exfalso;simp only[T4,Ud,Ue] at a;obtain⟨o1,e1,_⟩:=F;rcases a with q|q
    ·exact R A<|q▸f
    ·exact R e1<|q▸f
   ·rw[aL f];exact Z
 done:=by
  intro X hP hw W M i D s σ H E I b C hg;subst hP hw W;obtain⟨⟨t,A⟩,F⟩:=C;obtain⟨xs,O,hl⟩:=hg;obtain⟨xa,U,p,_⟩:=I.list O;have l1:=U.length;refine wpAny_pyNext_enum_end (I.ok.hd M) A F p.isList (by simp;omega) λh' Y=>⟨rfl,?_⟩
  have g:∀c o,c∉([it]:List Addr)->s.heap.get? c=aa o->h'.get? c=aa o:=λc o a q=>by simp only[T4,Ud,Ue] at a;exact Y c o a q
  have j:∀c∈([it]:List Addr),c∈([e,it]:List Addr):=λc a=>Up _ a
  have y:∀{c:Addr} {o:HO},H c=aa o->c∉([it]:List Addr):=λ{c o} q a=>by rw[(b c<|j c a).1] at q;cases q
  refine I.step (λc a=>⟨(b c<|j c a).2.2.2.1,(b c<|j c a).2.1,(b c<|j c a).2.2.2.2.1,(b c<|j c a).2.2.2.2.2⟩) (λc o _ _ a q _=>g c o a q) (λc o _ _ a q _=>⟨o.slots,g c o a q⟩) (λc o _ q n=>n) (λc o a q=>⟨o,g c o a q⟩) (λc Q q=>q) (λc o u q=>q) (λc ps q=>⟨#[],by rw[q];simp⟩) (λm hm=>?_) (λc o q=>?_) I.bare
  ·obtain⟨o,es,ep,ho,r⟩:=hm;refine⟨o,es,ep,g _ o (λa=>?_) ho,r⟩;exact(b _<|j _ a).2.1 rfl
  ·refine(I.aF c o q).eE (λd v G z=>?_) (λd z=>z) λd Q z=>z
   rcases G with rfl|G
   ·exact g _ v (y q) z
   ·exact g _ v (y G) z
 self:=λ_ _ _ _ _ C h=>let⟨⟨_,A⟩,_⟩:=C;wpAny_pyIter_enum A h
section
variable{X:Cx}{elts:List Expr}{x1:Nat}{tpos:Pos}
noncomputable def Lg(K:Fg)(e:TA):TI:=λc H R=>e c H λd a=>∃l,d=[.ref l]/\(∃b,bg K a l b)/\R (xf K l) a
def EI:bootBuiltins "enumerate"=aa (.type "enumerate"):=by kernel_rfl
def IB(G:Gl X "enumerate")(F:X.mg "enumerate"=ae)(J:PA X [a] ta)(E:starEach [a] X.env=[(ag,eval a X.env)]:=by rfl):
 PI X (.Tuple elts x1 tpos) (.Call (.Name "enumerate" p) [a] [] pos) (Lg X.K ta):=by
 intro b s m H R I h;refine Call_<|j9 I G F EI (V3 (aN (J pos b s m H _ I h) λM d ⟨P,l,g,w,D⟩=>?_) (by rw[E];rfl)<|by rfl) (by decide+kernel)<|by decide+kernel
 obtain⟨u,e,⟨N,x⟩,q⟩:=D;subst e;cases w with
 |cons r n=>
  cases n;have C:=r;subst C;obtain⟨z,O,A,_⟩:=g.list x;refine call_enumerate_list A.isList λB j y L v=>?_
  have t:Inv X b m l {d with heap:=B}:=g.kept λc o e=>v c o e
  refine wpAny_pyIter_enum j ?_;refine⟨d.heap.objs.size+1,[d.heap.objs.size+1,d.heap.objs.size],_,_,l,rfl,t,
   EH u (d.heap.objs.size+1) d.heap.objs.size (Nat.succ_ne_self _),⟨⟨_,j⟩,y⟩,λc k=>?_,q⟩
  have f:d.heap.objs.size<=c:=by simp only[T4,Ud,Ue] at k;rcases k with q|q<;>rw[q]<;>first|exact T8 _|exact Xn _ _
  exact g.kD f<|g.aF.fresh f
theorem mK:∀(xs) (i j:Nat) (x),(eV i xs)[j]? =aa x->∃w,xs[j]? =aa w/\x=.pair (.int ((i+j:Nat):Int)) w
 |[],_,_,_,h=>by simp[eV] at h
 |y::r,i,0,x,h=>by simp only[eV] at h;exact⟨y,rfl,(Ua h).symm⟩
 |y::r,i,j+1,x,h=>by simp only[eV] at h;obtain⟨w,b,a⟩:=mK r (i+1) j x h;exact⟨w,by simpa using b,by rw[a,show i+1+j=i+(j+1) by omega]⟩
theorem mL:∀(xs) (i),(eV i xs).length=xs.length
 |[],_=>rfl
 |_::r,i=>by simp[eV,mL r]
def Lh{K:Fg}(z:ι[a]? =aa p)(u:o=.lst xs\/o=.aU xs):gg K ι (xf K p) (eV 0 xs) [(a,o)]:=by
 have d:∀{b M H},ι<+:b->Rel K b M H->VM.bJ.ok [(a,o)] M=af->∃c,bg K H p c/\bj b xs c:=λ{b M H} q R h=>by
  have A:=rS h;have r:=R.obj a p o (dM q z) A;rcases u with rfl|rfl
  ·obtain⟨c,g,f⟩:=r;exact⟨c,bg.of g,f⟩
  ·obtain⟨c,g,f⟩:=r;exact⟨c,g.sq,f⟩
 refine⟨λi b M H x q R h k=>?_,λi b M H x v D q R h k y=>?_,λi b M H q R h n=>?_⟩
 ·obtain⟨c,g,f⟩:=d q R h;obtain⟨w,m,rfl⟩:=mK _ _ _ _ k;obtain⟨v,l,_⟩:=Paired.at f m;exact⟨c,v,g,l⟩
 ·obtain⟨c,g,f⟩:=d q R h;obtain⟨w,m,rfl⟩:=mK _ _ _ _ k;obtain⟨T,E,t,rfl,rfl,k1⟩:=y;obtain⟨C,l,s⟩:=Paired.at f m;have e:=k1 c g;rw[l] at e;cases e;rw[Nat.zero_add];refine⟨b++[T],.ref M.length,M++[.tup [.int<|i,w]],⟨[T],rfl⟩,rfl,R.new (o:=.tup [.int<|i,w]) t λB j=>⟨_,bW,.cons rfl<|.cons (s.mono j) .nil⟩,T,?_,rfl⟩;rw[<-R.len];simp
 ·obtain⟨c,g,f⟩:=d q R h;rw[mL] at n;exact⟨c,g,by rw[<-Paired.len f];exact n⟩
def IC(hm:X.mg "enumerate"=ae)(w:SE X a m)(v:Gl X "enumerate":=by rfl)(d:starEach [a] X.env=[(ag,eval a X.env)]:=by rfl):
 SI X (.Tuple elts x1 tpos) (.Call (.Name "enumerate" p) [a] [] pos) (pA m):=by
 obtain⟨A,i,r⟩:=w;refine⟨_,IB v hm (dE i fi d) d,λs M H t f Q R S h=>?_⟩;refine r s M H t f _ R S<|au.seq h λq C x M1 u B c g o=>?_
 have h3:=o;cases ex:VM.eU M1 x with
 |none=>rw[ex] at h3;exact(h3).elim
 |some n=>obtain⟨z,D,y⟩:=n;rw[ex] at h3;obtain⟨k,l,b,rfl,j,e⟩:=uB c ex g;exact⟨k,rfl,⟨l,j⟩,au.ok h3 c<|Lh b e⟩
end
noncomputable def NF(X:Cx)(d:Addr):Prop:=∀o u,X.lW d≠aa (.aU o u)
def Inv.swap(I:Inv X pins σ H s)(h:H d=aa u)(j:∀xs,u≠.tup xs)(B:∀g,u≠.cS g)(h3:∀y,u≠.own y)(t:NF X d)(ok:c6 X.prog X.w (upd H d u') s.heap d u'):Inv X pins σ (upd H d u') s:=by
 have f:∀{b:Addr} {o:HO},H b=aa o->o≠u->b≠d:=λ{b o} e n z=>by subst z;rw[h] at e;exact n (Ua e).symm
 have aw:∀{b:Addr},H b=ae->b≠d:=λ{b} e z=>by subst z;rw[h] at e;cases e
 refine⟨I.ok,I.os,I.bare,⟨I.base.keep,I.base.slot,λb o e n r=>?_,I.base.there,λb xs e=>?_,λb o v e=>?_,λb g e=>?_⟩,I.loc,I.cell,?_,λx c e=>?_,λp A=>?_,λb o e=>?_,I.len⟩
 ·have z:=I.base.free b o e n r;rw[aL<|aw z];exact z
 ·have z:=I.base.fq b xs e;rw[aL<|f z<|λq=>j xs q.symm];exact z
 ·by_cases a:b=d
  ·subst a;exact(t o v e).elim
  ·rw[aL a];exact I.base.fJ b o v e
 ·obtain⟨m,z⟩:=I.base.gc b g e;exact⟨m,by rw[aL<|f z<|λq=>B _ q.symm];exact z⟩
 ·rw[aL<|aw I.free];exact I.free
 ·rw[aL<|aw<|I.eA x c e];exact I.eA x c e
 ·obtain⟨l,i,k⟩:=I.pin p A;exact⟨l,by rw[aL<|aw i];exact i,k⟩
 ·by_cases a:b=d
  ·subst a;rw[bW] at e;cases e;exact ok
  ·rw[aL a] at e;exact(I.aF b o e).eE (λc v _ q=>q) (λc q=>by rw[aL<|f q<|λz=>h3 _ z.symm];exact q) λc xs q=>by rw[aL<|f q<|λz=>j xs z.symm];exact q
def Inv.nf(I:Inv X pins σ H s)(h:H d=aa (.dK ks)):NF X d:=λo u e=>by have:=I.base.fJ d o u e;rw[h] at this;cases this
def Inv.freeze(I:Inv X pins σ H s)(h:H d=aa (.dK ks))(a:s.heap.get? d=aa o):Inv X pins σ (upd H d<|.aU o<|.dK ks) s:=
 Inv.swap I h (λ_ z=>nomatch z) (λ_ z=>nomatch z) (λ_ z=>nomatch z) (Inv.nf I h) ⟨a,I.aF d _ h⟩
def Inv.c8(I:Inv X pins σ H s)(h:H d=aa (.aU o<|.dK ks))(a:NF X d):Inv X pins σ (upd H d<|.dK ks) s:=
 Inv.swap I h (λ_ z=>nomatch z) (λ_ z=>nomatch z) (λ_ z=>nomatch z) a (I.aF d _ h).2
noncomputable def xg(d:Addr)(ep n:Nat):It:=
 ⟨λi H=>∃o b a k v,H d=aa (.aU o<|.dK a)/\o.data=.dict b ep/\a.length=n/\a[i]? =aa (k,v),
  λi H x c=>∃p k v,H p=ae/\x=.ref p/\c=upd H p (.tup [kV k,v])/\∀o a,H d=aa (.aU o<|.dK a)->a[i]? =aa (k,v),
  λi H=>∃o b a,H d=aa (.aU o (.dK a))/\o.data=.dict b ep/\a.length=n/\n<=i⟩
def AH(h:(cY P w).is k u=af):RelV (kV k) u:=by
 rcases iC h with⟨i,t,rfl,rfl⟩|⟨x,t,rfl,rfl⟩
 ·exact⟨t,rfl⟩
 ·exact⟨t,rfl⟩
def KV.at(r:KV kvs vs):∀{i:Nat} {k:Key} {v:V},kvs[i]? =aa (k,v)->∃u,vs[i]? =aa (k,u)/\RelV v u:=by intro i k v h;obtain⟨q,e,b,a⟩:=Paired.at r h;exact⟨q.2,by rw[e,show k=q.1 from b],a⟩
def zZ(b:o.data=.dict es ep)(x:c6 P w H h d<|.aU o<|.dK ks):∃vs,KV ks vs/\h.DictAt (cY P w) d vs ep/\vs.length=ks.length:=by obtain⟨a,z,n,vs,e,p,k,j,g,c,f,i,m,l⟩:=x;rw[a] at g;cases g;rw[b] at f;cases f;exact⟨vs,e,⟨o,es,a,c,b,i,m,l⟩,e.length.symm⟩
def Dw{P:Program}{w:World}{K:Fg}{elts:List Expr}{x1:Nat}{pos:Pos}(d it:Addr)(ep n:Nat):
 Turn P w K (.Tuple elts x1 pos) (xg d ep n) [it] it (λi h=>∃ok F,IsItemIter h it d i n ep ok F) where
 mem:=by simp
 obj:=λi h x c J=>by obtain⟨ok,F,f⟩:=x;simp only[T4,Ud,Ue] at J;subst J;exact⟨_,f,λv z=>nomatch z⟩
 keep:=λi h h' x k=>by obtain⟨ok,F,f⟩:=x;exact⟨ok,F,k it (by simp) _ f⟩
 item:=by
  intro X hP hw Y J i y s σ H E I b x hg;subst hP hw Y;obtain⟨ok,F,f⟩:=x;obtain⟨o0,L,ks,k,v,j,C,A,hk⟩:=hg;obtain⟨vs,M,da,D⟩:=zZ C<|I.aF d _ j;rw[A] at D;obtain⟨ux,V,S⟩:=KV.at M hk;rw[<-D] at f;refine wpAny_pyNext_items_item f da V λU h' G a1 a3 a4 Z=>?_
  refine⟨_,rfl,wpAny_letOwnedTupleGo_items a1 λB O Q=>?_⟩;have fr:=I.aF.fresh<|T8 _;have lt:∀{c:Addr} {o:Obj},s.heap.get? c=aa o->c≠s.heap.objs.size:=λe=>UB<|Ui e
  have T:=lt f;have g:∀c o,c∉([it]:List Addr)->s.heap.get? c=aa o->B.get? c=aa o:=λc o a q=>by simp only[T4,Ud,Ue] at a;exact Q.extBut c o a<|Z c o a q
  have p:∀{c:Addr} {o:HO},H c=aa o->c∉([it]:List Addr):=λ{c o} q a=>by rw[(b c a).1] at q;cases q
  have t:∀{c:Addr} {o:HO},H c=aa o->c≠s.heap.objs.size:=λq=>cP q fr
  have aF:bS X.prog X.w (upd H s.heap.objs.size<|.tup [kV k,v]) B:=λc o q=>by
   by_cases l:c=s.heap.objs.size
   ·subst l;rw[bW] at q;cases q;exact⟨by show 2<=sizeLine;decide,[U,ux],.cons (AH G)<|.cons S .nil,⟨_,Q.extBut _ _ (Uq T) a3,rfl,_,rfl⟩⟩
   ·rw[aL l] at q;refine(I.aF c o q).eE (λd v j z=>?_) (λd z=>by rw[aL<|t z];exact z) λd R z=>by rw[aL<|t z];exact z
    rcases j with rfl|j
    ·exact g _ v (p q) z
    ·exact g _ v (p j) z
  have I':Inv X y σ (upd H s.heap.objs.size<|.tup [kV k,v]) {s with heap:=B}:=by
   refine I.step (λc a=>⟨(b c a).2.2.2.1,(b c a).2.1,(b c a).2.2.2.2.1,(b c a).2.2.2.2.2⟩) (λc o _ _ a q _=>g c o a q) (λc o _ _ a q _=>⟨o.slots,g c o a q⟩) (λc o _ q n=>by rw[aL<|lt q];exact n) (λc o a q=>⟨o,g c o a q⟩) (λc R q=>by rw[aL<|t q];exact q) (λc o u q=>by rw[aL<|t q];exact q) (λc ps q=>⟨#[],by rw[aL<|t q,q];simp⟩) (λm hm=>?_) aF I.bare
   obtain⟨o,L,ep,ho,r⟩:=hm;refine⟨o,L,ep,g _ o (λa=>?_) ho,r⟩;exact(b _ a).2.1 rfl
  refine⟨.ref s.heap.objs.size,_,I',rfl,⟨s.heap.objs.size,k,v,fr,rfl,rfl,λoz R N=>by rw[j] at N;cases N;exact hk⟩,?_,λc a=>?_⟩
  ·rw[D] at O;exact⟨_,_,O⟩
  ·have xb:=(b c a).1;by_cases l:c=s.heap.objs.size
   ·exfalso;simp only[T4,Ud,Ue] at a;exact lt f<|a▸l
   ·rw[aL l];exact xb
 done:=by
  intro X hP hw Y J i y s σ H E I b x hg;subst hP hw Y;obtain⟨ok,F,f⟩:=x;obtain⟨o0,L,ks,j,C,A,hl⟩:=hg;obtain⟨vs,M,da,D⟩:=zZ C<|I.aF d _ j;rw[A] at D;rw[<-D] at f;refine wpAny_pyNext_items_end (I.ok.hd J) f da (by simp;omega) λh' Z=>⟨rfl,?_⟩
  have g:∀c o,c∉([it]:List Addr)->s.heap.get? c=aa o->h'.get? c=aa o:=λc o a q=>by simp only[T4,Ud,Ue] at a;exact Z c o a q
  have p:∀{c:Addr} {o:HO},H c=aa o->c∉([it]:List Addr):=λ{c o} q a=>by rw[(b c a).1] at q;cases q
  refine I.step (λc a=>⟨(b c a).2.2.2.1,(b c a).2.1,(b c a).2.2.2.2.1,(b c a).2.2.2.2.2⟩) (λc o _ _ a q _=>g c o a q) (λc o _ _ a q _=>⟨o.slots,g c o a q⟩) (λc o _ q n=>n) (λc o a q=>⟨o,g c o a q⟩) (λc R q=>q) (λc o u q=>q) (λc ps q=>⟨#[],by rw[q];simp⟩) (λm hm=>?_) (λc o q=>?_) I.bare
  ·obtain⟨o,L,ep,ho,r⟩:=hm;refine⟨o,L,ep,g _ o (λa=>?_) ho,r⟩;exact(b _ a).2.1 rfl
  ·refine(I.aF c o q).eE (λd v j z=>?_) (λd z=>z) λd R z=>z
   rcases j with rfl|j
   ·exact g _ v (p q) z
   ·exact g _ v (p j) z
 self:=λ_ _ _ _ _ x h=>let⟨_,_,f⟩:=x;PySem.W.kcp_self f h
section
variable{X:Cx}{elts:List Expr}{x1:Nat}{tpos:Pos}
structure M0(X:Cx)(o:Expr)(m:Str)(apos bf:Pos):Prop where
 base:attributeBase o m X.env (eval o X.env)=eval o X.env
 mj:((backTo bf<|starEach [] X.env).all (λx=>!x.1)&&(backToKw bf<|keywordEach [] X.env).all (λx=>x.1.isSome)
  &&ai (([]:List Expr).length+([]:List Keyword).length+(if([]:List Keyword).isEmpty then 0 else 1)<30))=af
 line:(apos.endLine==bf.line)=af
 trees:backTo bf (starEach [] X.env)=[]
noncomputable def Bo(X:Cx)(f:TE):TI:=λe H R=>f e H λx b=>∃d a,x=.ref d/\b d=aa (.dK a)/\∀o g c,o.data=.dict g c->NF X d->R (xg d c a.length) (upd b d<|.aU o<|.dK a)
def y7{e:Expr}{D:TE}{a f:Pos}(K:PE X e D)(m:M0 X e "items" a f):PI X (.Tuple elts x1 tpos) (.Call (.Attribute e "items" a) [] [] f) (Bo X D):=by
 intro k s V H R I h;refine V' m.base m.mj m.line Wa XS PySem.F.type_dict_items<|aN (K k s V H _ I h) λu g ⟨x,Z,i,W,d,y,ex,j,q⟩=>?_
 subst ex;obtain rfl:u=Value.ref d:=W;obtain⟨L,M,r⟩:=oZ i<|.inl ⟨y,.inl j⟩;refine⟨L,M,?_⟩;rw[m.trees];obtain⟨Y,_,p,t,v⟩:=pj i.aF j;refine VD rfl<|PySem.evalArgs_none ?_;refine Vx XS v.typeIs PySem.F.entry_dict_items (PySem.F.args_dict_items_1 _) (meets_dict_items (cY X.prog X.w) d r) ⟨⟨p,v⟩,?_⟩;obtain⟨o,B,l,Q,U,C,G,S,O⟩:=v;have E:=Uw {cls:=.type "dict_items",data:=.fields #[.ref d]} Q;have P:(g.heap.push {cls:=.type "dict_items",data:=.fields #[.ref d]}).IsItemsView g.heap.objs.size d:=⟨_,UR _ rfl,rfl,rfl⟩;refine wpAny_pyIter_items (knd:=cY X.prog X.w) (kvs:=p) (ep:=l) P ⟨o,B,E,U,C,G,S,O⟩ ?_;have J:=i.kept (t':=g.toks) (h':=((g.heap.push {cls:=.type "dict_items",data:=.fields #[.ref d]}).push {cls:=.type "dict_itemiterator",data:=.fields #[.none,.bool ag,.ref d,.int 0 0,.int p.length 0,.int l 0,.none,.none]})) λb u q=>Uw _<|Uw _ q
 have T:=Inv.freeze J j<|Uw _ E;have N:p.length=y.length:=t.length.symm;refine⟨(g.heap.push {cls:=.type "dict_items",data:=.fields #[.ref d]}).objs.size,[(g.heap.push {cls:=.type "dict_items",data:=.fields #[.ref d]}).objs.size],_,_,_,rfl,T,Dw d _ l y.length,⟨_,_,by rw[<-N];exact UR _ rfl⟩,λc A=>?_,q o B l C<|Inv.nf i j⟩;have n:g.heap.objs.size<=c:=by simp only[T4,Ud,Ue] at A;rw[A,Wn];exact Xn _ _
 refine i.kD n ?_;have:=i.aF.fresh n;rw[aL (λz=>by rw[z,j] at this;cases this)];exact this
end
def Rel.ghost{K:Fg}{c:List Addr}{M:VM.Mem}{H:Hp}(R:Rel K c M H){p:Addr}{o:VM.O}(r:live o=ag)(v:RO K (c++[p]) H p o):Rel K (c++[p]) (M++[o]) H:=by
 have pre:c<+:c++[p]:=⟨[p],rfl⟩;have split:∀a q x,(c++[p])[a]? =aa q->(M++[o])[a]? =aa x->(c[a]? =aa q/\M[a]? =aa x)\/(q=p/\x=o):=λa q x h d=>by
  by_cases e:a<c.length
  ·rw[UU e] at h;rw[UU (by rw[<-R.len];exact e)] at d;exact .inl ⟨h,d⟩
  ·rw[Ve<|VT e] at h;rw[Ve (by rw[<-R.len];exact VT e)] at d;rw[R.len] at h;cases n:a-M.length with
   |zero=>rw[n] at h d;simp at h d;exact .inr ⟨h.symm,d.symm⟩
   |succ k=>rw[n] at h;simp at h
 refine⟨by simp[R.len],λa q x m i=>?_,λa b q t s m i h3 u f g=>?_,R.tb⟩
 ·rcases split a q x m i with⟨l,j⟩|⟨rfl,rfl⟩
  ·exact RO.mono pre<|R.obj a q x l j
  ·exact v
 ·rcases split a q t m h3 with⟨l,w⟩|⟨_,rfl⟩
  ·rcases split b q s i u with⟨j,y⟩|⟨_,rfl⟩
   ·exact R.inj a b q t s l j w y f g
   ·rw[r] at g;cases g
  ·rw[r] at f;cases f
def Rel.freeze{K:Fg}(R:Rel K ι M H)(l:ι[a]? =aa d)(g:M[a]? =aa (.aD kvs))(i:dC ι kvs ks)(c:o.data=.dict es ep):
 Rel K (ι++[ep]) (M.set a (.a8 M.length kvs)++[VM.O.bR]) (upd H d<|.aU o<|.dK ks):=by
 have b:=(T6.mp g).1;have pre:ι<+:ι++[ep]:=⟨[ep],rfl⟩;have h:Rel K (ι++[ep]) (M++[VM.O.bR]) H:=R.ghost rfl trivial;have e:M.set a (.a8 M.length kvs)++[VM.O.bR]=(M++[VM.O.bR]).set a (.a8 M.length kvs):=by rw[W9 _ _ b]
 have j:(ι++[ep])[M.length]? =aa ep:=by rw[<-R.len];simp
 have k:RO K (ι++[ep]) (upd H d<|.aU o<|.dK ks) d (.a8 M.length kvs):=⟨o,es,ks,ep,j,bW,c,i.mono pre⟩;have f:(M++[VM.O.bR])[a]? =aa (.aD kvs):=by rw[UU b];exact g
 have:=h.ma (dM pre l) f rfl rfl k;rw[<-e] at this;exact this
def AI{K:Fg}(I:ι[a]? =aa d)(N:ι[g]? =aa ep):gg K ι (xg d ep kvs.length) (kvs.map λ(kv)=>VM.Src.pair (.int kv.1) kv.2) [(a,.a8 g kvs)]:=by
 have w:∀{b M H},ι<+:b->Rel K b M H->VM.bJ.ok [(a,.a8 g kvs)] M=af->∃o f c,H d=aa (.aU o<|.dK c)/\o.data=.dict f ep/\dC b kvs c:=λ{b M H} q R l=>by obtain⟨o,f,c,J,z,G,F,C⟩:=R.obj a d _ (dM q I)<|rS l;rw[dM q N] at z;cases z;exact⟨o,f,c,G,F,C⟩
 have n:∀{i:Nat} {x:VM.Src},(kvs.map λ(kv)=>VM.Src.pair (.int kv.1) kv.2)[i]? =aa x->∃kv,kvs[i]? =aa kv/\x=.pair (.int kv.1) kv.2:=λ{i x} h=>by
  rw[UW] at h;cases q:kvs[i]? with
  |none=>rw[q] at h;cases h
  |some kv=>rw[q] at h;exact⟨kv,rfl,(Ua h).symm⟩
 refine⟨λi b M H x q R l u=>?_,λi b M H x v P q R l u y=>?_,λi b M H q R l A=>?_⟩
 ·obtain⟨o,f,c,p,s,m⟩:=w q R l;obtain⟨kv,j,rfl⟩:=n u;obtain⟨⟨k,v⟩,t,_⟩:=Paired.at m j;exact⟨o,f,c,k,v,p,s,(Paired.len m).symm,t⟩
 ·obtain⟨o,f,c,p,s,m⟩:=w q R l;obtain⟨kv,j,rfl⟩:=n u;obtain⟨T,k,O,D,rfl,rfl,k1⟩:=y;obtain⟨⟨k2,Q⟩,t,E,B⟩:=Paired.at m j;have e:=k1 o c p;rw[t] at e;cases e;subst E;refine⟨b++[T],.ref M.length,M++[.tup [.int kv.1,kv.2]],⟨[T],rfl⟩,rfl,R.new (o:=.tup [.int kv.1,kv.2]) D λL r=>⟨_,bW,.cons rfl<|.cons (B.mono r) .nil⟩,T,?_,rfl⟩;rw[<-R.len];simp
 ·obtain⟨o,f,c,p,s,m⟩:=w q R l;rw[Ub] at A;exact⟨o,f,c,p,s,(Paired.len m).symm,A⟩
section
variable{X:Cx}{elts:List Expr}{x1:Nat}{tpos:Pos}
noncomputable def vS(X:Cx)(D:Ends):Ends where
 nx:=λb H=>∃d o a,NF X d/\H d=aa (.aU o<|.dK a)/\D.nx b (upd H d<|.dK a)
 rt:=λv H=>∃d o a,NF X d/\H d=aa (.aU o<|.dK a)/\D.rt v (upd H d<|.dK a)
 bk:=D.bk
 ct:=D.ct
def uW{K:Fg}(h:ι[a]? =aa d)(e:VM.c8 [(a,.a8 g kvs)] M=aa M')(R:Rel K ι M H):∃o b,H d=aa (.aU o<|.dK b)/\Rel K ι M' (upd H d<|.dK b):=by
 have f:(if M[a]? =aa (.a8 g kvs) then aa (M.set a<|.aD kvs) else ae)=aa M':=e;by_cases c:M[a]? =aa (.a8 g kvs)
 ·rw[T1 c] at f;cases f;obtain⟨o,k,b,l,_,i,_,j⟩:=R.obj a d _ h c;exact⟨o,b,i,R.ma h c rfl rfl ⟨b,bW,j⟩⟩
 ·rw[T2 c] at f;cases f
def a7.c8(k:ι[a]? =aa d)(j:NF X d)(h:a7 X.K ι (r.c8 [(a,.a8 g kvs)]) D):a7 X.K ι r (vS X D):=by
 cases r with
 |nx σ M=>
  intro b l c p R S;cases e:VM.c8 [(a,.a8 g kvs)] M with
  |none=>simp only[VM.RS.c8,e] at h;exact(h).elim
  |some m=>simp only[VM.RS.c8,e] at h;obtain⟨o,f,i,R2⟩:=uW (dM p k) e R;exact⟨d,o,f,j,i,h b _ c p R2 S⟩
 |rt v M=>
  intro b l c p R S;cases e:VM.c8 [(a,.a8 g kvs)] M with
  |none=>simp only[VM.RS.c8,e] at h;exact(h).elim
  |some m=>simp only[VM.RS.c8,e] at h;obtain⟨o,f,i,R2⟩:=uW (dM p k) e R;exact⟨d,o,f,j,i,h b _ c p R2 S⟩
 |bk σ M=>exact(h).elim
 |ct σ M=>exact(h).elim
 |ex v M=>exact(h).elim
 |bad=>exact(h).elim
def xw(x)(M):(match VM.bq M x with|some (a,kvs)=>(.ok (kvs.map λ(kv:Int×VM.W)=>VM.Src.pair (.int kv.1) kv.2,[(a,.a8 M.length kvs)]) (M.set a (.a8 M.length kvs)++[VM.O.bR]):VM.R<|List VM.Src×VM.bJ)|none=>.bad)=.bad\/
 ∃a kvs,VM.bq M x=aa (a,kvs)/\(match VM.bq M x with|some (a,kvs)=>(.ok (kvs.map λ(kv:Int×VM.W)=>VM.Src.pair (.int kv.1) kv.2,[(a,.a8 M.length kvs)]) (M.set a (.a8 M.length kvs)++[VM.O.bR]):VM.R<|List VM.Src×VM.bJ)|none=>.bad)=.ok (kvs.map λ(kv)=>VM.Src.pair (.int kv.1) kv.2,[(a,.a8 M.length kvs)]) (M.set a (.a8 M.length kvs)++[VM.O.bR]):=by
 cases VM.bq M x with
 |none=>exact .inl rfl
 |some z=>exact .inr ⟨z.1,z.2,rfl,rfl⟩
def Dx(r:VM.R α)(f:α->VM.Mem->VM.R β)(h):(r.bind f).bK h=r.bK λa M=>(f a M).bK h:=by cases r<;>rfl
def ID(hp:PassesOwn (model X.prog X.w) X.A X.env X.xe)(Y:X.calm=af)(U:SE X e me)(m0:M0 X e "items" apos bf)(hg:SG X (.Tuple elts x1 tpos) g)(Z:e9 X body m)(hs:∀x,foldedSetIterable (.Call (.Attribute e "items" apos) [] [] bf) X.env x=pure x:=by intro _;rfl):SS X (.For (.Tuple elts x1 tpos) (.Call (.Attribute e "items" apos) [] [] bf) body [] pos) (ny me g m):=by
 obtain⟨td,V,T⟩:=U;obtain⟨r,pg,kg⟩:=hg;obtain⟨tb,pb,kb⟩:=Z;refine⟨λD=>A_ (Bo X td) r tb<|vS X D,λi s l H D I h=>aN (vn hp Y (y7 V m0) pg pb hs i s l H (vS X D) I h) λP s' q=>?_,λL M H l τ D R S h=>?_⟩
 ·cases P with
  |next=>obtain⟨c,N,t,d,o,C,j,f,q⟩:=q;exact⟨c,_,Inv.c8 t f j,q⟩
  |brk=>exact q
  |cont=>exact q
  |ret u=>obtain⟨v,c,N,t,Q,d,o,C,j,f,q⟩:=q;exact⟨v,c,_,Inv.c8 t f j,Q,q⟩
 ·have h0:a7 X.K L ((me l M).bK λx M1=>((match VM.bq M1 x with|some (a,b)=>(.ok (b.map λ(F:Int×VM.W)=>VM.Src.pair (.int F.1) F.2,[(a,.a8 M1.length b)]) (M1.set a (.a8 M1.length b)++[VM.O.bR]):VM.R<|List VM.Src×VM.bJ)|none=>.bad)).bK λp M1=>(VM.loop p.2 g m p.1 l M1).c8 p.2) D:=by unfold ny kj at h;rw[Dx] at h;exact h
  refine T L M H l τ _ R S<|a7.seq h0 λk H1 x M1 u p1 y r1 n=>?_
  rcases xw x M1 with z|⟨a,b,ed,z⟩
  ·rw[z] at n;exact(n).elim
  ·rw[z] at n;obtain⟨d,C,_,E,hm,rfl,f,G⟩:=y.bq ed r1;refine⟨d,C,rfl,f,λo es J B j=>?_⟩;have h2:=n;have pre:k<+:k++[J]:=⟨[J],rfl⟩;have R2:=y.freeze E hm G B;rw[<-Paired.len G];refine yi kg kb R2 ((S.mono p1).mono pre) (AI (dM pre E) (by rw[<-y.len];simp))<|a7.c8 (dM pre E) j<|a7.mono pre h2
def GC(B:i6 X (X.N++ex) ex.length cl scope)(calm:X.calm=af)(he:SE X e me)(m0:M0 X e "items" apos bf)(hg:∀C s H r,SG (dr X (X.N++ex) scope (bQ X.env.cells scope.names []) C s H r) (.Tuple elts x1 tpos) g)(ht:∀C s H r,iV (dr X (X.N++ex) scope (bQ X.env.cells scope.names []) C s H r) ifs t)(hm:∀C s H r,SE (dr X (X.N++ex) scope (bQ X.env.cells scope.names []) C s H r) elt m)(hs:∀x,foldedSetIterable (.Call (.Attribute e "items" apos) [] [] bf) X.env x=pure x:=by intro _;rfl):SE X (.ListComp elt [⟨.Tuple elts x1 tpos,.Call (.Attribute e "items" apos) [] [] bf,ifs,0⟩] scope pos) (lN ex.length cl me g t m):=by
 obtain⟨td,pe,ke⟩:=he;refine⟨λA H Q=>∃k M j,Rel X.K k M H/\bb k j A/\au RV X.K k (lN ex.length cl me g t m j M) Q,λF s A H Q I h=>?_,λk M H j A Q R S h=>⟨k,M,j,R,S,h⟩⟩;obtain⟨k,M,j,R,S,h⟩:=h;rw[eval_ListComp];refine Xm rfl hs (t_ B.free) B.kind B.names (aN (y7 (elts:=elts) (x1:=x1) (tpos:=tpos) pe m0 F s A H (λJ H1=>∃d c M1 f l,NF X d/\k<+:c/\Rel X.K c M1 H1/\gg X.K c J f l/\au RV X.K c ((VM.comp l g t m f (eX cl<|j++List.replicate ex.length ae) M1 []).bind bu) (λv H'=>∃o y,H' d=aa (.aU o<|.dK y)/\Q v (upd H' d<|.dK y))) I ?_) λv s1 n=>aN n λBt s2 Y=>?_)
 ·have h0:au RV X.K k ((me j M).bind λx M1=>((match VM.bq M1 x with|some (a,i)=>(.ok (i.map λ(kv:Int×VM.W)=>VM.Src.pair (.int kv.1) kv.2,[(a,.a8 M1.length i)]) (M1.set a (.a8 M1.length i)++[VM.O.bR]):VM.R<|List VM.Src×VM.bJ)|none=>.bad)).bind λp M1=>((VM.comp p.2 g t m p.1 (eX cl<|j++List.replicate ex.length ae) M1 []).bind bu).bind λv M2=>match VM.c8 p.2 M2 with|some V=>.ok v V|none=>.bad) Q:=by unfold lN kj at h;rw[bind_assoc] at h;exact h
  refine ke k M H j A _ R S<|au.seq h0 λc H1 x M1 u p1 E r1 n=>?_
  rcases xw x M1 with z|⟨a,i,ed,z⟩
  ·rw[z] at n;exact(n).elim
  ·rw[z] at n;obtain⟨d,y,_,ha,P2,rfl,G,rk⟩:=E.bq ed r1;refine⟨d,y,rfl,G,λo es P P6 U=>?_⟩;have pre:c<+:c++[P]:=⟨[P],rfl⟩;have R2:=E.freeze ha P2 rk P6;have w:=dM pre ha;rw[<-Paired.len rk];refine⟨d,c++[P],_,_,_,U,p1.trans pre,R2,AI (g:=M1.length) w (by rw[<-E.len];simp),?_⟩;have Y:=n;refine au.seq (Y.up pre) λiv H3 v V b p3 R3 r3 h3=>?_
   cases et:VM.c8 [(a,.a8 M1.length i)] V with
   |none=>rw[et] at h3;exact(h3).elim
   |some M4=>rw[et] at h3;obtain⟨o',P7,g1,R4⟩:=uW (dM p3 w) et R3;exact⟨o',P7,g1,h3 iv _ _ c_ R4 r3⟩
 ·obtain⟨it,r,tn,J,H2,e',I2,T,Z,f2,d,c,M1,f,l,U,p1,E,J1,hp⟩:=Y;subst e';exact uA B calm hg ht hm I2 T Z f2 E (S.mono p1) J1 hp λD C oC mC s' H' hC L I' ⟨o,y,G,q⟩=>⟨mC,L,λh' w9=>⟨.ref D,_,Inv.c8 (uT I2 hC I' w9) G U,rfl,q⟩⟩
end
def qy(x:c6 P w H h a o):∃u,h.get? a=aa u:=by
 cases o with
 |lst xs=>obtain⟨_,_,_,_,e⟩:=x;exact⟨_,e⟩
 |tup xs=>obtain⟨_,_,_,_,e,_⟩:=x;exact⟨_,e⟩
 |dK b=>obtain⟨_,_,_,_,_,_,_,e,_⟩:=x;exact⟨_,e⟩
 |dT b=>obtain⟨_,_,_,_,_,_,_,e,_⟩:=x;exact⟨_,e⟩
 |set S n=>obtain⟨_,_,_,_,e,_⟩:=x;exact⟨_,e⟩
 |ins C g c=>obtain⟨_,_,_,e,_⟩:=x;exact⟨_,e⟩
 |own y=>exact x
 |xd c=>obtain⟨_,⟨_,_,_,e,_⟩,_⟩:=x;exact⟨_,e⟩
 |cV lo k=>obtain⟨_,_,_,e⟩:=x;exact⟨_,e⟩
 |aU j u=>obtain⟨e,_⟩:=x;exact⟨_,e⟩
 |cS d=>exact⟨_,x⟩
 |met f y=>exact⟨_,x⟩
 |ext i=>exact x.2.1
def vH(x:bS P w H h)(k:∀b u,H b≠ae->h.get? b=aa u->h'.get? b=aa u):bS P w H h':=λa o e=>(x a o e).eE (λb u c q=>k b u (c.elim (λz=>by rw[z,e];simp) λz=>by rw[z];simp) q) (λ_ q=>q) λ_ _ q=>q
def vU(u:Un fs [] H H' h h1)(k:∀b o o',h.get? b=aa o->b∉fs->h1.get? b=aa o'->h'.get? b=aa o')(f:∀b o,b∈fs->h1.get? b=aa o->∃f,h'.get? b=aa {o with slots:=f}):Un fs [] H H' h h' where
 keep:=λb o e n a c=>k b o o e a<|u.keep b o e n a c
 slot:=λb o e n a c=>by obtain⟨j,d⟩:=u.slot b o e n a c;obtain⟨i,g⟩:=f b _ a d;exact⟨i,g⟩
 free:=u.free
 there:=λb o e c=>by
  obtain⟨o',d⟩:=u.there b o e c;by_cases a:b∈fs
  ·obtain⟨_,g⟩:=f b _ a d;exact⟨_,g⟩
  ·exact⟨o',k b o o' e a d⟩
 fq:=u.fq
 fJ:=u.fJ
 gc:=u.gc
noncomputable def b9(P:Program)(w:World):gm:=λa H s E e c=>∃f C g d B,e=.ref f/\c.os=s.os/\AllBare c.gens/\Un (cA a) [] H d s.heap c.heap/\bS P w d c.heap/\
 Heap.FlyingW B a f (.ref C) g c.heap/\(∀b o,c.heap.get? b=aa o->B.get? b=ae->d b=ae/\(b∈cA a\/s.heap.get? b=ae))/\E (.ref C) ae d
noncomputable def dG(K:Fg)(g:List Addr)(r:VM.R VM.W)(Q:VK)(E:XK):Prop:=match r with
 |.ok a f=>∀d e b,g<+:d->Rel K d f e->RV d a b->Q b e
 |.ex (.str c) f=>∀d e C,g<+:d->Rel K d f e->PySem.W.nsIn K mainGlobals (txt c)=aa (aa<|.ref C)->E (.ref C) ae e
 |_=>False
noncomputable def oh(K:Fg)(n:Nat)(c:VM.CM):Sp:=λb H Q E=>b.length=n/\∃a M d,Rel K a M H/\bj a d b/\dG K a (c d M) Q E
structure oi(P:Program)(w:World)(K:Fg)(mg:Str->Option ah)(base:Heap)(k:Nat)(x:Str)(f:Addr)(fd:FuncData)(ps:List Str)(c:VM.CM):Prop where
 ok:dS P w K mg base (b9 P w) k f fd ps (oh K ps.length c)
 mg:mg x=aa (.ref f)
 kp:PySem.W.keepIn K (.ref f)=af
 bi:Binds K fd ps []
 ln:∀ws M,ws.length≠ps.length->c ws M=.bad
def IE{K:Fg}(X:K.In h)(q:PySem.W.excIn K C P8 newId=af):
 ∃bm N nm q bs hdct sn sub ab col dd k0 k1 k2 k3 k5 e,h.get? C=aa (excClassObj nm q C N bs bm hdct sn sub ab col dd k0 k1 k2 k3 k5 newId)/\h.Ns N e/\e "__init__"=ae/\OwnTail h P8 bm:=by
 unfold PySem.W.excIn at q;split at q
 ·rename_i dd k g o
  split at q
  ·rename_i u bm k0 k1 k2 k3 n k5 r f
   simp only[T_,US,UP] at q;obtain⟨⟨⟨⟨⟨rfl,rfl⟩,b⟩,m⟩,a⟩,c⟩:=q;obtain⟨nm,bs,s,p,i,j,sn,sub,ab,col,t⟩:=k;subst r b;have d:g= #[k0,k1,k2,k3,aa<|.builtin n,k5]:=by obtain⟨l⟩:=g;simp only at f;rw[f]
   subst d;exact⟨bm,p,nm,i,bs,j,sn,sub,ab,col,dd,k0,k1,k2,k3,k5,_,X _ _ o,.of_isNs<|PySem.W.isNs_of_in X a,PySem.W.nsMap_none_of_in X a c,PySem.W.tail_of_in X m⟩
  ·cases q
 ·cases q
noncomputable abbrev om:List ah:=[.type "ValueError",.type "Exception",.type "BaseException",.type "object"]
section
variable{P:Program}{w:World}{K:Fg}{mg:Str->Option ah}{base:Heap}{N:List Str}{qual:Str}{scope:Scope}{f:Addr}{cd:ah}{A:Around}{outer:List Env}{s0:Shared}{H0:Hp}{E:XK}
def GD{x:Str}{C:Addr}{g:Str}{j np mp bf pos}(hm:mg x=aa (.ref C))(q:PySem.W.excIn K C om "ValueError.__new__"=af)(hg:Gl (cj (b9 P w) P w K mg base N qual scope f cd A outer s0 H0 E) x)(xh:(x==("__debug__":Str))=ag)(U:starEach [.Constant (.str g) j mp] (cj (b9 P w) P w K mg base N qual scope f cd A outer s0 H0 E).env=(ag,eval (.Constant (.str g) j mp) (cj (b9 P w) P w K mg base N qual scope f cd A outer s0 H0 E).env)::starEach [] (cj (b9 P w) P w K mg base N qual scope f cd A outer s0 H0 E).env)(Z:(backTo bf<|starEach [.Constant (.str g) j mp] (cj (b9 P w) P w K mg base N qual scope f cd A outer s0 H0 E).env).any (·.1)=ag):
 PS (cj (b9 P w) P w K mg base N qual scope f cd A outer s0 H0 E) (.Raise (aa<|.Call (.Name x np) [.Constant (.str g) j mp] [] bf) ae pos) (λ_ _ H=>E (.ref C) ae H):=by
 intro G s σ H D I h;obtain⟨bm,N',nm,qn,bs,k,sn,i,ab,J,dd,k0,k1,k2,k3,k5,mN,hC,hN,Y,T⟩:=IE I.mod.kJ q;refine wpAny_Raise_call_subT (C:=C) (N:=N') (nm:=nm) (q:=qn) (bs:=bs) (bm:=bm) (hdct:=k) (sn:=sn) (sub:=i) (ab:=ab) (col:=J) (dd:=dd) (k0:=k0) (k1:=k1) (k2:=k2) (k3:=k3) (k5:=k5) PySem.F.excBase_ValueError (T.hasType rfl) (I.ok.hd rfl) Z Y ?_;refine m5 I hg hm ⟨rfl,?_⟩ xh;have pa:=dE (X:=cj (b9 P w) P w K mg base N qual scope f cd A outer s0 H0 E) (z7 (x:=g) (j:=j) (pos:=mp)) fi U;have m:=pa bf G s σ H (λvs H1=>vs.length=1/\E (.ref C) ae H1) I ⟨rfl,h⟩;rw[U] at m⊢;refine VS<|Uv m (λus R ⟨vs,V,d,r,hl,e2⟩=>?_) λ_ _ y=>y
 refine⟨rfl,by rw[<-r.length,hl];decide,d.bk _ _ hC,hN.keeps d.bk,T.keeps d.bk,λh' e mk=>?_⟩;show wpAny _ _ (leaving _ _) _ _ _;have P9:∀c∈(envOfC qual scope s0.heap.objs.size f cd::outer),∀b,c.frame=aa b->b∈cA (envOfC qual scope s0.heap.objs.size f cd::outer):=λc U b a=>U8.mpr ⟨c,U,a⟩
 have l:=d.stack;refine wpAny_leaves_madeW (base:=PySem.W.hideAll R.heap<|cA<|envOfC qual scope s0.heap.objs.size f cd::outer) (h:=R.heap) d.ok.frames rfl (λb o q=>PySem.W.of_hideAll _ q) (PySem.W.funFrames_hide l P9) mk λv t fl tup tn up=>?_
 have L:∀b∈cA (envOfC qual scope s0.heap.objs.size f cd::outer),V b=ae:=d.qT;have O:∀b u,b∉cA (envOfC qual scope s0.heap.objs.size f cd::outer)->R.heap.get? b=aa u->v.get? b=aa u:=λb u a e=>fl.1 b u<|WJ _ e a
 have i:∀b,b∈cA outer->b∈cA (envOfC qual scope s0.heap.objs.size f cd::outer):=λb a=>by obtain⟨c,m,v⟩:=U8.mp a;exact U8.mpr ⟨c,Up _ m,v⟩
 have B:∀b,b∈cA (envOfC qual scope s0.heap.objs.size f cd::outer)->b=s0.heap.objs.size\/b∈cA outer:=λb a=>by
  obtain⟨c,m,v⟩:=U8.mp a;rcases T4.mp m with rfl|m
  ·exact .inl (Ua v).symm
  ·exact .inr<|U8.mpr ⟨c,m,v⟩
 refine⟨e,C,.ref t,V,_,rfl,d.os,d.bare,vU d.base (λb o o' h0 a p=>O b o' (λz=>?_) p)<|λb o a p=>?_,vH d.aF<|λb u n p=>O b u (λz=>n<|L b z) p,fl,λb o p n=>?_,e2⟩
 ·rcases B b z with rfl|z
  ·exact absurd (Ui h0)<|UY _
  ·exact a z
 ·obtain⟨_,o',Q,nf⟩:=l.mem (i b a);rw[p] at Q;cases Q;exact up b o (mk.keeps b o p) nf
 ·by_cases a:b∈cA (envOfC qual scope s0.heap.objs.size f cd::outer)
  ·refine⟨L b a,?_⟩;rcases B b a with rfl|z
   ·refine .inr<|WL<|T8 _
   ·exact .inl z
  ·have n2:R.heap.get? b=ae:=by
    cases M:R.heap.get? b with
    |none=>rfl
    |some u=>rw[WJ _ M a] at n;cases n
   refine⟨?_,.inr ?_⟩
   ·cases M:V b with
    |none=>rfl
    |some u=>obtain⟨_,S⟩:=qy<|d.aF b u M;rw[n2] at S;cases S
   ·cases M:s0.heap.get? b with
    |none=>rfl
    |some u=>obtain⟨_,S⟩:=d.base.there b u M (by show b∉[];simp);rw[n2] at S;cases S
end
noncomputable def cL(K:Fg)(d:List Addr)(r:VM.RS)(D:Ends)(E:XK):Prop:=match r with
 |.ex (.str c) e=>∀a b C,d<+:a->Rel K a e b->PySem.W.nsIn K mainGlobals (txt c)=aa (aa<|.ref C)->E (.ref C) ae b
 |.ex _ _=>False
 |r=>a7 K d r D
def cL.mono{K:Fg}(p:ι<+:cb)(h:cL K ι r D E):cL K cb r D E:=by
 cases r with
 |ex v M=>cases v with
  |str c=>exactλa d C b R2 n=>h a d C (Ux p b) R2 n
  |aw=>exact h
  |bl _=>exact h
  |int _=>exact h
  |ref _=>exact h
 |nx σ M=>exact a7.mono (r:=.nx σ M) p h
 |rt w M=>exact a7.mono (r:=.rt w M) p h
 |bk σ M=>exact a7.mono (r:=.bk σ M) p h
 |ct σ M=>exact a7.mono (r:=.ct σ M) p h
 |bad=>exact h
def cL.B1{K:Fg}(h:cL K ι (.ex v M') D E):cL K ι (.ex v M') D' E:=by cases v<;>exact h
noncomputable def SX(X:Cx)(E:XK)(st:List Stmt)(m:VM.SM):Prop:=∃t,fy X st t/\∀a M H b c D,Rel X.K a M H->bb a b c->cL X.K a (m b M) D E->t D c H
section
variable{X:Cx}{E:XK}
def Li{st:Stmt}(h:PS X.cX st t):PS X st t:=λa s c H D I b=>Uv (h a s c H D (I.fL _) b) (λ_ _ q=>q.gv) λ_ _ z=>False.elim z
end
section
variable{P:Program}{w:World}{K:Fg}{mg:Str->Option ah}{base:Heap}
def Lj{st:Stmt}(F:gH K x qual st f fd)(S:fV N ps<|cc st)(T:mg x=aa (.ref f))(z:Binds K fd ps [])(D:∀(d) (A) (outer) (s) (H) (E),bA k (A.deeper<|envOfC qual (cc st) s.heap.objs.size f d)->SX (cj (b9 P w) P w K mg base N qual (cc st) f d A outer s H E) E (fD st) body)(C:N.length=n:=by rfl)(O:ps.length=np:=by rfl):oi P w K mg base (k+1) x f fd ps (VM.fn np n body):=by
 subst C O;obtain⟨Y,Z,kV,I,pm,X,d,ct,B,rfl,lk,l⟩:=F.ex;refine⟨rC lk l S (λL H Q E h=>h.1)<|λA outer s H L Q E J h=>?_,T,F.kp,z,λi M j=>T2 j⟩;obtain⟨G,o,M,i,R,r,h⟩:=h;obtain⟨t,y,V⟩:=D d A outer s H E J;refine⟨t,y,V o M H _ _ _ R (ox r N) ?_⟩;have j:i.length=ps.length:=by rw[Paired.len r];exact G
 have a:dG K o (if i.length=ps.length then(match body (i.map aa++List.replicate (N.length-ps.length) ae) M with
  |.rt v b=>.ok v b
  |.nx _ b=>.ok .aw b
  |.ex v b=>.ex v b
  |_=>.bad) else .bad) Q E:=h
 rw[T1 j] at a;rw[j];cases e:body (i.map aa++List.replicate (N.length-ps.length) ae) M with
 |nx g b=>rw[e] at a;exactλm q u p U W=>a m q .aw p U rfl
 |rt v b=>rw[e] at a;exact a
 |bk g b=>rw[e] at a;exact(a).elim
 |ct g b=>rw[e] at a;exact(a).elim
 |ex v b=>
  rw[e] at a;cases v with
  |str c=>exact a
  |aw=>exact a
  |bl _=>exact a
  |int _=>exact a
  |ref _=>exact a
 |bad=>rw[e] at a;exact(a).elim
def GF(hm:mg x=aa (.ref f))(e:PySem.W.keepIn K (.ref f)=af)(d:Binds K fd ps []):
 oi P w K mg base 0 x f fd ps (λ_ _=>.bad):=by
 have c:∀a H Q E,¬oh K ps.length (λ_ _=>.bad) a H Q E:=λa H Q E h=>by obtain⟨_,_,_,_,_,_,h⟩:=h;exact h
 exact⟨⟨λa H Q E h=>absurd h<|c a H Q E,λA b s H args g a Q E _ _ _ _ h=>absurd h<|c a H Q E⟩,hm,e,d,λ_ _ _=>rfl⟩
end
noncomputable abbrev Cx.mk'(X:Cx)(e:ah):Cx:={X with A:=X.A.mark (aa e),calm:=ag,xe:=λ_ _=>False}
section
variable{X:Cx}{pins:List (Addr×Obj)}{σ:L2.St}{H H':Hp}{s s':Shared}
def uX(I:Inv X pins σ H s)(e):Inv (Cx.mk' X e) pins σ H s:=
 ⟨⟨I.ok.mod,I.ok.kind,I.ok.glob,I.ok.blt,I.ok.above,I.ok.inj,I.ok.has,I.ok.md,λz=>Bool.noConfusion z,I.ok.frames,I.ok.nW,I.ok.r0,I.ok.bs,I.ok.ij,I.ok.cJ,I.ok.nC,I.ok.fK,I.ok.jy⟩,
   I.os,I.bare,I.base,I.loc,I.cell,I.free,I.eA,I.pin,I.aF,I.len⟩
def qw(a:X.calm=af->X.A.handled=ae){e:ah}(I:Inv (Cx.mk' X e) pins σ H s):Inv X pins σ H s:=
 ⟨⟨I.ok.mod,I.ok.kind,I.ok.glob,I.ok.blt,I.ok.above,I.ok.inj,I.ok.has,I.ok.md,a,I.ok.frames,I.ok.nW,I.ok.r0,I.ok.bs,I.ok.ij,I.ok.cJ,I.ok.nC,I.ok.fK,I.ok.jy⟩,
   I.os,I.bare,I.base,I.loc,I.cell,I.free,I.eA,I.pin,I.aF,I.len⟩
def EJ{p:Addr}{u:HO}(I:Inv X pins σ H s)(d:H p=ae)(B:X.c7.heap.get? p=ae)(A:p≠X.env.locals)(t:∀x c,X.env.cells.lookup x=aa c->c≠p)(a:∀q∈X.pn++pins,q.1≠p)(g:c6 X.prog X.w (upd H p u) s.heap p u):Inv X pins σ (upd H p u) s:=by
 refine⟨I.ok,I.os,I.bare,⟨I.base.keep,I.base.slot,λb o e n y=>?_,I.base.there,λb h e=>?_,λb o j e=>?_,λb r e=>?_⟩,I.loc,I.cell,?_,λx c e=>?_,λq i=>?_,λb o e=>?_,I.len⟩
 ·have f:b≠p:=by rintro rfl;rw[B] at e;cases e
  rw[aL f];exact I.base.free b o e n y
 ·have:=I.base.fq b h e;rw[aL<|cP this d];exact this
 ·have:=I.base.fJ b o j e;rw[aL<|cP this d];exact this
 ·obtain⟨m,this⟩:=I.base.gc b r e;exact⟨m,by rw[aL<|cP this d];exact this⟩
 ·rw[aL<|Uq A];exact I.free
 ·rw[aL<|t x c e];exact I.eA x c e
 ·obtain⟨z,l,k⟩:=I.pin q i;exact⟨z,by rw[aL<|a q i];exact l,k⟩
 ·by_cases f:b=p
  ·subst f;rw[bW] at e;cases e;exact g
  ·rw[aL f] at e;exact(I.aF b o e).eE (λc v _ q=>q) (λc q=>by rw[aL<|cP q d];exact q) λc h q=>by rw[aL<|cP q d];exact q
def y8{i:Nat}{n:Str}{h':Heap}{v:Option ah}{t:Nat}{m:Str->Option ah}(I:Inv X pins σ H s)(T:X.N.Nodup)(D:X.N[i]? =aa n)(L:s.heap.Ns X.env.locals m)(M:∀(i:Nat) (x:Str) (v:V),X.N[i]? =aa x->σ[i]? =aa (aa v)->nV X.env.scope x->∃u,RelV v u/\Look X.env s.heap m x u)(B:h'.Ns X.env.locals<|λx=>if x=n then v else m x)(a:Heap.SameBut X.env.locals s.heap h'):Inv X pins (σ.set i ae) H {s with heap:=h',toks:=t}:=by
 obtain⟨Y,_,_,F,_⟩:=id L;have g:i<σ.length:=by rw[I.len];exact(T6.mp D).1
 refine⟨I.ok,I.os,I.bare,⟨λb o e n w f=>?_,λb o e n w f=>?_,I.base.free,λb o e f=>?_,I.base.fq,I.base.fJ,I.base.gc⟩,⟨_,B,λj y r d l K=>?_⟩,λy c e=>?_,I.free,I.eA,λp S=>?_,λb O e=>?_,by simpa using I.len⟩
 ·exact(a.2 b<|UB<|Um (Ui e) I.ok.above).trans<|I.base.keep b o e n w f
 ·obtain⟨U,d⟩:=I.base.slot b o e n w f;exact⟨U,(a.2 b<|UB<|Um (Ui e) I.ok.above).trans d⟩
 ·obtain⟨E,d⟩:=I.base.there b o e f;exact⟨E,(a.2 b<|UB<|Um (Ui e) I.ok.above).trans d⟩
 ·by_cases A:j=i
  ·subst A;rw[UH g] at l;cases l
  ·rw[Uz<|Uq A] at l;obtain⟨P,G,q⟩:=M j y r d l K;refine⟨P,G,?_⟩;rcases q with⟨k,e⟩|⟨k,c,e,z⟩
   ·refine .inl ⟨k,?_⟩;have:y≠n:=λe=>A<|uD T d<|e▸D
    simp[this,e]
   ·exact .inr ⟨k,c,e,z.sameBut a<|I.pV y c e⟩
 ·obtain⟨r,z⟩:=I.cell y c e;exact⟨r,z.sameBut a<|I.pV y c e⟩
 ·obtain⟨R,J,C,Q⟩:=I.pin p S;exact⟨(a.2 p.1 C).trans R,J,C,Q⟩
 ·refine(I.aF b O e).eE (λc W h q=>(a.2 c ?_).trans q) (λ_ q=>q) λ_ _ q=>q
  rintro rfl;rcases h with rfl|h
  ·rw[I.free] at e;cases e
  ·rw[I.free] at h;cases h
end
def dG.up{K:Fg}(p:ι<+:cb)(h:dG K ι r Q E):dG K cb r Q E:=by
 cases r with
 |ok a M=>exactλd f b e R2 g=>h d f b (Ux p e) R2 g
 |ex v M=>cases v with
  |str c=>exactλd f C e R2 n=>h d f C (Ux p e) R2 n
  |aw=>exact h
  |bl _=>exact h
  |int _=>exact h
  |ref _=>exact h
 |bad=>exact h
noncomputable def fS(X:Cx)(H:Hp)(s:Shared)(d C:Addr)(a:Hp)(h:Heap)(B:Heap)(c:ah):Prop:=Un (cA X.stack) [] H a s.heap h/\bS X.prog X.w a h/\Heap.FlyingW B X.stack d (.ref C) c h/\
 ∀b o,h.get? b=aa o->B.get? b=ae->a b=ae/\(b∈cA X.stack\/s.heap.get? b=ae)
section
variable{X:Cx}{pins:List (Addr×Obj)}{τ:L2.St}{H H':Hp}{s s':Shared}{ea C:Addr}{h h2 B:Heap}{a0:ah}
def fS.on(F:fS X H s ea C H' h B a0)(p:Heap.FlyingW B X.stack ea (.ref C) a0 h2)(x:h.UpToSlots h2):fS X H s ea C H' h2 B a0:=by
 obtain⟨t,i,v,c⟩:=F;have g:∀b o,h.get? b=aa o->B.get? b≠ae->h2.get? b=aa o:=λb o e n=>by
  cases q:B.get? b with
  |none=>exact absurd q n
  |some d=>have:=v.1 b d q;rw[e] at this;cases this;exact p.1 b o q
 refine⟨vU t (λb o d r l a=>g b d a λz=>?_)<|λb o l a=>?_,vH i<|λb u n a=>g b u a λz=>n (c b u a z).1,p,λb o a n=>?_⟩
 ·rcases(c b d a z).2 with q|q
  ·exact l q
  ·rw[q] at r;cases r
 ·obtain⟨_,d,j,w⟩:=v.2.2.1.mem l;rw[a] at j;cases j;exact x b o a w
 ·cases k:h.get? b with
  |some u=>exact c b u k n
  |none=>
   refine⟨?_,.inr ?_⟩
   ·cases m:H' b with
    |none=>rfl
    |some u=>obtain⟨_,f⟩:=qy<|i b u m;rw[k] at f;cases f
   ·cases m:s.heap.get? b with
    |none=>rfl
    |some u=>obtain⟨_,f⟩:=t.there b u m (by simp);rw[k] at f;cases f
def fS.inv(F:fS X H s ea C H' s'.heap B a0)(I:Inv X pins τ H s)(c:s'.os=s.os)(a:AllBare s'.gens):Inv X pins τ H' s':=
 I.AS c F.1 F.2.1 a λb z=>absurd z<|by simp
def fS.new(F:fS X H s ea C H' h B a0):H' ea=ae/\s.heap.get? ea=ae/\excAt ea C h:=by obtain⟨t,m,⟨u,n,g,e,f,T,p,v,b,j,d,r⟩,c⟩:=F;obtain⟨o,i⟩:=c ea e b n;refine⟨o,i.resolve_left λk=>?_,e,f,b,j.1,d⟩;obtain⟨_,q,a,l⟩:=g.mem k;rw[b] at a;cases a;exact l f d
theorem handled{o:Str}{D:Addr}{N c:Pos}{nm:Option Str}{e:Stmt}{d:List Stmt}{Q:Flow->Shared->Prop}{m:ah->Shared->Prop}(j:X.stack=X.env::X.outer)(z:X.env.frame=aa X.env.locals)(I:Inv X pins τ H s)(U:s'.os=s.os)(l:AllBare s'.gens)(F:fS X H s ea C H' s'.heap B a0)(T:Gl X o)(S:X.mg o=aa (.ref D))(P:PySem.W.exmOne X.K (.ref C) (.ref D)=aa af)(v:(o==("__debug__":Str))=ag)(k:∀E,fS X H s ea C H' E B a0->codeAny (model X.prog X.w) (X.A.mark<|aa<|.ref ea) (.handlers (.ref ea) [.ExceptHandler ae nm (e::d) c] X.env) (λr a=>match r with
  |.ok f=>(match nm with
   |none=>Q f a
   |some n=>wpAny (model X.prog X.w) X.A (do bindName X.env n .none;unbindBehindTheSuite X.env n c) (λ_ b=>Q f b) m a)
  |.error x=>cameBackBy (model X.prog X.w) X.A X.env m x a) {s' with heap:=E}):
 wpAny (model X.prog X.w) X.A (noteFrame (.ref ea) X.env) (λ_ a=>wpAny (model X.prog X.w) X.A (setFlight (.ref ea) ae) (λ_ b=>wpAny (model X.prog X.w) X.A (handleBy (.ref ea) X.env [.ExceptHandler (aa (.Name o N)) nm (e::d) c]) Q m b) m a) m s':=by
 have M:X.A.frames=aa (X.env::X.outer):=I.ok.frames.trans<|UI aa j;have G:=F.2.2.1;rw[j] at G;refine wpAny_looks_onW M z G λV i t=>?_
 refine wpAny_landsW i λp g u=>?_
 rw[<-j] at g;have J:=F.on g<|t.trans u;have L:Inv X pins τ H' {s' with heap:=p}:=fS.inv (s':={s' with heap:=p}) J I U l;obtain⟨Y,y,O⟩:=g.there;have R:PySem.W.Looks (model X.prog X.w) p (typeOf<|.ref ea) (.ref C):=O▸(WE y).andThen .now;refine wpAny_handleBy_cons (codeAny_handlers_test<|m5 (X:=Cx.mk' X<|.ref ea) (uX L _) T S ?_ v) (by intro q;cases q);exact(PySem.W.exm_one L.dz R P).here<|k p J
end
noncomputable def SB(X:Cx)(st:Stmt)(m:VM.SM):Prop:=∀(g:ah->Shared->Prop) (a:List<|Addr×Obj) (c:L2.St) (J:XK),(∀H s e d,Inv X a c H s->b9 X.prog X.w X.stack H s J e d->g e d)->
 ∀(b:List Addr) (M:VM.Mem) (H:Hp) (f:VM.St) (D:Ends) (s:Shared),Inv X a c H s->Rel X.K b M H->bb b f c->cL X.K b (m f M) D J->wpAny (model X.prog X.w) X.A (exec st X.env) (SP X a D) g s
section
variable{X:Cx}
def x_call{x:Str}{k:Nat}{f:Addr}{P:FuncData}{n:List Str}{c:VM.CM}{e:Expr}{j:List Expr}{a:VM.AM}{p pos:Pos}(F:oi X.prog X.w X.K X.mg X.base k x f P n c)(hr:bA k X.A)(ha:SA X.cX (e::j) a)(hg:Gl X x)(E:(x==("__debug__":Str))=ag)(U:starEach (e::j) X.env=(ag,eval e X.env)::starEach j X.env)(y:(backTo pos<|starEach j X.env).any (·.1)=ag){N:ah->Shared->Prop}{pins:List (Addr×Obj)}{b:L2.St}{J:XK}(V:∀H s e s',Inv X pins b H s->b9 X.prog X.w X.stack H s J e s'->N e s'){l:List Addr}{M:VM.Mem}{H:Hp}{σ:VM.St}{Q:VK}{s:Shared}(I:Inv X pins b H s)(R:Rel X.K l M H)(S:bb l σ b)(h:dG X.K l (bF c a σ M) Q J):
 wpAny (model X.prog X.w) X.A (eval (.Call (.Name x p) (e::j) [] pos) X.env) (EP X pins b Q) N s:=by
 obtain⟨ta,Z,ka⟩:=ha;have h1:ta b H (λt g=>oh X.K n.length c t g Q J):=by
  refine ka l M H σ b _ R S ?_;unfold bF at h;cases B:a σ M with
  |ok ws M1=>
   rw[B] at h;intro C g t p1 R1 L;have D:dG X.K l (c ws M1) Q J:=h;by_cases O:ws.length=n.length
   ·exact⟨by rw[<-Paired.len L];exact O,C,M1,ws,R1,L,D.up p1⟩
   ·rw[F.ln ws M1 O] at D;exact(D:False).elim
  |ex v M1=>rw[B] at h;exact(h:False).elim
  |bad=>rw[B] at h;exact(h:False).elim
 refine VC<|m5 I hg F.mg ?_ E;refine V7 (h₀:=X.base) I.ok.mod.kJ F.kp (Uv (Z pos pins s b H _ (I.fL _) h1) (λm o ⟨t,g,d,r,q⟩=>?_) λ_ _ z=>False.elim z) U y;have d:Inv X pins b g o:=d.gv;refine⟨d.dz,?_⟩;have Y:m.length=n.length:=by rw[<-r.length];exact F.ok.len _ _ _ _ q
 have G:=F.bi o m d.dz (by rw[UZ];exact Y);rw[UZ] at G;refine Wo<|V6 (F.ok.run X.A X.stack o g ⟨m,[]⟩ m t Q J hr d.we G r q) λr s' i=>?_
 cases r with
 |error e=>exact V g o e s' d i
 |ok T=>
  cases T with
  |ret u=>exact d.after i
  |next=>exact False.elim i
  |brk=>exact False.elim i
  |cont=>exact False.elim i
def IF{x:Str}{k:Nat}{f:Addr}{t:FuncData}{B:List Str}{c:VM.CM}{e:Expr}{d:List Expr}{a:VM.AM}{p pos b:Pos}(F:oi X.prog X.w X.K X.mg X.base k x f t B c)(L:bA k X.A)(V:SA X.cX (e::d) a)(U:Gl X x:=by rfl)(m:(x==("__debug__":Str))=ag:=by decide+kernel)(u:starEach (e::d) X.env=(ag,eval e X.env)::starEach d X.env:=by rfl)(i:(backTo pos<|starEach d X.env).any (·.1)=ag:=by rfl)(O:swapsWith (.Call (.Name x p) (e::d) [] pos) ae b.line X.env=pure ag:=by rfl):
 SB X (.Expr (.Call (.Name x p) (e::d) [] pos) b) (aZ<|bF c a):=by
 intro W n o J C T M H r D s I R S h;refine wpAny_Expr_any (Uv (x_call F L V U m u i C I R S (Q:=λv g=>D.nx o g) ?_) (λv Y ⟨w,g,y,E,N⟩=>⟨o,g,y,N⟩) λ_ _ z=>z) I.quiet O;unfold aZ at h;cases j:bF c a r M with
 |ok w M1=>rw[j] at h;intro l g v q G E;have P:a7 X.K T (.nx r M1) D:=h;exact P l g _ q G<|S.mono q
 |ex v M1=>rw[j] at h;cases v<;>exact h
 |bad=>rw[j] at h;exact h
noncomputable def ky(K:Fg)(D:Addr)(a:List<|List Nat):Prop:=∀c∈a,∃C,PySem.W.nsIn K mainGlobals (txt c)=aa (aa<|.ref C)/\PySem.W.exmOne K (.ref C) (.ref D)=aa af
def y9{st:Stmt}{g:VM.SM}{E:List ExceptHandler}{F:ExceptHandler}{pos:Pos}{pins:List (Addr×Obj)}{s:Shared}{m:L2.St}{H:Hp}{D:Ends}{j:List Addr}{M:VM.Mem}{σ:VM.St}(O:SB X st g)(I:Inv X pins m H s)(R:Rel X.K j M H)(S:bb j σ m)(Q:∀bh M',g σ M=.nx bh M'->a7 X.K j (.nx bh M') D)(U:(∃bh M',g σ M=.nx bh M')\/∃c M',g σ M=.ex (.str c) M')(P:∀c M' C o i h s' t B f,g σ M=.ex (.str c) M'->PySem.W.nsIn X.K mainGlobals (txt c)=aa (aa<|.ref C)->Inv X pins m o i->s'.os=i.os->AllBare s'.gens->fS X o i h C f s'.heap B t->(∃a,j<+:a/\Rel X.K a M' f)->
  wpAny (model X.prog X.w) X.A (noteFrame (.ref h) X.env) (λ_ d=>wpAny (model X.prog X.w) X.A (setFlight (.ref h) ae) (λ_ b=>wpAny (model X.prog X.w) X.A (handleBy (.ref h) X.env (F::E)) (SP X pins D) X.xe b) X.xe d) X.xe s'):
 wpAny (model X.prog X.w) X.A (exec (.Try [st] (F::E) [] [] pos) X.env) (SP X pins D) X.xe s:=by
 refine wpAny_Try_except (WN (Uv (O (λe k=>wpAny (model X.prog X.w) X.A (noteFrame e X.env) (λ_ d=>wpAny (model X.prog X.w) X.A (setFlight e ae) (λ_ b=>wpAny (model X.prog X.w) X.A (handleBy e X.env<|F::E) (SP X pins D) X.xe b) X.xe d) X.xe k) pins m (λv _ f=>∃c M' a,g σ M=.ex (.str c) M'/\PySem.W.nsIn X.K mainGlobals (txt c)=aa (aa v)/\j<+:a/\Rel X.K a M' f) (λo i e s' G q=>?_) j M H σ {nx:=D.nx,rt:=λ_ _=>False} s I R S ?_) (λr i q=>?_) λ_ _ z=>z))
 ·obtain⟨h,C,t,f,B,rfl,Y,l,L,x,r,y,c,M',a,T,N,J,Z⟩:=q;exact P c M' C o i h s' t B f T N G Y l ⟨L,x,r,y⟩ ⟨a,J,Z⟩
 ·rcases U with⟨bh,M',e⟩|⟨c,M',e⟩
  ·rw[e];exact Q bh M' e
  ·rw[e];exactλa f C p V n=>⟨c,M',a,rfl,n,p,V⟩
 ·cases r with
  |next=>exact VP<|VP q
  |brk=>obtain⟨_,_,_,z⟩:=q;exact z.elim
  |cont=>obtain⟨_,_,_,z⟩:=q;exact z.elim
  |ret u=>obtain⟨_,_,_,_,_,z⟩:=q;exact z.elim
end
structure ig(K:Fg)(C:Addr):Prop where
 ga:PySem.W.findIn K (.ref C) "__getattribute__"=aa (aa<|.builtin "BaseException.__getattribute__")
 hk:PySem.W.findIn K (.ref C) "__getattr__"=aa ae
 ca:PySem.W.findIn K (.ref C) "__class__"=aa (aa<|.builtin "object.__class__")
 ob:PySem.W.mroIn K C (.type "object")=aa af
 be:PySem.W.mroIn K C (.type "BaseException")=aa af
section
variable{prog:Program}{w:World}{A:Around}{E:ah->Shared->Prop}{h:Heap}{g:Array GenState}{d:Drawn}{t:Nat}{os:OsState}{a C:Addr}{o:Obj}{K:Fg}
open Builtin Builtin.ObjectAttr Builtin.Getset_descriptor in
def IG{R:Result->Shared->Prop}(Z:ig K C)(X:K.In h)(e:h.get? a=aa o)(c:o.cls=.ref C)(b:R (.ok<|.ret<|.ref C) ⟨h,g,d,t,os⟩):
 codeAny (model prog w) A (.call (.builtin "getset_descriptor.__get__") ⟨[.builtin "object.__class__",.ref a,.ref C],[]⟩) R ⟨h,g,d,t,os⟩:=by
 have f:(⟨h,g,d,t,os⟩:Shared).TypeIs (.builtin "object.__class__") "getset_descriptor":=Xo;have i:PySem.W.Looks (model prog w) h (typeOf<|.ref a) (.ref C):=c▸(WE e).andThen .now;have j:=PySem.W.looks_mroIn (M:=model prog w) X Z.ob;refine codeAny_call_builtin PySem.W.KF.slot_gs.plain PySem.W.KF.entry_gs<|PySem.W.KF.slot_gs.check _ _ _ _ _ _ _ _ PySem.W.KF.type_class (PySem.W.KF.args_gs _ _ _) ?_;unfold Builtin.«getset_descriptor.__get__» descrGet;rw[PySem.W.dga_obj];refine T3<|Uj ?_;unfold descrGetter descrCheckInstance descrNameAndClass isInstance;simp only[PySem.W.KF.owner_class];repeat lk
 refine⟨Code.quiet_builtin _<|by decide+kernel,WG PySem.W.KF.entry_class ?_⟩;unfold Builtin.«object.__class__» shownTypeOf;repeat lk
 exact b
def EK{tk:Tok}{Q:Fin->Shared->Prop}(Z:ig K C)(X:K.In h)(c:h.get? a=aa o)(b:o.cls=.ref C)(k:Q (.done<|.ret<|.ref C) ⟨h,g,d,t,os⟩):
 wpAny (model prog w) A (Builtin.«object.__getattribute__» ⟨[.ref a,.str "__class__" tk],[]⟩) Q E ⟨h,g,d,t,os⟩:=by
 have f:(⟨h,g,d,t,os⟩:Shared).TypeIs (.builtin "object.__class__") "getset_descriptor":=Xo;have i:=Xo;have l:=F.slot_gs_get.lookup;have j:=F.slot_gs_set.lookup;have e:=Wm (M:=model prog w) X Z.ca;repeat (any_goals (first|assumption|(with_reducible refine wpAny_loadPart_at c ?_;rw[b])|with_reducible refine e.at ?_|wp_step))
 refine IG Z X c b ?_;repeat (any_goals (first|assumption|wp_step))
def EL{b:ah}{Q:Unit->Shared->Prop}(Z:ig K C)(X:K.In h)(j:h.get? a=aa o)(i:o.cls=.ref C)(f:Q () ⟨h,g,d,t,os⟩):
 wpAny (model prog w) A (checkBuiltinCall "BaseException.__getattribute__" ⟨[.ref a,b],[]⟩) Q E ⟨h,g,d,t,os⟩:=by
 have e:builtinKind "BaseException.__getattribute__"=aa .slot:=by decide+kernel
 have c:splitId "BaseException.__getattribute__"=aa ("BaseException","__getattribute__"):=by decide+kernel
 have k:=PySem.W.looks_mroIn (M:=model prog w) X Z.be;have l:=F.args_bexc_ga (.ref a) b;simp only[checkBuiltinCall,e,c];refine T3 ?_
 ·unfold isInstance;repeat (first|(with_reducible refine wpAny_loadPart_at j ?_;rw[i])|with_reducible refine k.at ?_|wp_step)
  exact f
def GG{tk:Tok}{R:Result->Shared->Prop}(Z:ig K C)(X:K.In h)(b:h.get? a=aa o)(c:o.cls=.ref C)(e:R (.ok<|.ret<|.ref C) ⟨h,g,d,t,os⟩):
 codeAny (model prog w) A (.call (.builtin "BaseException.__getattribute__") ⟨[.ref a,.str "__class__" tk],[]⟩) R ⟨h,g,d,t,os⟩:=
 codeAny_call_builtin F.attrBase_ValueError.ga.plain F.entry_bexc_ga (EL Z X b c<|EK Z X b c e)
def GH{Q:Option ah->Shared->Prop}(Z:ig K C)(X:K.In h)(e:h.get? a=aa o)(c:o.cls=.ref C)(n:Q (aa<|.ref C) ⟨h,g,d,t+1,os⟩):
 wpAny (model prog w) A (getAttr? (.ref a) "__class__") Q E ⟨h,g,d,t,os⟩:=by
 have i:PySem.W.Looks (model prog w) h (typeOf<|.ref a) (.ref C):=c▸(WE e).andThen .now;have l:=Wm (M:=model prog w) X Z.ga;have j:=Wm (M:=model prog w) X Z.hk;have m:=F.attrBase_ValueError.ga.bind<|.ref a;unfold getAttr? getAttrBy? getAttrBy;refine T3<|wpAny_mkText<|T3<|wpAny_attempt<|Vl<|T3<|i.at<|T3<|l.at ?_;have b:(Value.builtin "BaseException.__getattribute__"==Value.builtin "object.__getattribute__")=ag:=by decide+kernel
 have f:(onTheHeap (Value.ref C)&&Value.builtin "BaseException.__getattribute__"==Value.builtin "object.__getattribute__")=ag:=by rw[b];rfl
 have k:(ag&&onTheHeap (Value.builtin "BaseException.__getattribute__"))=ag:=rfl;repeat (any_goals (first|assumption|with_reducible refine j.at ?_|wp_step))
 refine GG Z X e c ?_;repeat (any_goals (first|assumption|wp_step))
def GI(Z:ig K C)(b:(PySem.W.clsIn K C).isSome=af):PySem.W.KitX K (.ref a) (.ref C) (excAt a C) where
 ty:=λM h _ ⟨o,v,e,f,_⟩=>f▸(WE e).andThen .now
 it:=λ_ _ X _=>by
  unfold PySem.W.clsIn at b;split at b
  ·rename_i u m j l i
   intro B x G y k q;unfold isType loadHead;exact T3<|wpAny_loadPart (k _ _<|X _ _ i)<|Uj q
  ·cases b
 ne:=λh p D r n F X c=>by
  refine UN.mpr λq=>?_
  have e:C=p:=Value.ref.inj<|US.mp q;subst e;unfold PySem.W.clsIn at b;split at b
  ·rename_i u m j l i
   have z:=(X _ _ i).symm.trans c;cases z
  ·cases b
 ca:=λ{_ _ _ _ _ s} X ⟨o,v,e,f,_⟩ k=>by obtain⟨h,g,d,t,os⟩:=s;exact GH Z X e f k
end
noncomputable def Nx(K:Fg):List V->Hp->VK->Prop:=λd H Q=>∃a C c b,d=[.ref a,c]/\H a=aa (.ext<|excAt a C)/\ig K C/\(PySem.W.clsIn K C).isSome=af/\(∀u,RelV c u->PySem.W.kitOne K (.ref C) u=aa b)/\Q (.bl b) H
noncomputable def eJ(K:Fg)(d:V)(b:Bool)(a:List<|List Nat):Prop:=∀c∈a,∃C,PySem.W.nsIn K mainGlobals (txt c)=aa (aa<|.ref C)/\ig K C/\(PySem.W.clsIn K C).isSome=af/\∀u,RelV d u->PySem.W.kitOne K (.ref C) u=aa b
section
variable{X:Cx}
def GJ:f9 X (.builtin "isinstance") (Nx X.K):=by
 intro a s n H k j Q I r h;obtain⟨e,C,l,b,rfl,f,Z,g,c,q⟩:=h;cases r with
 |cons d r=>
  cases r with
  |cons i r=>cases r;cases d;exact PySem.W.kia_one (GI Z g) I.dz (I.aF e _ f).1 (c _ i) (by intro z;cases z) λm=>⟨.bl b,H,I.tok _,rfl,q⟩
def AJ{a:Expr}{m:VM.EM}{x:Str}{g:V}{ys i:List (List Nat)}{p f pos:Pos}(pn:PE X (.Name x f)<|tC g)(E:eJ X.K g af ys)(J:eJ X.K g ag i)(O:X.mg "isinstance"=ae)(Z:SE X a m)(W:Gl X "isinstance":=by rfl)(he:starEach [a,.Name x f] X.env=(ag,eval a X.env)::starEach [.Name x f] X.env:=by rfl)(t:(backTo pos<|starEach [.Name x f] X.env).any (·.1)=ag:=by rfl)(A:starEach [.Name x f] X.env=(ag,eval (.Name x f) X.env)::starEach [] X.env:=by rfl):
 SE X (.Call (.Name "isinstance" p) [a,.Name x f] [] pos) (iU ys i m):=by
 obtain⟨ta,L,P⟩:=Z;refine⟨_,mP GJ W O (by kernel_rfl) (dE L (dE pn fi A) he) (by decide+kernel) (by decide+kernel) he t,λT M H U G Q R S h=>?_⟩;refine P T M H U G _ R S<|au.seq h λl H1 w M1 v p1 y I k=>?_
 cases w with
 |ref b=>
  obtain⟨s,F,rfl⟩:=I;have d:au RV X.K l (match M1[b]? with
   |some (.b8 c)=>if ys.contains c then .ok (.bl af) M1 else if i.contains c then .ok (.bl ag) M1 else .bad
   |_=>.bad) Q:=k
  cases e:M1[b]? with
  |none=>rw[e] at d;exact(d:False).elim
  |some o=>
   rw[e] at d;have Y:=y.obj b s o F e;cases o with
   |b8 c=>
    obtain⟨C,B,D⟩:=Y;have h3:au RV X.K l (if ys.contains c then .ok (.bl af) M1 else if i.contains c then .ok (.bl ag) M1 else .bad) Q:=d;by_cases z:ys.contains c=af
    ·rw[T1 z] at h3;obtain⟨N,j,q,n,u⟩:=E c<|by simpa using z
     rw[B] at j;cases j;exact⟨s,C,g,af,rfl,D,q,n,u,au.ok (b:=V.bl af) h3 y rfl⟩
    ·rw[T2 z] at h3;by_cases r:i.contains c=af
     ·rw[T1 r] at h3;obtain⟨N,j,q,n,u⟩:=J c<|by simpa using r
      rw[B] at j;cases j;exact⟨s,C,g,ag,rfl,D,q,n,u,au.ok (b:=V.bl ag) h3 y rfl⟩
     ·rw[T2 r] at h3;exact(h3:False).elim
   |lst _=>exact(d:False).elim
   |aU _=>exact(d:False).elim
   |tup _=>exact(d:False).elim
   |aD _=>exact(d:False).elim
   |ins _ _=>exact(d:False).elim
   |di _=>exact(d:False).elim
   |a8 _ _=>exact(d:False).elim
   |bR=>exact(d:False).elim
 |aw=>exact(k:False).elim
 |bl _=>exact(k:False).elim
 |int _=>exact(k:False).elim
 |str _=>exact(k:False).elim
end
section
variable{X:Cx}
def MB(cs)(b:X.mg x=aa (.ref f))(e:PySem.W.nsIn X.K mainGlobals (txt cs)=aa (aa<|.ref f))(d:Gl X x:=by rfl)(a:(x==("__debug__":Str))=ag:=by decide+kernel):SE X (.Name x pos) (pZ cs):=by refine⟨_,uY (v:=.ref f) d b rfl a,λc M H g i Q R S h=>?_⟩;refine h (c++[f]) H (.ref f) ⟨[f],rfl⟩ (R.ghost rfl e) ⟨f,?_,rfl⟩;rw[<-R.len];simp
noncomputable def sL(X:Cx)(k:Nat)(tab:List<|List Nat×VM.CM):Prop:=∀e∈tab,∃x f b a,jK X.prog X.w X.K X.mg X.base k x f b a e.2/\PySem.W.nsIn X.K mainGlobals (txt e.1)=aa (aa<|.ref f)
def GK(ht:sL X k tab)(hr:bA k X.A)(ha:SA X (e::es) a)(hN:X.N[i]? =aa y:=by rfl)(T:nV X.env.scope y:=by first|exact Or.inl rfl|exact Or.inr (Or.inl rfl)|exact Or.inr<|Or.inr rfl)(hd:(y==("__debug__":Str))=ag:=by decide+kernel)(G:(y==("__classdict__":Str))=ag:=by decide+kernel)(he:starEach (e::es) X.env=(ag,eval e X.env)::starEach es X.env:=by rfl)(P:(backTo pos<|starEach es X.env).any (·.1)=ag:=by rfl):
 SE X (.Call (.Name y p) (e::es) [] pos) (ri tab (aj i) a):=by
 obtain⟨ta,pa,ka⟩:=ha;refine⟨λl H Q=>∃x f D B c,jK X.prog X.w X.K X.mg X.base k x f D B c/\l[i]? =aa (aa<|.ref f)/\ta l H λU z=>mw X.K B.length c U z Q E0,λj s l H Q I h=>?_,λV M H C l Q R S h=>?_⟩
 ·obtain⟨x,f,D,B,c,F,J,h⟩:=h;refine VC<|aN (ng hN T hd G j s l H (λw z=>w=.ref f/\z=H) I ⟨_,J,rfl,rfl⟩) λu s1 ⟨w,z,Z,r,t,g⟩=>?_
  subst t g;cases r;refine V7 Z.ok.mod.kJ F.kp (aN (pa pos j s1 l z _ Z h) λus s2 ⟨U,H2,Y,r2,q⟩=>⟨Y.dz,?_⟩) he P;refine vp F.ok hr F.bi .nil rD Y r2 ?_;rw[UZ];exact q
 ·have m:au RV X.K V ((aj i C M).bind λx M1=>match VM.pick tab x M1 with|some c=>(a C M1).bind c|none=>.bad) Q:=h;unfold aj at m;cases t:C[i]? with
  |none=>rw[t] at m;exact(m).elim
  |some o=>
   cases o with
   |none=>rw[t] at m;exact(m).elim
   |some w=>
    rw[t] at m;have E:au RV X.K V (match VM.pick tab w M with|some c=>(a C M).bind c|none=>.bad) Q:=m;cases g:VM.pick tab w M with
    |none=>rw[g] at E;exact(E).elim
    |some c=>
     rw[g] at E;have h2:=E;unfold VM.pick at g;cases d:VM.fnOf M w with
     |none=>rw[d] at g;cases g
     |some n=>
      rw[d] at g;obtain⟨en,et,rfl⟩:=XB.mp g;obtain⟨x,f,D,B,F,nf⟩:=ht en<|Xc et;have O:=by simpa using Xd et
      obtain⟨q,hq,v,rfl,rv⟩:=Paired.at S t;have T:v=.ref f:=by
       cases w with
       |ref b=>
        obtain⟨fp,hb,rfl⟩:=rv;unfold VM.fnOf at d;cases L:M[b]? with
        |none=>simp only[L] at d;cases d
        |some o=>
         simp only[L] at d;have ro:=R.obj b fp o hb L;cases o<;>first|cases d|skip
         rw[O,ro] at nf;cases nf;rfl
       |aw=>cases d
       |bl _=>cases d
       |int _=>cases d
       |str _=>cases d
      subst T;refine⟨x,f,D,B,en.2,F,hq,ka V M H C l _ R S<|au.seq h2 λsM z ws M1 U p1 R1 r1 h3=>?_⟩;exact vR F.ln R1 r1 h3 _
end
def IH(b:vs.length=acc.length)(h:∀(j:Nat) (v),acc[j]? =aa v->∃x,vs[j]? =aa x/\RelV x v):Vals vs acc:=by
 induction acc generalizing vs with
 |nil=>cases vs with
  |nil=>exact .nil
  |cons _ _=>simp at b
 |cons a r d=>
  cases vs with
  |nil=>simp at b
  |cons x t=>
   obtain⟨y,e,q⟩:=h 0 a rfl;have e:=by simpa using e
   subst e;exact .cons q (d (by simpa using b) λj v c=>by
    obtain⟨y,e,q⟩:=h (j+1) v<|by simpa using c
    exact⟨y,by simpa using e,q⟩)
section
variable{X:Cx}
section
variable{prog:Program}{w:World}{A:Around}{s:Shared}{R:Result->Shared->Prop}{I:Addr}{fp wr:List Addr}{G:Array GenState->Array GenState->Prop}{n:Nat}{P:Nat->ah->Prop}{St:Nat->Shared->Prop}
end
end
noncomputable abbrev lQ(K:Fg)(x:Str)(f:Addr):Prop:=PySem.W.nsIn K mainGlobals x=aa (aa<|.ref f)
section
variable{P:Program}{w:World}{K:Fg}{mg:Str->Option ah}{base:Heap}{k:Nat}{x q:Str}{st:Stmt}{ps N:List Str}{np n:Nat}{body:VM.SM}{C:Addr}
noncomputable def FK(K:Fg)(mg:Str->Option ah)(x:Str)(st:Stmt)(ps:List Str):Prop:=∃f a,gH K x x st f a/\mg x=aa (.ref f)/\Binds K a ps []/\lQ K x f
noncomputable def jM(K:Fg)(J:Addr->Prop)(x q:Str)(st:Stmt)(ps:List Str):Prop:=∃f a,gH K x q st f a/\J f/\Binds K a ps []
noncomputable abbrev z5(x q:Str)(st:Stmt)(ps:List Str):Prop:=∀(kV b d:ah) (e:Option Addr) (c ct:ah) (a:List ah),a.length=ps.length->bindArgs (PySem.W.fnOf x q (lG st) (fD st) (cc st) .none kV b d e c ct) ⟨a,[]⟩=pure (ps.zip a)
def MC{h:Heap}{f:Addr}{p:ah}{g m:Option Addr}{e:Array (Option ah)}{kV d i b ct:ah}(X:K.In h)(G:h.Ns mainGlobals mg)(a:lQ K x f)(l:K.lookup f=aa ⟨p,g,.func<|PySem.W.fnOf x x (lG st) (fD st) (cc st) .none kV d i m b ct,e⟩)(c:PySem.W.codeIn K b x=af)(o:PySem.W.keepIn K (.ref f)=af)(j:z5 x x st ps):FK K mg x st ps:=
 have F:=Ag (st:=st) l c o
 ⟨f,_,F,V1 X G a,F.binds j,a⟩
def AK{J:Addr->Prop}{f:Addr}{o:ah}{g m:Option Addr}{e:Array (Option ah)}{kV d i b ct:ah}(a:J f)(l:K.lookup f=aa ⟨o,g,.func<|PySem.W.fnOf x q (lG st) (fD st) (cc st) .none kV d i m b ct,e⟩)(c:PySem.W.codeIn K b q=af)(h:PySem.W.keepIn K (.ref f)=af)(j:z5 x q st ps):jM K J x q st ps:=
 have F:=Ag (st:=st) l c h
 ⟨f,_,F,a,F.binds j⟩
noncomputable def FV(P:Program)(w:World)(K:Fg)(mg:Str->Option ah)(base:Heap)(k:Nat)(c:VM.CM)(x:Str)(ps:List Str):Prop:=∃f a,jK P w K mg base k x f a ps c/\lQ K x f
noncomputable def FX(P:Program)(w:World)(K:Fg)(mg:Str->Option ah)(base:Heap)(k:Nat)(c:VM.CM)(x:Str)(ps:List Str):Prop:=∃f a,oi P w K mg base k x f a ps c
noncomputable def FM(P:Program)(w:World)(K:Fg)(mg:Str->Option ah)(base:Heap)(k:Nat)(c:VM.CM)(J:Addr->Prop)(ps:List Str):Prop:=∃f a,J f/\sJ P w K mg base k f a ps c
noncomputable abbrev rW(c:gm)(P:Program)(w:World)(K:Fg)(mg:Str->Option ah)(base:Heap)(k:Nat)(N:List Str)(q:Str)(st:Stmt)(J:Cx->XK->List Stmt->Prop):Prop:=
 ∀(f:Addr) (a:ah) (A:Around) (b:List Env) (s:Shared) (H:Hp) (E:XK),N.Nodup->bA k (A.deeper<|envOfC q (cc st) s.heap.objs.size f a)->(A.deeper<|envOfC q (cc st) s.heap.objs.size f a).units<cLine->(A.deeper<|envOfC q (cc st) s.heap.objs.size f a).units+1<cLine->J (cj c P w K mg base N q (cc st) f a A b s H E) E (fD st)
def b_(h:FK K mg x st ps)(S:fV N ps<|cc st)(D:rW fz P w K mg base k N x st λX _ b=>e9 X.cX b body)(l:N.length=n:=by rfl)(j:ps.length=np:=by rfl):FV P w K mg base (k+1) (VM.fn np n body) x ps:=by obtain⟨f,g,F,e,i,m⟩:=h;exact⟨f,g,AE F S e i (λd A a s H E c=>D f d A a s H E S.nd c c.oY<|pf c) l j,m⟩
def bY(h:FK K mg x st ps):FV P w K mg base 0 (λ_ _=>.bad) x ps:=by obtain⟨f,b,F,a,c,d⟩:=h;exact⟨f,b,Gi a F.kp c,d⟩
def kz(h:FK K mg x st ps)(S:fV N ps<|cc st)(D:rW (b9 P w) P w K mg base k N x st λX E b=>SX X E b body)(l:N.length=n:=by rfl)(j:ps.length=np:=by rfl):FX P w K mg base (k+1) (VM.fn np n body) x ps:=by obtain⟨f,g,F,e,i,m⟩:=h;exact⟨f,g,Lj F S e i (λd A a s H E c=>D f d A a s H E S.nd c c.oY<|pf c) l j⟩
def j8(h:FK K mg x st ps):FX P w K mg base 0 (λ_ _=>.bad) x ps:=by obtain⟨f,b,F,a,c,d⟩:=h;exact⟨f,b,GF a F.kp c⟩
def vV{J:Addr->Prop}(h:jM K J x q st ps)(S:fV N ps<|cc st)(D:rW fz P w K mg base k N q st λX _ b=>e9 X.cX b body)(j:N.length=n:=by rfl)(l:ps.length=np:=by rfl):FM P w K mg base (k+1) (VM.fn np n body) J ps:=by obtain⟨f,g,F,e,i⟩:=h;exact⟨f,g,e,Lf F S i (λd A a s H E c=>D f d A a s H E S.nd c c.oY<|pf c) j l⟩
def vk{J:Addr->Prop}(h:jM K J x q st ps):FM P w K mg base 0 (λ_ _=>.bad) J ps:=by obtain⟨f,b,F,a,c⟩:=h;exact⟨f,b,a,Gz c⟩
end
section
variable{X:Cx}
def II{i j:Int}{jj pos}(h:i=j):SE X (.Constant (.int i) jj pos) (VM.eC<|.int j):=h▸Kn
def GL{x:Str}{k:Nat}{h:List Str}{c:VM.CM}{e:Expr}{b:List Expr}{a:VM.AM}{p pos:Pos}(F:FV X.prog X.w X.K X.mg X.base k c x h)(i:bA k X.A)(m:SA X (e::b) a)(j:Gl X x)(d:(x==("__debug__":Str))=ag)(l:starEach (e::b) X.env=(ag,eval e X.env)::starEach b X.env)(g:(backTo pos<|starEach b X.env).any (·.1)=ag):
 SE X (.Call (.Name x p) (e::b) [] pos) (ax c a):=by
 obtain⟨f,n,F,_⟩:=F;exact Ij F i m j d l g
def GN{k:Nat}{c j:List Nat}{m:Str}{C:Addr}{p:List Str}{l:VM.CM}{o e:Expr}{d:List Expr}{i:VM.EM}{a:VM.AM}{b pos:Pos}{pl:Sem Bool}(T:jx X.K c C)(F:FM X.prog X.w X.K X.mg X.base k l (Meth X.K C m) p)(r:bA k X.A)(s:SE X o i)(v:SA X (e::d) a)(u:m=txt j)(g:starEach (e::d) X.env=(ag,eval e X.env)::starEach d X.env)(h:(backTo pos<|starEach d X.env).any (·.1)=ag)(t:eval (.Call (.Attribute o m b) (e::d) [] pos) X.env=(do
  let n<-eval o X.env
  standAt b.atName
  let(f,first)<-holding [n] (getMethod n m pl)
  callWith pos f first (backTo pos (starEach (e::d) X.env)) (backToKw pos (keywordEach [] X.env)))):
 SE X (.Call (.Attribute o m b) (e::d) [] pos) (dW c j l i a):=by
 obtain⟨f,x,q,F⟩:=F;exact GB T q F r s v u g h t
def Lk{x:Str}{k:Nat}{d:List Str}{c:VM.CM}{a:List Nat}{pos:Pos}(F:FV X.prog X.w X.K X.mg X.base k c x d)(e:x=txt a)(g:Gl X x)(b:(x==("__debug__":Str))=ag):SE X (.Name x pos) (pZ a):=by obtain⟨f,i,F,h⟩:=F;exact MB a F.mg (by rw[<-e];exact h) g b
def IJ{a:Expr}{m:VM.EM}{x:Str}{D:Addr}{ys g:List (List Nat)}{p b pos:Pos}(j:X.mg x=aa (.ref D))(i:eJ X.K (.ref D) af ys)(l:eJ X.K (.ref D) ag g)(h:X.mg "isinstance"=ae)(n:SE X a m)(c:Gl X x)(d:(x==("__debug__":Str))=ag)(k:Gl X "isinstance")(he:starEach [a,.Name x b] X.env=(ag,eval a X.env)::starEach [.Name x b] X.env)(f:(backTo pos<|starEach [.Name x b] X.env).any (·.1)=ag)(e:starEach [.Name x b] X.env=(ag,eval (.Name x b) X.env)::starEach [] X.env):
 SE X (.Call (.Name "isinstance" p) [a,.Name x b] [] pos) (iU ys g m):=AJ (uY (v:=.ref D) c j rfl d) i l h n k he f e
def IK{a:Expr}{m:VM.EM}{x:Str}{T:String}{ys h:List (List Nat)}{p b pos:Pos}(j:eJ X.K (.ty T) af ys)(o:eJ X.K (.ty T) ag h)(l:X.mg x=ae)(k:bootBuiltins x=aa (.type T))(i:X.mg "isinstance"=ae)(q:SE X a m)(c:Gl X x)(f:x≠"__name__")(d:(x==("__debug__":Str))=ag)(n:Gl X "isinstance")(he:starEach [a,.Name x b] X.env=(ag,eval a X.env)::starEach [.Name x b] X.env)(g:(backTo pos<|starEach [.Name x b] X.env).any (·.1)=ag)(e:starEach [.Name x b] X.env=(ag,eval (.Name x b) X.env)::starEach [] X.env):
 SE X (.Call (.Name "isinstance" p) [a,.Name x b] [] pos) (iU ys h m):=AJ (uZ c l k (show RelV (.ty T) (.type T) from rfl) f d) j o i q n he g e
def jY{K:Fg}{a:V}{b:Bool}:eJ K a b []:=λ_ h=>nomatch h
def IL{k:Nat}:sL X k []:=λ_ h=>nomatch h
def GO{k:Nat}{d:List Nat}{c:VM.CM}{t:List (List Nat×VM.CM)}{x:Str}{b:List Str}(F:FV X.prog X.w X.K X.mg X.base k c x b)(i:x=txt d)(h:sL X k t):sL X k ((d,c)::t):=λe a=>by
 rcases T4.mp a with rfl|a
 ·obtain⟨f,g,F,j⟩:=F;exact⟨x,f,g,b,F,by rw[<-i];exact j⟩
 ·exact h e a
def GP{x:Str}{k:Nat}{i:List Str}{c:VM.CM}{e:Expr}{d:List Expr}{a:VM.AM}{p pos b:Pos}(F:FX X.prog X.w X.K X.mg X.base k c x i)(j:bA k X.A)(o:SA X.cX (e::d) a)(l:Gl X x)(g:(x==("__debug__":Str))=ag)(n:starEach (e::d) X.env=(ag,eval e X.env)::starEach d X.env)(h:(backTo pos<|starEach d X.env).any (·.1)=ag)(m:swapsWith (.Call (.Name x p) (e::d) [] pos) ae b.line X.env=pure ag):
 SB X (.Expr (.Call (.Name x p) (e::d) [] pos) b) (aZ<|bF c a):=by
 obtain⟨f,q,F⟩:=F;exact IF F j o l g n h m
end
section
variable{X:Cx}{x y:Str}{cl:List Nat}{scope:Scope}{iter elt e:Expr}{ifs:List Expr}{pos tp qh apos bf:Pos}{x1:Nat}{mi:VM.IM}{me:VM.EM}{g:VM.GM}{t:VM.TM}{m:VM.EM}
noncomputable abbrev gK(X:Cx)(ex:List Str)(scope:Scope)(C:Addr)(s:Shared)(H:Hp)(a:List Addr):Cx:=dr X (X.N++ex) scope (bQ X.env.cells scope.names []) C s H a
def GQ(B:i6 X (X.N++[x]) 1 cl scope)(calm:X.calm=af)(h:SI X (.Name x tp) iter mi)(d:∀C s H a,SG (gK X [x] scope C s H a) (.Name x tp) g)(c:∀C s H a,iV (gK X [x] scope C s H a) ifs t)(b:∀C s H a,SE (gK X [x] scope C s H a) elt m)(f:∀x,foldedSetIterable iter X.env x=pure x:=by intro _;rfl):SE X (.ListComp elt [⟨.Name x tp,iter,ifs,0⟩] scope pos) (bU 1 cl mi g t m):=vj (ex:=[x]) B calm h d c b f
def GR(B:i6 X (X.N++[x,y]) 2 cl scope)(calm:X.calm=af)(h:SI X (.Tuple [.Name x tp,.Name y qh] x1 apos) iter mi)(d:∀C s H a,SG (gK X [x,y] scope C s H a) (.Tuple [.Name x tp,.Name y qh] x1 apos) g)(c:∀C s H a,iV (gK X [x,y] scope C s H a) ifs t)(b:∀C s H a,SE (gK X [x,y] scope C s H a) elt m)(f:∀x,foldedSetIterable iter X.env x=pure x:=by intro _;rfl):SE X (.ListComp elt [⟨.Tuple [.Name x tp,.Name y qh] x1 apos,iter,ifs,0⟩] scope pos) (bU 2 cl mi g t m):=vj (ex:=[x,y]) B calm h d c b f
def EN{a:Pos}(B:i6 X (X.N++[x,y]) 2 cl scope)(calm:X.calm=af)(j:SE X e me)(d:M0 X e "items" a bf)(h:∀C s H b,SG (gK X [x,y] scope C s H b) (.Tuple [.Name x tp,.Name y qh] x1 apos) g)(f:∀C s H b,iV (gK X [x,y] scope C s H b) ifs t)(c:∀C s H b,SE (gK X [x,y] scope C s H b) elt m)(i:∀x,foldedSetIterable (.Call (.Attribute e "items" a) [] [] bf) X.env x=pure x:=by intro _;rfl):SE X (.ListComp elt [⟨.Tuple [.Name x tp,.Name y qh] x1 apos,.Call (.Attribute e "items" a) [] [] bf,ifs,0⟩] scope pos) (lN 2 cl me g t m):=GC (ex:=[x,y]) B calm j d h f c i
def GS{i:Nat}{z:Str}{a d:Pos}(p:X.N.Nodup)(B:i6 X (X.N++[x]) 1 cl scope)(calm:X.calm=af)(q:SI X (.Name x tp) iter mi)(l:∀C s H b,SG (gK X [x] scope C s H b) (.Name x tp) g)(j:∀C s H b,iV (gK X [x] scope C s H b) ifs t)(f:∀C s H b,SE (gK X [x] scope C s H b) elt m)(h:X.N[i]? =aa z:=by rfl)(k:Loc X.env.scope z:=by first|exact Or.inl rfl|exact Or.inr rfl)(o:X.fn z=af\/X.env.scope.names.lookup z=aa .local:=by first|exact .inl rfl|exact .inr rfl|assumption)(c:swapsWith (.ListComp elt [⟨.Name x tp,iter,ifs,0⟩] scope pos) (aa<|.Name z d) a.line X.env=pure af:=by rfl)(n:∀x,foldedSetIterable iter X.env x=pure x:=by intro _;rfl):SS X (.Assign [.Name z d] (.ListComp elt [⟨.Name x tp,iter,ifs,0⟩] scope pos) a) (aJ (bU 1 cl mi g t m)<|VM.ay i):=Iu (ex:=[x]) p B calm q l j f h k o c n
end
section
variable{X:Cx}
def AL(t:X.A.units<cLine):bO X (compareOp .Eq) (λx y H Q=>∃p q a,x=.ref p/\y=.ref q/\H p=aa (.dK a)/\H q=aa (.dK [])/\Q (.bl a.isEmpty) H):=by
 intro b s D H x y v u Q I B l h;obtain⟨p,q,a,rfl,rfl,o,f,z⟩:=h;cases B;cases l;obtain⟨_,i,n,d,m⟩:=I.aF p _ o;obtain⟨_,j,C,w,g⟩:=I.aF q _ f;cases w;have c:=VO d;refine PySem.W.keq_eq i j m g t (r:=af) (λe=>?_)<|cp I z ?_
 ·have:=XT.mp (by simpa using e);subst this;exact .nil
 ·cases a with
  |nil=>have:=XT.mp (by rw[<-c];rfl)
        subst this;rfl
  |cons k r=>cases n with
   |nil=>cases c
   |cons y E=>rfl
def ym{M1:VM.Mem}(h:Rel X.K sM M1 H1)(m:RV sM x u)(d:au RV X.K sM (match VM.bq M1 x with|some (_,kvs)=>.ok (.bl kvs.isEmpty) (M1++[.aD []])|none=>.bad) Q)(q)(i:H1 q=ae):
 ∃p j b,u=.ref p/\V.ref q=.ref j/\upd H1 q (.dK []) p=aa (.dK b)/\upd H1 q (.dK []) j=aa (.dK [])/\Q (.bl b.isEmpty) (upd H1 q<|.dK []):=by
 cases f:VM.bq M1 x with
 |none=>rw[f] at d;exact(d).elim
 |some c=>
  obtain⟨a,kvs⟩:=c;rw[f] at d;obtain⟨p,b,rfl,o,n,rfl,h3,k⟩:=h.bq f m;have g:=cP h3 i;refine⟨p,q,b,rfl,rfl,by rw[aL g];exact h3,bW,?_⟩;have e:b.isEmpty=kvs.isEmpty:=by cases k<;>rfl
  rw[e];exact d (sM++[q]) _ _ ⟨[q],rfl⟩ (h.new i λl pre=>⟨[],bW,.nil⟩) rfl
def IP(k:X.A.units+1<cLine)(o:SE X a m):SE X (.Compare a [.Eq] [.Dict [] [] nU] pos) (iM m):=by obtain⟨p,e,j⟩:=o;refine⟨_,zj (AL<|Nat.lt_of_succ_lt k) e uG rfl,λl M H n c Q R S h=>?_⟩;exact j l M H n c _ R S<|au.seq h λi s x M1 u r f d g q b=>ym f d g q b
def IQ(z:X.A.units+1<cLine)(n:SE X a m):eZ X (.Compare a [.Eq] [.Dict [] [] nU] pos) (VM.tB<|iM m):=by
 obtain⟨D,s,y⟩:=n;refine⟨_,zk (AL<|Nat.lt_of_succ_lt z) s uG rfl,λe M H j o Q R S h=>?_⟩;have C:au rB X.K e ((m j M).bind λx M1=>match VM.bq M1 x with|some (_,d)=>.ok d.isEmpty (M1++[.aD []])|none=>.bad) Q:=by
  unfold VM.tB iM at h;revert h;cases m j M with
  |ok x M1=>
   show au rB X.K e ((match VM.bq M1 x with|some (_,d)=>VM.R.ok (VM.W.bl d.isEmpty) (M1++[VM.O.aD []])|none=>VM.R.bad).bind _) Q->au rB X.K e (match VM.bq M1 x with|some (_,d)=>.ok d.isEmpty (M1++[.aD []])|none=>.bad) Q;cases VM.bq M1 x with
   |none=>exactλh=>h
   |some c=>exactλh=>h
  |ex _ _=>exactλh=>h
  |bad=>exactλh=>h
 refine y e M H j o _ R S<|au.seq C λw F x M1 u E t p f q l=>?_
 refine ym (Q:=λv g=>∃b,v=.bl b/\Q b g) t p ?_ q l;cases k:VM.bq M1 x with
 |none=>rw[k] at f;exact(f).elim
 |some c=>rw[k] at f;intro i g v r R2 B;cases B;exact⟨_,rfl,f i g _ r R2 rfl⟩
def Ll(hm:X.mg x=aa (.int i t))(b:Gl X x)(a:(x==("__debug__":Str))=ag)(e:i=j):SE X (.Name x pos) (VM.eC<|.int j):=by subst e;exact⟨_,uY (v:=.int i) b hm ⟨t,rfl⟩ a,λc M H d f Q R S h=>au.ok h R rfl⟩
end
section
variable{X:Cx}
def Dy(U:X.A.handled=ae):f9 X (.type "list") (λxs H Q=>∃p a,xs=[.ref p]/\H p=aa (.dK a)/\∀q,H q=ae->Q (.ref q) (upd H q<|.lst<|a.map λk=>kV k.1)):=by
 intro n s σ H xs Y Q I r h;obtain⟨p,a,rfl,T,q⟩:=h;obtain⟨u,rfl,P⟩:=vals1 r;cases P;obtain⟨y,B,S,m,o,L,K,g,c,V,F,D,C⟩:=I.aF p _ T;have e:=VO m;have N:s.heap.DictAt (cY X.prog X.w) p S K:=⟨o,L,g,c,V,F,D,C⟩;refine PySem.W.kdl_call (PySem.W.kdl_dict B) U N (by rw[<-e];exact y) λZ tk b O G E l=>?_
 have R:Vals (a.map λk=>kV k.1) b.toList:=by
  refine IH (by simp[l.1,e]) λj v M=>?_
  have f:b[j]? =aa v:=by rw[<-M,WY]
  obtain⟨k,x,z,J⟩:=l.2 j v f;have d:j<a.length:=by rw[e];exact(T6.mp z).1
  obtain⟨u,t,_⟩:=KV.at m (i:=j) (k:=a[j].1) (v:=a[j].2)<|by simp[d]
  rw[z] at t;cases t;exact⟨kV a[j].1,by simp[d],AH J⟩
 refine⟨.ref s.heap.objs.size,_,I.laid G (T8 _) (o:=.lst _) ⟨by rw[Ub];exact y,b.toList,O,R,?_⟩,rfl,q _<|I.aF.fresh<|T8 _⟩;rw[E]
end
noncomputable def qi(X:Cx)(scope:Scope)(f c':Addr)(cl:List<|Str×Addr)(N:List Str)(s:Shared)(H:Hp):Cx where
 prog:=X.prog
 w:=X.w
 K:=X.K
 mg:=X.mg
 base:=X.base
 A:=X.A.in1.deeper<|PySem.W.envX dw scope s.heap.objs.size f (.ref c') cl
 N:=N
 c7:=s
 lW:=H
 env:=PySem.W.envX dw scope s.heap.objs.size f (.ref c') cl
 outer:=X.stack
 stack:=PySem.W.envX dw scope s.heap.objs.size f (.ref c') cl::X.stack
 ex:=[]
 calm:=af
 fn:=λ_=>ag
 pn:=[]
 xe:=λ_ _=>False
structure pT(scope:Scope)(x y:Str):Prop where
 kind:scope.kind=.function
 loc:scope.names.lookup x=aa .local
 B2:scope.names.lookup y=aa .free
 ne:x≠y
 all:∀z,scope.names.lookup z=aa .cell\/scope.names.lookup z=aa .free->z=y
 nc:∀z∈scope.names,z.2≠.cell
 co:scope.isCoroutine=ag
 gen:scope.isGenerator=ag
section
variable{X:Cx}{pins:List (Addr×Obj)}{σ:L2.St}{H:Hp}{s:Shared}{scope:Scope}{f c' c:Addr}{x y:Str}{u v:ah}{a b:V}
def IS(L:pT scope x y)(I:Inv X pins σ H s)(F:X.A.handled=ae)(J:X.env.cells.lookup y=aa c)(D:s.heap.IsCell c<|aa u)(K:RelV a u)(E:RelV b v)(C:kI.Ns s.heap.objs.size<|λz=>[(x,v)].reverse.lookup z)(B:∀q o,s.heap.get? q=aa o->kI.get? q=aa o):
 Inv (qi X scope f c' [(y,c)] [x,y] s H) [] [aa b,aa a] H {s with heap:=kI,toks:=tk}:=by
 have g:∀z d,(qi X scope f c' [(y,c)] [x,y] s H).env.cells.lookup z=aa d->z=y/\d=c:=λz d e=>by
  have e:([(y,c)]:List<|Str×Addr).lookup z=aa d:=e;rw[Vs] at e;cases t:z==y with
  |true=>rw[t] at e;cases e;exact⟨eq_of_beq t,rfl⟩
  |false=>rw[t] at e;cases e
 have j:=by show([(y,c)]:List<|Str×Addr).lookup y=aa c;rw[Vs];simp
 have m:∀q:Addr,q∉(qi X scope f c' [(y,c)] [x,y] s H).ex:=λq z=>absurd (show q∈([]:List Addr) from z)<|by simp
 have h:∀d w,s.heap.IsCell d w->kI.IsCell d w:=λd w ⟨o,e,r⟩=>⟨o,B d o e,r⟩
 refine⟨⟨I.mod,L.kind,rfl,rfl,T8 _,λM G d k l=>?_,λz t=>?_,λz d e _=>?_,λ_=>F,Around.frames_deeper I.ok.frames,.inr ⟨rfl,rfl⟩,λq z=>absurd z<|m q,λq o e=>I.bs q o e,Ug I.ok.ij I.sz,λq _ _=>m q,λq z=>absurd z<|m q,I.stack,I.qT⟩,
  rfl,I.bare,Un.kept B,⟨_,C,λi z w k l O=>?_⟩,λz d e=>?_,I.aF.fresh (T8 _),λz d e=>?_,λp N=>absurd (show p∈([]:List (Addr×Obj)) from N) (by simp),I.aF.kept B,rfl⟩
 ·rw[(g M d k).1,(g G d l).1]
 ·exact⟨c,by rw[L.all z t];exact j⟩
 ·cases e
 ·match i,k,l with
  |0,k,l=>cases k;cases l;exact⟨v,E,.inl ⟨L.loc,by simp⟩⟩
  |1,k,l=>cases k;cases l;exact⟨u,K,.inr ⟨.inr L.B2,c,j,h _ _ D⟩⟩
  |n+2,k,l=>cases k
 ·rw[(g z d e).2];exact⟨_,h _ _ D⟩
 ·rw[(g z d e).2];exact I.eA y c J
def GU{k n:Nat}{i:Arguments}{j:Expr}{R B:ah}{N:TE}{E:ah->Shared->Prop}(L:pT scope x y)(I:Inv X pins σ H s)(Q:bA k X.A)(Y:X.env.cells.lookup y=aa c)(hu:s.heap.IsCell c<|aa u)(ra:RelV a u)(S:RelV b v)(ho:s.heap.get? f=aa (PySem.W.kla_obj "<lambda>" dw i j scope [(y,c)] R c' B))(D:s.heap.CodeRec (.ref c') dw)(l:bindArgs (PySem.W.kla_fn "<lambda>" dw i j scope [(y,c)] R (.ref c') B) ⟨[v],[]⟩=pure [(x,v)])(Z:PE (qi X scope f c' [(y,c)] [x,y] s H) j N)(ht:N [aa b,aa a] H λr K=>r=.int n/\K=H):
 wpAny (model X.prog X.w) X.A.in1 (call (.ref f) [v]) (λz s'=>(∃t,z=.int n t)/\Inv X pins σ H s') E s:=by
 refine Wo ?_;refine PySem.W.kla_callFunE (show X.A.in1.depth<recursionLimit from Q.depth) ho rfl L.co L.gen rfl D ?_;rw[l];refine Uj<|wpAny_newFunctionEnv L.nc (λz U=>?_) (λp G F=>?_) L.kind
 ·have:z=(x,v):=by simpa using U
  subst this;exact L.loc
 ·have O:∀q o,s.heap.get? q=aa o->p.get? q=aa o:=λq o e=>F.extBut q o (UB<|Ui e) (Uw _ e)
  refine⟨I.nolimit.keeps O,?_⟩;show codeAny _ _ (.expr j<|PySem.W.envX dw scope s.heap.objs.size f (.ref c') [(y,c)]) _ _;have J:=IS (f:=f) (c':=c') (tk:=s.toks+1) L I Q.hd Y hu ra S G O;refine PySem.W.kla_codeExpr<|Uv (Z [] _ _ H _ J ht) (λz s' m=>?_) λe s' m=>(m:False).elim
  obtain⟨r,K,C,T,rfl,rfl⟩:=m;have P:=I.call (g':=s'.gens) (t':=s'.toks) (d':=s'.drawn) (ch:=[]) C.base C.aF C.bare λq m=>absurd m<|by simp
  have e:({s with heap:=s'.heap,gens:=s'.gens,drawn:=s'.drawn,toks:=s'.toks}:Shared)=s':=by obtain⟨h,g,d,t,o⟩:=s';have:o=s.os:=C.os;subst this;rfl
  rw[e] at P;exact⟨T,P⟩
end
noncomputable def iW(c:Str->Option ah)(h:Heap):Prop:=∃b a,c "__builtins__"=aa (.ref b)/\b≠builtinsNs/\h.get? b=aa a/\a.cls=.type "module"/\a.dict=aa builtinsNs/\a.data=.plain
noncomputable def kC(K:Fg)(c P:Addr):Prop:=∀h:Heap,K.In h->PySem.W.CodeHd h c P
def IT:∀{L:List ah},TriplesOk L->TriplesOk (L++[rawInt l,rawInt k,c]):=by
 intro L h
 fun_induction TriplesOk L with
 |case1=>trivial
 |case2 a b g d e rest f=>exact f h
 |case3 L j i=>exact h.elim
def EO:∀{L:List ah},TriplesOk L->codeAmong pos (L++[rawInt l,rawInt k,c])=aa cv->codeAmong pos L=aa cv\/cv=c:=by
 intro L h e
 fun_induction TriplesOk L with
 |case1=>
  have e:(if((l:Int)==pos.line&&(k:Int)==pos.col)=af then aa c else codeAmong pos [])=aa cv:=e;split at e
  ·exact .inr (Ua e).symm
  ·cases e
 |case2 a b i d m rest g=>
  simp only[U',codeAmong] at e⊢;split at e
  ·rename_i f;rw[T1 f];exact .inl e
  ·rename_i f;rw[T2 f];exact g h e
 |case3 L n j=>exact h.elim
def jv.add(ok:jv H ps)(r:∀o c,H P≠aa (.aU o<|.own c))(j:H c'=ae)(g:oc.data=.fields vs)(p:vs[1]? =aa (.str dw t)):
 jv (L2.upd (L2.upd H P u) c'<|.aU oc<|.own c') (ps++ #[rawInt l,rawInt k,.ref c']):=by
 refine⟨by rw[Array.toList_append];exact IT ok.1,λb m e=>?_⟩;rw[Array.toList_append] at e;rcases EO ok.1 e with z|z
 ·obtain⟨d,f,x,v,n,a,i,h⟩:=ok.2 b m z;have w:=cP a j;have s:d≠P:=λq=>r f d (by rw[<-q];exact a)
  exact⟨d,f,x,v,n,by rw[aL w,aL s];exact a,i,h⟩
 ·exact⟨c',oc,vs,t,z,bW,g,p⟩
def Rel.tab{K:Fg}(R:Rel K ι M H)(j:PySem.W.tabIn K gy=aa (c0,P))(g:H P=aa (.cS ps))(ok:jv H ps)(f:H c'=ae)(hd:oc.data=.fields vs)(n:vs[1]? =aa (.str dw t)):Rel K ι M (upd (upd H P<|.cS<|ps++ #[rawInt l,rawInt k,.ref c']) c'<|.aU oc<|.own c'):=by
 have b:c'≠P:=λz=>by rw[z,g] at f;cases f
 have d:∀u,upd H P u c'=ae:=λu=>by rw[aL b];exact f
 refine⟨R.len,λa q o s p=>?_,R.inj,λc v e=>?_⟩
 ·have r:=R.obj a q o s p;have i:RO K ι (upd H P<|.cS<|ps++ #[rawInt l,rawInt k,.ref c']) q o:=RO.other r (λh z=>by subst z;exact(RO.apart r h).1 ps g) λm vs z=>by rw[g] at z;cases z
  exact RO.other i (λh z=>by subst z;exact RO.none i h<|d _) λm vs z=>by rw[d] at z;cases z
 ·rw[j] at e;cases e;exact⟨_,by rw[aL<|Uq b];exact bW,ok.add (λo c z=>by rw[g] at z;cases z) f hd n⟩
noncomputable def IU(X:Cx)(pins:List<|Addr×Obj)(σ:L2.St)(H:Hp)(a:Arguments)(b:Expr)(scope:Scope)(cl:List<|Str×Addr)(z:ah)(s':Shared):Prop:=
 ∃f d e k c i h t,z=.ref f/\Inv X ((f,PySem.W.kla_obj "<lambda>" dw a b scope cl k d e)::pins) σ c s'/\(∀g M,Rel X.K g M H->Rel X.K g M c)/\(∀q o,H q=aa o->(∀j,o≠.cS j)->c q=aa o)/\
  c d=aa (.aU i<|.own d)/\i.data=.fields h/\h[1]? =aa (.str dw t)
section
variable{X:Cx}{pins:List (Addr×Obj)}{σ:L2.St}{H:Hp}{s:Shared}
def vm(I:Inv X pins σ H s)(e:s.heap.get? f=aa o)(c:H f=ae)(g:f≠X.env.locals)(d:f∉X.fs)(b:∀v,o.data≠.cell v):Inv X ((f,o)::pins) σ H s:=
 I.j0 λp a=>by
  rcases T4.mp a with rfl|a
  ·exact⟨e,c,g,d,b⟩
  ·exact I.pin p<|Uu _ a
def GV{d:Arguments}{g:Expr}{scope:Scope}{f:Pos}{y:Str}{c c0 P:Addr}{l:Array ah}{E:ah->Shared->Prop}(I:Inv X pins σ H s)(hT:PySem.W.tabIn X.K gy=aa (c0,P))(CK:kC X.K c0 P)(x:iW X.mg X.base)(B:X.env.code=.ref c0)(N:closureFor scope X.env=pure [(y,c)])(hq:X.env.qual++"<lambda>"=dw)(J:defaultsOf d X.env=([],[]))(C:H P=aa (.cS l))(ok:jv H l):
 wpAny (model X.prog X.w) X.A (eval (.Lambda d g scope f) X.env) (IU X pins σ H d g scope [(y,c)]) E s:=by
 refine PySem.W.kla_eval J ?_;rw[hq];have L:=I.mod.glob.keeps I.bk;have oP:=I.aF P _ C;have nP:∀b o,X.base.get? b=aa o->b≠P:=λb o e z=>by have:=(I.bs b o e).2;rw[z,C] at this;cases this
 have P_:mainGlobals≠P:=by obtain⟨o,_,_,e,_⟩:=I.mod.glob;exact nP _ _ e
 obtain⟨bm,ob,b1,b2,b3,b4,b5,b6⟩:=x;have Qa:bm≠mainGlobals:=λz=>by obtain⟨o,es,ep,e,Y,_⟩:=I.mod.glob;rw[z,e] at b3;cases b3;rw[Y] at b6;cases b6
 have M:s.heap.BuiltinsAt X.mg P:=⟨bm,ob,b1,b2,Qa,nP _ _ b3,I.bk _ _ b3,b4,b5,b6⟩;cases hf:codeAmong f l.toList with
 |some cv=>
  obtain⟨i,G,vs,t,rfl,e2,e3,e4⟩:=ok.2 f cv hf;refine PySem.W.kla_makeFunctionHit N I.ok.glob L B (CK _ I.dz) oP ok.1 hf M λk F tk hk j=>?_
  have m:∀b u,s.heap.get? b=aa u->(F.push<|PySem.W.kla_obj "<lambda>" dw d g scope [(y,c)] ((X.mg "__name__").getD .none) i k).get? b=aa u:=λb u e=>Uw _<|hk b u e
  have I':=I.un (t':=tk) (Un.kept m)<|I.aF.kept m;refine⟨_,i,k,(X.mg "__name__").getD .none,H,G,vs,t,rfl,vm I' (UR _ rfl) (I.aF.fresh j) (VQ<|Um I.lt j) (I.rM j)<|λv z=>?_,λ_ _ R=>R,λ_ _ e _=>e,e2,e3,e4⟩;cases z
 |none=>
  refine PySem.W.kla_makeFunction N I.ok.glob L B (CK _ I.dz) oP ok.1 hf P_ M λi k F tk hx D Q O Qb=>?_
  obtain⟨c2,G,vs,t,e2,S,Y,hv⟩:=O;cases e2;have Z:=I.aF.fresh D;have Qc:i≠P:=λz=>by rw[z,C] at Z;cases Z
  have m:∀b u,b≠P->s.heap.get? b=aa u->(F.push<|PySem.W.kla_obj "<lambda>" dw d g scope [(y,c)] ((X.mg "__name__").getD .none) i k).get? b=aa u:=λb u x e=>Uw _<|hx b u x e
  have T:∀b u,H b=aa u->(∀l,u≠.cS l)->b≠P:=λb u e n z=>by subst z;rw[C] at e;cases e;exact n _ rfl
  have p:∀b,H b=ae->b≠P:=λb n z=>by rw[z,C] at n;cases n
  have V:∀b u,H b=aa u->b≠i:=λb u e=>cP e Z
  have U:(F.push<|PySem.W.kla_obj "<lambda>" dw d g scope [(y,c)] ((X.mg "__name__").getD .none) i k).get? P=aa (PySem.W.tabObj<|l++ #[rawInt f.line,rawInt f.col,.ref i]):=Uw _ Qb;have j:=Ug D<|U6 Q;have h:∀q o,H q=aa o->(∀l,o≠.cS l)->upd (upd H P<|.cS<|l++ #[rawInt f.line,rawInt f.col,.ref i]) i (.aU G<|.own i) q=aa o:=λq o e n=>by rw[aL<|V q o e,aL<|T q o e n];exact e
  have un:Un X.fs [] H (upd (upd H P<|.cS<|l++ #[rawInt f.line,rawInt f.col,.ref i]) i<|.aU G<|.own i) s.heap (F.push<|PySem.W.kla_obj "<lambda>" dw d g scope [(y,c)] ((X.mg "__name__").getD .none) i k):=by
   refine⟨λb o e n _ _=>m b o (p b n) e,λb o e n _ _=>⟨o.slots,m b o (p b n) e⟩,λb o e n _=>?_,λb o e _=>?_,λb xs e=>h b _ e (λl z=>nomatch z),λb o u e=>h b _ e (λl z=>nomatch z),λb qs e=>?_⟩
   ·rw[aL<|UB<|Um (Ui e) D,aL<|p b n];exact n
   ·by_cases x:b=P
    ·subst x;exact⟨_,U⟩
    ·exact⟨o,m b o x e⟩
   ·by_cases x:b=P
    ·subst x;rw[C] at e;cases e;exact⟨#[rawInt f.line,rawInt f.col,.ref i],by rw[aL<|Uq Qc];exact bW⟩
    ·exact⟨#[],by rw[aL<|V b _ e,aL x,e];simp⟩
  have aF:bS X.prog X.w (upd (upd H P<|.cS<|l++ #[rawInt f.line,rawInt f.col,.ref i]) i<|.aU G<|.own i) (F.push<|PySem.W.kla_obj "<lambda>" dw d g scope [(y,c)] ((X.mg "__name__").getD .none) i k):=λa o e=>by
   by_cases ha:a=i
   ·subst ha;rw[bW] at e;cases e;exact⟨Uw _ S,_,Uw _ S⟩
   ·rw[aL ha] at e;by_cases hp:a=P
    ·subst hp;rw[bW] at e;cases e;exact U
    ·rw[aL hp] at e;refine(I.aF a o e).eE (λb u x q=>m b u ?_ q) (λb r=>h b _ r<|λl z=>nomatch z) λb xs r=>h b _ r<|λl z=>nomatch z
     rcases x with rfl|x
     ·exact hp
     ·exact T b _ x<|λl z=>nomatch z
  have I':=I.un (t':=tk) un aF;refine⟨_,i,k,(X.mg "__name__").getD .none,_,G,vs,t,rfl,vm I' (UR _ rfl) ?_ (VQ<|Um I.lt j) (I.rM j)<|λv z=>?_,λ_ _ R=>R.tab hT C ok Z Y hv,h,bW,Y,hv⟩
  ·rw[aL<|VQ Q,aL<|p _<|I.aF.fresh j];exact I.aF.fresh j
  ·cases z
end
section
variable{X:Cx}{pins:List (Addr×Obj)}{σ:L2.St}{H:Hp}{l f:Addr}{xs:List Int}{kf:Nat->Int}
def vI(J:Inv X pins σ H s)(m:H l=aa (.lst<|xs.map V.int)):∃a:List ah,s.heap.IsList l a.toArray/\a.length=xs.length/\∀(j:Nat) (v),a[j]? =aa v->∃n t,xs[j]? =aa n/\v=.int n t:=by
 obtain⟨_,a,c,r,e⟩:=J.aF l _ m;have b:=by have:=VO r;rwa [Ub] at this
 refine⟨a,⟨_,e,rfl,c,rfl⟩,b.symm,λj v g=>?_⟩;have h:j<xs.length:=by rw[b];exact(T6.mp g).1
 obtain⟨u,d,t,k⟩:=Paired.at r (i:=j) (x:=V.int xs[j])<|by simp[h]
 rw[g] at d;cases d;exact⟨xs[j],t,by simp[h],k⟩
def m_(B:eW X pins H b)(J:Inv X pins σ H s)(k:∀q o,q≠b->s.heap.get? q=aa o->h'.get? q=aa o):Inv X pins σ H {s with heap:=h',toks:=tk}:=
 J.turned k B.1 B.2.1 B.2.2.2.1 B.2.2.2.2.1 B.2.2.2.2.2
def kq(B:eW X pins H b)(J:Inv X p2 σ H s)(e:s.heap.get? b=aa o)(a:∀v,o.data≠.cell v):Inv X ((b,o)::p2) σ H s:=
 vm J e B.1 B.2.1 B.2.2.1 a
def rK(J:Inv X (p::q::pins) σ H s):Inv X pins σ H s:=J.j0 λr a=>J.pin r<|Uu _<|.tail _<|.tail _ a
noncomputable abbrev pI(n m:Int)(t u:Tok)(c:Nat):Obj:=seqObj "list" #[.int n t,.int m u] c
def GW(hh:X.A.handled=ae)(hl:H l=aa (.lst<|xs.map V.int))(turn:∀(i:Nat) (n:Int),xs[i]? =aa n->∀(t:Tok) (p2:List<|Addr×Obj) (s:Shared),(∀p∈pins,p∈p2)->Inv X p2 σ H s->
  wpAny (model X.prog X.w) X.A.in1 (call (.ref f) [.int n t]) (λz s'=>(∃t,z=.int (kf i) t)/\Inv X p2 σ H s') (λ_ _=>False) s)
 {R:Result->Shared->Prop} (hR:∀(i:Nat) (n:Int) (t:Tok) (s':Shared),xs[i]? =aa n->(∀j,j<xs.length->kf i<=kf j/\(j<i->kf i<kf j))->Inv X pins σ H s'->R (.ok<|.ret<|.int n t) s')
 {S I:Addr} (E:S≠I) (hS:eW X pins H S) (hI:eW X pins H I) (U:l≠I):
 ∀(r j i:Nat) (s:Shared) (n:Int) (t M:Tok) (c:Nat) (oI:Obj),xs.length-(j+1)=r->j+1<=xs.length->Inv X ((S,pI n (kf i) t M c)::(I,oI)::pins) σ H s->s.heap.IsListIter I l (j+1)->xs[i]? =aa n->i<=j-> (∀k,k<=j->kf i<=kf k/\(k<i->kf i<kf k))->codeAny (model X.prog X.w) X.A (.builtin "min.loop" ⟨[.ref I,.ref f,.ref S],[]⟩) R s:=by
 have nm:(toString "min"++toString ".loop":String)="min.loop":=by decide
 intro r;induction r with
 |zero=>
  intro j i s n t M c oI hr hj J L hn Qd b;obtain⟨g,hL,d,Q⟩:=vI J hl;have pS:=(J.pin _<|Uu _<|.head _).1;have W:=Walks.list (prog:=X.prog) (w:=X.w) (A:=X.A.in1) hh I l U g.toArray;have hz:g.toArray.size=j+1:=by rw[Uh,d];omega
  refine WG Xp ?_;rw[Xq VN _];show wpAny _ X.A.in1 (seqItems? (.ref S) >>= _) _ _ _;refine T3<|Xr (show s.heap.get? S=_ from pS) rfl ?_;show wpAny _ X.A.in1 (tryCatch (pyNext<|.ref I) _ >>= _) _ _ _;refine T3<|V2<|W.done _ _ _ ⟨by rw[hz];exact L,hL⟩ λh' C m=>?_
  have J1:=m_ (tk:=C) hI (rK J) λq o K e=>m q o (by simpa using K) e
  have Qe:=m S _ (by simpa using E) pS;have a:=Xs h' S<|Obj.mapSeq λ_=>(#[]:Array ah)
  show wpAny _ X.A.in1 (updateSeq S (λ_=> #[]) >>= _) _ _ _;refine T3<|WD (show h'.get? S=_ from Qe) rfl<|T3<|WH<|Uj ?_;exact hR i n t _ hn (λk hk=>b k<|by omega)<|m_ (tk:=C) hS J1 λq o K e=>(a.2 q K).trans e
 |succ r ih=>
  intro j i s n t M c oI hr hj J L hn Qd b;obtain⟨g,hL,d,Q⟩:=vI J hl;have pS:=(J.pin _<|Uu _<|.head _).1;have W:=Walks.list (prog:=X.prog) (w:=X.w) (A:=X.A.in1) hh I l U g.toArray;have oe:j+1<g.toArray.size:=by rw[Uh,d];omega
  refine WG Xp ?_;rw[Xq VN _];show wpAny _ X.A.in1 (seqItems? (.ref S) >>= _) _ _ _;refine T3<|Xr (show s.heap.get? S=_ from pS) rfl ?_;show wpAny _ X.A.in1 (tryCatch (pyNext<|.ref I) _ >>= _) _ _ _;refine T3<|V2<|W.item (j+1) _ _ _ oe ⟨L,hL⟩ λv h' C hP st m=>?_
  obtain⟨y,u,T,rfl⟩:=Q (j+1) v<|by simpa using hP
  obtain⟨N,xi,Z,D⟩:=id st.1;have J1:=m_ (tk:=C) hI (rK J) λq o K e=>m q o (by simpa using K) e
  have J2:=kq (o:=pI n (kf i) t M c) hS (kq (o:=N) hI J1 xi λz e=>by rw[D] at e;cases e) (m S _ (by simpa using E) pS) λz e=>by cases e
  show wpAny _ X.A.in1 (tryCatch (holding [.int y u]<|call (.ref f) [.int y u]) _ >>= _) _ _ _;refine T3<|V2<|Vl<|Uv (turn (j+1) y T u _ _ (λp hp=>.tail _<|.tail _ hp) J2) (λx O he=>?_) λ_ _ z=>z.elim
  obtain⟨⟨B,rfl⟩,J3⟩:=he;have qS:=(J3.pin _<|Uu _<|.head _).1;have qI:=(J3.pin _<|Uu _<|.tail _<|.head _).1;have Y:O.heap.IsListIter I l (j+1+1):=⟨N,qI,Z,D⟩;show wpAny _ X.A.in1 (tryCatch (holding [.int y u,.int (kf<|j+1) B]<|richCompare .Lt (.int (kf<|j+1) B) (.int (kf i) M) >>= _) _ >>= _) _ _ _;refine T3<|V2<|Vl<|T3<|CmpOf.ints_lt (prog:=X.prog) (w:=X.w) (A:=X.A.in1) (P:=λi v=>∃t,v=.int (kf i) t) kf (λi v h=>h) (j+1) i _ _ _ _ _ ⟨B,rfl⟩ ⟨M,rfl⟩ ?_;refine T3<|Vl<|Vt<|T3<|WH<|Uj ?_;by_cases G:kf (j+1)<kf i
  ·have a:=Xs O.heap S (Obj.mapSeq λ_=> #[.int y u,.int (kf<|j+1) B]);obtain⟨c2,xj⟩:∃c2,(O.heap.update S<|Obj.mapSeq λ_=> #[.int y u,.int (kf<|j+1) B]).get? S=aa (pI y (kf<|j+1) u B c2):=⟨_,get?_update_seq (show O.heap.get? S=_ from qS) λ_=> #[.int y u,.int (kf<|j+1) B]⟩;simp only[G,Xb,Ul];refine T3<|WD (show O.heap.get? S=_ from qS) rfl<|T3<|WH ?_;rw[nm];have J4:=m_ (tk:=O.toks) hS (rK J3)<|λq o K e=>(a.2 q K).trans e
   have J5:=kq (o:=pI y (kf<|j+1) u B c2) hS (kq (o:=N) hI J4 ((a.2 I E.symm).trans qI) λz e=>by rw[D] at e;cases e) xj λz e=>by cases e
   refine Uj ⟨WI VN _,ih (j+1) (j+1) _ y u B c2 N (by omega) (by omega) J5 ⟨N,(a.2 I E.symm).trans qI,Z,D⟩ T (T8 _) λk hk=>?_⟩;by_cases e:k=j+1
   ·subst e;exact⟨by omega,λ_=>by omega⟩
   ·have b1:=b k (by omega);exact⟨by omega,λ_=>by omega⟩
  ·simp only[G];refine T3<|WH ?_;rw[nm];refine Uj ⟨WI VN _,ih (j+1) i _ n t M c N (by omega) (by omega) J3 Y hn (by omega) λk hk=>?_⟩;by_cases e:k=j+1
   ·subst e;exact⟨by omega,λ_=>by omega⟩
   ·exact b k<|by omega
def IV{s:Shared}{E:ah->Shared->Prop}{Q:ah->Shared->Prop}(hh:X.A.handled=ae)(J:Inv X pins σ H s)(hl:H l=aa (.lst<|xs.map V.int))(P:0<xs.length)(turn:∀(i:Nat) (n:Int),xs[i]? =aa n->∀(t:Tok) (p2:List<|Addr×Obj) (s:Shared),(∀p∈pins,p∈p2)->Inv X p2 σ H s->
  wpAny (model X.prog X.w) X.A.in1 (call (.ref f) [.int n t]) (λz s'=>(∃t,z=.int (kf i) t)/\Inv X p2 σ H s') (λ_ _=>False) s)
 (hQ:∀(i:Nat) (n:Int) (t:Tok) (s':Shared),xs[i]? =aa n->(∀j,j<xs.length->kf i<=kf j/\(j<i->kf i<kf j))->Inv X pins σ H s'->Q (.int n t) s'):
 wpAny (model X.prog X.w) X.A (call (.builtin "min") [.ref l] [(Str.ofString "key",.ref f)]) Q E s:=by
 have nm:(toString "min"++toString ".loop":String)="min.loop":=by decide
 obtain⟨M,hL,L,Qf⟩:=vI J hl;have BO:l<s.heap.objs.size:=J.aF.lt hl;refine kmk_tree PySem.F.kind_min PySem.F.plain_min PySem.F.entry_min (kmk_min_key _ _) ?_;show wpAny _ X.A.in1 (Builtin.Builtins.bindParams "min" ["key","default"] 0 ⟨[],[(Str.ofString "key",.ref f)]⟩ >>= _) _ _ s;refine T3<|wpAny_of_eq (show Builtin.Builtins.bindParams "min" ["key","default"] 0 ⟨[],[(Str.ofString "key",.ref f)]⟩=pure [aa<|.ref f,ae] from rfl)<|T3<|Uj ?_;refine T3<|wpAny_pyIter_list hL<|T3<|wpAny_newList ?_<|Vc _;rw[nm];have I0:s.heap.objs.size<(s.heap.push {cls:=.type "list_iterator",data:=.fields #[.ref l,.int 0 0]}).objs.size:=by rw[size_push'];omega
 generalize h:s.heap.objs.size=I at*;generalize R:s.heap.push {cls:=.type "list_iterator",data:=.fields #[.ref l,.int 0 0]}=h1 at*;have Qg:h1.get? I=aa {cls:=.type "list_iterator",data:=.fields #[.ref l,.int 0 0]}:=by rw[<-R,<-h];exact UR _ rfl
 have k1:∀b o,s.heap.get? b=aa o->h1.get? b=aa o:=λb o e=>by rw[<-R];exact Uw _ e
 generalize Qh:h1.objs.size=S at*;generalize G:h1.push (seqObj "list" #[] 0)=h2 at*;have C:h2.get? S=aa (seqObj "list" #[] 0):=by rw[<-G,<-Qh];exact UR _ rfl
 have k2:∀b o,h1.get? b=aa o->h2.get? b=aa o:=λb o e=>by rw[<-G];exact Uw _ e
 have U:eW X pins H I:=J.kD (V4 h)<|J.aF.fresh<|V4 h;have N:s.heap.objs.size<=S:=by rw[h];exact U6 I0
 have Y:eW X pins H S:=J.kD N<|J.aF.fresh N;have u:S≠I:=VQ I0;have K:l≠I:=UB BO;have J0:Inv X pins σ H {s with heap:=h2}:=J.kept (t':=s.toks) λb o e=>k2 b o<|k1 b o e
 refine Uj ⟨WI VN _,WG Xp ?_⟩;rw[Xq VN _];show wpAny _ X.A.in1 (seqItems? (.ref _) >>= _) _ _ _;refine T3<|Xr C rfl ?_;have W:=Walks.list (prog:=X.prog) (w:=X.w) (A:=X.A.in1) hh I l K M.toArray;have Qi:h2.IsList l M.toArray:=by obtain⟨o,e,r⟩:=hL;exact⟨o,k2 _ _<|k1 _ _ e,r⟩
 show wpAny _ X.A.in1 (tryCatch (pyNext<|.ref I) _ >>= _) _ _ _;refine T3<|V2<|W.item 0 _ _ _ (by rw[Uh,L];exact P) ⟨⟨_,k2 _ _ Qg,rfl,rfl⟩,Qi⟩ λv h' Qj hP st O=>?_
 obtain⟨m,g,D,rfl⟩:=Qf 0 v<|by simpa using hP
 obtain⟨Z,xi,B3,y⟩:=id st.1;have J1:=m_ (tk:=Qj) U J0 λq o hq e=>O q o (by simpa using hq) e
 have J2:=kq (o:=seqObj "list" #[] 0) Y (kq (o:=Z) U J1 xi λz e=>by rw[y] at e;cases e) (O S _ (by simpa using u) C) λz e=>by cases e
 show wpAny _ X.A.in1 (tryCatch (holding [.int m g]<|call (.ref f) [.int m g]) _ >>= _) _ _ _;refine T3<|V2<|Vl<|Uv (turn 0 m D g _ _ (λp hp=>.tail _<|.tail _ hp) J2) (λx T he=>?_) λ_ _ z=>z.elim
 obtain⟨⟨B,rfl⟩,J3⟩:=he;have qS:=(J3.pin _<|Uu _<|.head _).1;have qI:=(J3.pin _<|Uu _<|.tail _<|.head _).1;have d:=Xs T.heap S<|Obj.mapSeq λ_=> #[.int m g,.int (kf 0) B]
 obtain⟨c2,xj⟩:∃c2,(T.heap.update S<|Obj.mapSeq λ_=> #[.int m g,.int (kf 0) B]).get? S=aa (pI m (kf 0) g B c2):=⟨_,get?_update_seq (show T.heap.get? S=_ from qS) λ_=> #[.int m g,.int (kf 0) B]⟩;show wpAny _ X.A.in1 (updateSeq S (λ_=> #[.int m g,.int (kf 0) B]) >>= _) _ _ _;refine T3<|WD (show T.heap.get? S=_ from qS) rfl ?_;rw[nm];have J4:=m_ (tk:=T.toks) Y (rK J3)<|λq o hq e=>(d.2 q hq).trans e
 have J5:=kq Y (kq U J4 ((d.2 I u.symm).trans qI) λz e=>by rw[y] at e;cases e) xj λz e=>by cases e
 refine Uj ⟨WI VN _,GW hh hl turn (λi n t s' a b c=>hQ i n t s' a b c) u Y U K _ 0 0 _ m g B c2 Z rfl P J5 ⟨Z,(d.2 I u.symm).trans qI,B3,y⟩ D (T8 _) λk hk=>?_⟩;have e:k=0:=by omega
 subst e;exact⟨by omega,λz=>absurd z<|UY _⟩
end
noncomputable abbrev Bp(x y g:Str)(c e a b d f:Pos):Expr:=.Call (.Name "len" c) [.Subscript (.Attribute (.Name y e) g a) (.Name x b) d] [] f
noncomputable abbrev fP(K:Fg)(H:Hp):List (Key×V)->List (Int×Nat)->Prop:=Paired λa q=>a.1=Sum.inl q.1/\∃c b,a.2=.ref c/\bg K H c b/\b.length=q.2
theorem fP.val{K:Fg}:∀{j:List (Key×V)} {L:List (Int×Nat)},fP K H j L->(j.map (·.1)).Nodup->∀{i:Nat} {n:Int} {m:Nat},L[i]? =aa (n,m)->∃d ys,cC j (Sum.inl n)=aa (.ref d)/\bg K H d ys/\ys.length=m
 |_,_,.nil,_,i,n,m,e=>by simp at e
 |_,_,.cons (a:=f) ⟨h1,d,ys,h2,h3,h4⟩ t,c,i,n,m,e=>by
  cases i with
  |zero=>cases e;exact⟨d,ys,by rw[oA h1,h2],h3,h4⟩
  |succ i=>
   have c:=U9.mp<|show(f.1::_).Nodup from c
   obtain⟨h,g,b,q,r⟩:=fP.val t c.2 e;refine⟨h,g,?_,q,r⟩;rw[oB λz=>c.1 ?_]
   ·exact b
   ·obtain⟨v,s⟩:∃v,cC _ (Sum.inl n)=aa v:=⟨_,b⟩;rw[z];unfold cC at b;cases k:List.find? (λ(f:Key×V)=>ai<|f.1=Sum.inl n) _ with
    |none=>rw[k] at b;cases b
    |some w=>have o:=Xd k;have p:=Xc k;have l:=UD o;exact Us.mpr ⟨w,p,l⟩
theorem fP.keys{K:Fg}:∀{c:List (Key×V)} {L:List (Int×Nat)},fP K H c L->(c.map λk=>kV k.1)=(L.map (·.1)).map V.int
 |_,_,.nil=>rfl
 |_,_,.cons (a:=kv) (b:=q) ⟨h1,_⟩ t=>by show kV kv.1::_=V.int q.1::_;rw[h1];exact UI _<|fP.keys t
def fP.mono{K:Fg}(h:fP K H ks L)(k:∀a ys,bg K H a ys->bg K H' a ys):fP K H' ks L:=
 Paired.nS (λ_ _ ⟨b,a,ys,d,h3,c⟩=>⟨b,a,ys,d,k a ys h3,c⟩) h
def KV.keys{a:List (Key×V)}(h:KV a vs):a.map (·.1)=vs.map (·.1):=by
 induction h with
 |nil=>rfl
 |cons h _ b=>exact congr (UI List.cons h.1) b
noncomputable def jN(L:List<|Int×Nat)(j:Nat):Int:=(((L.map (·.2)).getD j 0:Nat):Int)
noncomputable def AN(L:List<|Int×Nat)(i:Nat):Prop:=∀j,j<L.length->jN L i<=jN L j/\(j<i->jN L i<jN L j)
section
variable{X:Cx}{i:Nat}{x y g:Str}{c0 P:Addr}{scope:Scope}{params:Arguments}{q1 q2 q3 q4 q5 q6 p1 p2 p3 p4 wy kp nU pos:Pos}
noncomputable def Ny(K:Fg)(i:Nat)(g:Str):TE:=λk H Q=>∃b C h f c e L,k[i]? =aa (aa<|.ref b)/\H b=aa (.ins C h f)/\d_ K C/\fe K C g/\f.lookup g=aa (.ref c)/\H c=aa (.dK e)/\fP K H e L/\0<L.length/\Tb K H/\
 ∀j n m q a,L[j]? =aa (n,m)->AN L j->H q=ae->(∀d M,Rel K d M (upd H q (.lst ((L.map (·.1)).map V.int)))->Rel K d M a)->Q (.int n) a
def Lm{k:Nat}(hr:bA k X.A)(hT:PySem.W.tabIn X.K gy=aa (c0,P))(CK:kC X.K c0 P)(hb:iW X.mg X.base)(S:X.env.code=.ref c0)(hq:X.env.qual++"<lambda>"=dw)(LS:pT scope x y)(kT:∀c,X.env.cells.lookup y=aa c->closureFor scope X.env=pure [(y,c)])(Nz:defaultsOf params X.env=([],[]))(T:∀body cl pm cd sN v,bindArgs (PySem.W.kla_fn "<lambda>" dw params body scope cl pm cd sN) ⟨[v],[]⟩=pure [(x,v)])(hlen:X.mg "len"=ae)(NA:X.mg "min"=ae)(U:X.mg "list"=ae)(xk:Gl X "min")(xl:Gl X "list")(Qk:scope.names.lookup ("len":Str)=aa .globalImplicit)(hN:X.N[i]? =aa y)(hy:X.env.scope.names.lookup y=aa .cell)(dy:(y==("__debug__":Str))=ag)(cy:(y==("__classdict__":Str))=ag)(dx:(x==("__debug__":Str))=ag)(cx:(x==("__classdict__":Str))=ag):
 PE X (.Call (.Name "min" p1) [.Call (.Name "list" p2) [.Attribute (.Name y p3) g p4] [] nU] [⟨aa "key",.Lambda params (Bp x y g q1 q2 q3 q4 q5 q6) scope wy,kp⟩] pos) (Ny X.K i g):=by
 intro pins s σ H Q I h;obtain⟨D,C,F,gs,M,ks,L,sO,ho,cl,na,lk,hd,hL,h0,tb,q⟩:=h;refine VC<|j9 I xk NA (show bootBuiltins "min"=aa (.builtin "min") by kernel_rfl) ?_;refine callWith_kw ?_;have pe:=uj (X:=X) (p:=p2) (pos:=nU) (Dy hr.hd) xl U (show bootBuiltins "list"=aa (.type "list") by kernel_rfl)<|dE (vo (f:=g) (pos:=p4) (ng (X:=X) (pos:=p3) hN (.inr<|.inl hy) dy cy) rfl) fi;have pa:=dE pe fi;refine aN (pa pos pins s σ H (λvs H1=>∃r,vs=[.ref r]/\H r=ae/\H1=upd H r (.lst ((L.map (·.1)).map V.int))) I ?_) λus s1 ⟨vs,H1,I1,rv,r,e1,l,e2⟩=>?_
 ·refine⟨.ref D,sO,D,C,F,gs,.ref M,rfl,ho,cl,na,lk,M,ks,rfl,hd,λr l=>⟨r,rfl,l,?_⟩⟩;rw[fP.keys hL]
 subst e1 e2;obtain⟨u0,rfl,Ql⟩:=vals1 rv;cases Ql;have NC:upd H r (.lst ((L.map (·.1)).map V.int)) D=aa (.ins C F gs):=by rw[aL<|cP ho l];exact ho
 have ND:upd H r (.lst ((L.map (·.1)).map V.int)) M=aa (.dK ks):=by rw[aL<|cP hd l];exact hd
 have w:∀{p2:List (Addr×Obj)} {H3:Hp} {s3:Shared},Inv X p2 σ H3 s3->∃u c,RelV (.ref D) u/\X.env.cells.lookup y=aa c/\s3.heap.IsCell c (aa u):=λJ=>by
  obtain⟨m,_,NG⟩:=J.loc;obtain⟨u,ru,look⟩:=NG i y (.ref D) hN sO<|.inr<|.inl hy;rcases look with⟨z,_⟩|⟨_,c,e,z⟩
  ·have z:X.env.scope.names.lookup y=aa .local:=z;rw[hy] at z;cases z
  ·exact⟨u,c,ru,e,z⟩
 obtain⟨_,c,_,hc,_⟩:=w I1;obtain⟨ps,hP,ok⟩:=(tb.new (u:=.lst ((L.map (·.1)).map V.int)) l) c0 P hT;refine kws_cons<|Uv (GV (E:=X.xe) I1 hT CK hb S (kT c hc) hq Nz hP ok) (λz s2 made=>kws_nil ?_) λ_ _ e=>e
 obtain⟨f,c',sN,pm,Z,oc,Qm,t,rfl,I2,NH,d,qd,Qn,Qo⟩:=made;have Qp:Z r=aa (.lst ((L.map (·.1)).map V.int)):=d r _ bW<|λps z=>nomatch z
 have NI:Z D=aa (.ins C F gs):=d D _ NC<|λps z=>nomatch z
 have O:Z M=aa (.dK ks):=d M _ ND<|λps z=>nomatch z
 have Qq:∀R ys,bg X.K H R ys->bg X.K Z R ys:=λR ys hs=>by
  rcases hs with(z|⟨o,z⟩)|z
  ·exact .inl<|.inl<|d R _ (by rw[aL<|cP z l];exact z)<|λps z=>nomatch z
  ·exact .inl<|.inr ⟨o,d R _ (by rw[aL<|cP z l];exact z)<|λps z=>nomatch z⟩
  ·exact .inr z
 have Qr:=fP.mono hL Qq;refine IV (X:=X) (xs:=L.map (·.1)) (kf:=jN L) hr.hd I2 Qp (by rw[Ub];exact h0) (λj n B t2 SJ s3 NJ J=>?_) λj n t2 s3 B best J=>?_
 ·obtain⟨u,c2,ru,e2,nt⟩:=w J;rw[hc] at e2;cases e2;obtain⟨⟨Y,m⟩,G,e3⟩:∃q,L[j]? =aa q/\q.1=n:=by
   rw[UW] at B;cases e:L[j]? with
   |none=>rw[e] at B;cases B
   |some q=>rw[e] at B;exact⟨q,rfl,Ua B⟩
  have e3:Y=n:=e3;subst e3;have nd:(ks.map (·.1)).Nodup:=by obtain⟨_,_,vs,kv,o,es,ep,_,_,_,_,_,nd⟩:=J.aF M _ O;rw[KV.keys kv];exact nd
  obtain⟨R,ys,v1,v2,v3⟩:=fP.val Qr nd G;have hm:jN L j=(m:Int):=by unfold jN;simp[List.getD,G]
  rw[hm];have Qs:(qi X scope f c' [(y,c)] [x,y] s3 Z).A.units+1<cLine:=by have:=hr.un;show X.A.units+1+3+1<cLine;omega
  refine GU (a:=.ref D) (b:=.int Y) LS J hr hc nt ru ⟨t2,rfl⟩ (J.pin _<|Uu _<|NJ _<|.head _).1 ⟨c',oc,Qm,t,rfl,(J.aF c' _ qd).1,Qn,Qo⟩ (T _ _ _ _ _ _) (mP xp Qk hlen PySem.boot_len<|dE (zq Qs (vo (ng (i:=1) rfl (.inr<|.inr LS.B2) dy cy) rfl) (ng (i:=0) rfl (.inl LS.loc) dx cx)<|λ_ _=>rfl) fi) ?_
  refine⟨.ref D,rfl,D,C,F,gs,.ref M,rfl,NI,cl,na,lk,.int Y,rfl,M,.ref R,rfl,?_,R,ys,rfl,.inl v2,by rw[v3],rfl⟩;rw[<-v1];exact eF.k (k:=Sum.inl Y) O
 ·obtain⟨⟨Y,m⟩,G,e3⟩:∃q,L[j]? =aa q/\q.1=n:=by
   rw[UW] at B;cases e:L[j]? with
   |none=>rw[e] at B;cases B
   |some q=>rw[e] at B;exact⟨q,rfl,Ua B⟩
  subst e3;refine⟨.int Y,Z,J.j0 λp hp=>J.pin p<|Uu _<|.tail _ hp,⟨t2,rfl⟩,q j Y m r Z G (λk hk=>best k (by rw[Ub];exact hk)) l NH⟩
end
noncomputable abbrev iS(M:VM.Mem):List (Int×VM.W)->List (Int×Nat)->Prop:=Paired λa q=>a.1=q.1/\∃b,VM.a9 M a.2=aa b/\b.length=q.2
theorem uh:∀{r:List (Int×VM.W)} {k:Int} {n:Nat} {f:Int},gB M k n r=aa f->
 ∃L:List (Int×Nat),iS M r L/\((f=k/\∀q∈L,n<=q.2)\/∃(j m:Nat),L[j]? =aa (f,m)/\m<n/\∀(i) (q),L[i]? =aa q->m<=q.2/\(i<j->m<q.2))
 |[],k,n,f,h=>⟨[],.nil,.inl ⟨(Ua h).symm,λq g=>nomatch g⟩⟩
 |(i,v)::r,k,n,f,h=>by
  unfold gB at h;cases e:VM.a9 M v with
  |none=>rw[e] at h;cases h
  |some xs=>
   rw[e] at h;have h:(if xs.length<n then gB M i xs.length r else gB M k n r)=aa f:=h;by_cases c:xs.length<n
   ·rw[T1 c] at h;obtain⟨L,s,d⟩:=uh h;refine⟨(i,xs.length)::L,.cons ⟨rfl,xs,e,rfl⟩ s,.inr ?_⟩;rcases d with⟨rfl,d⟩|⟨j,m,p,l,o⟩
    ·refine⟨0,xs.length,rfl,c,λa q b=>?_⟩;cases a with
     |zero=>have b:=b
            cases b;exact⟨T8 _,λz=>absurd z<|UY _⟩
     |succ a=>exact⟨d q<|Vn<|by simpa using b,λz=>by omega⟩
    ·refine⟨j+1,m,by simpa using p,by omega,λa q b=>?_⟩;cases a with
     |zero=>have b:=b
            cases b;exact⟨U6 l,λ_=>l⟩
     |succ a=>have:=o a q (by simpa using b);exact⟨this.1,λz=>this.2<|by omega⟩
   ·rw[T2 c] at h;obtain⟨L,s,d⟩:=uh h;refine⟨(i,xs.length)::L,.cons ⟨rfl,xs,e,rfl⟩ s,?_⟩;rcases d with⟨rfl,d⟩|⟨j,m,p,l,o⟩
    ·exact .inl ⟨rfl,λq g=>by
      rcases T4.mp g with rfl|g
      ·exact VT c
      ·exact d q g⟩
    ·refine .inr ⟨j+1,m,by simpa using p,l,λa q b=>?_⟩;cases a with
     |zero=>have b:=b
            cases b;exact⟨by omega,λ_=>by omega⟩
     |succ a=>have:=o a q (by simpa using b);exact⟨this.1,λz=>this.2<|by omega⟩
def rz(h:L[j]? =aa q):jN L j=(q.2:Int):=by unfold jN;simp[h]
def ER(h:VM.minD M kvs=aa k):∃L:List (Int×Nat),iS M kvs L/\0<L.length/\∀(j) (n) (m),L[j]? =aa (n,m)->AN L j->n=k:=by
 cases kvs with
 |nil=>cases h
 |cons p r=>
  obtain⟨i,v⟩:=p;have h:(match VM.a9 M v with|some xs=>gB M i xs.length r|none=>ae)=aa k:=h;cases e:VM.a9 M v with
  |none=>rw[e] at h;cases h
  |some xs=>
   rw[e] at h;obtain⟨L,y,g⟩:=uh h;refine⟨(i,xs.length)::L,.cons ⟨rfl,xs,e,rfl⟩ y,Wz _,λj n m d o=>?_⟩;have w:∀{a:Nat} {q:Int×Nat},((i,xs.length)::L)[a]? =aa q->a<((i,xs.length)::L).length:=λu=>(T6.mp u).1
   rcases g with⟨rfl,g⟩|⟨b,x,s,A,t⟩
   ·cases j with
    |zero=>have d:=d
           cases d;rfl
    |succ j=>
     have q:=(o 0<|Wz _).2<|Wz _;rw[rz d,rz rfl] at q;have:=g (n,m)<|Vn<|by simpa using d
     omega
   ·have l:((i,xs.length)::L)[b+1]? =aa (k,x):=by simpa using s
    have q:=o (b+1)<|w l;rw[rz d,rz l] at q;cases j with
    |zero=>cases d;omega
    |succ j=>
     have f:=by simpa using d
     have z:=t j (n,m) f;by_cases c:j<b
     ·have:=z.2 c;omega
     ·by_cases B:b<j
      ·have:=q.2 (by omega);omega
      ·have:j=b:=by omega
       subst this;rw[s] at f;cases f;rfl
theorem iS.Bq{K:Fg}(R:Rel K ι M H):∀{kvs:List (Int×VM.W)} {a:List (Key×V)} {L:List (Int×Nat)},dC ι kvs a->iS M kvs L->fP K H a L
 |_,_,_,.nil,.nil=>.nil
 |_,_,_,.cons ⟨h,c⟩ t,.cons ⟨g1,xs,g2,g3⟩ d=>by obtain⟨p,g,f,e,b⟩:=R.a9 g2 c;exact .cons ⟨by rw[h,g1],p,g,f,e,by rw[<-Paired.len b];exact g3⟩<|iS.Bq R t d
theorem iS.keys:∀{kvs:List (Int×VM.W)} {L:List (Int×Nat)},iS M kvs L->bj ι (kvs.map λkv=>VM.W.int kv.1) ((L.map (·.1)).map V.int)
 |_,_,.nil=>.nil
 |_,_,.cons ⟨a,_⟩ t=>.cons (by show V.int _=V.int _;rw[a])<|iS.keys t
section
variable{X:Cx}{i:Nat}{x y g:Str}{c0 P:Addr}{scope:Scope}{params:Arguments}{q1 q2 q3 q4 q5 q6 p1 p2 p3 p4 wy kp nU pos:Pos}{cn f:List Nat}{C:Addr}
def Ln{k:Nat}(hr:bA k X.A)(T:jx X.K cn C)(hn:fe X.K C g)(hg:g=txt f)(hT:PySem.W.tabIn X.K gy=aa (c0,P))(CK:kC X.K c0 P)(hb:iW X.mg X.base)(t:X.env.code=.ref c0)(hq:X.env.qual++"<lambda>"=dw)(LS:pT scope x y)(Z:∀c,X.env.cells.lookup y=aa c->closureFor scope X.env=pure [(y,c)])(E:defaultsOf params X.env=([],[]))(u:∀F cl pm cd sN v,bindArgs (PySem.W.kla_fn "<lambda>" dw params F scope cl pm cd sN) ⟨[v],[]⟩=pure [(x,v)])(hlen:X.mg "len"=ae)(I:X.mg "min"=ae)(B:X.mg "list"=ae)(xk:Gl X "min")(xl:Gl X "list")(U:scope.names.lookup ("len":Str)=aa .globalImplicit)(hN:X.N[i]? =aa y)(hy:X.env.scope.names.lookup y=aa .cell)(dy:(y==("__debug__":Str))=ag)(cy:(y==("__classdict__":Str))=ag)(dx:(x==("__debug__":Str))=ag)(cx:(x==("__classdict__":Str))=ag):
 SE X (.Call (.Name "min" p1) [.Call (.Name "list" p2) [.Attribute (.Name y p3) g p4] [] nU] [⟨aa "key",.Lambda params (Bp x y g q1 q2 q3 q4 q5 q6) scope wy,kp⟩] pos) (px<|aM cn f<|aj i):=by
 refine⟨_,Lm hr hT CK hb t hq LS Z E u hlen I B xk xl U hN hy dy cy dx cx,λr M H σ τ Q R S h=>?_⟩;subst hg;unfold px aM aj at h;cases e:σ[i]? with
 |none=>rw[e] at h;exact(h).elim
 |some o=>
  cases o with
  |none=>rw[e] at h;exact(h).elim
  |some w=>
   rw[e] at h;obtain⟨o',Qt,v,rfl,rv⟩:=Paired.at S e;have s:au RV X.K r ((lZ cn f w M).bind λx M1=>match VM.bq M1 x with|some (_,d)=>(match VM.minD M1 d with|some k=>.ok (.int k) (M1++[.lst<|d.map λl=>.int l.1])|none=>.bad)|none=>.bad) Q:=h;unfold lZ at s;cases e2:VM.dO M w with
   |none=>rw[e2] at s;exact(s).elim
   |some z=>
    obtain⟨a,D,V⟩:=z;rw[e2] at s;obtain⟨sp,C',Qu,gs,_,ha,hm,rfl,hC,hp,rf⟩:=R.dO e2 rv;by_cases hc:D=cn
    ·subst hc;rw[T.at_] at hC;cases hC;rcases rf.get f with⟨e3,_⟩|⟨w2,v2,e3,e4,Qw⟩
     ·have p:au RV X.K r ((if D=D then(match cD f V with|some v=>VM.R.ok v M|none=>.bad) else .bad).bind _) Q:=s;rw[T1 rfl,e3] at p;exact(p).elim
     ·have p:au RV X.K r ((if D=D then(match cD f V with|some v=>VM.R.ok v M|none=>.bad) else .bad).bind _) Q:=s;rw[T1 rfl,e3] at p;have h3:au RV X.K r (match VM.bq M w2 with|some (_,d)=>(match VM.minD M d with|some k=>.ok (.int k) (M++[.lst<|d.map λl=>.int l.1])|none=>.bad)|none=>.bad) Q:=p;cases Y:VM.bq M w2 with
      |none=>rw[Y] at h3;exact(h3).elim
      |some z=>
       obtain⟨b,d⟩:=z;rw[Y] at h3;have O:au RV X.K r (match VM.minD M d with|some k=>.ok (.int k) (M++[.lst<|d.map λl=>.int l.1])|none=>.bad) Q:=h3;obtain⟨dp,ks,rfl,n_,BV,rfl,hd,rk⟩:=R.bq Y Qw;cases e6:VM.minD M d with
       |none=>rw[e6] at O;exact(O).elim
       |some kk=>
        rw[e6] at O;obtain⟨L,vl,h0,G⟩:=ER e6;refine⟨sp,C,Qu,gs,dp,ks,L,Qt,hp,T.cl,hn,e4,hd,iS.Bq R rk vl,h0,R.tb,λj n m q H' ej hj Qx J=>?_⟩;rw[G j n m ej hj];have R2:=J (r++[q]) (M++[.lst<|d.map λl=>.int l.1])<|R.new (o:=.lst<|d.map λl=>.int l.1) Qx λcb pre=>⟨_,bW,iS.keys vl⟩
        exact O (r++[q]) H' (.int kk) ⟨[q],rfl⟩ R2 rfl
    ·have p:au RV X.K r ((if D=cn then(match cD f V with|some v=>VM.R.ok v M|none=>.bad) else .bad).bind _) Q:=s;rw[T2 hc] at p;exact(p).elim
end
open PySem PySem.Spec PyProof.Rows L2 PySem.W
open PySem.AutoSeq1 (wpAny_loadPart')
open PySem.MeetsSeq3 (entry_eq_loop plain_eq_loop)
section
variable{prog:Program}{w:World}{A:Around}{E:ah->Shared->Prop}{a b:Addr}
end
section
variable{prog:Program}{w:World}{A:Around}{E:ah->Shared->Prop}
end
section
variable{X:Cx}
end
def yn{K:Fg}(h:PySem.W.tabIn K x=aa (c,P)):∃f k b a e o,lQ K x f/\K.lookup f=aa ⟨k,b,.func a,e⟩/\a.code=.ref c/\K.lookup c=aa o:=by
 unfold PySem.W.tabIn at h;split at h
 ·rename_i f j
  split at h
  ·rename_i g
   split at h
   ·rename_i l d
    split at h
    ·rename_i i
     split at h
     ·cases h;exact⟨f,_,_,_,_,_,j,g,d,i⟩
     ·cases h
    ·cases h
   ·cases h
  ·cases h
 ·cases h
def Lo{K:Fg}(j:PySem.W.tabIn K x=aa (c,P))(X:K.In h)(C:PySem.W.CodeHd h c P):kC K c P:=by obtain⟨_,_,_,_,_,o,_,_,_,g⟩:=yn j;intro q p;obtain⟨s,n,d,m,a,k,f,b,l,e,r⟩:=C;have i:=X _ _ g;rw[e] at i;cases i;exact⟨o,n,d,m,a,k,f,b,l,p _ _ g,r⟩
section
variable{P:Program}{w:World}{K:Fg}{mg:Str->Option ah}{base:Heap}{k:Nat}{x:Str}{st:Stmt}{ps N:List Str}{np n:Nat}{body:VM.SM}{c0 Pt:Addr}
def Lp(h:FK K mg x st ps)(G:PySem.W.tabIn K x=aa (c0,Pt))(S:fV N ps<|cc st)(D:∀(f) (A) (outer) (s) (H) (E),N.Nodup->bA k (A.deeper<|envOfC x (cc st) s.heap.objs.size f<|.ref c0)->e9 (cj fz P w K mg base N x (cc st) f (.ref c0) A outer s H E).cX (fD st) body)(T:N.length=n:=by rfl)(Z:ps.length=np:=by rfl):FV P w K mg base (k+1) (VM.fn np n body) x ps:=by
 subst T Z;obtain⟨f,fd,F,hm,J,y⟩:=h;obtain⟨f2,B3,U,SK,SQ,o2,o,d,q,_⟩:=yn G;have g:PySem.W.nsIn K mainGlobals x=aa (aa<|.ref f):=y;rw[o] at g;cases g;obtain⟨oc,od,kV,V,pm,an,wH,ct,L,rfl,lk,l⟩:=id F.ex;rw[d] at lk;cases lk;have ec:=q;subst ec;refine⟨f,_,⟨rC d l S (λY H Q E h=>h.1) λA outer s H Y Q E X h=>?_,hm,F.kp,J,λi M j=>T2 j⟩,y⟩;obtain⟨O,u,M,i,R,r,h⟩:=h;obtain⟨t,I,kt⟩:=D f A outer s H E S.nd X;refine⟨t,I.cX,kt u M H _ _ _ R (ox r N) ?_⟩;have j:i.length=ps.length:=by rw[Paired.len r];exact O
 have a:au RV K u (match body (i.map aa++List.replicate (N.length-ps.length) ae) M with
  |.rt v b=>.ok v b
  |.nx _ b=>.ok .aw b
  |.ex v b=>.ex v b
  |_=>.bad) Q:=by
  have z:au RV K u (if i.length=ps.length then _ else _) Q:=h;rw[T1 j] at z;exact z
 rw[j];cases e:body (i.map aa++List.replicate (N.length-ps.length) ae) M with
 |nx c b=>rw[e] at a;exactλm B C p R' S'=>a m B .aw p R' rfl
 |rt v b=>rw[e] at a;exact a
 |bk c b=>rw[e] at a;exact(a).elim
 |ct c b=>rw[e] at a;exact(a).elim
 |ex v b=>rw[e] at a;exact(a).elim
 |bad=>rw[e] at a;exact(a).elim
end
noncomputable def vW(H:Hp):Prop:=∀b,H b=ae\/(∃o a,H b=aa (.aU o<|.lst a))\/∃c,H b=aa (.cS c)
def ES{P:Program}{w:World}{K:Fg}{C mb:Str->Option ah}{CX:gm}{k:Nat}{fa a c0 Pt:Addr}{fd:FuncData}{x:Str}{sp:Sp}{f:Shared}{vs:List ah}{Q:List Int}(KX:K.In f.heap)(X:f.heap.Ns mainGlobals C)(g:f.heap.Ns builtinsNs mb)(Qy:∀x:Str,x≠"__name__"->mb x=bootBuiltins x)(N:f.heap.NoLimit)(hg:f.gens= #[])(M:f.heap.get? a=aa {cls:=.type "list",data:=.seq vs.toArray})(hi:IntsAre vs Q)(hl:Q.length<=sizeLine)(hr:bA k callerA)(hT:PySem.W.tabIn K gy=aa (c0,Pt))(hC:PySem.W.CodeHd f.heap c0 Pt)(J:f.heap.get? Pt=aa (PySem.W.tabObj #[]))(hK:PySem.W.noTabs K=af)(Qz:iW C f.heap)(F:∀base:Heap,K.In base->base.Ns mainGlobals C->iW C base->dS P w K C base CX k fa fd [x] sp)(I:∀(s:Shared) (u:ah),BindsTo s fd ⟨[u],[]⟩ [(x,u)])(sO:∀H:Hp,vW H->bg K H a (Q.map V.int)->Tb K H->sp [.ref a] H (λv _=>v=.bl af) λ_ _ _=>False)(QA:∀H e s',CX [] H f (λ_ _ _=>False) e s'->False):
 codeAny (model P w) callerA (.call (.ref fa) ⟨[.ref a],[]⟩) (λr s'=>r=.ok (.ret<|.bool af)/\OldK f.heap s'.heap/\s'.os=f.os/\AllBare s'.gens) f:=by
 have rv:=xU hi;have R:=hi.length;have QB:K.lookup Pt=ae:=by
  cases e:K.lookup Pt with
  |none=>rfl
  |some o=>have D:=KX _ _ e;rw[J] at D;cases D;have h2:=UO.mp hK (Pt,PySem.W.tabObj #[])<|PySem.W.mem_of_lookupK e;exact absurd (h2) Uk
 have O:a≠Pt:=λz=>by rw[z,J] at M;cases M
 have y:∀H:Hp,vW H->bg K H a (Q.map V.int)->Tb K H->bS P w H f.heap->(∀b,H b≠ae->b=a\/b=Pt)->(H a≠ae->K.lookup a=ae)->
  codeAny (model P w) callerA (.call (.ref fa) ⟨[.ref a],[]⟩) (λr s'=>r=.ok (.ret<|.bool af)/\OldK f.heap s'.heap/\s'.os=f.os/\AllBare s'.gens) f:=by
  intro H hO hS QC G hA QD;have i:∀{b:Addr} {o:Obj},f.heap.get? b=aa o->H b=ae->(jr f.heap H).get? b=aa o:=λe n=>E5 e n
  have E:∀{b:Addr} {o:Obj},f.heap.get? b=aa o->(∀xs n,o.data≠.seq xs n)->(∀vs,o.data≠.fields vs)->H b=ae:=λ{b o} e d1 d2=>by
   cases q:H b with
   |none=>rfl
   |some u=>
    rcases hA b (by rw[q];simp) with rfl|rfl
    ·rw[M] at e;cases e;exact absurd rfl<|d1 _ _
    ·rw[J] at e;cases e;exact absurd rfl<|d2 _
  have p:∀{b:Addr} {m:Str->Option ah},f.heap.Ns b m->(jr f.heap H).Ns b m:=λ{b m} ⟨o,es,ep,e,d,r⟩=>⟨o,es,ep,i e (E e (λ_ _ z=>by rw[d] at z;cases z) λ_ z=>by rw[d] at z;cases z),d,r⟩
  have T:=λb o e=>i (KX b o e) (by
   cases q:H b with
   |none=>rfl
   |some u=>
    rcases hA b (by rw[q];simp) with rfl|rfl
    ·rw[QD (by rw[q];simp)] at e;cases e
    ·rw[QB] at e;cases e)
  have hM:Mod K C (jr f.heap H):=⟨T,p X,⟨mb,p g,Qy⟩,let⟨mc,h1,h2⟩:=N;⟨mc,p h1,h2⟩⟩;have hB:iW C (jr f.heap H):=by obtain⟨bm,ob,b1,b2,b3,b4,b5,b6⟩:=Qz;exact⟨bm,ob,b1,b2,i b3 (E b3 (λ_ _ z=>by rw[b6] at z;cases z) λ_ z=>by rw[b6] at z;cases z),b4,b5,b6⟩
  have e0:lY P w K C (jr f.heap H) callerA [] f H:=⟨rfl,hM,λb o e=>G8 e,V4<|DI _ _,trivial,λb g=>absurd (show b∈([]:List Addr) from g)<|by simp,G,.of_eq hg⟩;refine V6 ((F _ T (p X) hB).run callerA [] f H ⟨[.ref a],[]⟩ [.ref a] [.ref a] _ _ hr e0 (I f<|.ref a) (.cons rfl .nil)<|sO H hO hS QC) λr s' h=>?_
  cases r with
  |error e=>exact(QA H e s' h).elim
  |ok fl=>
   cases fl with
   |next=>exact False.elim h
   |brk=>exact False.elim h
   |cont=>exact False.elim h
   |ret u=>
    obtain⟨v,H',os,S,Z,A,r',q⟩:=h;have q':=q;subst q';obtain rfl:u=Value.bool af:=r';have B:∀b o,f.heap.get? b=aa o->s'.heap.get? b=aa o\/(b=Pt/\o=PySem.W.tabObj #[]/\∃L,s'.heap.get? b=aa (PySem.W.tabObj L)):=λb o e=>by
     cases q:H b with
     |none=>exact .inl<|Z.keep b o e q (by intro z;exact absurd (show b∈([]:List Addr) from z)<|by simp)<|by simp
     |some u=>
      rcases hO b with z|⟨ob,xs,z⟩|⟨L,z⟩
      ·rw[q] at z;cases z
      ·have Y:=Z.fJ b ob _ z;obtain⟨D,_⟩:=G b _ z;obtain⟨e2,_⟩:=A b _ Y;rw[e] at D;cases D;exact .inl e2
      ·obtain⟨more,Y⟩:=Z.gc b L z;have e2:=A b _ Y;have D:f.heap.get? b=aa (PySem.W.tabObj L):=G b _ z;have g:b=Pt:=by
        rcases hA b (by rw[q];simp) with rfl|h
        ·rw[M] at D;cases D
        ·exact h
       subst g;rw[J] at e;exact .inr ⟨rfl,(Ua e).symm,_,e2⟩
    refine⟨rfl,⟨λb o e=>?_,λb o e=>?_⟩,os,S⟩
    ·rcases B b o e with z|⟨rfl,rfl,L,z⟩
     ·exact .inl z
     ·exact .inr<|.inl ⟨(hC.tab J).isCodeTable,rfl,#[],L,rfl,by rw[Array.empty_append];exact z⟩
    ·rcases B b o e with z|⟨_,_,L,z⟩
     ·exact⟨_,z⟩
     ·exact⟨_,z⟩
 have U:=trivial;have t:∀H:Hp,H Pt=aa (.cS #[])->Tb K H:=λH e c P' q=>by rw[hT] at q;cases q;exact⟨#[],e,U,λpos cv z=>by cases z⟩
 cases hk:K.lookup a with
 |some o=>
  have e:=KX a o hk;rw[M] at e;cases e;refine y (λb=>if b=Pt then aa (.cS #[]) else ae) (λb=>?_) (.inr ⟨_,vs.toArray,_,hk,rfl,rfl,rfl,by rw[Uh,R];exact hl,by simpa using rv⟩) (t _<|T1 rfl) (λb u z=>?_) (λb z=>?_) λz=>absurd (T2 O) z
  ·by_cases g:b=Pt
   ·exact .inr<|.inr ⟨_,T1 g⟩
   ·exact .inl<|T2 g
  ·by_cases g:b=Pt
   ·have l:=(T1 g).symm.trans z;cases l;subst g;exact J
   ·have l:=(T2 g).symm.trans z;cases l
  ·by_cases g:b=Pt
   ·exact .inr g
   ·exact absurd (T2 g) z
 |none=>
  refine y (λb=>if b=a then aa (.aU {cls:=.type "list",data:=.seq vs.toArray}<|.lst<|Q.map V.int) else if b=Pt then aa (.cS #[]) else ae) (λb=>?_) (.inl<|.inr ⟨{cls:=.type "list",data:=.seq vs.toArray},T1 rfl⟩) (t _<|(T2<|Uq O).trans<|T1 rfl) (λb u z=>?_) (λb z=>?_) λ_=>hk
  ·by_cases g:b=a
   ·exact .inr<|.inl ⟨_,_,T1 g⟩
   ·by_cases j:b=Pt
    ·exact .inr<|.inr ⟨#[],(T2 g).trans<|T1 j⟩
    ·exact .inl<|(T2 g).trans<|T2 j
  ·by_cases g:b=a
   ·have l:=(T1 g).symm.trans z;cases l;subst g;exact⟨M,by rw[Ub];exact hl,vs,_,rv,M⟩
   ·have z1:=(T2 g).symm.trans z;by_cases j:b=Pt
    ·have l:=(T1 j).symm.trans z1;cases l;subst j;exact J
    ·have l:=(T2 j).symm.trans z1;cases l
  ·by_cases g:b=a
   ·exact .inl g
   ·by_cases j:b=Pt
    ·exact .inr j
    ·exact absurd ((T2 g).trans<|T2 j) z
def GX{l:PySem.W.OpenLaw}{n k:Nat}{q:Program}{j:List Str}{U:(Str->Option ah)->Heap->Prop}{N:World->Heap->Prop}{d:DefRec}{K:Params->Fg}{sp:World->Sp}{x:Str}{c0 Pt:Addr}(hn:l.most=aa n)(E:n<=sizeLine)(C:d.params.defaults=[])(hr:bA k callerA)(Z:∀(w:World) (h:Heap),N w h->(K w.params).In h)(r:((recsOf q).find? λe=>e.name==gy).isSome=af)(D:∀w:World,PySem.W.tabIn (K w.params) gy=aa (c0,Pt))(S:∀w:World,PySem.W.noTabs (K w.params)=af)(F:∀(w:World) (i:Str->Option ah) (fa:Addr) (h:Heap),(K w.params).In h->h.Ns mainGlobals i->i d.name=aa (.ref fa)->kC (K w.params) c0 Pt->
  ∃B:FuncData,(∀(s:Shared) (u:ah),BindsTo s B ⟨[u],[]⟩ [(x,u)])/\∀base:Heap,(K w.params).In base->base.Ns mainGlobals i->iW i base->dS l.prog w (K w.params) i base fz k fa B [x] (sp w))
 (L:∀(w:World) (H:Hp) (a:Addr) (t:List Int),t.length<=n->vW H->bg (K w.params) H a (t.map V.int)->Tb (K w.params) H->sp w [.ref a] H (λv _=>v=.bl af) λ_ _ _=>False):
 PySem.W.WalkO q j U N l.row.toRowW d [] (λf vs=>PySem.call f vs):=by
 refine By.CB hn C λw P M i mb fa o pm cd doc a vs t G Y ho hd Q J p m c hg=>?_
 have y:=Z w _ Y;obtain⟨dl,A⟩:=WS.mp r;obtain⟨O,hP⟩:=PySem.W.tab_of G.T y A<|D w;obtain⟨B,X,hF⟩:=F w i fa _ y G.T.g J<|Lo (D w) y O;exact ES y G.T.g G.T.b G.T.builtins G.T.nolimit hg p m (Ug c E) hr (D w) O hP (S w) G.T.bmain hF X (λH R hS I=>L w H a t c R hS I) λH e s' z=>z
def IW(k:scope.kind=.function)(l:scope.names.lookup x=aa .local)(f:scope.names.lookup y=aa .free)(n:x≠y)(a:∀q∈scope.names,q.2=.cell\/q.2=.free->q.1=y)(c:∀z∈scope.names,z.2≠.cell)(co:scope.isCoroutine=ag)(g:scope.isGenerator=ag):pT scope x y:=
 ⟨k,l,f,n,λz h=>by
  rcases h with h|h
  ·exact a _ (Vd h)<|.inl rfl
  ·exact a _ (Vd h) (.inr rfl),c,co,g⟩
def MD(h:scope.names=[(x,.local),(y,.free),(z,.globalImplicit)])(e:env.cells.lookup y=aa c):closureFor scope env=pure [(y,c)]:=by unfold closureFor cellOf;rw[h];simp[e]
section
variable{P:Program}{w:World}{K:Fg}{mg:Str->Option ah}{base:Heap}{N:List Str}{qual:Str}{scope:Scope}{f:Addr}{cd:ah}{A:Around}{outer:List Env}{s0:Shared}{H0:Hp}{E:XK}{X:Cx}
def ME{pins:List (Addr×Obj)}{W:L2.St}{H:Hp}{s s':Shared}{e:ah}(hX:X=cj (b9 P w) P w K mg base N qual scope f cd A outer s0 H0 E)(I:Inv X pins W H s)(V:b9 X.prog X.w X.stack H s E e s'):X.xe e s':=by
 subst hX;obtain⟨R,C,Q,J,B,rfl,os,m,U,L,G,a,S⟩:=V;have F:fS (cj (b9 P w) P w K mg base N qual scope f cd A outer s0 H0 E) H s R C J s'.heap B Q:=⟨U,L,G,a⟩;have d:=F.inv I os m;show wpAny _ _ (leaving _ _) _ _ _;refine wpAny_leaves_onW (base:=B) d.ok.frames rfl G λj D up=>?_
 have M:∀b,b∈cA outer->b∈cA (envOfC qual scope s0.heap.objs.size f cd::outer):=λb g=>by obtain⟨h,y,j⟩:=U8.mp g;exact U8.mpr ⟨h,Up _ y,j⟩
 have k:∀b,b∈cA (envOfC qual scope s0.heap.objs.size f cd::outer)->b=s0.heap.objs.size\/b∈cA outer:=λb g=>by
  obtain⟨h,y,j⟩:=U8.mp g;rcases T4.mp y with rfl|y
  ·exact .inl (Ua j).symm
  ·exact .inr<|U8.mpr ⟨h,y,j⟩
 have t:∀b o,s'.heap.get? b=aa o->B.get? b≠ae->j.get? b=aa o:=λb o e n=>by
  cases q:B.get? b with
  |none=>exact absurd q n
  |some l=>have:=G.1 b l q;rw[e] at this;cases this;exact D.1 b o q
 have x:∀b,s.heap.get? b=ae->s0.heap.get? b=ae:=λb n=>by
  cases p:s0.heap.get? b with
  |none=>rfl
  |some u=>obtain⟨_,i⟩:=I.base.there b u p (by show b∉[];simp);rw[n] at i;cases i
 refine⟨R,C,Q,J,B,rfl,d.os,d.bare,vU d.base (λb o l O g c=>t b l c λz=>?_)<|λb o g c=>?_,vH d.aF<|λb u n c=>t b u c λz=>n (a b u c z).1,D,λb o c n=>?_,S⟩
 ·rcases(a b l c z).2 with q|q
  ·rcases k b q with rfl|q
   ·exact absurd (Ui O)<|UY _
   ·exact g q
  ·rw[x b q] at O;cases O
 ·obtain⟨_,l,v,Y⟩:=G.2.2.1.mem (M b g);rw[c] at v;cases v;exact up b o c Y
 ·cases p:s'.heap.get? b with
  |some u=>
   obtain⟨Z,T⟩:=a b u p n;refine⟨Z,?_⟩;rcases T with q|q
   ·rcases k b q with rfl|q
    ·exact .inr<|WL<|T8 _
    ·exact .inl q
   ·exact .inr<|x b q
  |none=>
   refine⟨?_,.inr ?_⟩
   ·cases i:J b with
    |none=>rfl
    |some u=>obtain⟨_,r⟩:=qy<|d.aF b u i;rw[p] at r;cases r
   ·cases i:s0.heap.get? b with
    |none=>rfl
    |some u=>obtain⟨_,r⟩:=d.base.there b u i (by show b∉[];simp);rw[p] at r;cases r
end
noncomputable def i7(X:Cx)(E:XK)(st:Stmt)(m:VM.SM):Prop:=∃t,PS X st t/\∀a M H b c D,Rel X.K a M H->bb a b c->cL X.K a (m b M) D E->t D c H
section
variable{X:Cx}{E:XK}
def IX{st:Stmt}(h:SS X.cX st m):i7 X E st (cF m):=by
 obtain⟨t,p,k⟩:=h;refine⟨t,Li p,λb M H a c D R S h=>k b M H a c D R S ?_⟩;unfold cF at h;cases e:m a M with
 |ex v d=>rw[e] at h;exact(h).elim
 |_=>rw[e] at h;exact h
def IY:SX X E [] aX:=⟨_,zc,λa M H c b D R S h=>h a H b c_ R S⟩
def IZ{st:Stmt}(h:i7 X E st m):SX X E [st] m:=by obtain⟨t,p,k⟩:=h;exact⟨t,zd p,k⟩
def GY{st:Stmt}{rest:List Stmt}(h:i7 X E st m)(s:SX X E rest n):SX X E (st::rest) (av m n):=by
 obtain⟨t,p,k⟩:=h;obtain⟨u,q,l⟩:=s;refine⟨_,yr p q,λy M H g i D R S h=>k y M H g i _ R S ?_⟩;unfold av at h;cases e:m g M with
 |nx c M1=>rw[e] at h;exactλf x d r o j=>l f M1 x c d D o j<|cL.mono r h
 |rt w b=>rw[e] at h;exact h
 |bk a b=>rw[e] at h;exact h
 |ct a b=>rw[e] at h;exact h
 |ex v b=>rw[e] at h;exact cL.B1 h
 |bad=>rw[e] at h;exact h
def Lq{c:Expr}{a b:List Stmt}{pos}(o:eZ X.cX c t)(A:SX X E a m)(p:SX X E b n):i7 X E (.If c a b pos) (aK (cG t) m n):=by
 obtain⟨F,r,w⟩:=o;obtain⟨G,x,y⟩:=A;obtain⟨u,q,l⟩:=p;refine⟨_,AU r.cX x q,λz M H g i D R S h=>w z M H g i _ R S ?_⟩;unfold aK cG at h;cases e:t g M with
 |ok b M1=>
  rw[e] at h;intro d k B f j s;cases s;cases b with
  |true=>rw[T1 rfl];exact y d M1 k g i _ j (S.mono f)<|cL.mono f h
  |false=>rw[T2 Uk];exact l d M1 k g i D j (S.mono f)<|cL.mono f h
 |ex v C=>rw[e] at h;exact(h).elim
 |bad=>rw[e] at h;exact(h).elim
def Dz{F:TG}{tb:TS}{j:Nat}{m:VM.SM}(kg:∀u M H σ o w v Q,Rel X.K u M H->bb u σ o->RV u w v->au bb X.K u (VM.ay j w σ M) Q->F v o H Q)(kb:∀u M H σ o D,Rel X.K u M H->bb u σ o->cL X.K u (m σ M) D E->tb D o H){g:List Addr}{M1:VM.Mem}{H1:Hp}{σ:VM.St}{o:L2.St}{J:It}{aO:List VM.Src}{a:VM.bJ}{D:Ends}(R1:Rel X.K g M1 H1)(S1:bb g σ o)(Z:gg X.K g J aO a)(h1:cL X.K g (VM.loop a (VM.ay j) m aO σ M1) D E):
 ∃W:Nat->Nat->L2.St->Hp->Prop,(∃m,W 0 m o H1)/\∀i m σ H,W i m σ H->(J.stop i H/\D.nx σ H)\/(J.go i H/\∃N:L2.St->Hp->Prop,(∀bh p,N bh p->∃m',m'<m/\W (i+1) m' bh p)/\∀x p,J.jz i H x p->F x σ p λb H2=>tb {D with nx:=N,ct:=N,bk:=D.nx} b H2):=by
 refine⟨λi k o H=>i<=aO.length/\k=aO.length-i/\∃c M σ,g<+:c/\Rel X.K c M H/\bb c σ o/\cL X.K c (VM.loop a (VM.ay j) m (aO.drop i) σ M) D E,
  ⟨aO.length,Vc _,rfl,g,M1,σ,c_,R1,S1,h1⟩,?_⟩
 rintro i k o H ⟨hi,rfl,c,M,σ,q,R,S,h⟩;by_cases C:i<aO.length
 ·have ex:aO[i]? =aa aO[i]:=by simp[C]
  rw[VF C] at h;have r:cL X.K c (if a.ok M=af then (aO[i].get M).bK λv M1=>(VM.ay j v σ M1).bK λU M2=>match m U M2 with
    |.nx b d=>VM.loop a (VM.ay j) m (aO.drop<|i+1) b d
    |.ct b d=>VM.loop a (VM.ay j) m (aO.drop<|i+1) b d
    |.bk b d=>.nx b d
    |.rt v d=>.rt v d
    |.ex v d=>.ex v d
    |.bad=>.bad
   else .bad) D E:=h
  by_cases f:a.ok M=af
  ·rw[T1 f] at r;refine .inr ⟨Z.go i c M H _ q R f ex,λG p=>∃l M σ,g<+:l/\Rel X.K l M p/\bb l σ G/\cL X.K l (VM.loop a (VM.ay j) m (aO.drop<|i+1) σ M) D E,λG p z=>⟨aO.length-(i+1),by omega,C,rfl,z⟩,λv p y=>?_⟩;obtain⟨l,w,M2,T,eg,R2,rv⟩:=Z.jz i c M H _ v p q R f ex y;rw[eg] at r;have h2:cL X.K l (match m (σ.set j<|aa w) M2 with
    |.nx b d=>VM.loop a (VM.ay j) m (aO.drop<|i+1) b d
    |.ct b d=>VM.loop a (VM.ay j) m (aO.drop<|i+1) b d
    |.bk b d=>.nx b d
    |.rt v d=>.rt v d
    |.ex v d=>.ex v d
    |.bad=>.bad) D E:=cL.mono T r
   refine kg l M2 p σ o w v _ R2 (S.mono T) rv λs H3 V q3 R3 S3=>?_
   refine kb s M2 H3 (σ.set j<|aa w) V _ R3 S3 ?_;have I:g<+:s:=Ux q<|Ux T q3;have h3:=cL.mono q3 h2;cases e:m (σ.set j<|aa w) M2 with
   |nx n t=>rw[e] at h3;have A:cL X.K s (VM.loop a (VM.ay j) m (aO.drop<|i+1) n t) D E:=h3;exactλB H4 O L Y P=>⟨B,t,n,Ux I L,Y,P,cL.mono L A⟩
   |ct n t=>rw[e] at h3;have A:cL X.K s (VM.loop a (VM.ay j) m (aO.drop<|i+1) n t) D E:=h3;exactλB H4 O L Y P=>⟨B,t,n,Ux I L,Y,P,cL.mono L A⟩
   |bk n t=>rw[e] at h3;exact h3
   |rt v t=>rw[e] at h3;exact h3
   |ex v t=>rw[e] at h3;exact cL.B1 h3
   |bad=>rw[e] at h3;exact h3
  ·rw[T2 f] at r;exact(r:False).elim
 ·have hz:i=aO.length:=by omega
  subst hz;rw[VE] at h;have r:cL X.K c (if a.ok M=af then .nx σ M else .bad) D E:=h;by_cases f:a.ok M=af
  ·rw[T1 f] at r;exact .inl ⟨Z.stop _ c M H q R f<|T8 _,r c H o c_ R S⟩
  ·rw[T2 f] at r;exact(r:False).elim
def I_{pos}(s:PassesOwn (model X.prog X.w) X.A X.env X.xe)(g:X.calm=af)(o:SI X tg iter mi)(B:SG X tg<|VM.ay j)(i:SX X E body m)(r:∀x,foldedSetIterable iter X.env x=pure x:=by intro _;rfl):i7 X E (.For tg iter body [] pos) (bM (kG mi) (VM.ay j) m):=by
 obtain⟨I,f,q⟩:=o;obtain⟨d,C,t⟩:=B;obtain⟨L,n,z⟩:=i;refine⟨_,vn s g f C n r,λy M H c k D R S h=>?_⟩;refine q y M H c k _ R S ?_;unfold bM kG at h;cases e:mi c M with
 |ok pr M1=>rw[e] at h;intro u K J b p F;obtain⟨a,l⟩:=pr;exact Dz t z p (S.mono b) F<|cL.mono b h
 |ex v G=>rw[e] at h;exact(h).elim
 |bad=>rw[e] at h;exact(h).elim
end
noncomputable def iy(X:Cx)(E:XK)(e:Expr)(m:VM.EM):Prop:=∃d,PE X e d/\∀a M H b c Q,Rel X.K a M H->bb a b c->dG X.K a (m b M) Q E->d c H Q
def z6{P:Program}{w:World}{K:Fg}{d:Str->Option ah}{base:Heap}{N:List Str}{a:Str}{scope:Scope}{f:Addr}{e:ah}{A:Around}{outer:List Env}{c:Shared}{b:Hp}{E:XK}:
 Passes (b9 P w) (cj (b9 P w) P w K d base N a scope f e A outer c b E) E:=λ_ _ _ _ _ _ I h=>ME rfl I h
section
variable{X:Cx}{E:XK}
def vJ{c:List Expr}{t:TA}(h:PA X.cX c t):PA X c t:=λb a s f H Q I d=>Uv (h b a s f H Q (I.fL _) d) (λj k ⟨g,e,i,r,q⟩=>⟨g,e,i.gv,r,q⟩) λ_ _ z=>False.elim z
def Lr{b:List Expr}{a:VM.AM}(h:SA X.cX b a):SA X b a:=by obtain⟨t,p,k⟩:=h;exact⟨t,vJ p,k⟩
def dG.B4{K:Fg}(h:dG K ι (.ex v M') Q E):dG K ι (.ex v M') Q' E:=by cases v<;>exact h
def AO{K:Fg}{b:List Str}(e:∀a M,a.length≠b.length->c a M=.bad)(R:Rel K ι M H)(r:bj ι a vs)(h:dG K ι (c a M) Q E):oh K b.length c vs H Q E:=by
 by_cases d:a.length=b.length
 ·exact⟨by rw[<-Paired.len r];exact d,ι,M,a,R,r,h⟩
 ·rw[e a M d] at h;exact(h:False).elim
def GZ{x:Str}{k:Nat}{f:Addr}{l:FuncData}{n:List Str}{c:VM.CM}{e:Expr}{b:List Expr}{a:VM.AM}{p pos:Pos}(F:oi X.prog X.w X.K X.mg X.base k x f l n c)(y:bA k X.A)(q:Passes (b9 X.prog X.w) X E)(G:SA X.cX (e::b) a)(D:Gl X x:=by rfl)(i:(x==("__debug__":Str))=ag:=by decide+kernel)(m:starEach (e::b) X.env=(ag,eval e X.env)::starEach b X.env:=by rfl)(d:(backTo pos<|starEach b X.env).any (·.1)=ag:=by rfl):
 iy X E (.Call (.Name x p) (e::b) [] pos) (bF c a):=by
 obtain⟨I,s,B⟩:=G;refine⟨_,u3 F.ok y D F.mg F.kp F.bi .nil q (vJ s) i m d,λC M H j o Q R S h=>?_⟩;refine B C M H j o _ R S ?_;unfold bF at h;cases g:a j M with
 |ok ws M1=>rw[g] at h;intro z L J u t r;rw[UZ];exact AO F.ln t r<|dG.up u h
 |ex v M1=>rw[g] at h;exact(h:False).elim
 |bad=>rw[g] at h;exact(h:False).elim
def Ja{x:Str}{k:Nat}{f:Addr}{O:FuncData}{D:List Str}{c:VM.CM}{e:Expr}{g:List Expr}{m:VM.EM}{a:VM.AM}{p pos:Pos}(F:jK X.prog X.w X.K X.mg X.base k x f O D c)(hr:bA k X.A)(h1:iy X E e m)(ha:SA X.cX g a)(hg:Gl X x:=by rfl)(z:(x==("__debug__":Str))=ag:=by decide+kernel)(C:starEach (e::g) X.env=(ag,eval e X.env)::starEach g X.env:=by rfl)(s:(backTo pos<|starEach g X.env).any (·.1)=ag:=by rfl):
 iy X E (.Call (.Name x p) (e::g) [] pos) (iN c m a):=by
 obtain⟨te,V,P⟩:=h1;obtain⟨ta,Y,ka⟩:=ha;refine⟨_,u3 F.ok hr hg F.mg F.kp F.bi .nil rD (dE V (vJ Y) C) z C s,λB M H i G Q R S h=>?_⟩;refine P B M H i G _ R S ?_;unfold iN at h;cases t:m i M with
 |ok v M1=>
  rw[t] at h;intro y H1 u J Z W;refine ka y M1 H1 i G _ Z (S.mono J) ?_;have d:dG X.K B ((a i M1).cJ.bind λj M2=>(c (v::j) M2).cJ) Q E:=h;cases o:a i M1 with
  |ok j M2=>
   rw[o] at d;intro i5 T vs I R2 r2;show mw X.K D.length c ((u::vs)++[]) T Q E0;rw[UZ];have h3:dG X.K B (c (v::j) M2).cJ Q E:=d;refine vR F.ln R2 (.cons (W.mono I) r2) ?_ _;cases l:c (v::j) M2 with
   |ok r M3=>rw[l] at h3;exactλn N b q R' U=>h3 n N b (Ux J<|Ux I q) R' U
   |ex L M3=>rw[l] at h3;exact(h3:False).elim
   |bad=>rw[l] at h3;exact(h3:False).elim
  |ex L M2=>rw[o] at d;exact(d:False).elim
  |bad=>rw[o] at d;exact(d:False).elim
 |ex v M1=>rw[t] at h;exact dG.B4 h
 |bad=>rw[t] at h;exact(h:False).elim
def Jb{i:Nat}{x:Str}{e:Expr}{m:VM.EM}{pos a:Pos}(u:X.N.Nodup)(j:iy X E e m)(q:X.N[i]? =aa x:=by rfl)(n:Loc X.env.scope x:=by first|exact Or.inl rfl|exact Or.inr rfl)(s:swapsWith e (aa<|.Name x a) pos.line X.env=pure ag:=by rfl)(hf:X.fn x=af\/X.env.scope.names.lookup x=aa .local:=by first|exact .inl rfl|exact .inr rfl|assumption):i7 X E (.Assign [.Name x a] e pos) (aJ m<|VM.ay i):=by
 obtain⟨t,p,k⟩:=j;refine⟨_,z_ u q n p s hf,λg M H d l D R S h=>k g M H d l _ R S ?_⟩;unfold aJ at h;cases c:m d M with
 |ok w M1=>rw[c] at h;intro b z v f r o;have A:a7 X.K g (.nx (d.set i<|aa w) M1) D:=h;exact A b z _ f r<|Paired.jw (F:=jJ b) (x:=aa w) (y:=aa v) ⟨v,rfl,o⟩ i<|S.mono f
 |ex v M1=>rw[c] at h;cases v<;>exact h
 |bad=>rw[c] at h;exact h
def G0{e:Expr}{m:VM.EM}{pos:Pos}(g:iy X E e m)(l:swapsWith e ae pos.line X.env=pure ag:=by rfl):i7 X E (.Expr e pos) (aZ m):=by
 obtain⟨t,p,k⟩:=g;refine⟨_,ze p l,λf M H c i D R S h=>k f M H c i _ R S ?_⟩;unfold aZ at h;cases a:m c M with
 |ok w M1=>rw[a] at h;intro b n v d j q;have o:a7 X.K f (.nx c M1) D:=h;exact o b n _ d j<|S.mono d
 |ex v M1=>rw[a] at h;cases v<;>exact h
 |bad=>rw[a] at h;exact h
def Jc{e:Expr}{m:VM.EM}{pos:Pos}(f:iy X E e m):i7 X E (.Return (aa e) pos) (aG m):=by
 obtain⟨t,p,k⟩:=f;refine⟨_,z9 p,λc M H d g D R S h=>k c M H d g _ R S ?_⟩;unfold aG at h;cases a:m d M with
 |ok w M1=>rw[a] at h;intro b n v l j i;have o:a7 X.K c (.rt w M1) D:=h;exact o b n v l j i
 |ex v M1=>rw[a] at h;cases v<;>exact h
 |bad=>rw[a] at h;exact h
end
structure rX(P:Program)(w:World)(K:Fg)(mg:Str->Option ah)(base:Heap)(k:Nat)(f:Addr)(fd:FuncData)(ps:List Str)(c:VM.CM):Prop where
 ok:dS P w K mg base (b9 P w) k f fd ps (oh K ps.length c)
 bi:Binds K fd ps []
 ln:∀ws M,ws.length≠ps.length->c ws M=.bad
section
variable{P:Program}{w:World}{K:Fg}{mg:Str->Option ah}{base:Heap}
def Jd{st:Stmt}(F:gH K x qual st f fd)(S:fV N ps<|cc st)(y:Binds K fd ps [])(D:∀(c) (A) (outer) (s) (H) (E),bA k (A.deeper<|envOfC qual (cc st) s.heap.objs.size f c)->SX (cj (b9 P w) P w K mg base N qual (cc st) f c A outer s H E) E (fD st) body)(C:N.length=n:=by rfl)(L:ps.length=np:=by rfl):rX P w K mg base (k+1) f fd ps (VM.fn np n body):=by
 subst C L;obtain⟨W,X,kV,G,Y,V,c,ct,z,rfl,lk,j⟩:=F.ex;refine⟨rC lk j S (λJ H Q E h=>h.1)<|λA outer s H J Q E I h=>?_,y,λg M i=>T2 i⟩;obtain⟨B,m,M,g,R,r,h⟩:=h;obtain⟨t,u,T⟩:=D c A outer s H E I;refine⟨t,u,T m M H _ _ _ R (ox r N) ?_⟩;have i:g.length=ps.length:=by rw[Paired.len r];exact B
 have a:dG K m (if g.length=ps.length then(match body (g.map aa++List.replicate (N.length-ps.length) ae) M with
  |.rt v b=>.ok v b
  |.nx _ b=>.ok .aw b
  |.ex v b=>.ex v b
  |_=>.bad) else .bad) Q E:=h
 rw[T1 i] at a;rw[i];cases e:body (g.map aa++List.replicate (N.length-ps.length) ae) M with
 |nx d b=>rw[e] at a;exactλl o q p O U=>a l o .aw p O rfl
 |rt v b=>rw[e] at a;exact a
 |bk d b=>rw[e] at a;exact(a:False).elim
 |ct d b=>rw[e] at a;exact(a:False).elim
 |ex v b=>rw[e] at a;cases v<;>exact a
 |bad=>rw[e] at a;exact(a:False).elim
def ET(d:Binds K fd ps []):rX P w K mg base 0 f fd ps (λ_ _=>.bad):=by
 have c:∀a H Q E,¬oh K ps.length (λ_ _=>.bad) a H Q E:=λa H Q E h=>by obtain⟨_,_,_,_,_,_,h⟩:=h;exact h
 exact⟨⟨λa H Q E h=>absurd h<|c a H Q E,λA b s H args e a Q E _ _ _ _ h=>absurd h<|c a H Q E⟩,d,λ_ _ _=>rfl⟩
structure mD(P:Program)(w:World)(K:Fg)(mg:Str->Option ah)(base:Heap)(k:Nat)(x:Str)(np:Nat)(c:VM.CM):Prop where
 run:∀(X:Cx) (E:XK),X.prog=P->X.w=w->X.K=K->X.mg=mg->X.base=base->Passes (b9 X.prog X.w) X E->bA k X.A->∀(e:Expr) (es:List Expr) (a:VM.AM) (p pos:Pos),SA X (e::es) a->Gl X x->(x==("__debug__":Str))=ag->
  starEach (e::es) X.env=(ag,eval e X.env)::starEach es X.env->(backTo pos<|starEach es X.env).any (·.1)=ag->iy X E (.Call (.Name x p) (e::es) [] pos) (bF c a)
def y_:mD P w K mg base 0 x np (λ_ _=>.bad):=
 ⟨λX E _ _ _ _ _ _ _ e j a p g _ _ _ _ _=>⟨λ_ _ _=>False,λc s d H Q I h=>(h).elim,λk M H d i Q R S q=>by
  unfold bF at q;cases b:a d M with
  |ok v f=>rw[b] at q;exact q
  |ex v f=>rw[b] at q;exact q
  |bad=>rw[b] at q;exact q⟩⟩
def Ls(M:Mk K C f)(T:jx K cn C)(hm:mg x=aa (.ref C))(F:rX P w K mg base k f fd ps c):mD P w K mg base (k+1) x (ps.length-1) (jC cn c):=by
 refine⟨λX E hP hw O u W Z hr e es a p pos ha hg t o m=>?_⟩;subst hP hw O u W;obtain⟨ta,pa,ka⟩:=ha;refine⟨_,Hg M F.ok hr hg hm F.bi .nil Z pa t o m,λz M H J Y Q R S h=>?_⟩;refine ka z M H J Y _ R S ?_;unfold bF at h;cases n:a J M with
 |ex v M1=>rw[n] at h;exact(h:False).elim
 |bad=>rw[n] at h;exact(h:False).elim
 |ok ws M1=>
  rw[n] at h;intro g s vs p1 D r1;intro q i L A y;rw[UZ];have j:upd s i (.own q) q=ae:=by rw[aL<|Uq y];exact L
  have R2:Rel X.K g M1 (upd s i<|.own q):=D.other A _;have V:Rel X.K (g++[q]) (M1++[.ins cn []]) (upd (upd s i<|.own q) q<|.ins C i []):=R2.new j λU pre=>⟨C,i,[],T.at_,bW,.nil⟩
  have G:RV (g++[q]) (.ref M1.length) (.ref q):=⟨q,by rw[<-D.len];simp,rfl⟩;refine AO F.ln V (.cons G<|r1.mono ⟨[q],rfl⟩) ?_;have d:dG X.K z ((c (.ref M1.length::ws)<|M1++[.ins cn []]).bind λv M2=>match v with
   |.aw=>.ok (.ref M1.length) M2
   |_=>.bad) Q E:=h
  have I:z<+:g++[q]:=Ux p1 ⟨[q],rfl⟩;cases l:c (.ref M1.length::ws) (M1++[.ins cn []]) with
  |ok v M2=>
   rw[l] at d;intro r N b B R4 r4;cases v with
   |aw=>cases r4;exact⟨rfl,d r N (.ref q) (Ux I B) R4<|G.mono B⟩
   |bl _=>exact(d:False).elim
   |int _=>exact(d:False).elim
   |str _=>exact(d:False).elim
   |ref _=>exact(d:False).elim
  |ex v M2=>rw[l] at d;exact dG.up I<|dG.B4 d
  |bad=>rw[l] at d;exact(d:False).elim
end
section
variable{X:Cx}{E:XK}
def G1{x:Str}{k g:Nat}{c:VM.CM}{e:Expr}{b:List Expr}{a:VM.AM}{p pos:Pos}(F:mD X.prog X.w X.K X.mg X.base k x g c)(h:bA k X.A)(i:Passes (b9 X.prog X.w) X E)(l:SA X.cX (e::b) a)(j:Gl X x:=by rfl)(d:(x==("__debug__":Str))=ag:=by decide+kernel)(he:starEach (e::b) X.env=(ag,eval e X.env)::starEach b X.env:=by rfl)(f:(backTo pos<|starEach b X.env).any (·.1)=ag:=by rfl):iy X E (.Call (.Name x p) (e::b) [] pos) (bF c a):=
 F.run X E rfl rfl rfl rfl rfl i h e b a p pos (Lr l) j d he f
end
section
variable{X:Cx}
noncomputable def Je:V->List V->Hp->VK->Prop:=λx b H Q=>∃l a i y,x=.ref l/\b=[.int i,y]/\H l=aa (.lst a)/\0<=i/\i<=a.length/\a.length<sizeLine/\Q .aw (upd H l<|.lst<|a.take i.toNat++y::a.drop i.toNat)
def EU:pY X "list.insert" Je:=by
 intro b s D H x C v o Q I j d h;obtain⟨l,p,i,y,rfl,rfl,c,E,G,w,q⟩:=h;cases j;cases d with
 |cons f t=>
  cases t with
  |cons m t=>
   cases t;obtain⟨t,rfl⟩:=f
   rename_i u
   obtain⟨z,a,n,r,A,e⟩:=I.iT c;have B:(sizeLine:Nat)<2 ^ 63:=by rw[sizeLine];decide
   refine Vu F.slot_list_insert ⟨_,e,rfl⟩ F.entry_list_insert (F.args_list_insert_3 _ _ _) (AutoListH.list_insert_list_int_val_1 l a.toArray n i t u (by rw[fitsIndex_both (by omega)<|by omega];decide) (by rw[Uh];omega)) ⟨e,?_⟩;refine⟨.aw,_,I.nF (its':=a.take i.toNat++u::a.drop i.toNat) c e ?_ ?_ ?_,rfl,q⟩
   ·have g:¬i<0:=by omega
    have k:min i.toNat a.length=i.toNat:=by omega
    simp[g,k];exact XQ (by rw[V8];exact T8 _)
   ·exact(r.take i.toNat).append<|.cons m<|r.drop i.toNat
   ·rw[Ur,UE,Vm,V8];omega
def EV:SM X "list.insert" u6:=by
 refine⟨_,EU,λl M H x v m D Q R C r h=>?_⟩;have f:∃i y a b,m=[.int i,y]/\VM.bG M x=aa (a,b)/\(0<=i/\i<=b.length/\b.length<VM.lim)/\au RV X.K l (.ok .aw<|M.set a<|.lst<|b.take i.toNat++y::b.drop i.toNat) Q:=by
  cases m with
  |nil=>exact(h).elim
  |cons w t=>
   cases t with
   |nil=>cases w<;>exact(h).elim
   |cons y t=>
    cases t with
    |cons _ _=>cases w<;>exact(h).elim
    |nil=>
     cases w with
     |int i=>
      have c:au RV X.K l (match VM.bG M x with
       |some (a,b)=>if 0<=i/\i<=b.length/\b.length<VM.lim then .ok .aw (M.set a<|.lst<|b.take i.toNat++y::b.drop i.toNat) else .bad
       |none=>.bad) Q:=h
      cases e:VM.bG M x with
      |none=>rw[e] at c;exact(c).elim
      |some z=>
       obtain⟨a,b⟩:=z;rw[e] at c;simp only at c;by_cases g:0<=i/\i<=b.length/\b.length<VM.lim
       ·rw[T1 g] at c;exact⟨i,y,a,b,rfl,rfl,g,c⟩
       ·rw[T2 g] at c;exact(c).elim
     |_=>exact(h).elim
 obtain⟨i,y,a,b,rfl,e,⟨n,B,q⟩,c⟩:=f;obtain⟨p,j,rfl,u,A,rfl,k,d⟩:=R.bG e C;cases r with
 |cons s t=>
  cases t with
  |cons o t=>cases t;cases s;refine⟨⟨p,j,rfl,bg.of k⟩,p,j,i,_,rfl,rfl,k,n,by rw[<-Paired.len d];exact B,by rw[<-Paired.len d];exact q,?_⟩;exact au.ok c (R.set u A<|Paired.app (Paired.rH _ d)<|.cons o<|Paired.vQ _ d) rfl
end
def AQ{P:Program}{w:World}{K:Fg}{o:Str->Option ah}{base:Heap}(F:mD P w K o base k x np c):xc P w K o base k x np (VM.nx c):=by
 refine⟨λX E G t n y D e C a p g J I l j f=>?_⟩;have B:Passes (b9 X.prog X.w) X (λ_ _ _=>False):=λ_ _ _ _ _ _ _ h=>by obtain⟨_,_,_,_,_,_,_,_,_,_,_,_,z⟩:=h;exact z.elim
 obtain⟨s,u,r⟩:=F.run X _ E G t n y B D e C a p g J I l j f;refine⟨s,u,λm M H q A Q R S h=>r m M H q A Q R S ?_⟩;unfold ax at h;unfold bF;cases i:a q M with
 |ok ws M1=>
  rw[i] at h;have b:au RV X.K m (c ws M1).cJ Q:=h;show dG X.K m (c ws M1) Q _;cases d:c ws M1 with
  |ok v M2=>rw[d] at b;exact b
  |ex v M2=>rw[d] at b;exact b.elim
  |bad=>rw[d] at b;exact b.elim
 |ex v M1=>rw[i] at h;exact h.elim
 |bad=>rw[i] at h;exact h.elim
section
variable{X:Cx}
def G2{G:Str}{D:Addr}{np w pos:Pos}{st j:Stmt}{d:List Stmt}{t:List (List Nat)}{A y:VM.SM}(hb:SB X st A)(hm:X.mg G=aa (.ref D))(ht:ky X.K D t)(hh:∀e,e9 (Cx.mk' X e) (j::d) y)(U:X.stack=X.env::X.outer:=by rfl)(Y:X.env.frame=aa X.env.locals:=by rfl)(hg:Gl X G:=by rfl)(V:(G==("__debug__":Str))=ag:=by decide+kernel):
 SS X (.Try [st] [.ExceptHandler (aa<|.Name G np) ae (j::d) w] [] [] pos) (gD A t ae y):=by
 refine⟨λD m H=>∃n M i,Rel X.K n M H/\bb n i m/\a7 X.K n (gD A t ae y i M) D,λk s m H W I h=>?_,λn M H i m D R S h=>⟨n,M,i,R,S,h⟩⟩;obtain⟨n,M,i,R,S,h⟩:=h;unfold gD at h;refine y9 hb I R S (λa f e=>by rw[e] at h;exact h) ?_ λc f C H1 s1 ea N a0 B E e1 e2 Z os l F ⟨L,p,R'⟩=>?_
 ·cases e:A i M with
  |nx a f=>exact .inl ⟨_,_,rfl⟩
  |ex v f=>cases v with
   |str c=>exact .inr ⟨_,_,rfl⟩
   |aw=>rw[e] at h;exact(h:False).elim
   |bl _=>rw[e] at h;exact(h:False).elim
   |int _=>rw[e] at h;exact(h:False).elim
   |ref _=>rw[e] at h;exact(h:False).elim
  |rt v f=>rw[e] at h;exact(h:False).elim
  |bk a f=>rw[e] at h;exact(h:False).elim
  |ct a f=>rw[e] at h;exact(h:False).elim
  |bad=>rw[e] at h;exact(h:False).elim
 ·rw[e1] at h;have b:a7 X.K n (if t.contains c then(match y i f with
   |.nx g M2=>.nx g M2
   |.rt v M2=>.rt v M2
   |_=>.bad) else .bad) W:=h
  by_cases P:t.contains c=af
  ·rw[T1 P] at b;obtain⟨C',n1,n2⟩:=ht c<|by simpa using P
   rw[e2] at n1;cases n1;refine handled U Y Z os l F hg hm n2 V λh6 F6=>?_
   refine codeAny_handlers_suite<|lands_againW F6.2.2.1 λh7 Q T=>?_
   have F7:=F6.on Q T;have I7:Inv X k m E {N with heap:=h7}:=fS.inv (s':={N with heap:=h7}) F7 Z os l;obtain⟨th,ph,kh⟩:=hh<|.ref ea;have q:th {nx:=W.nx,rt:=W.rt} m E:=by
    refine kh L f E i m _ R' (S.mono p) ?_;cases e:y i f with
    |nx g M2=>rw[e] at b;exact a7.mono p b
    |rt v M2=>rw[e] at b;exact a7.mono (r:=.rt v M2) p b
    |ex v M2=>rw[e] at b;exact(b:False).elim
    |bk g M2=>rw[e] at b;exact(b:False).elim
    |ct g M2=>rw[e] at b;exact(b:False).elim
    |bad=>rw[e] at b;exact(b:False).elim
   refine Uv (ph k _ m E _ (uX I7 _) q) (λfl s8 z=>?_) λ_ _ z=>z.elim
   cases fl with
   |next=>obtain⟨a,J,O,z⟩:=z;exact⟨a,J,qw I.ok.hd O,z⟩
   |brk=>obtain⟨_,_,_,z⟩:=z;exact z.elim
   |cont=>obtain⟨_,_,_,z⟩:=z;exact z.elim
   |ret u=>obtain⟨x,a,J,O,r,z⟩:=z;exact⟨x,a,J,qw I.ok.hd O,r,z⟩
  ·rw[T2 P] at b;exact(b:False).elim
def G3{cx n:Str}{D:Addr}{np NK pos:Pos}{st P:Stmt}{t:List Stmt}{cs:List (List Nat)}{i:Nat}{mb mh:VM.SM}(hN:X.N.Nodup)(hb:SB X st mb)(hm:X.mg cx=aa (.ref D))(ht:ky X.K D cs)(hh:∀e,e9 (Cx.mk' X e) (P::t) mh)(hi:X.N[i]? =aa n:=by rfl)(hl:X.env.scope.names.lookup n=aa .local:=by rfl)(hex:X.ex=[]:=by rfl)(gp:X.stack=X.env::X.outer:=by rfl)(QE:X.env.frame=aa X.env.locals:=by rfl)(hg:Gl X cx:=by rfl)(xh:(cx==("__debug__":Str))=ag:=by decide+kernel):
 SS X (.Try [st] [.ExceptHandler (aa<|.Name cx np) (aa n) (P::t) NK] [] [] pos) (gD mb cs (aa i) mh):=by
 refine⟨λD τ H=>∃O M A,Rel X.K O M H/\bb O A τ/\a7 X.K O (gD mb cs (aa i) mh A M) D,λw s τ H Dn I h=>?_,λO M H A τ D R S h=>⟨O,M,A,R,S,h⟩⟩;obtain⟨O,M,A,R,S,h⟩:=h;unfold gD at h;refine y9 hb I R S (λg j e=>by rw[e] at h;exact h) ?_ λc j C H1 s1 d s' a0 B H' e1 e2 Z os L F ⟨E,p,R'⟩=>?_
 ·cases e:mb A M with
  |nx g j=>exact .inl ⟨_,_,rfl⟩
  |ex v j=>cases v with
   |str c=>exact .inr ⟨_,_,rfl⟩
   |aw=>rw[e] at h;exact(h:False).elim
   |bl _=>rw[e] at h;exact(h:False).elim
   |int _=>rw[e] at h;exact(h:False).elim
   |ref _=>rw[e] at h;exact(h:False).elim
  |rt v j=>rw[e] at h;exact(h:False).elim
  |bk g j=>rw[e] at h;exact(h:False).elim
  |ct g j=>rw[e] at h;exact(h:False).elim
  |bad=>rw[e] at h;exact(h:False).elim
 ·rw[e1] at h;have f:a7 X.K O (if cs.contains c then(match mh (A.set i<|aa<|.ref j.length) (j++[.b8 c]) with|.nx G M2=>.nx (G.set i ae) M2|.rt v M2=>.rt v M2|_=>.bad) else .bad) Dn:=h;by_cases hc:cs.contains c=af
  ·rw[T1 hc] at f;obtain⟨C',n1,n2⟩:=ht c<|by simpa using hc
   rw[e2] at n1;cases n1;refine handled gp QE Z os L F hg hm n2 xh λh6 F6=>?_
   refine codeAny_handlers_suite_as<|lands_againW F6.2.2.1 λh7 QF QG=>?_
   have F7:=F6.on QF QG;have I7:Inv X w τ H' {s' with heap:=h7}:=fS.inv (s':={s' with heap:=h7}) F7 Z os L;obtain⟨g1,g2,g3⟩:=F7.new;have I8:Inv X w τ (upd H' d<|.ext<|excAt d C) {s' with heap:=h7}:=by
    refine EJ I7 g1 ?_ ?_ ?_ ?_ ?_
    ·cases q:X.c7.heap.get? d with
     |none=>rfl
     |some o=>obtain⟨_,z⟩:=Z.base.there d o q (by rw[hex];simp);rw[g2] at z;cases z
    ·rintro rfl;obtain⟨m,⟨o,_,_,Q,_⟩,_⟩:=Z.loc;rw[g2] at Q;cases Q
    ·rintro x c q rfl;obtain⟨_,o,Q,_⟩:=Z.cell x c q;rw[g2] at Q;cases Q
    ·rintro q hq rfl;have:=(Z.pin q hq).1;rw[g2] at this;cases this
    ·obtain⟨o,vs,Q,kT,hd⟩:=g3;exact⟨⟨o,vs,Q,kT,hd⟩,⟨o,Q⟩,λa b ⟨o,vs,q1,q2,q3⟩ k=>⟨o,vs,k o q1,q2,q3⟩⟩
   have R8:Rel X.K (E++[d]) (j++[.b8 c]) (upd H' d<|.ext<|excAt d C):=R'.new g1 λY _=>⟨C,e2,bW⟩
   have p8:O<+:E++[d]:=Ux p ⟨[d],rfl⟩;obtain⟨th,ph,kh⟩:=hh<|.ref d;refine uE (X:=Cx.mk' X<|.ref d) (v:=.ref d) (uX I8 _) hN hi (.inl hl) rfl (λs9 I9=>?_)<|.inr hl;have q:th {nx:=λg H'=>Dn.nx (g.set i ae) H',rt:=Dn.rt} (τ.set i<|aa<|.ref d) (upd H' d<|.ext<|excAt d C):=by
    refine kh (E++[d]) _ _ (A.set i<|aa<|.ref j.length) _ _ R8 (Paired.jw (F:=jJ<|E++[d]) (x:=aa<|.ref j.length) (y:=aa<|.ref d) ⟨.ref d,rfl,d,?_,rfl⟩ i<|S.mono p8) ?_
    ·rw[<-R'.len];simp
    ·cases e:mh (A.set i<|aa<|.ref j.length) (j++[.b8 c]) with
     |nx G M2=>rw[e] at f;intro Y H2 SR p2 R2 S2;exact f Y H2 _ (Ux p8 p2) R2<|Paired.jw (F:=jJ Y) (x:=ae) (y:=ae) trivial i S2
     |rt v M2=>rw[e] at f;exact a7.mono (r:=.rt v M2) p8 f
     |ex v M2=>rw[e] at f;exact(f:False).elim
     |bk G M2=>rw[e] at f;exact(f:False).elim
     |ct G M2=>rw[e] at f;exact(f:False).elim
     |bad=>rw[e] at f;exact(f:False).elim
   refine Uv (ph w s9 _ _ _ I9 q) (λfl SU z=>?_) λ_ _ z=>z.elim
   cases fl with
   |next=>obtain⟨g,H2,V,z⟩:=z;have l:=qw I.ok.hd V;obtain⟨m,hn,W⟩:=id l.loc;exact wpAny_nameGoes_keeps hl hn (by rw[I.ok.kind];rfl) λh' v T U=>⟨_,H2,y8 l hN hi hn W T U,z⟩
   |brk=>obtain⟨_,_,_,z⟩:=z;exact z.elim
   |cont=>obtain⟨_,_,_,z⟩:=z;exact z.elim
   |ret u=>obtain⟨x,g,H2,V,r,z⟩:=z;have l:=qw I.ok.hd V;obtain⟨m,hn,W⟩:=id l.loc;exact wpAny_nameGoes_keeps hl hn (by rw[I.ok.kind];rfl) λh' v T U=>⟨x,_,H2,y8 l hN hi hn W T U,r,z⟩
  ·rw[T2 hc] at f;exact(f:False).elim
end
section
variable{P:Program}{w:World}{K:Fg}{mg:Str->Option ah}{base:Heap}{k:Nat}{x q:Str}{st:Stmt}{ps N:List Str}{np n:Nat}{body:VM.SM}{C:Addr}
noncomputable def qj(P:Program)(w:World)(K:Fg)(mg:Str->Option ah)(base:Heap)(k:Nat)(c:VM.CM)(J:Addr->Prop)(ps:List Str):Prop:=∃f a,J f/\rX P w K mg base k f a ps c
def Lu{J:Addr->Prop}(h:jM K J x q st ps)(S:fV N ps<|cc st)(D:rW (b9 P w) P w K mg base k N q st λX E b=>SX X E b body)(j:N.length=n:=by rfl)(l:ps.length=np:=by rfl):qj P w K mg base (k+1) (VM.fn np n body) J ps:=by obtain⟨f,g,F,e,i⟩:=h;exact⟨f,g,e,Jd F S i (λd A a s H E c=>D f d A a s H E S.nd c c.oY<|pf c) j l⟩
def G4{J:Addr->Prop}(h:jM K J x q st ps):qj P w K mg base 0 (λ_ _=>.bad) J ps:=by obtain⟨f,b,F,a,c⟩:=h;exact⟨f,b,a,ET c⟩
def Lv{a:List Nat}{c:VM.CM}(h:qj P w K mg base k c (Mk K C) ps)(T:jx K a C)(b:mg x=aa (.ref C)):mD P w K mg base (k+1) x (ps.length-1) (jC a c):=by obtain⟨f,e,d,F⟩:=h;exact Ls d T b F
def EW{N:List Str}{a:Str}{scope:Scope}{f:Addr}{d:ah}{A:Around}{outer:List Env}{c:Shared}{e:Hp}{E:XK}{x:Str}{C:Addr}{b:Str}{j np mp bf pos}{l:List Nat}(o:mg x=aa (.ref C))(q:PySem.W.excIn K C om "ValueError.__new__"=af)(m:PySem.W.nsIn K mainGlobals (txt l)=aa (aa<|.ref C))(r:Gl (cj (b9 P w) P w K mg base N a scope f d A outer c e E) x:=by rfl)(i:(x==("__debug__":Str))=ag:=by decide+kernel)(he:starEach [.Constant (.str b) j mp] (cj (b9 P w) P w K mg base N a scope f d A outer c e E).env=(ag,eval (.Constant (.str b) j mp) (cj (b9 P w) P w K mg base N a scope f d A outer c e E).env)::starEach [] (cj (b9 P w) P w K mg base N a scope f d A outer c e E).env:=by rfl)(g:(backTo bf<|starEach [.Constant (.str b) j mp] (cj (b9 P w) P w K mg base N a scope f d A outer c e E).env).any (·.1)=ag:=by rfl):
 i7 (cj (b9 P w) P w K mg base N a scope f d A outer c e E) E (.Raise (aa<|.Call (.Name x np) [.Constant (.str b) j mp] [] bf) ae pos) (hJ l):=
 ⟨_,GD o q r i he g,λp M H t s D R S h=>h p H C c_ R m⟩
def G5{N:List Str}{a:Str}{scope:Scope}{f:Addr}{e:ah}{A:Around}{outer:List Env}{d:Shared}{c:Hp}{E:XK}{g b:Expr}{body:List Stmt}{h:VM.IM}{j:Nat}{m:VM.SM}{pos}(p:SI (cj (b9 P w) P w K mg base N a scope f e A outer d c E) g b h)(l:SG (cj (b9 P w) P w K mg base N a scope f e A outer d c E) g<|VM.ay j)(i:SX (cj (b9 P w) P w K mg base N a scope f e A outer d c E) E body m)(o:∀x,foldedSetIterable b (cj (b9 P w) P w K mg base N a scope f e A outer d c E).env x=pure x:=by intro _;rfl):i7 (cj (b9 P w) P w K mg base N a scope f e A outer d c E) E (.For g b body [] pos) (bM (kG h) (VM.ay j) m):=
 I_ PassesOwn.leaving rfl p l i o
def uC{D:Addr}:ky K D []:=λ_ h=>nomatch h
def qx{D C:Addr}{c:List Nat}{b:List (List Nat)}(n:lQ K (txt c) C)(h:PySem.W.exmOne K (.ref C) (.ref D)=aa af)(r:ky K D b):ky K D (c::b):=λd a=>by
 rcases T4.mp a with rfl|a
 ·exact⟨C,n,h⟩
 ·exact r d a
def jU{d:V}{u:ah}{b:Bool}{c:List Nat}{e:List (List Nat)}{C:Addr}(n:lQ K (txt c) C)(Z:ig K C)(h:(PySem.W.clsIn K C).isSome=af)(g:∀v,RelV d v->v=u)(i:PySem.W.kitOne K (.ref C) u=aa b)(r:eJ K d b e):eJ K d b (c::e):=λf a=>by
 rcases T4.mp a with rfl|a
 ·exact⟨C,n,Z,h,λv r=>by rw[g v r];exact i⟩
 ·exact r f a
end
section
variable{X:Cx}{E:XK}
def EX{x:Str}{k:Nat}{h:List Str}{c:VM.CM}{e:Expr}{b:List Expr}{a:VM.AM}{p pos:Pos}(F:FX X.prog X.w X.K X.mg X.base k c x h)(i:bA k X.A)(j:Passes (b9 X.prog X.w) X E)(n:SA X.cX (e::b) a)(l:Gl X x)(d:(x==("__debug__":Str))=ag)(m:starEach (e::b) X.env=(ag,eval e X.env)::starEach b X.env)(g:(backTo pos<|starEach b X.env).any (·.1)=ag):
 iy X E (.Call (.Name x p) (e::b) [] pos) (bF c a):=by
 obtain⟨f,o,F⟩:=F;exact GZ F i j n l d m g
def G6{x:Str}{k:Nat}{i:List Str}{c:VM.CM}{e:Expr}{b:List Expr}{m:VM.EM}{a:VM.AM}{p pos:Pos}(F:FV X.prog X.w X.K X.mg X.base k c x i)(j:bA k X.A)(h:iy X E e m)(o:SA X.cX b a)(l:Gl X x)(d:(x==("__debug__":Str))=ag)(n:starEach (e::b) X.env=(ag,eval e X.env)::starEach b X.env)(g:(backTo pos<|starEach b X.env).any (·.1)=ag):
 iy X E (.Call (.Name x p) (e::b) [] pos) (iN c m a):=by
 obtain⟨f,q,F,_⟩:=F;exact Ja F j h o l d n g
end
end SV
namespace rY
open PySem PySem.Spec PyProof.Rows L2 SV
local macro_rules| `(tactic|walk_at "sc")=> `(tactic|exact⟨rfl,rfl,rfl,by decide+kernel,rfl,by decide+kernel,by decide+kernel⟩)
local macro_rules| `(tactic|walk_at "bl")=> `(tactic|exact K0 (by kernel_rfl) (by decide+kernel) rfl (by decide+kernel) (by kernel_rfl))
local macro_rules| `(tactic|walk_at "in")=> `(tactic|(conv=>arg 2;whnf))
local macro_rules| `(tactic|walk_at "ix")=> `(tactic|(conv=>arg 3;whnf))
local macro_rules| `(tactic|walk_at $s:str)=>do
 let z::l:=s.getString.toList|Lean.Macro.throwUnsupported
 if z≠ '~' /\z≠ '!' /\z≠ '^' then Lean.Macro.throwUnsupported
 let f (n:List Lean.Name) (k:String):Lean.MacroM (Lean.TSyntax `tactic):=do
  if k="0" then return<- `(tactic|refine vj (ex:=[]) (by walk_at "bl") rfl ?_ (λ_ _ _ _=>?_) (λ_ _ _ _=>?_) (λ_ _ _ _=>?_))
  let mut r:= #[]
  let mut m:=n
  for c in k.toList do
   if c= 'n' then m:=m.tail
   let x:=Lean.mkCIdent<|m.headD default
   r:=r.push (<-if c= 'n' then pure ⟨x⟩ else match c with
    | 'a'=> `(‹_›)
    | 'r'=> `(rfl)
    | '_'=> `(_)
    | 'b'=> `((by first|assumption|exact UD (by kernel_rfl)))
    | 'c'=> `((by walk_at "bl"))
    | 'd'=> `((λ_ _ _ _=>?_))
    | 'e'=> `((by decide+kernel))
    | 'f'=> `((by first|rfl|decide+kernel))
    | 'g'=> `((by constructor<;>rfl))
    | 'h'=> `((λ_=>?_))
    | 'i'=> `((by kernel_rfl))
    | 'j'=> `((K9 (bA.hd ‹_›)))
    |_=> `(?_))
  let x:=Lean.mkCIdent<|n.headD default
  `(tactic|refine $x $r*)
 let a<-l.toArray.mapM λc=>match[([``zV],"?"),([``AA],"?"),([``Ip],"a?"),([``Km],"_"),([``Ik],"b"),([``Gf],""),([``Mj],"???"),([``Kz],""),([``Kw],""),([``GQ],"cr?ddd"),([``Gb],"??"),([``KU],"a?"),([``Kx],""),([``Ky],""),([``Kr],"?"),([``Kq],""),([``KZ,``Xt],"nr???"),([``Iq],"a??"),([``Io],"?"),([``oW,``WW,``PySem.F.type_list_append,``Es],"nnn??"),([``H8],"??"),([``GL],"aa?rerr"),([``GS],"acr?ddd"),([``GY],"??"),([``IX],"?"),([``Lq],"???"),([``Ku],"???r"),([``Mq],"a"),([``yZ,``KN],"na?"),([``IZ],"?"),([``EW],"aaa"),([``IY],""),([``G5],"???"),([``KY],"?"),([``Ih],"?"),([``Mu],"??"),([``Ml],""),([``II],"f"),([``KD],"?"),([``Mn],""),([``K8],"aa??"),([``KQ],"r?"),([``Ga],"??"),([``Il],""),([``Mw],"???"),([``KG],"??"),([``Ig],"?"),([``Mi],""),([``Im],""),([``Ms],"??"),([``Kt],"???r"),([``EE],"aaa?"),([``G0],"?"),([``EX,``z6],"aan?rerr"),([``Mr],""),([``KH],"?"),([``KC],"?"),([``Ld],"aa??"),([``yh,``Ii],"na?"),([``Iw],""),([``IC],"a?"),([``Mp],"a"),([``Iz],"a???"),([``Lc],"aa?"),([``GN],"aaa??frrr"),([``Gg],"?"),([``EG],"a"),([``KS],"??"),([``KR],"??"),([``Gx],"??g"),([``Gs],"a???g"),([``Iy],"a??"),([``IA],"aa?"),([``Gp],"?????"),([``Mm],""),([``Gw],"???g"),([``Kp],"_"),([``Gr],"a??g"),([``KJ],"??"),([``KI],"?"),([``EN],"cr?gddd"),([],"0"),([``oW,``PySem.F.slot_list_count,``PySem.F.type_list_count,``Gn],"nnn??"),([``IL],""),([``GO],"af?"),([``GK],"?a?"),([``Ks],"?"),([``Ko],""),([``Lk],"afre"),([``ID,``Xt],"nr?g??"),([``Ie],"?"),([``Ge,``Xt],"n??"),([``KA],"?"),([``Gd],""),([``Jc],"?"),([``G6],"aa??rerr"),([``G1,``z6],"aan?"),([``Jb],"a?"),([``Ll],"arer"),([``IQ],"a?"),([``GR],"cr?ddd"),([``IP],"a?"),([``F',``Ws,``XU,``KP],"nnn?"),([``oW,``WX,``PySem.F.type_list_extend,``Et],"nnn??"),([``Mv],"??"),([``F9],""),([``Mo],""),([``K2],"_aa?"),([``KL],"?"),([``Iv],"a??"),([``Ez],"_a?"),([``Gj],""),([``Kv],""),([``yh,``KO],"na?"),([``GP],"aa?rerrr"),([``G2],"?aah"),([``G3],"a?aah"),([``IJ],"aaaa?rerrrr"),([``IK],"aaaia?reerrrr"),([``yZ],"ja?"),([``Mt],"???"),([``Ia],""),([``Ic],"?"),([``oW,``PySem.F.slot_list_insert,``PySem.F.type_list_insert,``EV],"nnn??"),([``oW,``Ws,``XU,``Gq],"nnn??"),([``K'],""),([``La],"?")]["ekËaÈÑHÕØçdnÙÚScxÌv5b@ìñòô{ã,ðóïõÏÁÃÜgÅÞÎÉÇÆmÂÄifXIîöúà_Às.UÍâtY4ÒåuÊ31W[LÝ2h0MOêæ7]^+TjZw}y|qøüûùĂāèĀ86Náß#P!$%Ö;Cýþ&(<VÓÔÿ9ÛQ".toList.idxOf c]? with
  |some (n,k)=>f n k
  |none=>Lean.Macro.throwUnsupported
 let p<-if z= '^' then `(tactic|walk_at "ix") else `(tactic|walk_at "in")
 if z= '~' then `(tactic|($[$a];*)) else `(tactic|((·walk_at "sc");intro _ _ _ _ _ _ _ _ _ _ _;$p;($[$a];*)))
def top(i:Nat):Stmt:=PySem.Challenge.pw_bedsheet_k07_refused.main.body.getD i<|.Pass ⟨0,0,0,0⟩
structure Fs(K:Fg)(mg:Str->Option ah)(C:Addr):Prop where
 h0:FK K mg "row_fields" (top 5) ["size","row"]
 h1:FK K mg "column_fields" (top 6) ["size","column"]
 h2:FK K mg "box_fields" (top 7) ["high","wide","box"]
 h3:FK K mg "groups_of" (top 8) ["high","wide"]
 h4:FK K mg "refuse_no_sheet" (top 9) ["high","wide","sheet"]
 h5:FK K mg "keeps_numbers" (top 10) ["sheet","filled"]
 h6:FK K mg "has_twice" (top 11) ["group","filled"]
 h7:FK K mg "fills" (top 12) ["high","wide","sheet","filled"]
 h8:FK K mg "groups_at" (top 14) ["high","wide","place"]
 h9:jM K (Mk K C) "__init__" "State.__init__" (inClass (top 15) 0) ["self","high","wide","sheet"]
 sP:jM K (Meth K C "numbers_for") "numbers_for" "State.numbers_for" (inClass (top 15) 1) ["self","place"]
 sQ:jM K (Meth K C "put") "put" "State.put" (inClass (top 15) 2) ["self","place","number"]
 sR:jM K (Meth K C "behind") "behind" "State.behind" (inClass (top 15) 3) ["self","place","number"]
 sS:FK K mg "is_group" (top 17) ["state","group"]
 sT:FK K mg "homes_in" (top 18) ["state","group"]
 sU:FK K mg "step_follows" (top 19) ["state","step"]
 sV:FK K mg "all_follow" (top 20) ["state","steps"]
 sW:FK K mg "stuck_fields" (top 21) ["state"]
 sX:FK K mg "homeless_numbers" (top 22) ["state","group"]
 sY:FK K mg "twice_numbers" (top 23) ["state","group"]
 sZ:FK K mg "clash_is_there" (top 24) ["state","clash"]
 s_:FK K mg "first_in_groups" (top 25) ["state","kind","numbers_in"]
 ti:FK K mg "first_twice" (top 26) ["state"]
 tj:FK K mg "first_dead_end" (top 27) ["state"]
 tm:FK K mg "first_step" (top 28) ["state"]
 tu:FK K mg "first_clash" (top 29) ["state"]
 tD:FK K mg "take_steps" (top 30) ["state"]
 tF:FK K mg "follows" (top 31) ["high","wide","sheet","step"]
 tG:FK K mg "done" (top 32) ["high","wide","sheet","steps"]
 tH:FK K mg "steps_of" (top 33) ["high","wide","sheet"]
 tI:FK K mg "place_to_try" (top 36) ["state"]
 tJ:FK K mg "grown_tree" (top 37) ["state","found"]
 tK:FK K mg "solved" (top 38) ["high","wide","sheet"]
 tL:FK K mg "branches_fit" (top 39) ["state","place","branches"]
 tM:FK K mg "end_holds" (top 40) ["state","end"]
 tN:FK K mg "branch_states" (top 41) ["state","end"]
 tO:FK K mg "stands" (top 42) ["high","wide","sheet","tree"]
 tP:FK K mg "_law_whole" (top 44) ["_law_found"]
 tQ:FK K mg "_law_at" (top 45) ["_law_script","_law_k"]
 tR:FK K mg "_law_same" (top 46) ["_law_found","_law_due"]
 tS:FK K mg "_law_shape_of" (top 47) ["_law_cell"]
 tU:FK K mg "_law_all_groups" (top 48) ["_law_high","_law_wide"]
 tV:FK K mg "_law_full_sheet" (top 49) ["_law_high","_law_wide","_law_cell"]
 tW:FK K mg "_law_sheet_by" (top 50) ["_law_filled","_law_cells","_law_share"]
 tX:FK K mg "_law_called" (top 51) ["_law_way","_law_high","_law_wide","_law_sheet","_law_filled"]
 tY:FK K mg "_law_refuses" (top 52) ["_law_way","_law_high","_law_wide","_law_sheet","_law_filled"]
 tZ:FK K mg "_law_refused_by_any" (top 53) ["_law_way","_law_high","_law_wide","_law_sheet","_law_filled"]
 t4:FK K mg "_law_shape_for" (top 54) ["_law_script"]
 xm:FK K mg "law" (top 55) ["_law_script"]
structure Bs(K:Fg)(mg:Str->Option ah)(C:Addr)(jZ:Addr)(mF:Addr)(jV:Addr)(c0 Pt:Addr)(tE:Tok):Prop where
 tT:PySem.W.tabIn K gy=aa (c0,Pt)
 tC:kC K c0 Pt
 cE:mg "ENOUGH"=aa (.int 2 tE)
 cl:jx K [83,116,97,116,101] C
 mC:mg "State"=aa (.ref C)
 rA:fe K C "high"
 AR:fe K C "wide"
 za:fe K C "groups"
 yo:fe K C "numbers"
 rL:fe K C "can"
 RF:mg "range"=ae
 RL:mg "len"=ae
 Rt:mg "enumerate"=ae
 RJ:mg "list"=ae
 Rl:mg "isinstance"=ae
 RK:mg "bool"=ae
 RM:mg "int"=ae
 RG:mg "tuple"=ae
 RN:mg "str"=ae
 RP:mg "sum"=ae
 RQ:mg "zip"=ae
 RT:mg "set"=ae
 RU:mg "min"=ae
 Rm:mg "ValueError"=ae
 RA:mg "NoStep"=aa (.ref jZ)
 zb:PySem.W.excIn K jZ om "ValueError.__new__"=af
 RB:PySem.W.nsIn K mainGlobals (txt [78,111,83,116,101,112])=aa (aa<|.ref jZ)
 Rn:mg "SheetError"=aa (.ref mF)
 Rv:mg "NoSheet"=aa (.ref jV)
 yp:PySem.W.excIn K jV om "ValueError.__new__"=af
 Rw:PySem.W.nsIn K mainGlobals (txt [78,111,83,104,101,101,116])=aa (aa<|.ref jV)
 RC:ky K jZ [[78,111,83,116,101,112]]
 RD:eJ K (.ref jZ) af [[78,111,83,116,101,112]]
 RE:eJ K (.ref jZ) ag [[78,111,83,104,101,101,116]]
 Ro:ky K mF [[78,111,83,104,101,101,116],[78,111,83,116,101,112]]
 Rp:eJ K (.ref mF) af [[78,111,83,104,101,101,116],[78,111,83,116,101,112]]
 Rq:eJ K (.ref mF) ag []
 Rx:ky K jV [[78,111,83,104,101,101,116]]
 Ry:eJ K (.ref jV) af [[78,111,83,104,101,101,116]]
 Rz:eJ K (.ref jV) ag [[78,111,83,116,101,112]]
 SY:eJ K (.ty "ValueError") af [[78,111,83,104,101,101,116],[78,111,83,116,101,112]]
 S4:eJ K (.ty "ValueError") ag []
section
variable{P:Program}{w:World}{K:Fg}{mg:Str->Option ah}{base:Heap}{C:Addr}{k:Nat}
structure Al(P:Program)(w:World)(K:Fg)(mg:Str->Option ah)(base:Heap)(C:Addr)(k:Nat)(c:VM.CE):Prop where
 g0:FV P w K mg base k (c 0) "row_fields" ["size","row"]
 g1:FV P w K mg base k (c 1) "column_fields" ["size","column"]
 g2:FV P w K mg base k (c 2) "box_fields" ["high","wide","box"]
 g3:FV P w K mg base k (c 3) "groups_of" ["high","wide"]
 g4:FX P w K mg base k (c 4) "refuse_no_sheet" ["high","wide","sheet"]
 g5:FV P w K mg base k (c 5) "keeps_numbers" ["sheet","filled"]
 g6:FV P w K mg base k (c 6) "has_twice" ["group","filled"]
 g7:FX P w K mg base k (c 7) "fills" ["high","wide","sheet","filled"]
 g8:FV P w K mg base k (c 8) "groups_at" ["high","wide","place"]
 g9:qj P w K mg base k (c 9) (Mk K C) ["self","high","wide","sheet"]
 S5:FM P w K mg base k (c 10) (Meth K C "numbers_for") ["self","place"]
 S6:FM P w K mg base k (c 11) (Meth K C "put") ["self","place","number"]
 S8:FM P w K mg base k (c 12) (Meth K C "behind") ["self","place","number"]
 S9:mD P w K mg base k "State" 3 (c 13)
 S_:xc P w K mg base k "State" 3 (VM.nx<|c 13)
 Ta:FV P w K mg base k (c 14) "is_group" ["state","group"]
 Tc:FV P w K mg base k (c 15) "homes_in" ["state","group"]
 Td:FV P w K mg base k (c 16) "step_follows" ["state","step"]
 Te:FV P w K mg base k (c 17) "all_follow" ["state","steps"]
 Tf:FV P w K mg base k (c 18) "stuck_fields" ["state"]
 Tg:FV P w K mg base k (c 19) "homeless_numbers" ["state","group"]
 Th:FV P w K mg base k (c 20) "twice_numbers" ["state","group"]
 Ti:FV P w K mg base k (c 21) "clash_is_there" ["state","clash"]
 Tj:FV P w K mg base k (c 22) "first_in_groups" ["state","kind","numbers_in"]
 Tn:FV P w K mg base k (c 23) "first_twice" ["state"]
 To:FV P w K mg base k (c 24) "first_dead_end" ["state"]
 Tp:FV P w K mg base k (c 25) "first_step" ["state"]
 Tq:FV P w K mg base k (c 26) "first_clash" ["state"]
 Ts:FV P w K mg base k (c 27) "take_steps" ["state"]
 Tt:FX P w K mg base k (c 28) "follows" ["high","wide","sheet","step"]
 Tu:FX P w K mg base k (c 29) "done" ["high","wide","sheet","steps"]
 Tv:FX P w K mg base k (c 30) "steps_of" ["high","wide","sheet"]
 Tw:FV P w K mg base k (c 31) "place_to_try" ["state"]
 Tx:FV P w K mg base k (c 32) "grown_tree" ["state","found"]
 Tz:FX P w K mg base k (c 33) "solved" ["high","wide","sheet"]
 TB:FV P w K mg base k (c 34) "branches_fit" ["state","place","branches"]
 TC:FV P w K mg base k (c 35) "end_holds" ["state","end"]
 TF:FV P w K mg base k (c 36) "branch_states" ["state","end"]
 TH:FX P w K mg base k (c 37) "stands" ["high","wide","sheet","tree"]
 TJ:FV P w K mg base k (c 38) "_law_whole" ["_law_found"]
 TK:FV P w K mg base k (c 39) "_law_at" ["_law_script","_law_k"]
 TL:FV P w K mg base k (c 40) "_law_same" ["_law_found","_law_due"]
 TN:FV P w K mg base k (c 41) "_law_shape_of" ["_law_cell"]
 TQ:FV P w K mg base k (c 42) "_law_all_groups" ["_law_high","_law_wide"]
 TR:FV P w K mg base k (c 43) "_law_full_sheet" ["_law_high","_law_wide","_law_cell"]
 TU:FV P w K mg base k (c 44) "_law_sheet_by" ["_law_filled","_law_cells","_law_share"]
 TV:FX P w K mg base k (c 45) "_law_called" ["_law_way","_law_high","_law_wide","_law_sheet","_law_filled"]
 TX:FV P w K mg base k (c 46) "_law_refuses" ["_law_way","_law_high","_law_wide","_law_sheet","_law_filled"]
 TY:FV P w K mg base k (c 47) "_law_refused_by_any" ["_law_way","_law_high","_law_wide","_law_sheet","_law_filled"]
 TZ:FV P w K mg base k (c 48) "_law_shape_for" ["_law_script"]
variable{jZ:Addr}{mF:Addr}{jV:Addr}{c0 Pt:Addr}{tE:Tok}(h:Fs K mg C)(B:Bs K mg C jZ mF jV c0 Pt tE)(A:Al P w K mg base C k<|aV K7.tab k)(bm:iW mg base)
include h B A bm
theorem kS:Al P w K mg base C (k+1) (aV K7.tab<|k+1):=by have x:mD P w K mg base (k+1) "State" 3 (aV K7.tab (k+1) 13):=Lv A.g9 B.cl B.mC;cases B;cases A;exact⟨by refine b_ (N:=["size","row"]) h.h0 ?_ ?_;walk_at "!ekçËaÈÑHÕHØaaa",by refine b_ (N:=["size","column"]) h.h1 ?_ ?_;walk_at "!ekçËaÈÑHÕHØaaa",by refine b_ (N:=["high","wide","box","size","top","left","fields","row","column"]) h.h2 ?_ ?_;walk_at "!dnHØaadnHØHÙaaadnHØHÚaaadnScdxÌaHÕaaÈexÌaHÕaaÈev5abHÕHØaaaceka",by refine b_ (N:=["high","wide","size","rows","columns","boxes"]) h.h3 ?_ ?_;walk_at "!dnHØaadìËaÈÑ@babacdìËaÈÑ@babacdìËaÈÑ@bababacekHÕHÕaaa",by refine kz (N:=["high","wide","sheet","size","number"]) h.h4 ?_ ?_;walk_at "^ñònHØaañô{ã,bacHØaaðóïðõÏaÈðôÁÃ{ÜagÅ{Þaaðóï",by refine b_ (N:=["sheet","filled","number","other"]) h.h5 ?_ ?_;walk_at "!dxÎaaÉÇÈÇÈÆemÁÂ{ãagÄ{ãaaekifeki",by refine b_ (N:=["group","filled","numbers"]) h.h6 ?_ ?_;walk_at "!dìÏaÈÑXaaekIÜîa,bac",by refine kz (N:=["high","wide","sheet","filled","group"]) h.h7 ?_ ?_;walk_at "^ñöúbababacñöúbababacñòmÁÃ{àgaÅ_À@babacekifñòxÏ@babacÈemÀ@babacekifðòki",by refine b_ (N:=["high","wide","place","size","row","column","box"]) h.h8 ?_ ?_;walk_at "!dnHØaadnHÙaadnHÚaadnHÕHØHÙaaaHÙaaekSbabHÕaabHÕHØgaac",by refine Lu (N:=["self","high","wide","sheet","place","number"]) h.h9 ?_ ?_;walk_at "^ñöúbababacñòsaañòsaañòsa@babacñòsa.bacñòsaUðòxÍaÉÇÈÇÈÆem{âagetYaa4abacf",by refine vV (N:=["self","place","seen","group","field"]) h.sP ?_ ?_;walk_at "!dnUdxÏ@bYabYabacÈexÏXYaaÈetaXYaaiekçÌgHÕHØYaYagÈÒ{åaaa",by refine vV (N:=["self","place","number","group","field"]) h.sQ ?_ ?_;walk_at "!duaÊYaadv3YaaexÏ@bYabYabacÈexÏXYaaÈem{àa1YaaScetYaaçÏWYaaÈÒ{ãaaaf",by refine vV (N:=["self","place","number","state"]) h.sR ?_ ?_;walk_at "!dn[bYabYabYacdv4ababaceka",x,AQ x,by refine b_ (N:=["state","group"]) h.sS ?_ ?_;walk_at "!ekLÝÜga,bYac",by refine b_ (N:=["state","group","homes","field","number"]) h.sT ?_ ?_;walk_at "!dnUdxÏXYaaÈexÏ1YaaScÈev52aaScbaceka",by refine b_ (N:=["state","step"]) h.sU ?_ ?_;walk_at "!dm{âXaghekIâ0YaXagSbXagcfekM@babXagcOIâ0@babXagcXagSbXagc",by refine b_ (N:=["state","steps","step"]) h.sV ?_ ?_;walk_at "!dxÏaÈdm_À@babacekifev4abXagbXagceki",by refine b_ (N:=["state"]) h.sW ?_ ?_;walk_at "!ekêYaÉÇÈÇÈÆÒ{âaSca",by refine b_ (N:=["state","group","found","field","number"]) h.sX ?_ ?_;walk_at "!dnUdxÏXYaaÈdtaXYaaiexÏ1YaaScÈetaaiekæÌgHÕHØYaYagÈÒ{åaaa",by refine b_ (N:=["state","group","numbers"]) h.sY ?_ ?_;walk_at "!dnçÏXYaaÈÑXYaaekçÌgHÕHØYaYagÈÒ{Þ7abacga",by refine b_ (N:=["state","clash"]) h.sZ ?_ ?_;walk_at "!dm{âXaghekIàXag@bacfdm_À@babXagcekifdm{âXaghekIàXag@babXagcfekIàXag@babXagc",by refine b_ (N:=["state","kind","numbers_in","group","numbers"]) h.s_ ?_ ?_;walk_at "!dxË,bYacÈdn+^^]babacem{ãaScekTbababXagcfekj",by refine b_ (N:=["state"]) h.ti ?_ ?_;walk_at "!ek@babhbZc",by refine b_ (N:=["state","fields"]) h.tj ?_ ?_;walk_at "!dn@bacdm{ãaScekTbhbXagcfek@babhbZc",by refine b_ (N:=["state","place","numbers","group","number","fields"]) h.tm ?_ ?_;walk_at "!dwYaÉÇÈÇÈÆem{â,bacgekTbhbabXagcfdxË,bYacÈew@babacÉÇÈÇÈÆem{â,bacgekTbhbXagbabacfekj",by refine b_ (N:=["state","twice"]) h.tu ?_ ?_;walk_at "!dn@bacdm}aekafek@bac",by refine b_ (N:=["state","steps","clash","step"]) h.tD ?_ ?_;walk_at "!dnScdn@bacdy|adn@bacdm|aeqfdv4abXagbXagcdv5abacen@bacekTbabac",by refine kz (N:=["high","wide","sheet","step"]) h.tF ?_ ?_;walk_at "^ðøüûbababacbac",by refine kz (N:=["high","wide","sheet","steps","state"]) h.tG ?_ ?_;walk_at "^ñùûbababacñô_À@babacðóïðòkYa",by refine kz (N:=["high","wide","sheet"]) h.tH ?_ ?_;walk_at "^ðøüûbababacc",by refine Lp (N:=["state"]) h.tI ‹_› ?_ ?_;(·walk_at "sc");intro _ _ _ _ _ _ _ _;walk_at "in";exact zV (AA (Ln ‹_› ‹_› ‹_› (by first|rfl|decide+kernel) ‹_› ‹_› ‹_› rfl (by kernel_rfl) (IW rfl rfl rfl (by decide+kernel) (by decide+kernel) (by decide+kernel) rfl rfl) (λ_ e=>MD rfl e) rfl (λ_ _ _ _ _ _=>rfl) ‹_› ‹_› ‹_› rfl rfl rfl rfl rfl (by decide+kernel) (by decide+kernel) (by decide+kernel) (by decide+kernel))),by refine b_ (N:=["state","found","steps","clash","place","branches","number"]) h.tJ ?_ ?_;walk_at "!dm{â,bacĂekTbScbTbhccfdu@bacÉÇÈÇÈÆdm}aekTbabTbhbaccfdmāYadv5abYacekTbabTbhccfdn@bacdnScdxÏWYaaÈev5abTbab@b4ababacbacccekTbabTbhbabacc",by refine kz (N:=["high","wide","sheet","found","tree"]) h.tK ?_ ?_;walk_at "^ñònScñùüûbababacbacðòkTbabac",by refine b_ (N:=["state","place","branches","numbers"]) h.tL ?_ ?_;walk_at "!dn1YaaScekMIãaScOIâèÏaÉÇÈÇÈÆÑaa",by refine b_ (N:=["state","end"]) h.tM ?_ ?_;walk_at "!dm{âXaghekĀYafdm{âXaghek@babXagcfdm{âXaghek@babXagbXagcfeki",by refine b_ (N:=["state","end"]) h.tN ?_ ?_;walk_at "!dm{ãXaghekScfekèÏXagÉÇÈÇÈÆÑTb4abXagbacbac",by refine kz (N:=["high","wide","sheet","tree","start","ends","waiting","state","part"]) h.tO ?_ ?_;walk_at "^ñùûbababacñòm}@bacekMIâXagScMIâXXagghO@babXagcfñònScñònSbTbabaccñòy{ãaScdu8aÉÇÈÇÈÆdmÁÃ_À@babXagcÅ_À@babXagcekifdv5abXXaggcev6ab@babXagccðòkNIáhaOIß7abhcĂ",by refine b_ (N:=["_law_found"]) h.tP ?_ ?_;walk_at "!ekM#aOP#a",by refine b_ (N:=["_law_script","_law_k"]) h.tQ ?_ ?_;walk_at "!dm{âaScekgfekHÕXaHÚa,bacHØgHÙa,bac",by refine b_ (N:=["_law_found","_law_due","_law_left","_law_right","_law_one","_law_two"]) h.tR ?_ ?_;walk_at "!dnSbacdnSbacdy{ãaScdn8adn8aemÀ!a$$%dm{ã#a#aekifdmÁÃ{ã#a#aÅ{ã,bac,bacekifdv6abacev6abacem|aem}aekifemÀ#aemÁÃ_À#aÅ{ãaaekifemÀ#aemÁÃ_À#aÅ{ãaaekifemÁÃ_À@bacÅ{ãaaekifeki",by refine b_ (N:=["_law_cell"]) h.tS ?_ ?_;walk_at "!ekXSbTbgbgcbTbgbgcbTbgbgcbTbgbgcbTbgbgcbTbgbgcbTbgbgcbTbgbgccHÚag",by refine b_ (N:=["_law_high","_law_wide","_law_size","_law_groups","_law_place","_law_row","_law_column","_law_box","_law_group"]) h.tU ?_ ?_;walk_at "!dnHØaadìËHØgaÈÑScdxËHØaaÈdnHÙaadnHÚaadnHÕHØHÙaaaHÙaaexÏSbabHÕaabHÕHØgaacÈev5Xaabaceka",by refine b_ (N:=["_law_high","_law_wide","_law_cell","_law_size","_law_turn","_law_filled","_law_row","_law_column","_law_number","_law_told","_law_place"]) h.tV ?_ ?_;walk_at "!dnHØaadnHÚaadnScdxËaÈexËaÈdnHÚHÕHÕHØaHÚaaHÙaaaaev5abHÕHÚHÕHØaXSbgbHÖagcHÚHÙaggaagcdmÁÂ{âHÚHÙagggÄ{âaadnScdxËHØaaÈev5abXaHÕHØHÚaaaHÙaacenafeka",by refine b_ (N:=["_law_filled","_law_cells","_law_share","_law_sheet","_law_place","_law_cell"]) h.tW ?_ ?_;walk_at "!dnScdxË,bacÈdngdm{Üa,bacenXaafev5abHØXaa;bIßHÚHÕaagacceka",by refine kz (N:=["_law_way","_law_high","_law_wide","_law_sheet","_law_filled"]) h.tX ?_ ?_;walk_at "^ðô{âagðöúbabababacðô{âagðöúbabababacðô{âagðöúbabababTbhbgbgccðô{âagðöúbabababSccðô{âagðöúbababacðô{âagðöúbababacðöúbabababTbScbTbhccc",by refine b_ (N:=["_law_way","_law_high","_law_wide","_law_sheet","_law_filled"]) h.tY ?_ ?_;walk_at "!dýCbababababacekieki",by refine b_ (N:=["_law_way","_law_high","_law_wide","_law_sheet","_law_filled","e","_law_kinds"]) h.tZ ?_ ?_;walk_at "!dþCbababababacdnHÕ;b&ac;b&acekMIâagO(aeki",by refine b_ (N:=["_law_script"]) h.t4 ?_ ?_;walk_at "!dm{Þ,bacgekXSbTbgbgcbTbgbgcbTbgbgcbTbgbgccHÚ@babgcgfdm{âHÚ<bVaÓÔgcggekXSbTbgbgcbTbgbgccHÚHÙ@babgcggfek@b@babgcc"⟩
omit A
theorem kA:∀k,Al P w K mg base C k (aV K7.tab k)
 |0=>⟨bY h.h0,bY h.h1,bY h.h2,bY h.h3,j8 h.h4,bY h.h5,bY h.h6,j8 h.h7,bY h.h8,G4 h.h9,vk h.sP,vk h.sQ,vk h.sR,y_,AQ y_,bY h.sS,bY h.sT,bY h.sU,bY h.sV,bY h.sW,bY h.sX,bY h.sY,bY h.sZ,bY h.s_,bY h.ti,bY h.tj,bY h.tm,bY h.tu,bY h.tD,j8 h.tF,j8 h.tG,j8 h.tH,bY h.tI,bY h.tJ,j8 h.tK,bY h.tL,bY h.tM,bY h.tN,j8 h.tO,bY h.tP,bY h.tQ,bY h.tR,bY h.tS,bY h.tU,bY h.tV,bY h.tW,j8 h.tX,bY h.tY,bY h.tZ,bY h.t4⟩
 |k+1=>kS h B (kA k) bm
def kL{f:Addr}{a:FuncData}(F:gH K "law" "law" (top 55) f a)(d:mg "law"=aa (.ref f))(e:Binds K a ["_law_script"] []):dS P w K mg base fz 110 f a ["_law_script"] (pH K):=by
 have A:=kA (P:=P) (w:=w) (base:=base) h B bm 109;have S:fV ["_law_script","_law_high","_law_wide","_law_size","_law_groups","_law_filled","_law_share","_law_sheet","_law_cell","_law_way","_law_far","_law_odd","_law_turn","_law_handed"] ["_law_script"] (cc (top 55)):=by walk_at "sc"
 have j:=S.nd;have V:jK P w K mg base 110 "law" f a ["_law_script"] (aV K7.tab 110 49):=by
  cases B;cases A;refine AE F S d e λg A b s H E c=>?_
  have i:=c.oY;have l:=pf c
  walk_at "in"
  walk_at "~du@bacÉÇÈÇÈÆdnHØaadn@babacdn@babab@babgccdnHÚ@babgcXSbgbgbgcHÕ;bIÞagc;bIÞagcdn@babVaÔgÔgbacdn@babgcdnHÚagdm{âagevÿabHÚHÙagHÕ,bacgbHÚHÙaggcfdm{âagev9abHÚHÙag,baccfdm{âagdnHÚ@babgcHÛggdnSbQgbHÕagbgbHÕHÕagabHÖQgaceuXaHÚ@babgcgÊaHÚHÙag,bacfdxËgÈdn.bacdm{ã@babababab.baccIÞagekifdm{ã@babababab.baccIÞagekifem_À@babacekifeki"
 exact K1 V K7.math
end
def all_mk{l:PySem.W.OpenLaw}{w:World}{K:Fg}{d:Str->Option ah}{fa C c a b c0 Pt:Addr}{p:Tok}(h:Fs K d C)(B:Bs K d C c a b c0 Pt p)(i:d "law"=aa (.ref fa)):∃g:FuncData,(∀(s:Shared) (v:ah),BindsTo s g ⟨[v],[]⟩ [("_law_script",v)])/\∀base:Heap,K.In base->base.Ns mainGlobals d->iW d base->dS l.prog w K d base fz 110 fa g ["_law_script"] (pH K):=by obtain⟨f,g,F,j,m,_⟩:=h.xm;have e:=i.symm.trans j;cases e;refine⟨g,λs v=>?_,λbase _ _ r=>kL h B r F j m⟩;obtain⟨u,x,kV,o,y,t,q,ct,n,rfl,lk,k⟩:=F.ex;exact .of_eq rfl
def walk{l:PySem.W.OpenLaw}{q:Program}{b:List Str}{t:(Str->Option ah)->Heap->Prop}{o:World->Heap->Prop}{d:DefRec}{K:Params->Fg}{c0 Pt:Addr}(z:l.most=aa 63)(i:d.params.defaults=[])(y:∀(w:World) (h:Heap),o w h->(K w.params).In h)(g:((recsOf q).find? λe=>e.name==gy).isSome=af)(v:∀w:World,PySem.W.tabIn (K w.params) gy=aa (c0,Pt))(r:∀w:World,PySem.W.noTabs (K w.params)=af)(F:∀(w:World) (c:Str->Option ah) (fa:Addr) (h:Heap),(K w.params).In h->h.Ns mainGlobals c->c d.name=aa (.ref fa)->kC (K w.params) c0 Pt->
  ∃m:FuncData,(∀(s:Shared) (u:ah),BindsTo s m ⟨[u],[]⟩ [("_law_script",u)])/\∀base:Heap,(K w.params).In base->base.Ns mainGlobals c->iW c base->dS l.prog w (K w.params) c base fz 110 fa m ["_law_script"] (pH (K w.params))):
 PySem.W.WalkO q b t o l.row.toRowW d [] (λf vs=>PySem.call f vs):=
 GX (n:=63) (k:=110) (x:="_law_script") (sp:=λw=>pH<|K w.params) z (by decide) i ⟨rfl,by decide,by decide⟩ y g v r F λ_ _ a B A p C j=>⟨a,B,rfl,C,A,p,j,λ_=>rfl⟩
def MF{K:Fg}{h:Heap}{mg:Str->Option ah}{C b c a c0 Pt:Addr}{tE:Tok}(X:K.In h)(G:h.Ns mainGlobals mg)(aC:PySem.W.nsIn K mainGlobals "State"=aa (aa<|.ref C))(pg:PySem.W.plainGet K C Str.empty=af)(hd:PySem.W.hasDictIn K C=af)(po:PySem.W.plainOver K C=af)(sa:PySem.W.findIn K (.ref C) "__setattr__"=aa (aa<|.builtin "object.__setattr__"))(rA:PySem.W.findIn K (.ref C) "high"=aa ae)(Z:PySem.W.findIn K (.ref C) "wide"=aa ae)(S:PySem.W.findIn K (.ref C) "groups"=aa ae)(Q:PySem.W.findIn K (.ref C) "numbers"=aa ae)(rL:PySem.W.findIn K (.ref C) "can"=aa ae)(tT:PySem.W.tabIn K gy=aa (c0,Pt))(tC:kC K c0 Pt)(aE:PySem.W.nsIn K mainGlobals "ENOUGH"=aa (aa<|.int 2 tE))(V:PySem.W.nsIn K mainGlobals "range"=aa ae)(vX:PySem.W.nsIn K mainGlobals "len"=aa ae)(E:PySem.W.nsIn K mainGlobals "enumerate"=aa ae)(vK:PySem.W.nsIn K mainGlobals "list"=aa ae)(B:PySem.W.nsIn K mainGlobals "isinstance"=aa ae)(Y:PySem.W.nsIn K mainGlobals "bool"=aa ae)(vY:PySem.W.nsIn K mainGlobals "int"=aa ae)(U:PySem.W.nsIn K mainGlobals "tuple"=aa ae)(vZ:PySem.W.nsIn K mainGlobals "str"=aa ae)(v5:PySem.W.nsIn K mainGlobals "sum"=aa ae)(v8:PySem.W.nsIn K mainGlobals "zip"=aa ae)(v9:PySem.W.nsIn K mainGlobals "set"=aa ae)(v_:PySem.W.nsIn K mainGlobals "min"=aa ae)(z:PySem.W.nsIn K mainGlobals "ValueError"=aa ae)(f:PySem.W.nsIn K mainGlobals "NoStep"=aa (aa<|.ref b))(A:PySem.W.nsIn K mainGlobals "SheetError"=aa (aa<|.ref c))(d:PySem.W.nsIn K mainGlobals "NoSheet"=aa (aa<|.ref a))(T:PySem.W.excIn K b om "ValueError.__new__"=af)(M:PySem.W.findIn K (.ref b) "__getattribute__"=aa (aa<|.builtin "BaseException.__getattribute__"))(O:PySem.W.findIn K (.ref b) "__getattr__"=aa ae)(P:PySem.W.findIn K (.ref b) "__class__"=aa (aa<|.builtin "object.__class__"))(l:PySem.W.mroIn K b (.type "object")=aa af)(R:PySem.W.mroIn K b (.type "BaseException")=aa af)(w:PySem.W.exmOne K (.ref b) (.ref b)=aa af)(y:PySem.W.kitOne K (.ref b) (.ref b)=aa af)(p:PySem.W.exmOne K (.ref b) (.ref c)=aa af)(o:PySem.W.kitOne K (.ref b) (.ref c)=aa af)(v:PySem.W.kitOne K (.ref b) (.ref a)=aa ag)(J:PySem.W.kitOne K (.ref b) (.type "ValueError")=aa af)(N:PySem.W.excIn K a om "ValueError.__new__"=af)(I:PySem.W.findIn K (.ref a) "__getattribute__"=aa (aa<|.builtin "BaseException.__getattribute__"))(F:PySem.W.findIn K (.ref a) "__getattr__"=aa ae)(L:PySem.W.findIn K (.ref a) "__class__"=aa (aa<|.builtin "object.__class__"))(i:PySem.W.mroIn K a (.type "object")=aa af)(H:PySem.W.mroIn K a (.type "BaseException")=aa af)(u:PySem.W.kitOne K (.ref a) (.ref b)=aa ag)(m:PySem.W.exmOne K (.ref a) (.ref c)=aa af)(n:PySem.W.kitOne K (.ref a) (.ref c)=aa af)(t:PySem.W.exmOne K (.ref a) (.ref a)=aa af)(s:PySem.W.kitOne K (.ref a) (.ref a)=aa af)(D:PySem.W.kitOne K (.ref a) (.type "ValueError")=aa af):Bs K mg C b c a c0 Pt tE:=by
 have j:ig K a:=⟨I,F,L,i,H⟩;have g:(PySem.W.clsIn K a).isSome=af:=by
  unfold PySem.W.mroIn at i;cases e:PySem.W.clsIn K a with
  |some x=>rfl
  |none=>rw[e] at i;cases i
 have q:ig K b:=⟨M,O,P,l,R⟩;have k:(PySem.W.clsIn K b).isSome=af:=by
  unfold PySem.W.mroIn at l;cases e:PySem.W.clsIn K b with
  |some x=>rfl
  |none=>rw[e] at l;cases l
 exact⟨tT,tC,V1 X G aE,⟨aC,⟨pg,hd,po,sa⟩⟩,V1 X G aC,rA,Z,S,Q,rL,U2 X G V,U2 X G vX,U2 X G E,U2 X G vK,U2 X G B,U2 X G Y,U2 X G vY,U2 X G U,U2 X G vZ,U2 X G v5,U2 X G v8,U2 X G v9,U2 X G v_,U2 X G z,V1 X G f,T,f,V1 X G A,V1 X G d,N,d,(qx f w uC),(jU f q k (λ_ r=>r) y jY),(jU d j g (λ_ r=>r) u jY),(qx d m<|qx f p uC),(jU d j g (λ_ r=>r) n<|jU f q k (λ_ r=>r) o jY),jY,(qx d t uC),(jU d j g (λ_ r=>r) s jY),(jU f q k (λ_ r=>r) v jY),(jU d j g (λ_ r=>r) D<|jU f q k (λ_ r=>r) J jY),jY⟩
end rY
namespace PySem.W.Fast
def tw6744894638204577617:=trivial
def tw7960354966612455165:=trivial
def tw18157371622414430597:=trivial
def tw1595538500813349477:=trivial
def tw4706062759580775000:=trivial
def tw8592019855718454921:=trivial
def tw1207470778607855861:=trivial
def tw13847605741268286256:=trivial
def tw16266316659381688639:=trivial
def tw5031823184463163850:=trivial
def tw10806112235049997053:=trivial
def tw16896348983845773015:=trivial
def tw5436038721017522424:=trivial
def tw4334575973590690859:=trivial
def tw1534875777643213070:=trivial
def tw7744703386404157600:=trivial
def tw7587395109793094504:=trivial
def tw7784049968068956798:=trivial
def tw3278286708699060799:=trivial
def tw17689904920986281691:=trivial
def tw6986086901239614114:=trivial
def tw6866161982587835379:=trivial
def tw12879831897765882401:=trivial
def tw15604360076735168375:=trivial
def tw12064815428776101152:=trivial
def tw13734652914135122641:=trivial
def tw6849560433037157273:=trivial
def tw3771410293149538353:=trivial
def tw16852991195517376088:=trivial
def tw11522549027609476300:=trivial
def tw9944336723357101776:=trivial
def tw10703360363568751924:=trivial
def tw7708277740489818402:=trivial
def tw13012107609717347612:=trivial
def tw2141598709285840260:=trivial
def tw3820078173586521197:=trivial
def tw16900929511252132880:=trivial
def tw6024168140590135704:=trivial
def tw14938846657366998872:=trivial
def tw2127964562990158673:=trivial
def tw3640968629777434726:=trivial
def tw8128772297492481350:=trivial
def tw8211219966092410005:=trivial
def tw17718047376159067476:=trivial
def tw15592022485634697325:=trivial
def tw1205927803395215546:=trivial
def tw2131287030832361329:=trivial
def tw10286631591240681210:=trivial
def tw16181705228134093948:=trivial
def tw934208961726413559:=trivial
def tw15537447413673815481:=trivial
def tw365035013330561474:=trivial
def tw8841427925586343816:=trivial
def tw8143398842264225014:=trivial
def tw6085962390199118351:=trivial
def tw15111974254752256290:=trivial
def tw9176989957639259009:=trivial
def tw42167334062701762:=trivial
def tw6875919595830928362:=trivial
def tw10549829080625551665:=trivial
def tw16343292593791959778:=trivial
def tw6901736374635223137:=trivial
def tw2508559415400936791:=trivial
def tw4724268317530191004:=trivial
def tw7267050917232378864:=trivial
def tw5816503355280798074:=trivial
def tw4119728120147941244:=trivial
def tw7850685362568062204:=trivial
def tw10676448844969465260:=trivial
def tw4281564799660952295:=trivial
def tw17871516761688649303:=trivial
def tw9879794294548620521:=trivial
def tw8398423184869799818:=trivial
def tw12300260488756225135:=trivial
def tw2240804029448207785:=trivial
def tw8664216756577638600:=trivial
def tw10852873907358805944:=trivial
def tw3414413676835264915:=trivial
def tw13888960817614408111:=trivial
def tw354717245152402845:=trivial
def tw3007851819812855752:=trivial
def tw7338638261051369198:=trivial
def tw579781366805109131:=trivial
def tw5999936104639917049:=trivial
def tw15718497004265424573:=trivial
def tw948024992701262512:=trivial
def tw5757375966159162230:=trivial
def tw4132431609448739679:=trivial
def tw7736469021694715080:=trivial
def tw6862420484549617984:=trivial
def tw856544666024954079:=trivial
def tw12959397051140947527:=trivial
def tw10076653452173784321:=trivial
def tw9942300809074363169:=trivial
def tw17282187749788360782:=trivial
def tw17135478554033662162:=trivial
def tw93800572404235591:=trivial
def tw5922034177540004010:=trivial
def tw14200967328411911332:=trivial
def tw10745891496568676727:=trivial
def tw14108208225302902152:=trivial
def tw5215709360669372584:=trivial
def tw9236036596921004977:=trivial
def tw15986551120852338062:=trivial
def tw15505374590135883229:=trivial
def tw12627513909655639802:=trivial
def tw13550098984914585162:=trivial
def tw18184490799089945625:=trivial
def tw15820499666106533529:=trivial
def tw2208737956384076918:=trivial
def tw15048577351769403539:=trivial
def tw12904254094444578964:=trivial
def tw15411143825145319576:=trivial
def tw2509003713946103995:=trivial
def tw6996697545244009739:=trivial
def tw18253835060096344315:=trivial
def tw18405980499800175843:=trivial
def tw1369910064360541221:=trivial
def tw13276726919595472136:=trivial
def tw12102077201025940198:=trivial
def tw12508538856357328077:=trivial
def tw18278162366333547002:=trivial
def tw4056169868416225897:=trivial
def tw5726574086573611286:=trivial
def tw606208746745783554:=trivial
def tw9510341773036824521:=trivial
def tw2823834880383236149:=trivial
def tw5242084404154609397:=trivial
def tw391426568410758973:=trivial
def tw7428168147234277621:=trivial
def tw10549096116222665821:=trivial
def tw3131802768088659468:=trivial
def tw11526391245982477033:=trivial
def tw2143176089728911763:=trivial
def tw1696159266697108102:=trivial
def tw6399963468717258550:=trivial
def tw3728182732583227865:=trivial
def tw16110292698960094613:=trivial
def tw7944287343703807715:=trivial
def tw5277575191828337152:=trivial
def tw11388218788512162769:=trivial
def tw3277007341042149412:=trivial
def tw10683695885164386982:=trivial
def tw608681975642205880:=trivial
def tw2068274428816290857:=trivial
def tw7912036212022368758:=trivial
def tw10896833613466407419:=trivial
def tw750651783467338169:=trivial
def tw2978213475726656316:=trivial
def tw11086735136597261998:=trivial
def tw3054787521815134741:=trivial
def tw8638149248994793398:=trivial
def tw1910826761333110672:=trivial
def tw3021938887255458527:=trivial
def tw11770557912642171292:=trivial
def tw8284745567024108110:=trivial
def tw9304020731693616476:=trivial
def tw6887506765517857468:=trivial
def tw16755118429238133376:=trivial
def tw4072367068404842281:=trivial
def tw15474122701458251111:=trivial
def tw7081790446006031461:=trivial
def tw13786424146147442575:=trivial
def tw9102845503805874031:=trivial
def tw8633410352937842710:=trivial
def tw14782553676637395991:=trivial
def tw10957880405826136764:=trivial
def tw5933869466559504730:=trivial
def tw2500289939028742247:=trivial
def tw596597366815745660:=trivial
def tw3576124707240168324:=trivial
def tw263121899110302588:=trivial
def tw8785012460874285540:=trivial
def tw18329542016139471670:=trivial
def tw4557864467955790952:=trivial
def tw10975976933893002839:=trivial
def tw4695364653834159845:=trivial
def tw9204605836927861256:=trivial
def tw12595745638444457270:=trivial
def tw18105186984853455852:=trivial
def tw4857415430917022774:=trivial
def tw3776338524138311002:=trivial
def tw13114578709547210544:=trivial
def tw4020274333021083117:=trivial
def tw2352580680319881341:=trivial
def tw6048923330956778809:=trivial
def tw996805400982633544:=trivial
def tw17267733897626377841:=trivial
def tw12847250866378258993:=trivial
def tw12410628190883552886:=trivial
def tw13521505878960257283:=trivial
def tw4583780014678094025:=trivial
def tw16338193031184862283:=trivial
def tw7537474681143514314:=trivial
def tw17872080496048339848:=trivial
def tw7242595222504362869:=trivial
def tw844210172158419137:=trivial
def tw16722929000990101862:=trivial
def tw14107785456535732493:=trivial
def tw13769197491156896307:=trivial
end PySem.W.Fast
open PySem PySem.W PyProof.Rows SV
local macro_rules| `(tactic|walk_at "bi")=> `(tactic|(intro _ _ _ _ _ _ us hl;(iterate 8 (try (rcases us with _|⟨u,us⟩;·first|rfl|(simp at hl;done))));simp at hl))
local macro_rules| `(tactic|walk_at "fk")=> `(tactic|(refine' MC (by assumption) (by assumption) ?a ?l ?c ?k ?b;(case a=>unfold lQ;k_is);(case l=>k_is);(case c=>k_is);(case k=>k_is);(case b=>walk_at "bi")))
local macro_rules| `(tactic|walk_at "fm")=> `(tactic|(refine' AK ⟨?a,?i,?k0⟩ ?l ?c ?k ?b;(case a=>k_is);(case i=>k_is);(case k0=>k_is);(case l=>k_is);(case c=>k_is);(case k=>k_is);(case b=>walk_at "bi")))
local macro_rules| `(tactic|walk_at "fi")=> `(tactic|(refine' AK ⟨?m,?a,?i,?kc⟩ ?l ?c ?k ?b;(case m=>k_is);(case a=>k_is);(case i=>k_is);(case kc=>k_is);(case l=>k_is);(case c=>k_is);(case k=>k_is);(case b=>walk_at "bi")))
set_option maxRecDepth 100000 in
set_option maxHeartbeats 0 in
theorem PySem.Challenge.cw_bedsheet_k07_refused_holds : PySem.Challenge.rw_bedsheet_k07_refused.Holds := by
 w_on;o_law;k_head;(case hw=>w_witness2)
 k_fill
 refine' rY.walk (c0:=263) (Pt:=259) (l:=PySem.Challenge.rw_bedsheet_k07_refused) rfl rfl (λw h Y=>PySem.W.km_in_of Y) ?rq ?tq ?nq ?F
 case tq=>intro w;kernel_rfl
 case rq=>kernel_rfl
 case nq=>intro w;kernel_rfl
 case F=>
  intro w mg fa h KX G Rj CK;refine' rY.all_mk ?fs ?bs Rj
  (case bs=>refine' rY.MF KX G ?aC ?pg ?hd ?po ?sa ?rA ?AR ?za ?yo ?rL ?tT ?tC ?aE ?Jf ?vX ?CT ?vK ?Cv ?Lw ?vY ?Jg ?vZ ?v5 ?v8 ?v9 ?v_ ?Cw ?G7 ?Cy ?EY ?zb ?EZ ?E1 ?E2 ?E3 ?E4 ?Cg ?Ci ?B8 ?B9 ?Cd ?DA ?yp ?DB ?DC ?DD ?DE ?DF ?Ce ?B6 ?B7 ?Ca ?Cb ?CU;(case aC=>k_is);(case pg=>k_is);(case hd=>k_is);(case po=>k_is);(case sa=>k_is);(case rA=>k_is);(case AR=>k_is);(case za=>k_is);(case yo=>k_is);(case rL=>k_is);(case tT=>kernel_rfl);(case tC=>exact CK);(case aE=>k_is);(case Jf=>k_is);(case vX=>k_is);(case CT=>k_is);(case vK=>k_is);(case Cv=>k_is);(case Lw=>k_is);(case vY=>k_is);(case Jg=>k_is);(case vZ=>k_is);(case v5=>k_is);(case v8=>k_is);(case v9=>k_is);(case v_=>k_is);(case Cw=>k_is);(case G7=>k_is);(case Cy=>k_is);(case EY=>k_is);(case zb=>kernel_rfl);(case EZ=>k_is);(case E1=>k_is);(case E2=>k_is);(case E3=>k_is);(case E4=>k_is);(case Cg=>kernel_rfl);(case Ci=>kernel_rfl);(case B8=>kernel_rfl);(case B9=>kernel_rfl);(case Cd=>kernel_rfl);(case DA=>kernel_rfl);(case yp=>kernel_rfl);(case DB=>k_is);(case DC=>k_is);(case DD=>k_is);(case DE=>k_is);(case DF=>k_is);(case Ce=>kernel_rfl);(case B6=>kernel_rfl);(case B7=>kernel_rfl);(case Ca=>kernel_rfl);(case Cb=>kernel_rfl);(case CU=>kernel_rfl))
  (case fs=>refine'⟨?h0,?h1,?h2,?h3,?h4,?h5,?h6,?h7,?h8,?h9,?sP,?sQ,?sR,?sS,?sT,?sU,?sV,?sW,?sX,?sY,?sZ,?s_,?ti,?tj,?tm,?tu,?tD,?tF,?tG,?tH,?tI,?tJ,?tK,?tL,?tM,?tN,?tO,?tP,?tQ,?tR,?tS,?tU,?tV,?tW,?tX,?tY,?tZ,?t4,?xm⟩;(case h0=>walk_at "fk");(case h1=>walk_at "fk");(case h2=>walk_at "fk");(case h3=>walk_at "fk");(case h4=>walk_at "fk");(case h5=>walk_at "fk");(case h6=>walk_at "fk");(case h7=>walk_at "fk");(case h8=>walk_at "fk");(case h9=>walk_at "fi");(case sP=>walk_at "fm");(case sQ=>walk_at "fm");(case sR=>walk_at "fm");(case sS=>walk_at "fk");(case sT=>walk_at "fk");(case sU=>walk_at "fk");(case sV=>walk_at "fk");(case sW=>walk_at "fk");(case sX=>walk_at "fk");(case sY=>walk_at "fk");(case sZ=>walk_at "fk");(case s_=>walk_at "fk");(case ti=>walk_at "fk");(case tj=>walk_at "fk");(case tm=>walk_at "fk");(case tu=>walk_at "fk");(case tD=>walk_at "fk");(case tF=>walk_at "fk");(case tG=>walk_at "fk");(case tH=>walk_at "fk");(case tI=>walk_at "fk");(case tJ=>walk_at "fk");(case tK=>walk_at "fk");(case tL=>walk_at "fk");(case tM=>walk_at "fk");(case tN=>walk_at "fk");(case tO=>walk_at "fk");(case tP=>walk_at "fk");(case tQ=>walk_at "fk");(case tR=>walk_at "fk");(case tS=>walk_at "fk");(case tU=>walk_at "fk");(case tV=>walk_at "fk");(case tW=>walk_at "fk");(case tX=>walk_at "fk");(case tY=>walk_at "fk");(case tZ=>walk_at "fk");(case t4=>walk_at "fk");(case xm=>walk_at "fk"))
