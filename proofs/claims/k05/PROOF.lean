import PyProof.Rows.All
import Wide.All
import OpenK.AllK
import Wide.FinOn
import Lean
import PyProof.EqAt
import PyProof.EqKinds
import PyProof.TupleCall
import PySem.Challenge.RW_bedsheet_k05_whole_solved
set_option Elab.async false
set_option linter.all false
set_option maxRecDepth 100000
noncomputable section
def zA2{G:Prop}(f:A->B->G)(h:A∧B):G:=f h.1 h.2
def zA3{G:Prop}(f:A->B->C->G)(h:A∧B∧C):G:=f h.1 h.2.1 h.2.2
def zA4{G:Prop}(f:A->B->C->D->G)(h:A∧B∧C∧D):G:=f h.1 h.2.1 h.2.2.1 h.2.2.2
def zA5{G:Prop}(f:A->B->C->D->F->G)(h:A∧B∧C∧D∧F):G:=f h.1 h.2.1 h.2.2.1 h.2.2.2.1 h.2.2.2.2
def zA6{G:Prop}(f:A->B->C->D->F->H->G)(h:A∧B∧C∧D∧F∧H):G:=f h.1 h.2.1 h.2.2.1 h.2.2.2.1 h.2.2.2.2.1 h.2.2.2.2.2
def zA7{G:Prop}(f:A->B->C->D->F->H->I->G)(h:A∧B∧C∧D∧F∧H∧I):G:=f h.1 h.2.1 h.2.2.1 h.2.2.2.1 h.2.2.2.2.1 h.2.2.2.2.2.1 h.2.2.2.2.2.2
def zA8{G:Prop}(f:A->B->C->D->F->H->I->J->G)(h:A∧B∧C∧D∧F∧H∧I∧J):G:=f h.1 h.2.1 h.2.2.1 h.2.2.2.1 h.2.2.2.2.1 h.2.2.2.2.2.1 h.2.2.2.2.2.2.1 h.2.2.2.2.2.2.2
def zA9{G:Prop}(f:A->B->C->D->F->H->I->J->K->G)(h:A∧B∧C∧D∧F∧H∧I∧J∧K):G:=f h.1 h.2.1 h.2.2.1 h.2.2.2.1 h.2.2.2.2.1 h.2.2.2.2.2.1 h.2.2.2.2.2.2.1 h.2.2.2.2.2.2.2.1 h.2.2.2.2.2.2.2.2
def zE1{A:α->Prop}{G:Prop}(f:∀x,A x->G)(h:∃x,A x):G:=h.elim λx h=>f x h
def zE2{A B:α->Prop}{G:Prop}(f:∀x,A x->B x->G)(h:∃x,A x∧B x):G:=h.elim λx h=>zA2 (f x) h
def zE3{A B C:α->Prop}{G:Prop}(f:∀x,A x->B x->C x->G)(h:∃x,A x∧B x∧C x):G:=h.elim λx h=>zA3 (f x) h
def zE4{A B C D:α->Prop}{G:Prop}(f:∀x,A x->B x->C x->D x->G)(h:∃x,A x∧B x∧C x∧D x):G:=h.elim λx h=>zA4 (f x) h
def zE5{A B C D F:α->Prop}{G:Prop}(f:∀x,A x->B x->C x->D x->F x->G)(h:∃x,A x∧B x∧C x∧D x∧F x):G:=h.elim λx h=>zA5 (f x) h
def zE6{A B C D F H:α->Prop}{G:Prop}(f:∀x,A x->B x->C x->D x->F x->H x->G)(h:∃x,A x∧B x∧C x∧D x∧F x∧H x):G:=h.elim λx h=>zA6 (f x) h
def zE7{A B C D F H I:α->Prop}{G:Prop}(f:∀x,A x->B x->C x->D x->F x->H x->I x->G)(h:∃x,A x∧B x∧C x∧D x∧F x∧H x∧I x):G:=h.elim λx h=>zA7 (f x) h
def zE8{A B C D F H I J:α->Prop}{G:Prop}(f:∀x,A x->B x->C x->D x->F x->H x->I x->J x->G)(h:∃x,A x∧B x∧C x∧D x∧F x∧H x∧I x∧J x):G:=h.elim λx h=>zA8 (f x) h
local macro_rules|`(tactic|obtain ⟨$p,*⟩:=$e)=>do
 let n:=p.getElems.size
 let r<-p.getElems.mapM λq=>do `(rintroPat|$(<-`(rcasesPat|($q))):rcasesPat)
 let c(s:String)(i:Nat):=Lean.mkCIdent (.mkSimple s!"{s}{i}")
 let z<-if e.raw.isIdent then `(tactic|try clear $e) else `(tactic|skip)
 let mut t<-`(tactic|rcases $e:term with ⟨$p,*⟩)
 if n>2&&n<11 then t<-`(tactic|first|(refine $(c "zE" 1) ?_ $e;$z;rintro $(r[0]!);refine $(c "zE" (n-2)) ?_;rintro $(r.extract 1 n)*)|($t:tactic))
 if n>1&&n<10 then t<-`(tactic|first|(refine $(c "zE" (n-1)) ?_ $e;$z;rintro $r*)|($t:tactic))
 if n>1&&n<10 then t<-`(tactic|first|(refine $(c "zA" n) ?_ $e;$z;rintro $r*)|($t:tactic))
 return t
def T5:=@if_pos
def T6:=@if_neg
def T7:=@List.mem_cons
def T8:=@PySem.wpAny_bind
def T9:=@List.set_cons_succ
def T_:=@List.set_cons_zero
def T':=@Bool.and_eq_true
def Ua:=@List.length_map
def Ub:=@List.getElem?_eq_some_iff
def Uc:=@Nat.le_refl
def Ud:=@List.not_mem_nil
def Ue:=@or_false
def Ug:=@Option.some.inj
def Uh:=@Nat.le_trans
def Ui:=@List.any_eq_true
def Uj:=@List.getElem?_cons_zero
def Uk:=@PySem.wpAny_pure
def Ul:=@List.size_toArray
def Um:=@List.mem_map
def Uo:=@List.getElem?_cons_succ
def Up:=@Nat.lt_of_lt_of_le
def Uq:=@Bool.false_ne_true
def Ur:=@PySem.Heap.lt_size
def Us:=@List.length_append
def Ut:=@List.mem_cons_of_mem
def Uu:=@List.mem_append_right
def Uv:=@if_true
def Uw:=@PySem.Heap.get?_push_of_some
def Ux:=@List.map_cons
def Uy:=@decide_eq_false
def Uz:=@Ne.symm
def UA:=@Int.toNat_natCast
def UB:=@Bool.not_eq_true'
def UC:=@decide_eq_true_iff
def UD:=@List.mem_range
def UE:=@List.mem_cons_self
def UG:=@List.getElem?_set_ne
def UH:=@List.getElem?_set_self
def UI:=@Nat.ne_of_lt
def UJ:=@List.nil_append
def UK:=@Nat.mul_le_mul
def UL:=@PySem.wpAny_mono
def UM:=@of_decide_eq_true
def UN:=@List.mem_singleton
def UO:=@List.length_cons
def UP:=@List.mem_filter
def UQ:=@List.nodup_cons
def UR:=@decide_eq_true
def US:=@List.all_eq_true
def UT:=@List.take_length
def UU:=@PySem.Heap.get?_push_size
def UW:=@Bool.eq_iff_iff
def UX:=@Nat.zero_le
def UY:=@List.append_nil
def UZ:=@decide_eq_false_iff_not
def U0:=@List.mem_append
def U1:=@congrArg
def U2:=@if_false
def U3:=@List.any_cons
def U4:=@decide_eq_true_eq
def U5:=@not_or
def U6:=@List.getElem?_append_left
def U7:=@List.getElem?_map
def U8:=@List.mem_of_getElem?
def U9:=@List.append_assoc
def U_:=@Bool.or_eq_false_iff
def U':=@beq_iff_eq
def Va:=@List.length_set
def Vb:=@List.length_filter_le
def Vc:=@Bool.false_eq_true
def Vd:=@Bool.not_eq_false'
def Ve:=@Bool.eq_false_iff
def Vf:=@PySem.wpAny_loadPart'
def Vg:=@Bool.true_and
def Vh:=@Nat.lt_irrefl
def Vi:=@Bool.false_and
def Vj:=@Bool.and_true
def Vk:=@List.IsPrefix.trans
def Vl:=@PySem.W.mg_none_of
def Vm:=@beq_eq_false_iff_ne
def Vn:=@List.getElem?_append_right
def Vo:=@List.map_nil
def Vp:=@List.all_cons
def Vq:=@PySem.wpAny_holding
def Vr:=@PySem.mem_of_lookup
def Vs:=@Bool.false_or
def Vt:=@List.length_nil
def Vu:=@List.filter_cons
def Vv:=@List.range_succ
def Vw:=@List.replicate_succ
def Vx:=@List.countP_cons
def Vy:=@List.take_succ
def Vz:=@of_decide_eq_false
def VA:=@List.cons_append
def VB:=@Bool.or_eq_true
def VC:=@List.lookup_cons
def VD:=@PySem.Paired.length
def VE:=@Nat.le_of_lt
def VF:=@PySem.wpAny_truthy_bool
def VG:=@PySem.sizeLine_eq
def VH:=@List.length_take
def VI:=@List.find?_cons
def VJ:=@List.foldl_nil
def VL:=@List.replicate_zero
def VN:=@List.getElem?_eq_getElem
def VO:=@PySem.wpAny_passesOwn
def VP:=@PySem.call_meets
def VQ:=@Bool.and_false
def VR:=@Bool.true_or
def VS:=@List.map_append
def VT:=@List.map_map
def VU:=@List.getElem_mem
def VV:=@Option.map_some
def VW:=@List.getElem_of_mem
def VX:=@beq_self_eq_true
def VY:=@PySem.F.plain_min_loop
def VZ:=@Nat.ne_of_gt
def V0:=@Nat.le_of_eq
def V1:=@PySem.Calls.spliced_cons
def V2:=@PySem.wpAny_Call_Name_kw
def V3:=@PySem.Calls.callWith_builtin
def V4:=@Nat.le_of_not_lt
def V5:=@PySem.call_meetsIn
def V6:=@List.drop_eq_getElem_cons
def V7:=@decide_true
def V8:=@Nat.mul_pos
def V9:=@Nat.mod_lt
def V_:=@PySem.wpAny_tryCatch
def V':=@PySem.plainId_quiet
def Wa:=@PySem.wpAny_newObj_type
def Wb:=@Int.emod_nonneg
def Wc:=@Int.emod_lt_of_pos
def Wd:=@Int.natCast_nonneg
def We:=@List.foldl_append
def Wf:=@List.foldl_cons
def Wg:=@List.mem_or_eq_of_mem_set
def Wh:=@List.any_append
def Wi:=@List.filter_map
def Wj:=@List.map_congr_left
def Wl:=@List.filter_eq_nil_iff
def Wm:=@Nat.succ_pos
def Wn:=@PySem.codeAny_builtin
def Wo:=@PySem.Around.under_plainId
def Wq:=@PySem.Heap.SameBut.update
def Wr:=@Sum.inl.inj
def Ws:=@List.mem_append_left
def Wt:=@PySem.wpAny_execs_nil
def Wu:=@PyProof.Rows.callWith_type1
def Wv:=@PySem.Heap.size_push
def Ww:=@PySem.Calls.spliced_nil
def Wx:=@PySem.codeAny_mono
def Wy:=@PySem.W.callWith_K
def Wz:=@PyProof.Rows.slot_tuple_getitem
def WA:=@PySem.Calls.evalArgs_plain
def WB:=@List.length_singleton
def WC:=@PySem.tupleKind_room_in1
def WD:=@PySem.wpAny_Call_method
def WE:=@PySem.F.plainAttrs_dict
def WG:=@List.drop_length
def WH:=@List.any_map
def WI:=@decide_false
def WJ:=@List.map_set
def WK:=@Bool.not_true
def WL:=@Int.natCast_mul
def WM:=@List.nodup_iff_pairwise_ne
def WN:=@Int.toNat_of_nonneg
def WO:=@List.mem_flatMap
def WQ:=@Int.eq_ofNat_of_zero_le
def WR:=@List.countP_congr
def WS:=@Nat.mul_one
def WT:=@Nat.mul_assoc
def WU:=@PySem.wpAny_updateSeq
def WV:=@PySem.wpAny_letGo
def WW:=@PyProof.Rows.get?_update_seq
def WX:=@List.filterMap_cons
def WY:=@Array.length_toList
def WZ:=@PySem.W.plainGet_of
def W2:=@Nat.lt_succ_self
def W3:=@List.of_mem_zip
def W4:=@Option.isSome_iff_exists
def W5:=@List.length_replicate
def W6:=@List.length_drop
def W7:=@PySem.Heap.get?_update_other
def W8:=@PySem.F.slot_list_append
def W9:=@PySem.F.slot_list_extend
def W_:=@Option.isSome_some
def W':=@Option.isSome_map
def Xa:=@PySem.F.slot_dict_get
def Xb:=@List.flatMap_append
def Xc:=@List.all_append
def Xd:=@List.all_eq_false
def Xe:=@List.any_nil
def Xf:=@Bool.or_false
def Xg:=@Nat.succ_mul
def Xh:=@Nat.div_lt_of_lt_mul
def Xi:=@Nat.add_sub_cancel_left
def Xj:=@List.set_append_right
def Xk:=@List.set_append_left
def Xl:=@List.filter_append
def Xm:=@Int.natAbs_natCast
def Xn:=@List.nodup_append
def Xo:=@List.mem_of_find?_eq_some
def Xp:=@List.find?_some
def Xq:=@List.Nodup.sublist
def Xr:=@List.filter_sublist
def Xs:=@Int.natCast_ediv
def Xt:=@Bool.or_assoc
def Xu:=@List.map_id
def Xv:=@List.filter_congr
def Xw:=@List.filter_filter
def Xx:=@List.getElem?_eq_none
def Xy:=@List.length_eq_zero_iff
def Xz:=@Classical.byContradiction
def XA:=@PySem.wpAny_comprehension_free
def XB:=@PySem.W.mg_of
def XC:=@PySem.F.entry_min_loop
def XD:=@PySem.wpAny_seqItems
def XE:=@List.drop_eq_nil_of_le
def XF:=@PySem.PassesOwn.never
def XG:=@PySem.Calls.Name_function_global
def XH:=@PySem.W.methodCall_KW
def XI:=@PySem.W.cellsFrom_some
def XJ:=@List.getElem?_replicate
def XM:=@List.getElem?_take_of_lt
def XN:=@Array.getElem?_toList
def XO:=@Option.map_eq_some_iff
def XP:=@PySem.F.slot_dict_delitem
def XQ:=@PySem.F.slot_dict_pop
def XR:=@PySem.F.entry_dict_get
def XS:=@PySem.F.args_dict_get_3
def XT:=@List.range_succ_eq_map
def XU:=@List.reverse_reverse
def XW:=@List.mem_erase_of_ne
def XX:=@List.length_erase_of_mem
def XY:=@List.countP_cons_of_neg
def XZ:=@List.countP_cons_of_pos
def X0:=@List.countP_mono_left
def X1:=@List.dropLast_eq_take
def X3:=@PySem.F.plainAttrs_list
def X4:=@PySem.F.slot_dict_setdefault
def X5:=@PySem.F.slot_dict_items
def X8:=@PySem.F.slot_list_lt
open Option renaming some->aa,none->ae
open Bool renaming true->af,false->ag
open PySem renaming Value->ah
open Decidable renaming decide->ai
namespace L2
open PySem PySem.Spec PyProof.Rows
noncomputable abbrev Key:=Sum Int Str
noncomputable def mz:Key->ah->Bool
 |.inl k,v=>Value.isInt k v
 |.inr x,v=>Value.isStrOf x v
noncomputable def Ms(w:World):Key->Int
 |.inl k=>hashInt k
 |.inr x=>hashStr w x
theorem iD:∀{k:Key} {v:ah},mz k v=af->(∃i t,k=Sum.inl i/\v=Value.int i t)\/(∃x t,k=Sum.inr x/\v=Value.str x t)
 |.inl i,v,h=>by obtain⟨t,e⟩:=Value.isInt_shape h;exact .inl ⟨i,t,rfl,e⟩
 |.inr x,v,h=>by obtain⟨t,e⟩:=Value.isStrOf_shape h;exact .inr ⟨x,t,rfl,e⟩
def DZ(i)(t):mz (.inl i) (.int i t)=af:=by simp[mz,Value.isInt]
def D0(x)(t):mz (.inr x) (.str x t)=af:=by simp[mz,Value.isStrOf]
def IX(a b):ai ((Sum.inl a:Key)=Sum.inl b)=(a==b):=by
 by_cases e:a=b
 ·subst e;simp
 ·have h:¬(Sum.inl a:Key)=Sum.inl b:=λq=>e (Wr q)
  rw[Uy h];exact(Vm.mpr e).symm
def IY(a b):ai ((Sum.inr a:Key)=Sum.inr b)=ai (a=b):=by
 by_cases e:a=b
 ·subst e;simp
 ·have h:¬(Sum.inr a:Key)=Sum.inr b:=λq=>e (Sum.inr.inj q)
  rw[Uy h,Uy e]
def IZ(a)(b):ai ((Sum.inl a:Key)=Sum.inr b)=ag:=Uy<|λq=>nomatch q
def I8(a)(b):ai ((Sum.inr a:Key)=Sum.inl b)=ag:=Uy<|λq=>nomatch q
noncomputable def dk(prog)(w):PySem.KeyKind prog w Key where
 is:=mz
 hash:=Ms w
 inj:=λv a b l f=>by
  rcases iD l with⟨i,t,rfl,rfl⟩|⟨x,t,rfl,rfl⟩
  ·rcases iD f with⟨j,u,rfl,e⟩|⟨y,u,rfl,e⟩
   ·injection e with c _;rw[c]
   ·exact nomatch e
  ·rcases iD f with⟨j,u,rfl,e⟩|⟨y,u,rfl,e⟩
   ·exact nomatch e
   ·injection e with c _;rw[c]
 byValue:=λk v h=>by rcases iD h with⟨i,t,rfl,rfl⟩|⟨x,t,rfl,rfl⟩<;>rfl
 pyHash:=λd h=>by
  rcases iD d with⟨i,t,rfl,rfl⟩|⟨x,t,rfl,rfl⟩
  ·exact wpAny_pyHash_int h
  ·exact wpAny_pyHash_str h
 eqBool:=λg d h=>by
  rcases iD g with⟨i,t,rfl,rfl⟩|⟨x,t,rfl,rfl⟩
  ·rcases iD d with⟨j,u,rfl,rfl⟩|⟨y,u,rfl,rfl⟩
   ·rw[IX] at h;exact wpAny_eqBool_int h
   ·rw[IZ] at h;exact SeqAt.EqAt.int_str i t y u _ _ _ _ h
  ·rcases iD d with⟨j,u,rfl,rfl⟩|⟨y,u,rfl,rfl⟩
   ·rw[I8] at h;exact SeqAt.EqAt.str_int x t j u _ _ _ _ h
   ·rw[IY] at h;exact wpAny_eqBool_str h
 «strs»:=λk x t v h=>by
  rcases iD h with⟨i,u,rfl,e⟩|⟨y,u,rfl,e⟩
  ·exact nomatch e
  ·injection e with c _;subst c;cases v<;>rfl
def Dh(prog)(w)(i)(t):(dk prog w).is (.inl i) (.int i t)=af:=DZ i t
def Di(prog)(w)(x)(t):(dk prog w).is (.inr x) (.str x t)=af:=D0 x t
inductive V where
 |aA|bl (b:Bool)|int (i:Int)|str (x:Str)|gu (b:Array UInt8)|iW (b:UInt64)|ref (a:Addr)|ty (n:String)
 deriving DecidableEq
noncomputable def RelV:V->ah->Prop
 |.aA,u=>u=Value.none
 |.bl b,u=>u=Value.bool b
 |.int i,u=>∃t,u=Value.int i t
 |.str x,u=>∃t,u=Value.str x t
 |.gu b,u=>∃t,u=Value.bytes b t
 |.iW b,u=>∃t,u=Value.float b t
 |.ref a,u=>u=Value.ref a
 |.ty n,u=>u=Value.type n
noncomputable abbrev Vals:List V->List ah->Prop:=Paired RelV
def Vals.length{a:List ah}(r:Vals xs a):xs.length=a.length:=VD r
theorem Vals.get:∀{xs:List V} {a:List ah} {i:Nat} {x:V},Vals xs a->xs[i]? =aa x->∃u,a[i]? =aa u/\RelV x u
 |_,_,_,_,.nil,e=>by simp at e
 |_,_,0,_,.cons r _,e=>by simp at e;subst e;exact⟨_,rfl,r⟩
 |_,_,i+1,x,.cons _ t,e=>by
  obtain⟨u,b,c⟩:=Vals.get t<|by simpa using e
  exact⟨u,by simpa using b,c⟩
theorem Vals.set{u:ah}(r:RelV x u):∀{xs:List V} {a:List ah} (i),Vals xs a->Vals (xs.set i x) (a.set i u)
 |_,_,_,.nil=>.nil
 |_,_,0,.cons _ t=>.cons r t
 |_,_,i+1,.cons q t=>.cons q<|Vals.set r i t
theorem Vals.append:∀{xs ys:List V} {a ws:List ah},Vals xs a->Vals ys ws->Vals (xs++ys) (a++ws)
 |_,_,_,_,.nil,s=>s
 |_,_,_,_,.cons r t,s=>.cons r<|Vals.append t s
theorem Vals.take:∀{xs:List V} {a:List ah} (n),Vals xs a->Vals (xs.take n) (a.take n)
 |_,_,0,_=>.nil
 |_,_,_+1,.nil=>.nil
 |_,_,n+1,.cons r t=>.cons r<|Vals.take n t
theorem Vals.drop:∀{xs:List V} {a:List ah} (n),Vals xs a->Vals (xs.drop n) (a.drop n)
 |_,_,0,r=>r
 |_,_,_+1,.nil=>.nil
 |_,_,n+1,.cons _ t=>Vals.drop n t
noncomputable def d0:Option V->Option ah->Prop
 |some v,aa u=>RelV v u
 |none,ae=>True
 |_,_=>False
noncomputable def KV:List (κ×V)->List (κ×ah)->Prop:=Paired λ(p) (q)=>p.1=q.1/\RelV p.2 q.2
noncomputable def kV:Key->V
 |.inl i=>.int i
 |.inr x=>.str x
inductive HO where
  |lst (xs:List V)
  |tup (xs:List V)
  |dK (kvs:List<|Key×V)|dT (kvs:List<|List Key×V)
  |set (S:Int->Bool) (n:Nat)
  |ins (C dx:Addr) (fs:List<|Str×V)
  |own (x:Addr)
  |xd (fs:List<|Str×V)
  |met (f x:Addr)
  |cS (lo hi:Int)
  |a6 (o:Obj) (u:HO)
  |c8 (ps:Array ah)
  |ext (φ:Heap->Prop)
noncomputable abbrev Hp:=Addr->Option HO
noncomputable def upd(H:Hp)(a:Addr)(o:HO):Hp:=λb=>if b=a then aa o else H b
def cG{a:Addr}{o:HO}:upd H a o a=aa o:=by unfold upd;rw[T5 rfl]
def aS{a b:Addr}{o:HO}(h:b≠a):upd H a o b=H b:=by unfold upd;rw[T6 h]
def Lf{H:Hp}{a b:Addr}{o u:HO}(h:H a=aa o)(h':H b=aa u)(d:o≠u):a≠b:=by intro e;subst e;rw[h] at h';exact d<|Ug h'
def dJ{H:Hp}{a b:Addr}{o:HO}(h:H a=aa o)(h':H b=ae):a≠b:=by intro e;subst e;rw[h] at h';cases h'
section
variable(P:Program)(w:World)
noncomputable def dA(H:Hp)(h:Heap)(a:Addr):HO->Prop
 |.lst d=>d.length<=sizeLine/\∃(c:List ah) (n:Nat),Vals d c/\h.get? a=aa {cls:=.type "list",data:=.seq c.toArray n}
 |.tup d=>d.length<=sizeLine/\∃c:List ah,Vals d c/\IsTup h a c.toArray
 |.dK b=>b.length<=sizeLine/\(a==sysModules)=ag/\∃r,KV b r/\h.DictOf (dk P w) a r
 |.dT b=>b.length<=sizeLine/\(a==sysModules)=ag/\∃d:List (List Key×Addr×ah),
  Paired (λ(p) (q)=>p.1=q.1/\H q.2.1=aa (.tup<|p.1.map kV)/\RelV p.2 q.2.2) b d/\
  ∃o l s,h.get? a=aa o/\o.ExactDict/\o.data=.dict l s/\l.toList=d.map (entryOfKey<|tupleKind<|dk P w)/\(d.map (·.1)).Nodup
 |.set S n=>h.SetOf (intKind P w) a S n
 |.ins C i g=>H i=aa (.own a)/\g.length<=1000/\i≠a/\h.get? a=aa (PySem.W.instObj C i)/\
  ∃e,h.Ns1 i e/\(∀f,d0 (g.lookup f)<|e f)/\PySem.Within e (g.map (·.1))
 |.own _=>∃o,h.get? a=aa o
 |.xd g=>∃e,h.Ns1 a e/\∀f,d0 (g.lookup f) (e f)
 |.cS lo z=>∃t u v,h.get? a=aa {cls:=.type "range",data:=.fields #[.int lo t,.int z u,.int 1 v]}
 |.a6 o u=>h.get? a=aa o/\dA H h a u
 |.c8 y=>h.get? a=aa {cls:=.none,data:=.fields y}
 |.met f x=>h.get? a=aa (PySem.W.methodObj (.ref f)<|.ref x)
 |.ext j=>j h/\(∃o,h.get? a=aa o)/\∀k m:Heap,j k->(∀o,k.get? a=aa o->m.get? a=aa o)->j m
noncomputable def cp(H:Hp)(h:Heap):Prop:=∀a o,H a=aa o->dA P w H h a o
end
section
variable{P:Program}{w:World}{H H':Hp}{h h':Heap}{a:Addr}{o:HO}
def dA.lt(x:dA P w H h a o):a<h.objs.size:=by
 cases o with
 |lst xs=>obtain⟨_,_,_,_,e⟩:=x;exact Ur e
 |tup xs=>obtain⟨_,_,_,p⟩:=x;exact p.lt
 |dK b=>obtain⟨_,_,_,_,o,_,_,e,_⟩:=x;exact Ur e
 |dT b=>obtain⟨_,_,_,_,o,_,_,e,_⟩:=x;exact Ur e
 |set S n=>obtain⟨o,_,_,_,e,_⟩:=x;exact Ur e
 |ins C g c=>obtain⟨_,_,_,e,_⟩:=x;exact Ur e
 |own y=>obtain⟨_,e⟩:=x;exact Ur e
 |xd c=>obtain⟨_,⟨_,_,_,e,_⟩,_⟩:=x;exact Ur e
 |cS lo i=>obtain⟨_,_,_,e⟩:=x;exact Ur e
 |a6 j u=>obtain⟨e,_⟩:=x;exact Ur e
 |c8 d=>exact Ur<|x
 |met f y=>exact Ur<|x
 |ext k=>obtain⟨_,⟨_,e⟩,_⟩:=x;exact Ur e
theorem Paired.vJ{F G:α->β->Prop}:∀{d:List α} {c:List β},Paired F d c->(∀a b,F a b->G a b)->Paired G d c
 |_,_,.nil,_=>.nil
 |_,_,.cons r t,f=>.cons (f _ _ r)<|Paired.vJ t f
def dA.gK(x:dA P w H h a o)(k:∀b u,(b=a\/H b=aa (.own a))->h.get? b=aa u->h'.get? b=aa u)(I:∀b,H b=aa (.own a)->H' b=aa (.own a))(D:∀b xs,H b=aa (.tup xs)->H' b=aa (.tup xs)):dA P w H' h' a o:=by
 induction o with
 |lst xs=>obtain⟨z,l,n,r,e⟩:=x;exact⟨z,l,n,r,k _ _ (.inl rfl) e⟩
 |tup xs=>obtain⟨z,l,r,g,e,c⟩:=x;exact⟨z,l,r,g,k _ _ (.inl rfl) e,c⟩
 |dK s=>obtain⟨z,y,J,r,g,i,j,e,c⟩:=x;exact⟨z,y,J,r,g,i,j,k _ _ (.inl rfl) e,c⟩
 |dT s=>obtain⟨z,y,xs,r,g,i,j,e,c⟩:=x;exact⟨z,y,xs,Paired.vJ r λp q z=>⟨z.1,D _ _ z.2.1,z.2.2⟩,g,i,j,k _ _ (.inl rfl) e,c⟩
 |set S n=>obtain⟨g,i,j,t,e,c⟩:=x;exact⟨g,i,j,t,k _ _ (.inl rfl) e,c⟩
 |ins C L F=>obtain⟨d,z,G,e,m,⟨A,i,j,E,c⟩,r⟩:=x;exact⟨I _ d,z,G,k _ _ (.inl rfl) e,m,⟨A,i,j,k _ _ (.inr d) E,c⟩,r⟩
 |own y=>obtain⟨g,e⟩:=x;exact⟨g,k _ _ (.inl rfl) e⟩
 |xd F=>obtain⟨m,⟨A,i,j,e,c⟩,r⟩:=x;exact⟨m,⟨A,i,j,k _ _ (.inl rfl) e,c⟩,r⟩
 |cS lo O=>obtain⟨t,u,v,e⟩:=x;exact⟨t,u,v,k _ _ (.inl rfl) e⟩
 |a6 g u K=>obtain⟨e,q⟩:=x;exact⟨k _ _ (.inl rfl) e,K q⟩
 |c8 N=>have e:=x;exact k a _ (.inl rfl) e
 |met f y=>have e:=x;exact k a _ (.inl rfl) e
 |ext M=>obtain⟨p,⟨o,e⟩,B⟩:=x;exact⟨B _ _ p λo q=>k _ _ (.inl rfl) q,⟨o,k _ _ (.inl rfl) e⟩,B⟩
def cp.lt(x:cp P w H h)(e:H a=aa o):a<h.objs.size:=(x a o e).lt
def cp.fresh(x:cp P w H h)(e:h.objs.size<=a):H a=ae:=by
 cases q:H a with
 |none=>rfl
 |some u=>exact absurd (Up (x.lt q) e)<|Vh _
def cp.kept(x:cp P w H h)(k:∀b u,h.get? b=aa u->h'.get? b=aa u):cp P w H h':=λa o e=>(x a o e).gK (λb u _ q=>k b u q) (λ_ q=>q) λ_ _ q=>q
def cp.laid(x:cp P w H h)(k:∀b u,h.get? b=aa u->h'.get? b=aa u)(i:h.objs.size<=a)(d:dA P w (upd H a o) h' a o):cp P w (upd H a o) h':=λb u e=>by
 have g:=x.fresh i;by_cases f:b=a
 ·subst f;rw[cG] at e;cases e;exact d
 ·rw[aS f] at e;exact(x b u e).gK (λc v _ q=>k c v q) (λc q=>by rw[aS<|dJ q g];exact q) λc j q=>by rw[aS<|dJ q g];exact q
end
noncomputable def Rd(H:Hp)(a:Addr)(u:HO):Prop:=H a=aa u\/∃o,H a=aa (.a6 o u)
def Rd.ok{w:World}{H:Hp}{h:Heap}{a:Addr}{u:HO}(r:Rd H a u)(x:cp P w H h):dA P w H h a u:=by
 rcases r with r|⟨o,r⟩
 ·exact x a u r
 ·obtain⟨_,q⟩:=x a _ r;exact q
noncomputable def o6:Option HO->Prop
 |some (.lst _)=>True
 |some (.dK _)=>True
 |some (.dT _)=>True
 |some (.set _ _)=>True
 |some (.ins _ _ _)=>True
 |some (.ext _)=>True
 |_=>False
section
variable{P:Program}{w:World}{H:Hp}{h h':Heap}{x e:Addr}{o':HO}
def cp.write(ok:cp P w H h)(i:o6<|H x)(n:e=x\/H e=aa (.own x))(k:∀b u,b≠e->h.get? b=aa u->h'.get? b=aa u)(m:∃u,h'.get? e=aa u)(new:dA P w (upd H x o') h' x o'):cp P w (upd H x o') h':=λb u q=>by
 have d:∀c y,H c=aa (.own y)->c≠x:=λc y r z=>by subst z;rw[r] at i;exact i
 have f:∀c l,H c=aa (.tup l)->c≠x:=λc l r z=>by subst z;rw[r] at i;exact i
 by_cases j:b=x
 ·subst j;rw[cG] at q;cases q;exact new
 ·rw[aS j] at q;by_cases a:b=e
  ·have o:H b=aa (.own x):=by
    rcases n with z|z
    ·exact absurd (a.trans z) j
    ·rw[a];exact z
   rw[q] at o;cases o;obtain⟨v,p⟩:=m;exact⟨v,by rw[a];exact p⟩
  ·refine(ok b u q).gK (λc v g r=>k c v ?_ r) (λc r=>by rw[aS<|d c b r];exact r) λc l r=>by rw[aS<|f c l r];exact r
   rcases g with rfl|g
   ·exact a
   ·rintro rfl;rcases n with z|z
    ·exact d c b g z
    ·rw[g] at z;cases z;exact j rfl
end
structure Un(fs ex:List Addr)(H H':Hp)(h h':Heap):Prop where
 keep:∀b o,h.get? b=aa o->H b=ae->b∉fs->b∉ex->h'.get? b=aa o
 slot:∀b o,h.get? b=aa o->H b=ae->b∈fs->b∉ex->∃sl,h'.get? b=aa {o with slots:=sl}
 free:∀b o,h.get? b=aa o->H b=ae->b∉ex->H' b=ae
 there:∀b o,h.get? b=aa o->b∉ex->∃o',h'.get? b=aa o'
 ij:∀b xs,H b=aa (.tup xs)->H' b=aa (.tup xs)
 iP:∀b o u,H b=aa (.a6 o u)->H' b=aa (.a6 o u)
 jh:∀b ps,H b=aa (.c8 ps)->∃more,H' b=aa (.c8<|ps++more)
section
variable{fs ND ex R_:List Addr}{H H1 H2:Hp}{h h1 h2 h':Heap}{a x e:Addr}{o:HO}
def Un.any(u:Un fs ex H H1 h h1){b:Addr}{c:Obj}(q:h.get? b=aa c)(n:H b=ae)(d:b∉ex):∃g,h1.get? b=aa {c with slots:=g}:=by
 by_cases f:b∈fs
 ·exact u.slot b c q n f d
 ·exact⟨c.slots,u.keep b c q n f d⟩
def Un.kept(k:∀b u,h.get? b=aa u->h'.get? b=aa u):Un fs ex H H h h':=
 ⟨λb c q _ _ _=>k b c q,λb c q _ _ _=>⟨c.slots,k b c q⟩,λ_ _ _ n _=>n,λb c q _=>⟨c,k b c q⟩,λ_ _ q=>q,λ_ _ _ q=>q,λ_ d q=>⟨#[],by rw[q];simp⟩⟩
def Un.refl:Un fs ex H H h h:=Un.kept λ_ _ q=>q
def Un.laid(k:∀b u,h.get? b=aa u->h'.get? b=aa u)(f:h.objs.size<=a)(c:H a=ae):Un fs ex H (upd H a o) h h' where
 keep:=λb u q _ _ _=>k b u q
 slot:=λb u q _ _ _=>⟨u.slots,k b u q⟩
 free:=λb u q n _=>by rw[aS<|UI<|Up (Ur q) f];exact n
 there:=λb u q _=>⟨u,k b u q⟩
 ij:=λb d q=>by rw[aS<|dJ q c];exact q
 iP:=λb u d q=>by rw[aS<|dJ q c];exact q
 jh:=λb g q=>⟨#[],by rw[aS<|dJ q c,q];simp⟩
def Un.write(d:o6<|H x)(l:e=x\/H e=aa (.own x))(k:∀b u,b≠e->h.get? b=aa u->h'.get? b=aa u)(f:∃u,h'.get? e=aa u):Un fs ex H (upd H x o) h h':=by
 have i:∀b,H b=ae->b≠x:=λb n z=>by subst z;rw[n] at d;exact d
 have j:∀b,H b=ae->b≠e:=λb n z=>by
  subst z;rcases l with r|r
  ·exact i b n r
  ·rw[n] at r;cases r
 have g:∀b u,H b=aa u->¬o6 (aa u)->b≠x:=λb u q m z=>by subst z;rw[q] at d;exact m d
 refine⟨λb u q n _ _=>k b u (j b n) q,λb u q n _ _=>⟨u.slots,k b u (j b n) q⟩,λb u q n _=>by rw[aS<|i b n];exact n,λb u q _=>?_,
  λb p q=>by rw[aS (g b _ q λz=>z)];exact q,λb u p q=>by rw[aS (g b _ q λz=>z)];exact q,λb s q=>⟨#[],by rw[aS (g b _ q λz=>z),q];simp⟩⟩
 by_cases c:b=e
 ·subst c;exact f
 ·exact⟨u,k b u c q⟩
end
noncomputable def rE(h:Heap)(H:Hp):List Addr:=(List.range h.objs.size).filter λa=>(H a).isSome
noncomputable def ji(h:Heap)(H:Hp):Heap:=PySem.W.hideAll h<|rE h H
def D1(h)(H):(ji h H).objs.size=h.objs.size:=PySem.W.hideAll_size _ _
def Fc{H:Hp}{b:Addr}{o:Obj}(e:h.get? b=aa o)(n:H b=ae):(ji h H).get? b=aa o:=
 PySem.W.hideAll_get _ e λa=>by have q:=(UP.mp a).2;rw[n] at q;simp at q
def GV{H:Hp}{b:Addr}{o:Obj}(e:(ji h H).get? b=aa o):h.get? b=aa o/\H b=ae:=by
 have a:=PySem.W.of_hideAll (rE h H) e;refine⟨a,?_⟩;cases q:H b with
 |none=>rfl
 |some x=>have c:b∈rE h H:=UP.mpr ⟨UD.mpr<|Ur a,by simp[q]⟩;have z:(ji h H).get? b=ae:=PySem.W.hideAll_none (rE h H) c;rw[z] at e;cases e
noncomputable def GW(g h:Heap)(L:Addr):List (Addr×Obj):=(List.range h.objs.size).filterMap λa=>if a=L\/(g.get? a).isSome=af then ae else(h.get? a).map λo=>(a,o)
noncomputable def rest(g h:Heap)(L d:Addr):List (Addr×Obj):=(GW g h L).filter λp=>ai<|p.1≠d
structure Mod(K:PySem.W.Frag)(mg:Str->Option ah)(base:Heap):Prop where
 mV:K.In base
 glob:base.Ns mainGlobals mg
 blt:∃mb,base.Ns builtinsNs mb/\∀x:Str,x≠"__name__"->mb x=bootBuiltins x
 nolimit:base.NoLimit
structure Cx where
 prog:Program
 w:World
 K:PySem.W.Frag
 mg:Str->Option ah
 base:Heap
 A:Around
 N:List Str
 dn:Shared
 k_:Hp
 env:Env
 outer:List Env
 stack:List Env
 ex:List Addr
 fn:Str->Bool
 calm:Bool
 pn:List (Addr×Obj)
 xe:ah->Shared->Prop
noncomputable def fT(l:List Env):List Addr:=l.filterMap (·.frame)
noncomputable abbrev Cx.fs(X:Cx):List Addr:=fT X.outer
noncomputable def o7(sc:Scope)(x:Str):Prop:=sc.names.lookup x=aa .local\/sc.names.lookup x=aa .cell\/sc.names.lookup x=aa .free
noncomputable def Loc(sc:Scope)(x:Str):Prop:=sc.names.lookup x=aa .local\/sc.names.lookup x=aa .cell
noncomputable def Look(env:Env)(h:Heap)(m:Str->Option ah)(x:Str)(u:ah):Prop:=
 (env.kindOf x=aa .local/\m x=aa u)\/((env.kindOf x=aa .cell\/env.kindOf x=aa .free)/\∃c,env.cells.lookup x=aa c/\h.IsCell c (aa u))
structure Cx.Ok(X:Cx):Prop where
 mod:Mod X.K X.mg X.base
 kind:X.env.scope.kind=.function
 glob:X.env.globals=mainGlobals
 blt:X.env.builtins=builtinsNs
 above:X.dn.heap.objs.size<=X.env.locals
 inj:∀x y c,X.env.cells.lookup x=aa c->X.env.cells.lookup y=aa c->x=y
 has:∀x,(X.env.kindOf x=aa .cell\/X.env.kindOf x=aa .free)->∃c,X.env.cells.lookup x=aa c
 o8:∀x c,X.fn x=af->X.env.cells.lookup x=aa c->X.dn.heap.objs.size<=c
 hd:X.calm=af->X.A.handled=ae
 frames:X.A.frames=aa X.stack
 rF:X.stack=X.outer\/(X.stack=X.env::X.outer/\X.env.frame=aa X.env.locals)
 BO:∀b∈X.ex,b≠X.env.locals/\∀x c,X.env.cells.lookup x=aa c->c≠b
 bs:∀b o,X.base.get? b=aa o->X.dn.heap.get? b=aa o/\X.k_ b=ae
 jt:X.base.objs.size<=X.dn.heap.objs.size
 gL:∀b o,X.base.get? b=aa o->b∉X.ex
 rd:∀b∈X.ex,b∉X.fs
 gM:X.dn.heap.FunFrames X.base X.outer
 lx:∀b∈X.fs,X.k_ b=ae
structure Inv(X:Cx)(pins:List<|Addr×Obj)(σ:List<|Option V)(H:Hp)(s:Shared):Prop where
 ok:X.Ok
 os:s.os=X.dn.os
 bare:AllBare s.gens
 base:Un X.fs X.ex X.k_ H X.dn.heap s.heap
 loc:∃m,s.heap.Ns X.env.locals m/\∀(i:Nat) (x:Str) (v:V),X.N[i]? =aa x->σ[i]? =aa (aa v)->o7 X.env.scope x->∃u,RelV v u/\Look X.env s.heap m x u
 cell:∀x c,X.env.cells.lookup x=aa c->∃v,s.heap.IsCell c v
 free:H X.env.locals=ae
 gf:∀x c,X.env.cells.lookup x=aa c->H c=ae
 pin:∀p∈X.pn++pins,s.heap.get? p.1=aa p.2/\H p.1=ae/\p.1≠X.env.locals/\p.1∉X.fs/\∀v,p.2.data≠.cell v
 aL:cp X.prog X.w H s.heap
 len:σ.length=X.N.length
section
variable{X:Cx}{pins:List (Addr×Obj)}{σ:List (Option V)}{H H':Hp}{s:Shared}{h':Heap}
def Cx.Ok.Mt(ok:X.Ok){b:Addr}{o:Obj}(e:X.base.get? b=aa o):b∉X.fs:=λa=>by have:=(ok.gM.mem a).1;rw[e] at this;cases this
def Inv.bs(I:Inv X pins σ H s):∀b o,X.base.get? b=aa o->s.heap.get? b=aa o/\H b=ae:=λb o e=>⟨I.base.keep b o (I.ok.bs b o e).1 (I.ok.bs b o e).2 (I.ok.Mt e)<|I.ok.gL b o e,I.base.free b o (I.ok.bs b o e).1 (I.ok.bs b o e).2<|I.ok.gL b o e⟩
def Inv.bk(I:Inv X pins σ H s):∀b o,X.base.get? b=aa o->s.heap.get? b=aa o:=λb o e=>(I.bs b o e).1
def Inv.mod(I:Inv X pins σ H s):Mod X.K X.mg X.base:=I.ok.mod
def Inv.eI(I:Inv X pins σ H s):X.K.In s.heap:=I.ok.mod.mV.keeps I.bk
def Inv.nolimit(I:Inv X pins σ H s):s.heap.NoLimit:=I.ok.mod.nolimit.keeps I.bk
def Inv.lt(I:Inv X pins σ H s):X.env.locals<s.heap.objs.size:=let⟨_,a,_⟩:=I.loc;a.lt
def Inv.sz(I:Inv X pins σ H s):X.dn.heap.objs.size<=s.heap.objs.size:=Uh I.ok.above<|VE I.lt
def Inv.rg(I:Inv X pins σ H s){a:Addr}(h:s.heap.objs.size<=a):a∉X.fs:=λb=>by obtain⟨_,o,c,_⟩:=I.ok.gM.mem b;exact absurd (Up (Ur c)<|Uh I.sz h)<|Vh _
def Inv.vZ(I:Inv X pins σ H s):∀x c,X.env.cells.lookup x=aa c->c≠X.env.locals:=λx c e z=>by obtain⟨v,o,f,d⟩:=I.cell x c e;obtain⟨m,⟨i,h,g,b,a,_⟩,_⟩:=I.loc;rw[z,b] at f;cases f;rw[a] at d;cases d
def Inv.gM(I:Inv X pins σ H s):s.heap.FunFrames X.base X.outer:=by
 have c:∀(l),(∀b∈fT l,b∈X.fs)->X.dn.heap.FunFrames X.base l->s.heap.FunFrames X.base l:=by
  intro l;induction l with
  |nil=>intro _ _;trivial
  |cons env r m=>
   intro g j;obtain⟨p,⟨L,o,a,n,k,h⟩,i⟩:=j;have d:=g L (by unfold fT;rw[WX,a];exact UE);obtain⟨q,e⟩:=I.base.slot L o k (I.ok.lx L d) d λz=>I.ok.rd L z d
   exact⟨p,⟨L,_,a,n,e,h⟩,m (λb f=>g b (by unfold fT;rw[WX,a];exact Ut _ f)) i⟩
 exact c X.outer (λ_ f=>f) I.ok.gM
def Inv.stack(I:Inv X pins σ H s):s.heap.FunFrames X.base X.stack:=by
 rcases I.ok.rF with e|⟨e,hf⟩
 ·rw[e];exact I.gM
 ·rw[e];obtain⟨m,a,_⟩:=I.loc;refine .cons (by rw[I.ok.kind];decide) hf a ?_ I.gM;exact Heap.get?_none_of_le<|Uh I.ok.jt I.ok.above
def Inv.qF(I:Inv X pins σ H s):∀b∈fT X.stack,b∈X.env.locals::X.fs:=λb a=>by
 rcases I.ok.rF with e|⟨e,hf⟩
 ·rw[e] at a;exact Ut _ a
 ·rw[e] at a;unfold fT at a;rw[WX,hf] at a;exact a
def Inv.uQ(I:Inv X pins σ H s):∀b∈fT X.stack,H b=ae:=λb a=>by
 rcases T7.mp (I.qF b a) with e|a
 ·rw[e];exact I.free
 ·obtain⟨_,o,c,_⟩:=I.ok.gM.mem a;exact I.base.free b o c (I.ok.lx b a) λz=>I.ok.rd b z a
def Inv.step{g':Array GenState}{t':Nat}{d':Drawn}{ch:List Addr}(I:Inv X pins σ H s)(g:∀b∈ch,(b∈X.ex\/X.dn.heap.objs.size<=b)/\b≠X.env.locals/\(∀x c,X.env.cells.lookup x=aa c->c≠b)/\∀p∈X.pn++pins,p.1≠b)(keep:∀b o,b≠X.env.locals->b∉X.fs->b∉ch->s.heap.get? b=aa o->H b=ae->h'.get? b=aa o)(slot:∀b o,b≠X.env.locals->b∈X.fs->b∉ch->s.heap.get? b=aa o->H b=ae->∃N,h'.get? b=aa {o with slots:=N})(f:∀b o,b∉ch->s.heap.get? b=aa o->H b=ae->H' b=ae)(there:∀b o,b∉ch->s.heap.get? b=aa o->∃o',h'.get? b=aa o')(D:∀b xs,H b=aa (.tup xs)->H' b=aa (.tup xs))(J:∀b o u,H b=aa (.a6 o u)->H' b=aa (.a6 o u))(G:∀b K,H b=aa (.c8 K)->∃C,H' b=aa (.c8<|K++C))(ns:∀m,s.heap.Ns X.env.locals m->h'.Ns X.env.locals m)(O:cp X.prog X.w H' h')(Z:AllBare g'):
 Inv X pins σ H' {s with heap:=h',gens:=g',drawn:=d',toks:=t'}:=by
 have E:∀b o,X.dn.heap.get? b=aa o->b≠X.env.locals:=λb o e=>UI<|Up (Ur e) I.ok.above
 have y:∀b o,X.dn.heap.get? b=aa o->b∉X.ex->b∉ch:=λb o e a A=>by
  rcases(g b A).1 with z|z
  ·exact a z
  ·exact absurd (Up (Ur e) z)<|Vh _
 have h:∀x c,X.env.cells.lookup x=aa c->∀v,s.heap.IsCell c v->h'.IsCell c v:=λx c e v ⟨o,B,L⟩=>by
  have j:=λz=>(g c z).2.2.1 x c e rfl
  by_cases Q:c∈X.fs
  ·obtain⟨N,q⟩:=slot c o (I.vZ x c e) Q j B (I.gf x c e);exact⟨_,q,L⟩
  ·exact⟨o,keep c o (I.vZ x c e) Q j B<|I.gf x c e,L⟩
 refine⟨I.ok,I.os,Z,⟨λb o e n A a=>?_,λb o e n A a=>?_,λb o e n a=>?_,λb o e a=>?_,λb xs e=>D b xs<|I.base.ij b xs e,λb o xs e=>J b o xs<|I.base.iP b o xs e,λb K e=>?_⟩,?_,λx c e=>?_,?_,λx c e=>?_,λp P=>?_,O,I.len⟩
 ·exact keep b o (E b o e) A (y b o e a) (I.base.keep b o e n A a)<|I.base.free b o e n a
 ·obtain⟨N,t⟩:=I.base.slot b o e n A a;obtain⟨M,F⟩:=slot b _ (E b o e) A (y b o e a) t<|I.base.free b o e n a;exact⟨M,F⟩
 ·obtain⟨o',t⟩:=I.base.there b o e a;exact f b o' (y b o e a) t<|I.base.free b o e n a
 ·obtain⟨o',t⟩:=I.base.there b o e a;exact there b o' (y b o e a) t
 ·obtain⟨T,t⟩:=I.base.jh b K e;obtain⟨U,F⟩:=G b _ t;exact⟨T++U,by rw[F,Array.append_assoc]⟩
 ·obtain⟨m,hn,W⟩:=I.loc;refine⟨m,ns m hn,λi x v t F Y=>?_⟩;obtain⟨u,r,l⟩:=W i x v t F Y;refine⟨u,r,?_⟩;rcases l with l|⟨k,c,e,z⟩
  ·exact .inl l
  ·exact .inr ⟨k,c,e,h x c e _ z⟩
 ·obtain⟨v,z⟩:=I.cell x c e;exact⟨v,h x c e v z⟩
 ·obtain⟨m,⟨o,_,_,B,_⟩,_⟩:=I.loc;exact f _ o (λz=>(g _ z).2.1 rfl) B I.free
 ·obtain⟨v,o,B,L⟩:=I.cell x c e;exact f c o (λz=>(g c z).2.2.1 x c e rfl) B<|I.gf x c e
 ·obtain⟨e,n,R,S,d⟩:=I.pin p P;have j:=λz=>(g p.1 z).2.2.2 p P rfl
  exact⟨keep p.1 p.2 R S j e n,f p.1 p.2 j e n,R,S,d⟩
def Inv.un(I:Inv X pins σ H s)(u:Un X.fs [] H H' s.heap h')(d:cp X.prog X.w H' h'):Inv X pins σ H' {s with heap:=h',toks:=t'}:=by
 obtain⟨m,⟨o,l,p,h,r⟩,_⟩:=id I.loc;obtain⟨v,j⟩:=u.any h I.free<|by simp
 exact I.step (ch:=[]) (λ_ z=>nomatch z) (λb o _ f _ e n=>u.keep b o e n f<|by simp) (λb o _ f _ e n=>u.slot b o e n f<|by simp) (λb o _ e n=>u.free b o e n<|by simp) (λb o _ e=>u.there b o e<|by simp) u.ij u.iP u.jh (λq k=>by obtain⟨t,g,c,a,i⟩:=k;rw[h] at a;cases a;exact⟨_,g,c,j,i⟩) d I.bare
def Inv.call{t':Nat}{d':Drawn}{ch:List Addr}(I:Inv X pins σ H s)(u:Un (fT X.stack) ch H H' s.heap h')(h:cp X.prog X.w H' h')(q:AllBare g')(d:∀b∈ch,(b∈X.ex\/X.dn.heap.objs.size<=b)/\b≠X.env.locals/\(∀x c,X.env.cells.lookup x=aa c->c≠b)/\∀p∈X.pn++pins,p.1≠b):
 Inv X pins σ H' {s with heap:=h',gens:=g',drawn:=d',toks:=t'}:=by
 obtain⟨m,⟨o,y,A,k,r⟩,_⟩:=id I.loc;obtain⟨D,i⟩:=u.any k I.free λz=>(d _ z).2.1 rfl
 exact I.step d (λb o i t a e n=>u.keep b o e n (λz=>(T7.mp<|I.qF b z).elim i t) a) (λb o _ _ a e n=>u.any e n a) (λb o a e n=>u.free b o e n a) (λb o a e=>u.there b o e a) u.ij u.iP u.jh (λB v=>by obtain⟨C,j,g,f,l⟩:=v;rw[k] at f;cases f;exact⟨_,j,g,i,l⟩) h q
def Inv.turned{it:Addr}(I:Inv X pins σ H s)(k:∀b o,b≠it->s.heap.get? b=aa o->h'.get? b=aa o)(t:H it=ae)(f:it≠X.env.locals)(g:it∈X.ex\/X.dn.heap.objs.size<=it)(l:∀x c,X.env.cells.lookup x=aa c->c≠it)(h3:∀p∈X.pn++pins,p.1≠it):Inv X pins σ H {s with heap:=h',toks:=t'}:=by
 have d:∀b u,H b=aa u->b≠it:=λb u e z=>by rw[z,t] at e;cases e
 refine I.step (ch:=[it]) (λb w=>?_) (λb o _ _ a e _=>k b o (λz=>a<|by simp[z]) e) (λb o _ _ a e _=>⟨o.slots,k b o (λz=>a<|by simp[z]) e⟩) (λ_ _ _ _ n=>n) (λb o a e=>⟨o,k b o (λz=>a<|by simp[z]) e⟩) (λ_ _ e=>e) (λ_ _ _ e=>e) (λb A e=>⟨#[],by rw[e];simp⟩) (λm y=>?_) (λb u e=>?_) I.bare
 ·have e:=by simpa using w
  subst e;exact⟨g,f,l,h3⟩
 ·obtain⟨o,h,i,j,r⟩:=y;exact⟨o,h,i,k _ o (Uz f) j,r⟩
 ·refine(I.aL b u e).gK (λc v a q=>k c v ?_ q) (λ_ q=>q) λ_ _ q=>q
  rcases a with z|z
  ·rw[z];exact d b u e
  ·exact d c _ z
def Inv.tok(I:Inv X pins σ H s)(t):Inv X pins σ H {s with toks:=t}:=I.un Un.refl I.aL
def Inv.kept(I:Inv X pins σ H s)(k:∀b u,s.heap.get? b=aa u->h'.get? b=aa u):Inv X pins σ H {s with heap:=h',toks:=t'}:=I.un (Un.kept k)<|I.aL.kept k
def Inv.laid{a:Addr}{o:HO}{t':Nat}(I:Inv X pins σ H s)(k:∀b u,s.heap.get? b=aa u->h'.get? b=aa u)(d:s.heap.objs.size<=a)(c:dA X.prog X.w (upd H a o) h' a o):
 Inv X pins σ (upd H a o) {s with heap:=h',toks:=t'}:=I.un (Un.laid k d<|I.aL.fresh d)<|I.aL.laid k d c
def Inv.write{o:HO}{t':Nat}(I:Inv X pins σ H s)(c:o6<|H x)(d:e=x\/H e=aa (.own x))(k:∀b u,b≠e->s.heap.get? b=aa u->h'.get? b=aa u)(a:∃u,h'.get? e=aa u)(new:dA X.prog X.w (upd H x o) h' x o):Inv X pins σ (upd H x o) {s with heap:=h',toks:=t'}:=I.un (Un.write c d k a)<|I.aL.write c d k a new
def Inv.jM(I:Inv X pins σ H s)(h:∀p∈Lg,s.heap.get? p.1=aa p.2/\H p.1=ae/\p.1≠X.env.locals/\p.1∉X.fs/\∀v,p.2.data≠.cell v):Inv X Lg σ H s:=
 ⟨I.ok,I.os,I.bare,I.base,I.loc,I.cell,I.free,I.gf,λp a=>(U0.mp a).elim (λz=>I.pin p<|Ws _ z)<|h p,I.aL,I.len⟩
def yJ{N:List Str}(d:N.Nodup){i j:Nat}{x:Str}(a:N[i]? =aa x)(b:N[j]? =aa x):i=j:=by obtain⟨f,c⟩:=Ub.mp a;obtain⟨g,e⟩:=Ub.mp b;exact(List.getElem_inj d).mp<|c.trans e.symm
def D2{A:Around}{E:ah->Shared->Prop}{i:Nat}{x:Str}{v:V}{u:ah}{Q:Unit->Shared->Prop}(I:Inv X pins σ H s)(hN:X.N.Nodup)(U:X.N[i]? =aa x)(B:Loc X.env.scope x)(r:RelV v u)(h:∀s',Inv X pins (σ.set i<|aa v) H s'->(∃a,Heap.SameBut a s.heap s'.heap/\(a=X.env.locals\/X.env.cells.lookup x=aa a))->Q () s')(hf:X.fn x=af\/X.env.scope.names.lookup x=aa .local:=by first|exact .inl rfl|exact .inr rfl|assumption):wpAny M A (storeName X.env x u) Q E s:=by
 obtain⟨m,hn,hl⟩:=id I.loc;have R:(X.env.scope.kind==.class||(X.env.scope.kind==.module&&X.env.locals != X.env.globals))=ag:=by rw[I.ok.kind];rfl
 have F:i<σ.length:=by rw[I.len];exact(Ub.mp U).1
 have K:=I.vZ;have l:∀{a:Addr} {h':Heap},(∃o,s.heap.get? a=aa o/\H a=ae)->Heap.SameBut a s.heap h'->cp X.prog X.w H h':=λ{a h'} ha f b ob e=>by
  obtain⟨_,_,C⟩:=ha;refine(I.aL b ob e).gK (λc Y t q=>(f.2 c ?_).trans q) (λ_ q=>q) λ_ _ q=>q
  rintro rfl;rcases t with rfl|t
  ·rw[C] at e;cases e
  ·rw[C] at t;cases t
 rcases B with G|G
 ·refine wpAny_storeName_local G hn (λh' v5 f=>?_) R;obtain⟨oL,_,_,NG,_⟩:=id hn;refine h _ ⟨I.ok,I.os,I.bare,⟨λb o e n O B=>?_,λb o e n O B=>?_,I.base.free,λb o e B=>?_,I.base.ij,I.base.iP,I.base.jh⟩,⟨_,v5,λj y v' g D e3=>?_⟩,λy c e=>?_,I.free,I.gf,λp hp=>?_,l ⟨oL,NG,I.free⟩ f,by simpa using I.len⟩ ⟨_,f,.inl rfl⟩
  ·exact(f.2 b<|UI<|Up (Ur e) I.ok.above).trans<|I.base.keep b o e n O B
  ·obtain⟨sl,g⟩:=I.base.slot b o e n O B;exact⟨sl,(f.2 b<|UI<|Up (Ur e) I.ok.above).trans g⟩
  ·obtain⟨o',g⟩:=I.base.there b o e B;exact⟨o',(f.2 b<|UI<|Up (Ur e) I.ok.above).trans g⟩
  ·by_cases J:j=i
   ·subst J;rw[U] at g;cases g;rw[UH F] at D;cases D;exact⟨u,r,.inl ⟨G,by simp⟩⟩
   ·rw[UG<|Uz J] at D;obtain⟨u',r',q⟩:=hl j y v' g D e3;refine⟨u',r',?_⟩;rcases q with⟨k,e⟩|⟨k,c,e,z⟩
    ·refine .inl ⟨k,?_⟩;have:y≠x:=λe=>J<|yJ hN g<|e▸U
     simp[this,e]
    ·exact .inr ⟨k,c,e,z.sameBut f<|K y c e⟩
  ·obtain⟨Y,z⟩:=I.cell y c e;exact⟨Y,z.sameBut f<|K y c e⟩
  ·obtain⟨e,n,ne,nf,d⟩:=I.pin p hp;exact⟨(f.2 p.1 ne).trans e,n,ne,nf,d⟩
 ·have L:X.fn x=af:=by
   rcases hf with z|z
   ·exact z
   ·rw[z] at G;cases G
  obtain⟨c,t⟩:=I.ok.has x<|.inl G;obtain⟨Y,z⟩:=I.cell x c t;refine wpAny_storeName_cell I.ok.kind G t z<|λh' P f=>?_
  obtain⟨oc,W,T⟩:=id z;refine h {s with heap:=h'} ⟨I.ok,I.os,I.bare,⟨λb o e n O B=>?_,λb o e n O B=>?_,I.base.free,λb o e B=>?_,I.base.ij,I.base.iP,I.base.jh⟩,⟨m,hn.sameBut f<|Uz<|K x c t,λj y v' g D e3=>?_⟩,λy Z e=>?_,I.free,I.gf,λp hp=>?_,l ⟨oc,W,I.gf x c t⟩ f,by simpa using I.len⟩ ⟨c,f,.inr t⟩
  ·exact(f.2 b<|UI<|Up (Ur e)<|I.ok.o8 x c L t).trans<|I.base.keep b o e n O B
  ·obtain⟨sl,g⟩:=I.base.slot b o e n O B;exact⟨sl,(f.2 b<|UI<|Up (Ur e)<|I.ok.o8 x c L t).trans g⟩
  ·obtain⟨o',g⟩:=I.base.there b o e B;exact⟨o',(f.2 b<|UI<|Up (Ur e)<|I.ok.o8 x c L t).trans g⟩
  ·by_cases J:j=i
   ·subst J;rw[U] at g;cases g;rw[UH F] at D;cases D;exact⟨u,r,.inr ⟨.inl G,c,t,P⟩⟩
   ·rw[UG<|Uz J] at D;obtain⟨u',r',q⟩:=hl j y v' g D e3;refine⟨u',r',?_⟩;rcases q with q|⟨k,Z,e,z'⟩
    ·exact .inl q
    ·refine .inr ⟨k,Z,e,z'.sameBut f ?_⟩;rintro rfl;exact J<|yJ hN g<|I.ok.inj _ _ _ e t▸U
  ·by_cases S:Z=c
   ·subst S;exact⟨_,P⟩
   ·obtain⟨w2,z2⟩:=I.cell y Z e;exact⟨w2,z2.sameBut f S⟩
  ·obtain⟨e,n,ne,nf,d⟩:=I.pin p hp;refine⟨(f.2 p.1 ?_).trans e,n,ne,nf,d⟩;intro q;rw[q,W] at e;have q':=Ug e;exact d Y (by rw[<-q'];exact T)
def yK{A:Around}{E:ah->Shared->Prop}{i:Nat}{x:Str}{v:V}{u:ah}{Q:Unit->Shared->Prop}(I:Inv X pins σ H s)(d:X.N.Nodup)(e:X.N[i]? =aa x)(b:Loc X.env.scope x)(r:RelV v u)(h:∀a,Inv X pins (σ.set i<|aa v) H a->Q () a)(c:X.fn x=af\/X.env.scope.names.lookup x=aa .local:=by first|exact .inl rfl|exact .inr rfl|assumption):wpAny M A (storeName X.env x u) Q E s:=
 D2 I d e b r (λa f _=>h a f) c
def Inv.Lh{ch:List Addr}(I:Inv X pins σ H s)(f:s'.os=s.os)(u:Un (fT X.stack) ch H H' s.heap s'.heap)(a:cp X.prog X.w H' s'.heap)(g:AllBare s'.gens)(d:∀b∈ch,(b∈X.ex\/X.dn.heap.objs.size<=b)/\b≠X.env.locals/\(∀x c,X.env.cells.lookup x=aa c->c≠b)/\∀p∈X.pn++pins,p.1≠b):Inv X pins σ H' s':=by obtain⟨h',i,h,k,j⟩:=s';have e:=f;subst e;exact I.call u a g d
end
noncomputable abbrev XK:=ah->Option Addr->Hp->Prop
noncomputable abbrev St:=List<|Option V
noncomputable abbrev VK:=V->Hp->Prop
noncomputable abbrev TE:=St->Hp->VK->Prop
noncomputable abbrev TT:=St->Hp->(Bool->Hp->Prop)->Prop
noncomputable abbrev TA:=St->Hp->(List V->Hp->Prop)->Prop
structure Ends where
 nx:St->Hp->Prop
 rt:VK
 bk:St->Hp->Prop:=λ_ _=>False
 ct:St->Hp->Prop:=λ_ _=>False
noncomputable abbrev TS:=Ends->St->Hp->Prop
noncomputable def EP(X:Cx)(pins:List<|Addr×Obj)(σ:St)(Q:VK)(u:ah)(b:Shared):Prop:=∃v a,Inv X pins σ a b/\RelV v u/\Q v a
noncomputable def TP(X:Cx)(pins:List<|Addr×Obj)(σ:St)(Q:Bool->Hp->Prop)(b:Bool)(c:Shared):Prop:=∃a,Inv X pins σ a c/\Q b a
noncomputable def AP(X:Cx)(pins:List<|Addr×Obj)(σ:St)(Q:List V->Hp->Prop)(d:List ah)(c:Shared):Prop:=∃a b,Inv X pins σ b c/\Vals a d/\Q a b
noncomputable def SP(X:Cx)(pins:List<|Addr×Obj)(D:Ends)(f:Flow)(c:Shared):Prop:=
 match f with
 |.next=>∃a b,Inv X pins a b c/\D.nx a b
 |.brk=>∃a b,Inv X pins a b c/\D.bk a b
 |.cont=>∃a b,Inv X pins a b c/\D.ct a b
 |.ret u=>∃v a b,Inv X pins a b c/\RelV v u/\D.rt v b
noncomputable def PE(X:Cx)(e:Expr)(t:TE):Prop:=
 ∀(a) (s) (b) (H) (Q),Inv X a b H s->t b H Q->wpAny (model X.prog X.w) X.A (eval e X.env) (EP X a b Q) X.xe s
noncomputable def PT(X:Cx)(e:Expr)(t:TT):Prop:=
 ∀(a) (s) (b) (H) (Q),Inv X a b H s->t b H Q->wpAny (model X.prog X.w) X.A (isTrue e X.env<|eval e X.env) (TP X a b Q) X.xe s
noncomputable def PW(X:Cx)(e:Expr)(t:TT):Prop:=
 ∀(b) (a) (s) (c) (H) (Q),Inv X a c H s->t c H Q->wpAny (model X.prog X.w) X.A (isTrue e X.env b) (TP X a c Q) X.xe s
def PW.pt{e:Expr}{t:TT}(h:PW X e t):PT X e t:=h _
noncomputable def PA(X:Cx)(d:List Expr)(t:TA):Prop:=
 ∀(c) (a) (s) (b) (H) (Q),Inv X a b H s->t b H Q->wpAny (model X.prog X.w) X.A (spliced<|backTo c<|starEach d X.env) (AP X a b Q) X.xe s
noncomputable def PS(X:Cx)(st:Stmt)(t:TS):Prop:=
 ∀(a) (s) (b) (H) (D),Inv X a b H s->t D b H->wpAny (model X.prog X.w) X.A (exec st X.env) (SP X a D) X.xe s
noncomputable def fU(X:Cx)(st:List Stmt)(t:TS):Prop:=
 ∀(a) (s) (b) (H) (D),Inv X a b H s->t D b H->wpAny (model X.prog X.w) X.A (execs st X.env) (SP X a D) X.xe s
def aQ{t:Sem α}{Q b:α->Shared->Prop}{M:Model}{A:Around}{E:ah->Shared->Prop}{s:Shared}(h:wpAny M A t Q E s)(c:∀a s,Q a s->b a s):wpAny M A t b E s:=UL h c λ_ _ x=>x
section
variable{X:Cx}
def bin{j k:TE}(z:PE X a j)(q:PE X b k){pins:List (Addr×Obj)}{s:Shared}{σ:St}{H:Hp}{R:V->V->Hp->Prop}(I:Inv X pins σ H s)(h:j σ H λx i=>k σ i λy c=>R x y c){l:Type}{Q:l->Shared->Prop}{f:ah->ah->Sem l}(hf:∀v u g x y c,Inv X pins σ c g->RelV x v->RelV y u->R x y c->wpAny (model X.prog X.w) X.A (f v u) Q X.xe g):
 wpAny (model X.prog X.w) X.A (eval a X.env) (λv e=>wpAny (model X.prog X.w) X.A (eval b X.env) (λu d=>wpAny (model X.prog X.w) X.A (f v u) Q X.xe d) X.xe e) X.xe s:=by
 refine aQ (z pins s σ H _ I h) λv t ⟨x,i,r,B,n⟩=>?_
 refine aQ (q pins t σ i _ r n) λu g ⟨y,c,m,p,o⟩=>?_
 exact hf v u g x y c m B p o
noncomputable def vK(i:Nat):TE:=λa H Q=>∃v,a[i]? =aa (aa v)/\Q v H
noncomputable def tC(v:V):TE:=λ_ H Q=>Q v H
def mx{x:Str}{pos:Pos}(j:X.N[i]? =aa x)(p:o7 X.env.scope x)(f:(x==("__debug__":Str))=ag:=by decide)(g:(x==("__classdict__":Str))=ag:=by decide):PE X (.Name x pos) (vK i):=by
 intro d s n H Q I h;obtain⟨v,e,h⟩:=h;obtain⟨m,o,k⟩:=I.loc;obtain⟨u,r,l⟩:=k i x v j e p;have a:EP X d n Q u s:=⟨v,H,I,r,h⟩;rcases l with⟨b,q⟩|⟨b,c,hc,qW⟩
 ·exact wpAny_Name (wpAny_loadName_local I.ok.kind b o q a) f
 ·rcases b with b|b
  ·exact wpAny_Name (wpAny_loadName_cell I.ok.kind b hc qW a) f
  ·exact wpAny_Name (wpAny_loadName_free I.ok.kind b hc qW a g) f
def I9{i j pos}:PE X (.Constant (.int i) j pos) (tC<|.int i):=λ_ _ _ H _ I h=>wpAny_Constant_int ⟨.int i,H,I.tok _,⟨_,rfl⟩,h⟩
def Li{b j pos}:PE X (.Constant (.bool b) j pos) (tC<|.bl b):=λ_ _ _ H _ I h=>Constant_bool ⟨.bl b,H,I,rfl,h⟩
def I_{j pos}:PE X (.Constant .none j pos) (tC .aA):=λ_ _ _ H _ I h=>Constant_none ⟨.aA,H,I,rfl,h⟩
def Ja{x j pos}:PE X (.Constant (.str x) j pos) (tC<|.str x):=λ_ _ _ H _ I h=>Calls.Constant_str ⟨.str x,H,I.tok _,⟨_,rfl⟩,h⟩
noncomputable def Gl(X:Cx)(x:Str):Prop:=X.env.kindOf x=aa .globalImplicit
def uR{pins:List (Addr×Obj)}{s:Shared}{σ:St}{H:Hp}{x:Str}{u:ah}{pos:Pos}{Q:ah->Shared->Prop}(I:Inv X pins σ H s)(a:Gl X x)(b:X.mg x=aa u)(h:Q u s)(hd:(x==("__debug__":Str))=ag:=by decide):wpAny (model X.prog X.w) X.A (eval (.Name x pos) X.env) Q E s:=
 XG I.ok.kind a (Calls.loadGlobal_global (by rw[I.ok.glob];exact I.mod.glob.keeps I.bk) b h) hd
def kR{E:ah->Shared->Prop}{pins:List (Addr×Obj)}{s:Shared}{σ:St}{H:Hp}{x:Str}{u:ah}{pos:Pos}{Q:ah->Shared->Prop}(I:Inv X pins σ H s)(d:Gl X x)(f:X.mg x=ae)(c:bootBuiltins x=aa u)(h:Q u s)(g:x≠"__name__":=by decide)(b:(x==("__debug__":Str))=ag:=by decide):wpAny (model X.prog X.w) X.A (eval (.Name x pos) X.env) Q E s:=by obtain⟨i,a,e⟩:=I.mod.blt;exact XG I.ok.kind d (Calls.loadGlobal_builtin (by rw[I.ok.glob];exact I.mod.glob.keeps I.bk) f (by rw[I.ok.blt];exact a.keeps I.bk) ((e x g).trans c) h) b
def zy{v:V}{u:ah}{pos:Pos}(b:Gl X x)(c:X.mg x=aa u)(r:RelV v u)(a:(x==("__debug__":Str))=ag:=by decide):PE X (.Name x pos) (tC v):=
 λ_ _ _ H _ I h=>uR I b c ⟨v,H,I,r,h⟩ a
def zA{v:V}{u:ah}{pos:Pos}(c:Gl X x)(d:X.mg x=ae)(b:bootBuiltins x=aa u)(r:RelV v u)(e:x≠"__name__":=by decide)(a:(x==("__debug__":Str))=ag:=by decide):PE X (.Name x pos) (tC v):=
 λ_ _ _ H _ I h=>kR I c d b ⟨v,H,I,r,h⟩ e a
variable{a b:Expr}{ta tb:TE}{pos:Pos}
noncomputable def PC(X:Cx)(g:CmpOp)(a b:Expr)(t:TE):Prop:=
 ∀(c) (s) (f) (H) (Q),Inv X c f H s->t f H Q->
  wpAny (model X.prog X.w) X.A (eval a X.env) (λv e=>wpAny (model X.prog X.w) X.A (eval b X.env) (λu d=>wpAny (model X.prog X.w) X.A (compareOp g v u) (EP X c f Q) X.xe d) X.xe e) X.xe s
def Fd(b){c:CmpOp}(h:c≠.In)(e:c≠.NotIn):behindInMarks c b=ag:=by
 have d:(c==CmpOp.In)=ag:=by cases c<;>first|rfl|exact absurd rfl h
 have f:(c==CmpOp.NotIn)=ag:=by cases c<;>first|rfl|exact absurd rfl e
 cases b<;>simp[behindInMarks,d,f]
noncomputable def Mu(ta:TE):TE:=λd H Q=>ta d H λx c=>Q (.bl<|ai<|x=.aA) c
noncomputable def Lj(ta:TE):TE:=λd H Q=>ta d H λx c=>Q (.bl<|!ai (x=.aA)) c
def RelV.yL{v:ah}(r:RelV x v):(v==Value.none)=ai (x=.aA):=by
 cases x with
 |aA=>cases r;rfl
 |bl _=>cases r;rfl
 |int _=>obtain⟨t,rfl⟩:=r;rfl
 |str _=>obtain⟨t,rfl⟩:=r;rfl
 |gu _=>obtain⟨t,rfl⟩:=r;rfl
 |iW _=>obtain⟨t,rfl⟩:=r;rfl
 |ref _=>cases r;rfl
 |ty _=>cases r;rfl
def Jb{j pos'}(i:PE X a ta):PC X .Is a (.Constant .none j pos') (Mu ta):=by
 intro c s g H Q I h;refine aQ (i c s g H _ I h) λv l ⟨x,d,f,k,e⟩=>?_
 exact Constant_none<|is_none_gen ⟨.bl _,d,f,by rw[k.yL];rfl,e⟩
def GX{j pos'}(i:PE X a ta):PC X .IsNot a (.Constant .none j pos') (Lj ta):=by
 intro c s g H Q I h;refine aQ (i c s g H _ I h) λv l ⟨x,d,f,k,e⟩=>?_
 exact Constant_none<|isnot_none_gen ⟨.bl _,d,f,by rw[k.yL];rfl,e⟩
noncomputable def tB(t:TE):TT:=λe H Q=>t e H λx d=>∃c,x=.bl c/\Q c d
def Ax{t:TE}(h:PC X op a b t)(f:behindInMarks op b=ag:=by first|exact Fd _ (by decide) (by decide)|rfl):PT X (.Compare a [op] [b] pos) (tB t):=by intro e s l H Q I m;refine wpAny_isTrue_Compare1 (aQ (h e s l H _ I m) λv r f=>aQ f λu p k=>aQ k λc o ⟨x,j,i,n,g⟩=>?_) f;obtain⟨d,rfl,q⟩:=g;cases n;exact VF ⟨j,i,q⟩
def Jc{t:TE}(h:PE X e t)(i:∀c,isTrue e X.env c=(do let v<-c;standAt e.pos;holding [v] (truthy v)):=by intro _;rfl):PT X e (tB t):=by intro f s k H Q I l;refine isTrue_plain (aQ (h f s k H _ I l) λv o ⟨x,g,m,n,j⟩=>?_)<|i _;obtain⟨d,rfl,q⟩:=j;cases n;exact VF ⟨g,m,q⟩
variable{tA rG:TT}{rest:List Expr}
noncomputable def fP(t u:TT):TT:=λe H Q=>t e H λc d=>if c=af then u e d Q else Q ag d
noncomputable def bg(t u:TT):TT:=λe H Q=>t e H λc d=>if c=af then Q af d else u e d Q
noncomputable def bB(t:TT):TT:=λe H Q=>t e H λc d=>Q (!c) d
def GY(g:PT X a tA):PW X (.BoolOp .And [a] pos) tA:=by
 intro i d s f H Q I h;refine isTrue_and<|aQ (g d s f H Q I h) λc j e=>?_
 cases c with
 |true=>exact isTrue_and_nil e
 |false=>exact e
def Jd(g:PT X a tA):PW X (.BoolOp .Or [a] pos) tA:=by
 intro i d s f H Q I h;refine isTrue_or<|aQ (g d s f H Q I h) λc j e=>?_
 cases c with
 |false=>exact isTrue_or_nil e
 |true=>exact e
def Je(l:PT X a tA)(k:PW X (.BoolOp .And (b::rest) pos) rG):PW X (.BoolOp .And (a::b::rest) pos) (fP tA rG):=by
 intro j d s i H Q I h;refine isTrue_and<|aQ (l d s i H _ I h) λc m ⟨e,g,f⟩=>?_
 cases c with
 |true=>exact k j d m i e Q g f
 |false=>exact⟨e,g,f⟩
def Lk(l:PT X a tA)(k:PW X (.BoolOp .Or (b::rest) pos) rG):PW X (.BoolOp .Or (a::b::rest) pos) (bg tA rG):=by
 intro j d s i H Q I h;refine isTrue_or<|aQ (l d s i H _ I h) λc m ⟨e,g,f⟩=>?_
 cases c with
 |true=>exact⟨e,g,f⟩
 |false=>exact k j d m i e Q g f
def Jf(g:PT X a tA):PT X (.UnaryOp .Not a pos) (bB tA):=by intro d s f H Q I h;exact isTrue_not<|g d s f H (λc e=>Q (!c) e) I h
noncomputable def Ll(ta tb:TE):TE:=λe H Q=>ta e H λx d=>∃c,x=.bl c/\if c=af then tb e d Q else Q (.bl ag) d
noncomputable def Mv(ta tb:TE):TE:=λe H Q=>ta e H λx d=>∃c,x=.bl c/\if c=af then Q (.bl af) d else tb e d Q
noncomputable def Lm(ta:TE):TE:=λe H Q=>ta e H λx d=>∃c,x=.bl c/\Q (.bl<|!c) d
def Jg{op}{t:TE}(h:PE X a t):PE X (.BoolOp op [a] pos) t:=λc s e H Q I d=>BoolOp_one<|h c s e H Q I d
def Jh(j:PE X a ta)(k:PE X (.BoolOp .And (b::rest) pos) tb):PE X (.BoolOp .And (a::b::rest) pos) (Ll ta tb):=by
 intro d s g H Q I h;refine BoolOp_and<|aQ (j d s g H _ I h) λv m ⟨x,f,i,l,e⟩=>?_
 obtain⟨c,rfl,e⟩:=e;cases l;refine VF ?_;cases c with
 |true=>exact k d m g f Q i e
 |false=>exact⟨.bl ag,f,i,rfl,e⟩
def Ln(j:PE X a ta)(k:PE X (.BoolOp .Or (b::rest) pos) tb):PE X (.BoolOp .Or (a::b::rest) pos) (Mv ta tb):=by
 intro d s g H Q I h;refine BoolOp_or<|aQ (j d s g H _ I h) λv m ⟨x,f,i,l,e⟩=>?_
 obtain⟨c,rfl,e⟩:=e;cases l;refine VF ?_;cases c with
 |false=>exact k d m g f Q i e
 |true=>exact⟨.bl af,f,i,rfl,e⟩
def Ji(j:PE X a ta):PE X (.UnaryOp .Not a pos) (Lm ta):=by
 intro d s i H Q I h;refine UnaryOp_<|aQ (j d s i H _ I h) λv l ⟨x,f,g,k,e⟩=>?_
 obtain⟨c,rfl,e⟩:=e;cases k;exact not_of<|VF ⟨.bl<|!c,f,g,rfl,e⟩
end
noncomputable def bH(K:PySem.W.Frag)(H:Hp)(a:Addr)(xs:List V):Prop:=
 Rd H a (.lst xs)\/
  ∃(o:Obj) (b:Array ah) (n:Nat),K.lookup a=aa o/\o.cls=.type "list"/\o.dict=ae/\o.data=.seq b n/\b.size<=sizeLine/\Vals xs b.toList
noncomputable def dD(K:PySem.W.Frag)(H:Hp)(a:Addr)(xs:List V):Prop:=
 Rd H a (.tup xs)\/
  ∃(o:Obj) (b:Array ah) (n:Nat),K.lookup a=aa o/\o.cls=.type "tuple"/\o.data=.seq b n/\b.size<=sizeLine/\Vals xs b.toList
noncomputable def Mw:ah->Option V
 |.none=>aa .aA
 |.bool b=>aa<|.bl b
 |.int i _=>aa<|.int i
 |.str x _=>aa<|.str x
 |.bytes b _=>aa<|.gu b
 |.float b _=>aa<|.iW b
 |.ref a=>aa<|.ref a
 |.type n=>aa<|.ty n
 |_=>ae
def RelV.abs{u:ah}(r:RelV x u):Mw u=aa x:=by
 cases x with
 |aA=>cases r;rfl
 |bl _=>cases r;rfl
 |int _=>obtain⟨t,rfl⟩:=r;rfl
 |str _=>obtain⟨t,rfl⟩:=r;rfl
 |gu _=>obtain⟨t,rfl⟩:=r;rfl
 |iW _=>obtain⟨t,rfl⟩:=r;rfl
 |ref _=>cases r;rfl
 |ty _=>cases r;rfl
def RelV.inj{u:ah}(r:RelV x u)(q:RelV y u):x=y:=Ug<|r.abs.symm.trans q.abs
theorem Vals.inj:∀{xs ys:List V} {a:List ah},Vals xs a->Vals ys a->xs=ys
 |_,_,_,.nil,.nil=>rfl
 |_,_,_,.cons r t,.cons b c=>by rw[r.inj b,Vals.inj t c]
section
variable{X:Cx}{pins:List (Addr×Obj)}{σ:St}{H:Hp}{s:Shared}{a:Addr}{xs ys:List V}
def bH.of{K:PySem.W.Frag}(h:H a=aa (.lst xs)):bH K H a xs:=.inl<|.inl h
def dD.of{K:PySem.W.Frag}(h:H a=aa (.tup xs)):dD K H a xs:=.inl<|.inl h
def Inv.list(I:Inv X pins σ H s)(h:bH X.K H a xs):∃b:List ah,Vals xs b/\PlainL s.heap a b.toArray/\xs.length<=sizeLine:=by
 rcases h with h|⟨o,b,n,hk,hc,hd,hs,hz,r⟩
 ·obtain⟨z,b,n,r,e⟩:=h.ok I.aL;exact⟨b,r,⟨_,n,e,rfl,rfl,rfl⟩,z⟩
 ·refine⟨b.toList,r,⟨o,n,I.eI a o hk,hc,hd,by simpa using hs⟩,?_⟩;have e:=r.length;simp only[WY] at e;omega
def Inv.tuple(I:Inv X pins σ H s)(h:dD X.K H a xs):∃b:List ah,Vals xs b/\IsTup s.heap a b.toArray/\xs.length<=sizeLine:=by
 rcases h with h|⟨o,b,n,hk,hc,hs,hz,r⟩
 ·obtain⟨z,b,r,p⟩:=h.ok I.aL;exact⟨b,r,p,z⟩
 ·refine⟨b.toList,r,⟨o,I.eI a o hk,hc,n,by simpa using hs⟩,?_⟩;have e:=r.length;simp only[WY] at e;omega
def Inv.yM(I:Inv X pins σ H s)(h:bH X.K H a xs)(h':bH X.K H a ys):xs=ys:=by
 obtain⟨j,r,⟨o,n,e,_,_,d⟩,_⟩:=I.list h;obtain⟨f,g,⟨k,l,c,_,_,b⟩,_⟩:=I.list h';rw[e] at c;cases c;rw[d] at b;injection b with i _;have:=by simpa using U1 Array.toList i
 subst this;exact r.inj g
def Inv.D3(I:Inv X pins σ H s)(h:dD X.K H a xs)(h':dD X.K H a ys):xs=ys:=by
 obtain⟨j,r,⟨o,e,_,n,d⟩,_⟩:=I.tuple h;obtain⟨f,g,⟨k,c,_,l,b⟩,_⟩:=I.tuple h';rw[e] at c;cases c;rw[d] at b;injection b with i _;have:=by simpa using U1 Array.toList i
 subst this;exact r.inj g
end
noncomputable abbrev Cx.iQ(X:Cx)(E:ah->Shared->Prop):Cx:={X with xe:=E}
noncomputable abbrev Cx.iX(X:Cx):Cx:=X.iQ λ_ _=>False
def Cx.Ok.iQ{X:Cx}(ok:X.Ok)(E):(X.iQ E).Ok:=
 ⟨ok.mod,ok.kind,ok.glob,ok.blt,ok.above,ok.inj,ok.has,ok.o8,ok.hd,ok.frames,ok.rF,ok.BO,ok.bs,ok.jt,ok.gL,ok.rd,ok.gM,ok.lx⟩
def Cx.Ok.jS{X:Cx}{E:ah->Shared->Prop}(ok:(X.iQ E).Ok):X.Ok:=
 ⟨ok.mod,ok.kind,ok.glob,ok.blt,ok.above,ok.inj,ok.has,ok.o8,ok.hd,ok.frames,ok.rF,ok.BO,ok.bs,ok.jt,ok.gL,ok.rd,ok.gM,ok.lx⟩
section
variable{X:Cx}{pins:List (Addr×Obj)}{σ:St}{H:Hp}{s:Shared}{E:ah->Shared->Prop}
def Inv.iQ(I:Inv X pins σ H s)(E):Inv (X.iQ E) pins σ H s:=⟨I.ok.iQ E,I.os,I.bare,I.base,I.loc,I.cell,I.free,I.gf,I.pin,I.aL,I.len⟩
def Inv.jS(I:Inv (X.iQ E) pins σ H s):Inv X pins σ H s:=⟨I.ok.jS,I.os,I.bare,I.base,I.loc,I.cell,I.free,I.gf,I.pin,I.aL,I.len⟩
def SP.jS{f:Flow}{c:Shared}(h:SP (X.iQ E) pins D f c):SP X pins D f c:=by
 cases f with
 |next=>obtain⟨a,b,I,q⟩:=h;exact⟨a,b,I.jS,q⟩
 |brk=>obtain⟨a,b,I,q⟩:=h;exact⟨a,b,I.jS,q⟩
 |cont=>obtain⟨a,b,I,q⟩:=h;exact⟨a,b,I.jS,q⟩
 |ret u=>obtain⟨v,a,b,I,r,q⟩:=h;exact⟨v,a,b,I.jS,r,q⟩
def fU.iX{st:List Stmt}{t:TS}(h:fU X.iX st t):fU X st t:=λpins s σ H D I a=>UL (h pins s σ H D (I.iQ _) a) (λ_ _ q=>q.jS) λ_ _ z=>False.elim z
end
section
variable{X:Cx}{st:Stmt}{rest:List Stmt}{t u:TS}{e:Expr}{te:TE}{pos:Pos}
noncomputable def Lo:TS:=λD a H=>D.nx a H
noncomputable def Mx(t u:TS):TS:=λD a H=>t {D with nx:=u D} a H
def GZ:fU X [] Lo:=λ_ _ a H _ I h=>Wt ⟨a,H,I,h⟩
def Fe(c:PS X st t)(g:fU X rest u):fU X (st::rest) (Mx t u):=by
 intro a s j H D I h;refine wpAny_execs_cons<|aQ (c a s j H {D with nx:=u D} I h) λf k q=>?_
 cases f with
 |next=>obtain⟨b,d,i,q⟩:=q;exact g a k b d D i q
 |ret v=>exact q
 |brk=>exact q
 |cont=>exact q
def G0(b:PS X st t):fU X [st] t:=by
 intro a s c H D I h;refine wpAny_execs_cons<|aQ (b a s c H D I h) λf d q=>?_
 cases f with
 |next=>exact Wt q
 |ret v=>exact q
 |brk=>exact q
 |cont=>exact q
noncomputable def Jj:TS:=λD a H=>D.bk a H
def Ff:PS X (.Break pos) Jj:=λ_ _ a H _ I h=>wpAny_Break ⟨a,H,I,h⟩
def Inv.quiet{σ:St}{H:Hp}{s:Shared}(I:Inv X pins σ H s):interactive X.env=ag:=by simp[interactive,I.ok.kind]
noncomputable def Lp(te:TE):TS:=λD a H=>te a H λ_ b=>D.nx a b
def G1(he:PE X e te)(d:swapsWith e ae pos.line X.env=pure ag:=by rfl):PS X (.Expr e pos) (Lp te):=by intro a s b H D I h;exact wpAny_Expr_any (aQ (he a s b H _ I h) λv j ⟨x,c,g,i,f⟩=>⟨b,c,g,f⟩) I.quiet d
noncomputable def My(te:TE):TS:=λD a H=>te a H D.rt
def Jk(he:PE X e te):PS X (.Return (aa e) pos) (My te):=by intro a s b H D I h;exact wpAny_Return_some<|aQ (he a s b H _ I h) λv i ⟨x,c,f,g,d⟩=>⟨x,b,c,f,g,d⟩
noncomputable def Mz(c:TT)(t u:TS):TS:=λD a H=>c a H λb d=>if b=af then t D a d else u D a d
def Lq{a b:List Stmt}{k:TT}(n:PT X c k)(o:fU X a t)(p:fU X b u):PS X (.If c a b pos) (Mz k t u):=by
 intro f s g H D I h;refine wpAny_If<|aQ (n f s g H _ I h) λd m ⟨i,l,j⟩=>?_
 cases d with
 |true=>exact o f m g i D l j
 |false=>exact p f m g i D l j
noncomputable def Jl:TS:=λ_ _ _=>False
def Fh:PS X st Jl:=λ_ _ _ _ _ _ h=>h.elim
end
noncomputable abbrev TG:=V->St->Hp->(St->Hp->Prop)->Prop
noncomputable abbrev ly:=List V->St->Hp->(St->Hp->Prop)->Prop
noncomputable def PG(X:Cx)(a:Expr)(t:TG):Prop:=
 ∀(b) (s) (e) (H) (v) (u) (Q),Inv X b e H s->RelV v u->t v e H Q->
  wpAny (model X.prog X.w) X.A (assign a X.env u) (λ_ f=>∃c d,Inv X b c d f/\Q c d) X.xe s
noncomputable def o9(X:Cx)(h:List Expr)(t:ly):Prop:=
 ∀(a) (s) (f) (H) (d) (e) (Q),Inv X a f H s->Vals d e->t d f H Q->
  wpAny (model X.prog X.w) X.A (assignInOrder ((assignEach h X.env).map (·.2)) e) (λ_ g=>∃b c,Inv X a b c g/\Q b c) X.xe s
noncomputable abbrev vL:=V->V->V->Hp->(Hp->Prop)->Prop
noncomputable def Bp(X:Cx)(t:vL):Prop:=
 ∀(a) (s) (d) (H) (o i v) (e b u) (Q),Inv X a d H s->RelV o e->RelV i b->RelV v u->t o i v H Q->
  wpAny (model X.prog X.w) X.A (setItem e b u) (λ_ f=>∃c,Inv X a d c f/\Q c) X.xe s
section
variable{X:Cx}{pos:Pos}
noncomputable def az(i:Nat):TG:=λv a H Q=>Q (a.set i<|aa v) H
def zB{x:Str}(d:X.N.Nodup)(e:X.N[i]? =aa x)(b:Loc X.env.scope x)(c:X.fn x=af\/X.env.scope.names.lookup x=aa .local:=by first|exact .inl rfl|exact .inr rfl|assumption):PG X (.Name x pos) (az i):=by intro a s j H v u Q I r h;exact wpAny_assign_Name<|yK I d e b r (λg f=>⟨_,H,f,h⟩) c
noncomputable def MA:ly:=λb a H Q=>b=[]/\Q a H
noncomputable def Lr(t:TG)(u:ly):ly:=λc d H Q=>∃v r,c=v::r/\t v d H λa b=>u r a b Q
def G2:o9 X [] MA:=by intro a s b H c d Q I r h;obtain⟨e,h⟩:=h;subst e;cases r;exact assignInOrder_nil ⟨b,H,I,h⟩
def Fi{b:List Expr}{t:TG}{u:ly}(d:PG X e t)(l:o9 X b u)(i:(assignEach (e::b) X.env).map (·.2)=assign e X.env::(assignEach b X.env).map (·.2):=by rfl):o9 X (e::b) (Lr t u):=by
 intro a s m H q p Q I r h;obtain⟨v,w,f,h⟩:=h;subst f;cases r with
 |cons r o=>
  rw[i];refine assignInOrder_cons<|aQ (d a s m H _ _ _ I r h) λ_ n ⟨c,k,j,g⟩=>?_
  exact l a n c k _ _ Q j o g
noncomputable def dd(K:PySem.W.Frag)(n:Nat)(t:ly):TG:=λv c H Q=>∃a b,v=.ref a/\dD K H a b/\b.length=n/\t b c H Q
def Jm{k:Nat}{t:ly}{n:Nat}(y:X.calm=af)(h:o9 X es t)(C:(assignEach es X.env).length=n:=by rfl)(d:(assignEach es X.env).findIdx? (·.1)=ae:=by rfl):PG X (.Tuple es k pos) (dd X.K n t):=by
 intro c s j H v u Q I r f;obtain⟨a,p,l,z,x,f⟩:=f;subst l;cases r;obtain⟨q,i,m,D⟩:=I.tuple z;refine assign_Tuple_tuple (I.ok.hd y) m (by simp[C,<-x,i.length]) d λB A=>?_
 have w:Inv X c j H {s with heap:=B}:=I.kept λb o e=>A b o (UI<|Ur e) e
 exact h c _ j H p _ Q w (by simpa using i) f
noncomputable def eE(b e:TE)(t:vL):TG:=λv a H Q=>b a H λo c=>e a c λi d=>t o i v d λf=>Q a f
def Jn{f e:TE}{t:vL}(z:PE X o f)(w:PE X i e)(k:Bp X t)(j:∀v,assign (.Subscript o i pos) X.env v=(do
  let b<-holding [v] (eval o X.env)
  let c<-holding [v,b] (eval i X.env)
  standAt pos
  holding [v,b,c] (setItem b c v)
  release [v,b,c] []):=by intro _;rfl):PG X (.Subscript o i pos) (eE f e t):=by
 intro a s d H v u Q I r h;rw[j];refine T8<|Vq<|aQ (z a s d H _ I h) λb A ⟨x,q,n,F,g⟩=>?_
 refine T8<|Vq<|aQ (w a A d q _ n g) λc m ⟨y,D,C,E,l⟩=>?_
 refine T8<|wpAny_standAt<|T8<|Vq<|aQ (k a m d D x y v b c u _ C F E r l) λ_ J ⟨G,p,B⟩=>?_
 exact wpAny_release ⟨d,G,p,B⟩
noncomputable def Bq(c:TE)(g:TG):TS:=λD a H=>c a H λx b=>g x a b D.nx
def Jo{b e:Expr}{c:TE}{g:TG}(j:PE X e c)(n:PG X b g)(k:swapsWithSole [b] e pos.line X.env=pure ag:=by rfl)(p:swappedStores [b] e X.env=pure ae:=by rfl)(f:(assignEach [b] X.env).map (·.2)=[assign b X.env]:=by rfl):PS X (.Assign [b] e pos) (Bq c g):=by intro a s d H D I h;refine wpAny_Assign_stores (aQ (j a s d H _ I h) λv o ⟨x,m,l,r,i⟩=>?_) k p;rw[f];exact aQ (n a o d m x v _ l r i) λ_ t q=>q
def Jp{x:Str}{e:Expr}{c:TE}{a:Pos}(f:X.N.Nodup)(o:X.N[i]? =aa x)(m:Loc X.env.scope x)(j:PE X e c)(k:swapsWith e (aa<|.Name x a) pos.line X.env=pure ag:=by rfl)(d:X.fn x=af\/X.env.scope.names.lookup x=aa .local:=by first|exact .inl rfl|exact .inr rfl|assumption):
 PS X (.Assign [.Name x a] e pos) (Bq c<|az i):=by
 intro b s p H D I h;refine wpAny_Assign_Name (aQ (j b s p H _ I h) λv u ⟨y,n,l,r,g⟩=>?_) k;exact yK l f o m r (λt q=>⟨_,n,q,g⟩) d
end
section
variable{X:Cx}{pos:Pos}
noncomputable def Jq(c:TT)(h:TS):TS:=λD a H=>∃W:Nat->St->Hp->Prop,(∃m,W m a H)/\∀m a H,W m a H->
 c a H λb e=>if b=af then∃N:St->Hp->Prop,(∀d g,N d g->∃f,f<m/\W f d g)/\h {D with nx:=N,ct:=N,bk:=D.nx} a e else D.nx a e
def Fj{e:List Stmt}{u:TT}{C:TS}(y:PassesOwn (model X.prog X.w) X.A X.env X.xe)(J:PT X c u)(O:fU X e C):PS X (.While c e [] pos) (Jq u C):=by
 intro a s L H D I h;obtain⟨W,⟨E,K⟩,i⟩:=h;refine wpAny_While<|codeAny_whileLoop (λn F=>∃j x,Inv X a j x F/\W n j x) ?_ E ⟨L,H,I,K⟩;rintro n M ⟨bS,H1,I1,w1⟩;refine VO y<|aQ (J a M bS H1 _ I1<|i n bS H1 w1) λb G ⟨B,z,l⟩=>?_
 cases b with
 |true=>
  obtain⟨N,t,l⟩:=l;rw[T5 rfl];refine VO y<|aQ (O a G bS B _ z l) λf P k=>?_
  cases f with
  |next=>obtain⟨d,g,q,p⟩:=k;obtain⟨o,r,m⟩:=t d g p;exact⟨o,r,d,g,q,m⟩
  |cont=>obtain⟨d,g,q,p⟩:=k;obtain⟨o,r,m⟩:=t d g p;exact⟨o,r,d,g,q,m⟩
  |brk=>exact k
  |ret v=>exact k
 |false=>rw[T6 Uq];exact Wt ⟨bS,B,z,l⟩
end
structure It where
 go:Nat->Hp->Prop
 lz:Nat->Hp->V->Hp->Prop
 stop:Nat->Hp->Prop
noncomputable def eY(X:Cx)(pins:List<|Addr×Obj)(H:Hp)(b:Addr):Prop:=
 H b=ae/\b≠X.env.locals/\b∉X.fs/\(b∈X.ex\/X.dn.heap.objs.size<=b)/\(∀x c,X.env.cells.lookup x=aa c->c≠b)/\∀p∈X.pn++pins,p.1≠b
def Inv.lb{pins:List (Addr×Obj)}{σ:St}{H d:Hp}{s:Shared}{b:Addr}(I:Inv X pins σ H s)(a:s.heap.objs.size<=b)(f:d b=ae):eY X pins d b:=by
 refine⟨f,VZ<|Up I.lt a,I.rg a,.inr<|Uh I.sz a,λx c e z=>?_,λp g z=>?_⟩
 ·obtain⟨v,q⟩:=I.cell x c e;exact absurd (Up q.lt (by rw[z];exact a))<|Vh _
 ·exact absurd (Up (Ur (I.pin p g).1) (by rw[z];exact a))<|Vh _
structure Turn(P:Program)(w:World)(K:PySem.W.Frag)(tg:Expr)(J:It)(fp:List Addr)(it:Addr)(tn:Nat->Heap->Prop):Prop where
 mem:it∈fp
 obj:∀i h,tn i h->∀b∈fp,∃o,h.get? b=aa o/\∀v,o.data≠.cell v
 keep:∀i h h',tn i h->(∀b∈fp,∀o,h.get? b=aa o->h'.get? b=aa o)->tn i h'
 item:∀(X:Cx),X.prog=P->X.w=w->X.K=K->X.calm=af->∀(i:Nat) (pins:List<|Addr×Obj) (s:Shared) (σ:St) (H:Hp) (E:ah->Shared->Prop),Inv X pins σ H s->(∀b∈fp,eY X pins H b)->tn i s.heap->J.go i H->
  wpAny (model P w) X.A (pyNext<|.ref it) (λr s1=>∃u,r=aa u/\
   wpAny (model P w) X.A (letOwnedTupleGo tg (.ref it) u) (λ_ s2=>∃x H',Inv X pins σ H' s2/\RelV x u/\J.lz i H x H'/\tn (i+1) s2.heap/\∀b∈fp,H' b=ae) E s1) E s
 done:∀(X:Cx),X.prog=P->X.w=w->X.K=K->X.calm=af->∀(i:Nat) (pins:List<|Addr×Obj) (s:Shared) (σ:St) (H:Hp) (E:ah->Shared->Prop),Inv X pins σ H s->(∀b∈fp,eY X pins H b)->tn i s.heap->J.stop i H->
  wpAny (model P w) X.A (pyNext<|.ref it) (λr s1=>r=ae/\Inv X pins σ H s1) E s
 self:∀(A:Around) (i:Nat) (s:Shared) (Q:ah->Shared->Prop) (E:ah->Shared->Prop),tn i s.heap->Q (.ref it) s->wpAny (model P w) A (pyIter<|.ref it) Q E s
noncomputable abbrev TI:=St->Hp->(It->Hp->Prop)->Prop
noncomputable def BP(X:Cx)(pins:List<|Addr×Obj)(σ:St)(h:Expr)(R:It->Hp->Prop)(a:ah)(g:Shared):Prop:=
 ∃(d:Addr) (e:List Addr) (f:Nat->Heap->Prop) (J:It) (c:Hp),a=.ref d/\Inv X pins σ c g/\Turn X.prog X.w X.K h J e d f/\f 0 g.heap/\(∀b∈e,eY X pins c b)/\R J c
noncomputable def PI(X:Cx)(d b:Expr)(e:TI):Prop:=
 ∀(a) (s) (c) (H) (R),Inv X a c H s->e c H R->
  wpAny (model X.prog X.w) X.A (eval b X.env) (λv f=>wpAny (model X.prog X.w) X.A (pyIter v) (BP X a c d R) X.xe f) X.xe s
def vz{M:Model}{A:Around}{E:ah->Shared->Prop}{s:Shared}{b:Expr}{it:Addr}{u:ah}{o:Obj}{n:String}{vs:Array ah}{Q:Unit->Shared->Prop}(e:s.heap.get? it=aa o)(c:o.cls=.type n)(d:o.data=.fields vs)(f:["enumerate","zip","dict_itemiterator","dict_reverseitemiterator","odict_iterator","itertools.zip_longest","itertools.pairwise"].contains n=ag)(a:Q () s):wpAny M A (letOwnedTupleGo b (.ref it) u) Q E s:=by
 unfold letOwnedTupleGo;cases b<;>first
  |exact Uk a
  |(cases u<;>first
   |exact Uk a
   |(refine T8 (wpAny_load e ?_)
     rw[c,d];show wpAny M A (if(["enumerate","zip","dict_itemiterator","dict_reverseitemiterator","odict_iterator","itertools.zip_longest","itertools.pairwise"].contains n&&vs[0]? ==aa (rawInt _))=af then _ else _) Q E s;rw[T6 (by intro h;rw[f,Vi] at h;cases h)];exact Uk a))
noncomputable def v8(K:PySem.W.Frag)(a:Addr):It:=
 ⟨λi H=>∃b x,bH K H a b/\b[i]? =aa x,λi H x c=>c=H/\∀b,bH K H a b->b[i]? =aa x,λi H=>∃b,bH K H a b/\b.length<=i⟩
noncomputable def v9(K:PySem.W.Frag)(a:Addr):It:=
 ⟨λi H=>∃b x,dD K H a b/\b[i]? =aa x,λi H x c=>c=H/\∀b,dD K H a b->b[i]? =aa x,λi H=>∃b,dD K H a b/\b.length<=i⟩
noncomputable def o_(lo:Int)(n:Nat):It:=⟨λi _=>i<n,λi H x a=>a=H/\x=.int (lo+i),λi _=>n<=i⟩
def D4{w:World}{K:PySem.W.Frag}{R:Expr}(a it):Turn P w K R (v8 K a) [it] it (λi h=>h.IsListIter it a i) where
 mem:=by simp
 obj:=λi h f b j=>by
  have e:=by simpa using j
  subst e;obtain⟨o,e,c,d⟩:=f;exact⟨o,e,λv z=>by rw[d] at z;cases z⟩
 keep:=λi h B f k=>f.at λo e=>k it (by simp) o e
 item:=by
  intro X r J F O i g s Q H E I m f C;subst r J F;obtain⟨T,x,n,A⟩:=C;obtain⟨y,D,p,U⟩:=I.list n;obtain⟨u,S,ru⟩:=D.get A;obtain⟨t,M,Y,G,L,q⟩:=m it<|by simp
  refine wpAny_pyNext_list_item f p.isList (by simpa using S) λB l sb=>?_
  have V:Inv X g Q H {s with heap:=B}:=I.turned (λb o j e=>(sb.2 b j).trans e) t M G L q;obtain⟨o,e,c,d⟩:=id l;exact⟨u,rfl,vz e c d (by decide) ⟨x,H,V,ru,⟨rfl,λys Z=>by rw[I.yM Z n];exact A⟩,l,λb j=>(m b j).1⟩⟩
 done:=by
  intro X r J F O i g s Q H E I m f C;subst r J F;obtain⟨T,n,A⟩:=C;obtain⟨y,D,p,U⟩:=I.list n;obtain⟨t,M,Y,G,L,q⟩:=m it<|by simp
  have hl:=D.length;exact wpAny_pyNext_list_end (I.ok.hd O) f p.isList (by simp;omega) λB eb=>⟨rfl,I.turned (λb o j e=>eb b o j e) t M G L q⟩
 self:=λ_ _ _ _ _ f h=>wpAny_pyIter_listiter f h
def Dx{w:World}{K:PySem.W.Frag}{R:Expr}(a it):Turn P w K R (v9 K a) [it] it (λi h=>h.IsTupleIter it a i) where
 mem:=by simp
 obj:=λi h f b j=>by
  have e:=by simpa using j
  subst e;obtain⟨o,e,c,d⟩:=f;exact⟨o,e,λv z=>by rw[d] at z;cases z⟩
 keep:=λi h B f k=>f.at λo e=>k it (by simp) o e
 item:=by
  intro X r J F O i g s Q H E I m f C;subst r J F;obtain⟨T,x,n,A⟩:=C;obtain⟨y,D,p,U⟩:=I.tuple n;obtain⟨u,S,ru⟩:=D.get A;obtain⟨t,M,Y,G,L,q⟩:=m it<|by simp
  refine wpAny_pyNext_tuple_item f (p) (by simpa using S) λB l sb=>?_
  have V:Inv X g Q H {s with heap:=B}:=I.turned (λb o j e=>(sb.2 b j).trans e) t M G L q;obtain⟨o,e,c,d⟩:=id l;exact⟨u,rfl,vz e c d (by decide) ⟨x,H,V,ru,⟨rfl,λys Z=>by rw[I.D3 Z n];exact A⟩,l,λb j=>(m b j).1⟩⟩
 done:=by
  intro X r J F O i g s Q H E I m f C;subst r J F;obtain⟨T,n,A⟩:=C;obtain⟨y,D,p,U⟩:=I.tuple n;obtain⟨t,M,Y,G,L,q⟩:=m it<|by simp
  have hl:=D.length;exact wpAny_pyNext_tuple_end (I.ok.hd O) f (p) (by simp;omega) λB eb=>⟨rfl,I.turned (λb o j e=>eb b o j e) t M G L q⟩
 self:=λ_ _ _ _ _ f h=>wpAny_pyIter_tupleiter f h
def Dy{w:World}{K:PySem.W.Frag}{G:Expr}(it)(lo)(n):Turn P w K G (o_ lo n) [it] it (λi h=>IsRangeIter h it (lo+(i)*1) ((n)-(i)) 1) where
 mem:=by simp
 obj:=λi h a b d=>by
  have e:=by simpa using d
  subst e;exact⟨_,a,λv z=>by have J:=z;cases J⟩
 keep:=λi h q a k=>k it (by simp) _ a
 item:=by
  intro X l y u p i c s D H E I g a r;subst l y u;obtain⟨m,B,N,x,A,j⟩:=g it<|by simp
  have W:=Walks.range (prog:=X.prog) (w:=X.w) (I.ok.hd p) it lo 1 n;refine W.item i s _ _ r a λv q L O f F=>?_
  obtain⟨t,rfl⟩:=O;have M:Inv X c D H {s with heap:=q,toks:=L}:=I.turned (λb o d e=>F b o (by simpa using d) e) m B x A j;refine⟨_,rfl,vz f rfl rfl (by decide) ⟨.int<|lo+i,H,M,⟨t,?_⟩,⟨rfl,rfl⟩,f,λb d=>(g b d).1⟩⟩;rw[Int.mul_one]
 done:=by
  intro X l y u p i c s D H E I g a r;subst l y u;obtain⟨m,B,N,x,A,j⟩:=g it<|by simp
  exact wpAny_pyNext_range_end (I.ok.hd p) a (by have:n<=i:=r;omega) λq Q=>⟨rfl,I.turned (λb o d e=>Q b o d e) m B x A j⟩
 self:=λ_ _ _ _ _ a h=>wpAny_pyIter_rangeiter a h
section
variable{X:Cx}{tg:Expr}
noncomputable def Ls(K:PySem.W.Frag)(c:TE):TI:=λe H R=>c e H λx b=>∃a,x=.ref a/\(∃d,bH K b a d)/\R (v8 K a) b
noncomputable def MB(K:PySem.W.Frag)(c:TE):TI:=λe H R=>c e H λx b=>∃a,x=.ref a/\(∃d,dD K b a d)/\R (v9 K a) b
def G3{g:TE}(k:PE X l g):PI X tg l (Ls X.K g):=by
 intro c s r H R I h;refine aQ (k c s r H _ I h) λv f ⟨x,n,d,u,i⟩=>?_
 obtain⟨a,e,⟨w,m⟩,q⟩:=i;subst e;cases u;obtain⟨j,z,p,y⟩:=d.list m;refine wpAny_pyIter_list p.isList ?_;refine⟨f.heap.objs.size,[f.heap.objs.size],_,_,n,rfl,d.kept λb o e=>Uw _ e,D4 a _,⟨_,UU _ rfl,rfl,rfl⟩,λb t=>?_,q⟩;have e:=by simpa using t
 subst e;exact d.lb (Uc _)<|d.aL.fresh<|Uc _
def Jr{g:TE}(k:PE X l g):PI X tg l (MB X.K g):=by
 intro c s r H R I h;refine aQ (k c s r H _ I h) λv f ⟨x,n,d,u,i⟩=>?_
 obtain⟨a,e,⟨w,m⟩,q⟩:=i;subst e;cases u;obtain⟨j,z,p,y⟩:=d.tuple m;refine wpAny_pyIter_tuple (p) ?_;refine⟨f.heap.objs.size,[f.heap.objs.size],_,_,n,rfl,d.kept λb o e=>Uw _ e,Dx a _,⟨_,UU _ rfl,rfl,rfl⟩,λb t=>?_,q⟩;have e:=by simpa using t
 subst e;exact d.lb (Uc _)<|d.aL.fresh<|Uc _
def yN{σ:St}{H:Hp}{s:Shared}{R:It->Hp->Prop}{E:ah->Shared->Prop}{lo a:Int}{t u v:Tok}{tk:Nat}(I:Inv X pins σ H s)(d: -(2 ^ 62)<=lo)(h:lo<2 ^ 62)(h3: -(2 ^ 62)<=a)(j:a<2 ^ 62)(q:R (o_ lo (a-lo).toNat) H):wpAny (model X.prog X.w) X.A (pyIter<|.ref s.heap.objs.size) (BP X pins σ tg R) E {s with heap:=s.heap.push {cls:=.type "range",data:=.fields #[.int lo t,.int a u,.int 1 v]},toks:=tk}:=by
 refine wpAny_pyIter_range (IsRange.new ..) (small_one d h h3 j) ?_;have c:Inv X pins σ H {s with heap:=s.heap.push {cls:=.type "range",data:=.fields #[.int lo t,.int a u,.int 1 v]},toks:=tk}:=I.kept λb o e=>Uw _ e
 refine⟨(s.heap.push {cls:=.type "range",data:=.fields #[.int lo t,.int a u,.int 1 v]}).objs.size,[(s.heap.push {cls:=.type "range",data:=.fields #[.int lo t,.int a u,.int 1 v]}).objs.size],_,_,H,rfl,
  c.kept λb o e=>Uw _ e,Dy _ lo (a-lo).toNat,?_,λb i=>?_,q⟩
 ·have f:lo+((0:Nat):Int)*1=lo:=by simp
  have g:(((a-lo).toNat:Nat):Int)-((0:Nat):Int)=Builtin.Range.rangeSize lo a 1:=by rw[rangeSize_one];split<;>omega
  rw[f,g];exact UU _ rfl
 ·have e:b=(s.heap.push {cls:=.type "range",data:=.fields #[.int lo t,.int a u,.int 1 v]}).objs.size:=by simpa using i
  subst e;exact c.lb (Uc _)<|c.aL.fresh<|Uc _
noncomputable def cc(d:TA):TI:=λb H R=>d b H λc a=>∃j:Int,c=[.int j]/\ -(2 ^ 62)<=j/\j<2 ^ 62/\R (o_ 0 j.toNat) a
noncomputable def dZ(d:TA):TI:=λb H R=>d b H λc a=>∃i j:Int,c=[.int i,.int j]/\(-(2 ^ 62)<=i/\i<2 ^ 62/\ -(2 ^ 62)<=j/\j<2 ^ 62)/\R (o_ i (j-i).toNat) a
def D5{d:TA}{p pos:Pos}(k:Gl X "range")(n:X.mg "range"=ae)(f:PA X [a] d)(g:starEach [a] X.env=[(ag,eval a X.env)]:=by rfl):PI X tg (.Call (.Name "range" p) [a] [] pos) (cc d):=by
 intro b s l H R I h;refine Call_<|kR I k n boot_range<|Wu (aQ (f pos b s l H _ I h) λv y ⟨x,w,i,o,c⟩=>?_) g rfl;obtain⟨j,e,c,u,q⟩:=c;subst e;cases o with
 |cons r m=>cases m;obtain⟨t,rfl⟩:=r;exact call_range_1<|yN i (by omega) (by omega) c u<|by simpa using q
def D6{k:TA}{p pos:Pos}(u:Gl X "range")(y:X.mg "range"=ae)(l:PA X [a,b] k)(m:starEach [a,b] X.env=[(ag,eval a X.env),(ag,eval b X.env)]:=by rfl)(c:starEach [b] X.env=[(ag,eval b X.env)]:=by rfl):
 PI X tg (.Call (.Name "range" p) [a,b] [] pos) (dZ k):=by
 intro d s v H R I h;refine Call_<|kR I u y boot_range<|Wu (aQ (l pos d s v H _ I h) λB F ⟨D,C,o,z,f⟩=>?_) (by rw[m,c]) (by rw[c];rfl);obtain⟨i,j,e,⟨f,A,w,x⟩,q⟩:=f;subst e;cases z with
 |cons r g=>
  cases g with
  |cons n g=>cases g;obtain⟨t,rfl⟩:=r;obtain⟨E,rfl⟩:=n;exact call_range_2<|yN o f A w x q
noncomputable def Br(k:TI)(g:TG)(j:TS):TS:=λD a H=>k a H λJ f=>∃W:Nat->Nat->St->Hp->Prop,(∃m,W 0 m a f)/\∀i m a H,W i m a H-> (J.stop i H/\D.nx a H)\/(J.go i H/\∃N:St->Hp->Prop,(∀c b,N c b->∃e,e<m/\W (i+1) e c b)/\∀x b,J.lz i H x b->g x a b λd h=>j {D with nx:=N,ct:=N,bk:=D.nx} d h)
noncomputable def jT(a:List Addr)(h:Heap):List (Addr×Obj):=a.filterMap λb=>(h.get? b).map λo=>(b,o)
def pQ{h:Heap}{b:Addr}{o:Obj}(a:b∈fp)(e:h.get? b=aa o):(b,o)∈jT fp h:=List.mem_filterMap.mpr ⟨b,a,by rw[e];rfl⟩
def x3{h:Heap}{p:Addr×Obj}(d:p∈jT fp h):p.1∈fp/\h.get? p.1=aa p.2:=by
 obtain⟨b,c,e⟩:=List.mem_filterMap.mp d;cases q:h.get? b with
 |none=>rw[q] at e;cases e
 |some o=>rw[q] at e;have a:=Ug e;subst a;exact⟨c,q⟩
def Inv.pinned{σ:St}{H:Hp}{s:Shared}{a:List Addr}(I:Inv X pins σ H s)(g:∀b∈a,eY X pins H b)(i:∀b∈a,∃o,s.heap.get? b=aa o/\∀v,o.data≠.cell v):Inv X (pins++jT a s.heap) σ H s:=
 I.jM λp l=>(U0.mp l).elim (λz=>I.pin p<|Uu _ z) λz=>by obtain⟨f,e⟩:=x3 z;obtain⟨h,k,j,_⟩:=g p.1 f;obtain⟨o,c,d⟩:=i p.1 f;rw[e] at c;cases c;exact⟨e,h,k,j,d⟩
def Inv.n4{σ:St}{H:Hp}{s:Shared}(I:Inv X (pins++pl) σ H s):Inv X pins σ H s:=I.jM λp a=>I.pin p<|Uu _<|Ws _ a
def Ay{q:Expr}{E:List Stmt}{wi:TI}{g:TG}{tb:TS}{pos:Pos}(K:PassesOwn (model X.prog X.w) X.A X.env X.xe)(hc:X.calm=af)(hi:PI X tg q wi)(hg:PG X tg g)(y:fU X E tb)(hs:∀x,foldedSetIterable q X.env x=pure x:=by intro _;rfl):PS X (.For tg q E [] pos) (Br wi g tb):=by
 intro a s σ H D I h;refine wpAny_For (aQ (hi a s σ H _ I h) λv s1 h1=>aQ h1 λv_ s2 h2=>?_) hs;obtain⟨it,M,tn,J,H2,e,I2,T,R,f2,W,⟨m0,w0⟩,L⟩:=h2;subst e;have k:∀{B:Hp},(∀b∈M,B b=ae)->∀b∈M,eY X a B b:=λhn b y=>⟨hn b y,(f2 b y).2⟩
 refine codeAny_forLoop_any (λn s'=>∃i p B,Inv X a p B s'/\tn i s'.heap/\(∀b∈M,B b=ae)/\W i n p B) ?_ m0 ⟨0,σ,H2,I2,R,λb y=>(f2 b y).1,w0⟩;rintro n s3 ⟨i,l,P,I3,G,O,w3⟩;rcases L i n l P w3 with⟨stop,qn⟩|⟨go,N,hN,step⟩
 ·refine VO K (aQ (T.done X rfl rfl rfl hc i a s3 l P X.xe I3 (k O) G stop) λr s4 ⟨S,I4⟩=>?_);subst S;exact Wt ⟨l,P,I4,qn⟩
 ·refine VO K (aQ (T.item X rfl rfl rfl hc i a s3 l P X.xe I3 (k O) G go) λr s4 ⟨u,S,h4⟩=>?_);subst S;refine VO K<|aQ h4 λ_ s5 ⟨x,Z,I5,r5,y5,di,V⟩=>?_
  have U:=I5.pinned (k V)<|T.obj _ _ di;refine VO K<|aQ (hg _ s5 l Z x u _ U r5<|step x Z y5) λ_ s6 ⟨Y,H6,I6,q6⟩=>?_
  refine VO K<|aQ (y _ s6 Y H6 _ I6 q6) λf Q C=>?_
  have j:∀{c:St} {z:Hp},Inv X (a++jT M s5.heap) c z Q->N c z->∃m,m<n/\∃i p B,Inv X a p B Q/\tn i Q.heap/\(∀b∈M,B b=ae)/\W i m p B:=λ{c z} t F=>by obtain⟨m',hm,w7⟩:=hN c z F;refine⟨m',hm,i+1,c,z,t.n4,T.keep _ _ _ di λb y o e=>(t.pin (b,o)<|Uu _<|Uu _<|pQ y e).1,λb y=>?_,w7⟩;obtain⟨o,e,d⟩:=T.obj _ _ di b y;exact(t.pin (b,o)<|Uu _<|Uu _<|pQ y e).2.1
  cases f with
  |next=>obtain⟨c,z,t,F⟩:=C;exact j t F
  |cont=>obtain⟨c,z,t,F⟩:=C;exact j t F
  |brk=>obtain⟨c,z,t,C⟩:=C;exact⟨c,z,t.n4,C⟩
  |ret v=>obtain⟨x7,c,z,t,r7,C⟩:=C;exact⟨x7,c,z,t.n4,r7,C⟩
end
noncomputable abbrev R2:=V->V->Hp->VK->Prop
noncomputable def b9(X:Cx)(f:ah->ah->Sem ah)(r:R2):Prop:=
 ∀(a) (s) (b) (H) (x y) (v u) (Q),Inv X a b H s->RelV x v->RelV y u->r x y H Q->
  wpAny (model X.prog X.w) X.A (f v u) (EP X a b Q) X.xe s
noncomputable def hV(X:Cx)(f:ah)(r:List V->Hp->VK->Prop):Prop:=
 ∀(a) (s) (d) (H) (c) (b) (Q),Inv X a d H s->Vals c b->r c H Q->
  wpAny (model X.prog X.w) X.A (call f b) (EP X a d Q) X.xe s
noncomputable def rH(r:R2)(c e:TE):TE:=λa H Q=>c a H λx b=>e a b λy d=>r x y d Q
noncomputable def rI(C:Int->Int->Prop)(g:Int->Int->V):R2:=λx y H Q=>∃i j,x=.int i/\y=.int j/\C i j/\Q (g i j) H
noncomputable def j9(g:Int->Int->V):R2:=λx y H Q=>∃i j,x=.int i/\y=.int j/\Q (g i j) H
section
variable{X:Cx}{a b c:Expr}{ta tb tc:TE}{pos:Pos}
def vM(q:PE X a ta)(o:PE X b tb){pins:List (Addr×Obj)}{s:Shared}{σ:St}{H:Hp}{R:V->V->Hp->Prop}(I:Inv X pins σ H s)(h:ta σ H λx j=>tb σ j λy d=>R x y d){Q:ah->Shared->Prop}{f:ah->ah->Sem ah}(hf:∀v u i x y d,Inv X pins σ d i->RelV x v->RelV y u->R x y d->wpAny (model X.prog X.w) X.A (f v u) Q X.xe i):
 wpAny (model X.prog X.w) X.A (eval a X.env) (λv g=>wpAny (model X.prog X.w) X.A (eval b X.env) (λu e=>wpAny (model X.prog X.w) X.A (f v u) Q X.xe e) X.xe g) X.xe s:=by
 refine aQ (q pins s σ H _ I h) λv t ⟨x,j,p,r,l⟩=>?_
 refine aQ (o pins t σ j _ p l) λu i ⟨y,d,k,n,m⟩=>?_
 exact hf v u i x y d k r n m
def Lu{r:R2}(i:b9 X (binaryOp op) r)(e:PE X a ta)(n:PE X b tb):PE X (.BinOp a op b pos) (rH r ta tb):=by intro d s j H Q I h;exact wpAny_BinOp<|vM e n I h λv u g x y l k f m q=>i d g j l x y v u Q k f m q
def wa{C:Int->Int->Prop}{g:Int->Int->Int}(rule:∀(i j) (t u) (s) (Q) (E),C i j->Q (.int (g i j) s.toks) {s with toks:=s.toks+1}->wpAny (model X.prog X.w) X.A (f (.int i t)<|.int j u) Q E s):
 b9 X f (rI C λi j=>.int<|g i j):=by
 intro d s n H x y v u Q I k l h;obtain⟨i,j,rfl,rfl,e,q⟩:=h;obtain⟨t,rfl⟩:=k;obtain⟨m,rfl⟩:=l;exact rule i j t m s _ _ e ⟨.int<|g i j,H,I.tok _,⟨_,rfl⟩,q⟩
def Bt{g:Int->Int->Int}(rule:∀(i j) (t u) (s) (Q) (E),Q (.int (g i j) s.toks) {s with toks:=s.toks+1}->wpAny (model X.prog X.w) X.A (f (.int i t)<|.int j u) Q E s):
 b9 X f (j9 λi j=>.int<|g i j):=by
 intro d s m H x y v u Q I e k h;obtain⟨i,j,rfl,rfl,q⟩:=h;obtain⟨t,rfl⟩:=e;obtain⟨l,rfl⟩:=k;exact rule i j t l s _ _ ⟨.int<|g i j,H,I.tok _,⟨_,rfl⟩,q⟩
def vO{g:Int->Int->Bool}(rule:∀(i j) (t u) (s) (Q) (E),Q (.bool<|g i j) s->wpAny (model X.prog X.w) X.A (f (.int i t)<|.int j u) Q E s):
 b9 X f (j9 λi j=>.bl<|g i j):=by
 intro d s m H x y v u Q I e k h;obtain⟨i,j,rfl,rfl,q⟩:=h;obtain⟨t,rfl⟩:=e;obtain⟨l,rfl⟩:=k;exact rule i j t l s _ _ ⟨.bl<|g i j,H,I,rfl,q⟩
noncomputable def Bu(i j:Int):Prop:=0<j/\j<1073741824
noncomputable def rh(i j:Int):Prop:=(-(2 ^ 64)<i/\i<2 ^ 64)\/(-(2 ^ 64)<j/\j<2 ^ 64)
def rh.ok(h:rh i j):IntMulOk i j:=by
 rcases h with⟨d,e⟩|⟨d,e⟩
 ·exact .of_left<|intBits_le_64 d e
 ·exact .of_right<|intBits_le_64 d e
def Js:b9 X (binaryOp .Add) (j9 λi j=>.int<|i+j):=Bt λ_ _ _ _ _ _ _ q=>add_int q
def Jt:b9 X (binaryOp .Sub) (j9 λi j=>.int<|i-j):=Bt λ_ _ _ _ _ _ _ q=>sub_int q
def Ju:b9 X (binaryOp .Mult) (rI rh λi j=>.int<|i*j):=wa λ_ _ _ _ _ _ _ d q=>mul_int q d.ok
def G4:b9 X (binaryOp .FloorDiv) (rI Bu λi j=>.int<|i / j):=wa λi j _ _ _ _ _ d q=>by have e:=d.1;have f:=d.2;exact floordiv_int (by omega) (by rw[Int.fdiv_eq_ediv_of_nonneg i<|by omega];exact q)<|.inl<|PyProof.noPylong_small<|by omega
def Jv:b9 X (binaryOp .Mod) (rI (λ_ j=>0<j) λi j=>.int<|i % j):=wa λi j _ _ _ _ _ d q=>by exact mod_int' (by omega) (by rw[Int.fmod_eq_emod_of_nonneg i<|by omega];exact q)
end
noncomputable def dh:V->V->Bool
 |.aA,.aA=>af|.aA,.int _=>af|.int _,.aA=>af|.aA,.bl _=>af|.bl _,.aA=>af|.aA,.str _=>af|.str _,.aA=>af
 |.int _,.int _=>af|.bl _,.bl _=>af|.str _,.str _=>af|.gu _,.gu _=>af
 |.int _,.str _=>af|.str _,.int _=>af|.bl _,.str _=>af|.str _,.bl _=>af
 |_,_=>ag
noncomputable def BQ:R2:=λx y H Q=>dh x y=af/\Q (.bl<|ai<|x=y) H
noncomputable def BR:R2:=λx y H Q=>dh x y=af/\Q (.bl<|!ai (x=y)) H
def zC:ai (V.int i=V.int j)=(i==j):=by rw[UW];simp
def Az:ai (V.bl i=V.bl j)=(i==j):=by rw[UW];simp
def zD:ai (V.str i=V.str j)=(i==j):=by rw[UW];simp
def zF:ai (V.gu i=V.gu j)=(i.toList==j.toList):=by rw[UW];cases i;cases j;simp
section
variable{X:Cx}{a b c:Expr}{ta tb tc:TE}{pos:Pos}
def cH{σ:St}{H:Hp}{s:Shared}{Q:VK}{k d:Bool}(I:Inv X pins σ H s)(q:Q (.bl k) H)(e:k=d):EP X pins σ Q (.bool d) s:=by subst e;exact⟨.bl k,H,I,rfl,q⟩
def Lv:b9 X (compareOp .Eq) BQ:=by
 intro k s l H x y v u Q I g d h;obtain⟨f,q⟩:=h;cases x with
 |aA=>
  cases g;cases y with
  |aA=>cases d;exact PySem.EqNone.eq_none_none<|cH I q<|by simp
  |bl j=>cases d;exact PySem.EqNone.eq_none_bool<|cH I q<|by simp
  |int j=>obtain⟨e,rfl⟩:=d;exact PySem.EqNone.eq_none_int<|cH I q<|by simp
  |str j=>obtain⟨e,rfl⟩:=d;exact PySem.EqNone.eq_none_str<|cH I q<|by simp
  |_=>exact absurd (show ag=af from f) Uq
 |bl i=>
  cases g;cases y with
  |aA=>cases d;exact PySem.EqNone.eq_bool_none<|cH I q<|by simp
  |bl j=>cases d;exact eq_bool<|cH I q Az
  |str j=>obtain⟨e,rfl⟩:=d;exact PySem.EqMixed.eq_bool_str<|cH I q<|by simp
  |_=>exact absurd (show ag=af from f) Uq
 |int i=>
  obtain⟨t,rfl⟩:=g;cases y with
  |aA=>cases d;exact PySem.EqNone.eq_int_none<|cH I q<|by simp
  |int j=>obtain⟨e,rfl⟩:=d;exact eq_int<|cH I q zC
  |str j=>obtain⟨e,rfl⟩:=d;exact PySem.EqMixed.eq_int_str<|cH I q<|by simp
  |_=>exact absurd (show ag=af from f) Uq
 |str i=>
  obtain⟨t,rfl⟩:=g;cases y with
  |aA=>cases d;exact PySem.EqNone.eq_str_none<|cH I q<|by simp
  |bl j=>cases d;exact PySem.EqMixed.eq_str_bool<|cH I q<|by simp
  |int j=>obtain⟨e,rfl⟩:=d;exact PySem.EqMixed.eq_str_int<|cH I q<|by simp
  |str j=>obtain⟨e,rfl⟩:=d;exact eq_str<|cH I q zD
  |_=>exact absurd (f) Uq
 |gu i=>
  obtain⟨t,rfl⟩:=g;cases y with
  |gu j=>obtain⟨e,rfl⟩:=d;exact PySem.W.eq_bytes<|cH I q zF
  |_=>exact absurd (f) Uq
 |_=>cases y<;>exact absurd (f) Uq
def Lx:b9 X (compareOp .NotEq) BR:=by
 intro k s l H x y v u Q I g d h;obtain⟨f,q⟩:=h;cases x with
 |aA=>
  cases g;cases y with
  |aA=>cases d;exact PySem.EqNone.ne_none_none<|cH I q<|by simp
  |bl j=>cases d;exact PySem.EqNone.ne_none_bool<|cH I q<|by simp
  |int j=>obtain⟨e,rfl⟩:=d;exact PySem.EqNone.ne_none_int<|cH I q<|by simp
  |str j=>obtain⟨e,rfl⟩:=d;exact PySem.EqNone.ne_none_str<|cH I q<|by simp
  |_=>exact absurd (show ag=af from f) Uq
 |bl i=>
  cases g;cases y with
  |aA=>cases d;exact PySem.EqNone.ne_bool_none<|cH I q<|by simp
  |bl j=>cases d;exact ne_bool<|cH I q<|U1 not Az
  |str j=>obtain⟨e,rfl⟩:=d;exact PySem.EqMixed.ne_bool_str<|cH I q<|by simp
  |_=>exact absurd (show ag=af from f) Uq
 |int i=>
  obtain⟨t,rfl⟩:=g;cases y with
  |aA=>cases d;exact PySem.EqNone.ne_int_none<|cH I q<|by simp
  |int j=>obtain⟨e,rfl⟩:=d;exact ne_int<|cH I q<|U1 not zC
  |str j=>obtain⟨e,rfl⟩:=d;exact PySem.EqMixed.ne_int_str<|cH I q<|by simp
  |_=>exact absurd (show ag=af from f) Uq
 |str i=>
  obtain⟨t,rfl⟩:=g;cases y with
  |aA=>cases d;exact PySem.EqNone.ne_str_none<|cH I q<|by simp
  |bl j=>cases d;exact PySem.EqMixed.ne_str_bool<|cH I q<|by simp
  |int j=>obtain⟨e,rfl⟩:=d;exact PySem.EqMixed.ne_str_int<|cH I q<|by simp
  |str j=>obtain⟨e,rfl⟩:=d;exact ne_str<|cH I q<|U1 not zD
  |_=>exact absurd (f) Uq
 |gu i=>
  obtain⟨t,rfl⟩:=g;cases y with
  |gu j=>obtain⟨e,rfl⟩:=d;exact PySem.W.ne_bytes<|cH I q<|U1 not zF
  |_=>exact absurd (f) Uq
 |_=>cases y<;>exact absurd (f) Uq
def Ly:b9 X (compareOp .Lt) (j9 λi j=>.bl<|ai<|i<j):=vO λ_ _ _ _ _ _ _ q=>lt_int q
def Lz:b9 X (compareOp .Gt) (j9 λi j=>.bl<|ai<|j<i):=vO λ_ _ _ _ _ _ _ q=>gt_int q
def LA:b9 X (compareOp .GtE) (j9 λi j=>.bl<|ai<|j<=i):=vO λ_ _ _ _ _ _ _ q=>ge_int q
def b9.or{r j:R2}(h:b9 X f r)(h':b9 X f j):b9 X f (λx y H Q=>r x y H Q\/j x y H Q):=by
 intro d s i H x y v u Q I e g q;rcases q with q|q
 ·exact h d s i H x y v u Q I e g q
 ·exact h' d s i H x y v u Q I e g q
def G5{r:R2}(i:b9 X (compareOp op) r)(e:PE X a ta)(n:PE X b tb)(o:behindInMarks op b=ag):PE X (.Compare a [op] [b] pos) (rH r ta tb):=by intro d s j H Q I h;exact wpAny_Compare1 (vM e n I h λv u g x y l k f m q=>i d g j l x y v u Q k f m q) o
noncomputable def LB(t:TE):TT:=λe H Q=>t e H λx d=>∃k,x=.bl k/\Q k d
def zG{r:R2}(q:b9 X (compareOp op) r)(i:PE X a ta)(D:PE X b tb)(E:behindInMarks op b=ag):PT X (.Compare a [op] [b] pos) (LB<|rH r ta tb):=by
 intro d s f H Q I h;refine wpAny_isTrue_Compare1 (aQ (i d s f H _ I h) λv t ⟨x,o,m,F,g⟩=>aQ (D d t f o _ m g) λu l ⟨y,B,w,C,G⟩=>aQ (q d l f B x y v u _ w F C G) λc J ⟨z,j,n,p,k,e,A⟩=>?_) E
 subst e;cases p;exact VF ⟨j,n,A⟩
def qG:(sizeLine)<2 ^ 63:=by rw[VG];decide
def vals1{d:List ah}(r:Vals [x] d):∃u,d=[u]/\RelV x u:=by
 cases r with
 |cons f e=>cases e;exact⟨_,rfl,f⟩
def D7:hV X (.type "int") (λxs H Q=>(∃i,xs=[.int i]/\Q (.int i) H)\/∃k,xs=[.bl k]/\Q (.int<|if k then 1 else 0) H):=by
 intro d s g H xs f Q I r h;rcases h with⟨i,rfl,q⟩|⟨k,rfl,q⟩
 ·obtain⟨u,rfl,t,rfl⟩:=vals1 r;exact call_int_int ⟨.int i,H,I,⟨_,rfl⟩,q⟩
 ·obtain⟨u,rfl,e⟩:=vals1 r;cases e;exact call_int_bool ⟨.int<|if k then 1 else 0,H,I.tok _,⟨_,rfl⟩,q⟩
end
structure lh(h:Heap)(x dx C:Addr)(mA:Str->Option ah):Prop where
 obj:h.get? x=aa (PySem.W.instObj C dx)
 ns:h.Ns1 dx mA
 ne:dx≠x
def D8{h:Heap}{f:Addr}{c:Str->Option ah}(n:h.Ns1 f c):∃g,h.get? f=aa g/\∀name,PySem.W.lookIn name g=aa (c name):=by
 obtain⟨o,d,r,j,i,l,_,m⟩:=n;refine⟨o,j,λname=>?_⟩;have e:=m name;unfold nsFind findBy at e;rw[<-Array.find?_toList] at e;unfold PySem.W.lookIn;rw[i];dsimp only;split
 ·rename_i y q
  rw[q] at e;exact U1 aa e
 ·rename_i q
  rw[q] at e;have a:d.toList.any (·.refKey)=ag:=by rw[List.any_eq_false];intro y k;obtain⟨z,t,b⟩:=l y<|Array.mem_toList_iff.mp k;simp[DictEntry.refKey,b]
  have p:¬d.toList.any (·.refKey)=af:=by rw[a];exact Uq
  rw[T6 p];exact U1 aa e
def lh.look{x c C:Addr}{b:Str->Option ah}(I:lh h x c C b):∃a,PySem.W.InstAt h x (PySem.W.instObj C c) C (aa a)/\∀name,PySem.W.lookIn name a=aa (b name):=
 let⟨a,e,d⟩:=D8 I.ns
 ⟨a,⟨I.obj,rfl,rfl,e⟩,d⟩
section
variable{prog:Program}{w:World}{A:Around}{E:ah->Shared->Prop}{s:Shared}{K:PySem.W.Frag}{x dx C f:Addr}{mA:Str->Option ah}{name:Str}{v:ah}
def get_map{Q:ah->Shared->Prop}(X:K.In s.heap)(I:lh s.heap x dx C mA)(e:PySem.W.plainGet K C name=af)(c:PySem.W.hasDictIn K C=af)(g:PySem.W.findIn K (.ref C) name=aa ae)(d:mA name=aa v)(a:PySem.W.handedIn v=af)(h:Q v {s with toks:=s.toks+1}):
 wpAny (model prog w) A (getAttr (.ref x) name expr) Q E s:=by
 obtain⟨i,J,b⟩:=I.look;exact PySem.W.get_value X J (WZ e).1 (PySem.W.findObj_own c g rfl<|by rw[b,d]) a h
def Fl{Q:ah×List ah->Shared->Prop}(X:K.In s.heap)(I:lh s.heap x dx C mA)(a:PySem.W.plainGet K C name=af)(hf:PySem.W.findIn K (.ref C) name=aa (aa<|.ref f))(c:PySem.W.isFn K (.ref f)=af)(d:mA name=ae)(h:Q (.ref f,[.ref x]) s):
 wpAny (model prog w) A (getMethod (.ref x) name pl) Q E s:=by
 obtain⟨e,J,b⟩:=I.look;exact PySem.W.method_fn X J (WZ a).1 (WZ a).2 hf (U'.mp c) (by show(PySem.W.lookIn name e).map (·.isSome)=aa ag;rw[b,d];rfl) h
def G6{Q:Unit->Shared->Prop}(X:K.In s.heap)(I:lh s.heap x dx C mA)(m:PySem.W.findIn K (.ref C) "__setattr__"=aa (aa<|.builtin "object.__setattr__"))(n:PySem.W.plainOver K C=af)(l:PySem.W.takerIn K C name=aa ae)(j:PySem.W.hasDictIn K C=af)(hw:PySem.Within mA ns)(hsz:ns.length<=sizeLine)(h:∀h',lh h' x dx C (λy=>if y=name then aa v else mA y)->Heap.SameBut dx s.heap h'->Q () {s with heap:=h',toks:=s.toks+2}):
 wpAny (model prog w) A (setAttr (.ref x) name v) Q E s:=by
 obtain⟨u,J,z⟩:=I.look;refine PySem.W.set_plain X J m<|PySem.W.osa_open X J n l λb=>?_
 obtain⟨t,o,g⟩:=PySem.W.any_some j;have p:=I.obj;refine T8<|Uk<|T8<|T8<|wpAny_loadPart p<|T8<|PySem.W.Looks.here (PySem.W.looks_clsIn X o) ?_;rw[g];refine Uk<|T8<|Uk<|T8 ?_;refine wpAny_nsSet1 I.ns λh' c a=>?_
 obtain⟨r,k,q,e,i,d⟩:=c.count<|PySem.Within.cons name v hw;refine T8<|wpAny_lookBehind e (by rw[i];exact pastItsLine_dict<|Uh d (by rw[UO];omega)) ?_;exact Uk<|h _ ⟨(a.2 _<|Uz I.ne).trans I.obj,c,I.ne⟩ a
def Fm{vs:List ah}{a:List (Str×ah)}(X:K.In s.heap)(e:PySem.W.makesIn K C=af)(c:PySem.W.findIn K (.ref C) "__init__"=aa (aa<|.ref f))(b:PySem.W.typeIn K (.ref f)=aa (.type "function"))(h:codeAny (model prog w) (A.under<|.builtin "type.__call__" ⟨.ref C::vs,a⟩) (.call (.ref f) ⟨.ref (s.heap.objs.size+1)::vs,a⟩) (PySem.W.InitBack (s.heap.objs.size+1) R) {s with heap:=(s.heap.push PySem.W.emptyDict).push (PySem.W.instObj C s.heap.objs.size)}):
 codeAny (model prog w) A (.call (.ref C) ⟨vs,a⟩) R s:=by
 obtain⟨i,g,d,t,j⟩:=s;exact PySem.W.make_core (PySem.W.makes_of X e) (PySem.W.looks_findIn X c) (λself=>PySem.W.bind_fn X self b) (.inl rfl) h
end
noncomputable def bK(f:Str)(v:V):List (Str×V)->List (Str×V)
 |[]=>[(f,v)]
 |(g,x)::r=>if g=f then(g,v)::r else(g,x)::bK f v r
theorem xA(f g)(v):∀fs:List (Str×V),(bK f v fs).lookup g=if g=f then aa v else fs.lookup g
 |[]=>by
  show List.lookup g [(f,v)]=_;by_cases h:g=f
  ·have a:=U'.mpr h;simp only[List.lookup,a,T5 h]
  ·have a:=Vm.mpr h;simp only[List.lookup,a,T6 h]
 |(k,x)::r=>by
  have c:=xA f g v r;rw[show bK f v ((k,x)::r)=(if k=f then(k,v)::r else(k,x)::bK f v r) from rfl];by_cases b:k=f
  ·rw[T5 b];by_cases h:g=k
   ·have a:=U'.mpr h;simp only[List.lookup,a,T5<|h.trans b]
   ·have a:=Vm.mpr h;simp only[List.lookup,a,T6 (λe:g=f=>h<|e.trans b.symm)]
  ·rw[T6 b];by_cases h:g=k
   ·have a:=U'.mpr h;simp only[List.lookup,a,T6 (λe:g=f=>b<|h.symm.trans e)]
   ·have a:=Vm.mpr h;simp only[List.lookup,a];exact c
theorem t_(f)(v):∀fs:List (Str×V),f∈(bK f v fs).map (·.1)/\∀g,g∈fs.map (·.1)->g∈(bK f v fs).map (·.1)
 |[]=>⟨by simp[bK],λg h=>by simp at h⟩
 |(k,x)::r=>by
  obtain⟨c,b⟩:=t_ f v r;rw[show bK f v ((k,x)::r)=(if k=f then(k,v)::r else(k,x)::bK f v r) from rfl];by_cases a:k=f
  ·rw[T5 a];subst a;exact⟨by simp,λg h=>by simpa using h⟩
  ·rw[T6 a];refine⟨?_,λg h=>?_⟩
   ·rw[Ux];exact Ut _ c
   ·rw[Ux] at h⊢;rcases T7.mp h with e|e
    ·exact T7.mpr<|.inl e
    ·exact Ut _<|b g e
theorem xB(f)(v):∀fs:List (Str×V),(bK f v fs).length<=fs.length+1
 |[]=>by simp[bK]
 |(k,x)::r=>by
  have b:=xB f v r;rw[show bK f v ((k,x)::r)=(if k=f then(k,v)::r else(k,x)::bK f v r) from rfl];by_cases a:k=f
  ·rw[T5 a,UO,UO];omega
  ·rw[T6 a,UO,UO];omega
def d0.some_of{o:Option ah}(r:d0 (aa v) o):∃u,o=aa u/\RelV v u:=by
 cases o with
 |none=>exact(r).elim
 |some u=>exact⟨u,rfl,r⟩
def d0.none_of(r:d0 ae o):o=ae:=by
 cases o with
 |none=>rfl
 |some u=>exact(r).elim
def D9{u:ah}(r:RelV v u):PySem.W.handedIn u=af:=by
 cases v with
 |aA=>cases(r);rfl
 |bl b=>cases(r);rfl
 |int i=>obtain⟨t,e⟩:=(r);cases e;rfl
 |str x=>obtain⟨t,e⟩:=(r);cases e;rfl
 |gu b=>obtain⟨t,e⟩:=(r);cases e;rfl
 |iW b=>obtain⟨t,e⟩:=(r);cases e;rfl
 |ref a=>cases(r);rfl
 |ty n=>cases(r);rfl
section
variable{P:Program}{w:World}{H H':Hp}{h h':Heap}{a C dx:Addr}{fs ND:List (Str×V)}
def uS(c:cp P w H h)(e:H a=aa (.ins C dx fs)):∃b,lh h a dx C b/\(∀f,d0 (fs.lookup f)<|b f)/\PySem.Within b (fs.map (·.1))/\fs.length<=1000/\H dx=aa (.own a):=by obtain⟨d,z,g,i,b,n,r,q⟩:=(c a _ e);exact⟨b,⟨i,n,g⟩,r,q,z,d⟩
end
structure eJ(K:PySem.W.Frag)(C:Addr):Prop where
 pg:PySem.W.plainGet K C Str.empty=af
 hd:PySem.W.hasDictIn K C=af
 po:PySem.W.plainOver K C=af
 sa:PySem.W.findIn K (.ref C) "__setattr__"=aa (aa<|.builtin "object.__setattr__")
def eJ.get{K:PySem.W.Frag}{C:Addr}(c:eJ K C)(f):PySem.W.plainGet K C f=af:=c.pg
noncomputable def fq(K:PySem.W.Frag)(C:Addr)(f:Str):Prop:=PySem.W.findIn K (.ref C) f=aa ae
def fq.LC{K:PySem.W.Frag}{C:Addr}{f:Str}(n:fq K C f):PySem.W.takerIn K C f=aa ae:=by unfold PySem.W.takerIn;rw[n];rfl
structure Meth(K:PySem.W.Frag)(C:Addr)(m:Str)(f:Addr):Prop where
 at_:PySem.W.findIn K (.ref C) m=aa (aa<|.ref f)
 fn:PySem.W.isFn K (.ref f)=af
 kp:PySem.W.keepIn K (.ref f)=af
section
variable{X:Cx}{pins:List (Addr×Obj)}{σ:St}{H:Hp}{s:Shared}{a C dx:Addr}{fs:List (Str×V)}{f:Str}{v:V}{A:Around}{E:ah->Shared->Prop}
def Dz{Q:ah->Shared->Prop}(I:Inv X pins σ H s)(e:H a=aa (.ins C dx fs))(c:eJ X.K C)(n:fq X.K C f)(l:fs.lookup f=aa v)(h:∀u g,Inv X pins σ H g->RelV v u->Q u g):wpAny (model X.prog X.w) A (getAttr (.ref a) f b) Q E s:=by obtain⟨j,O,r,_,_,_⟩:=uS I.aL e;obtain⟨u,i,d⟩:=d0.some_of (by rw[<-l];exact r f);exact get_map I.eI O (c.get f) c.hd n i (D9 d)<|h u _ (I.tok _) d
def xH{g:Addr}{b:Sem Bool}{Q:ah×List ah->Shared->Prop}(I:Inv X pins σ H s)(e:H a=aa (.ins C dx fs))(c:eJ X.K C)(k:Meth X.K C m g)(l:fs.lookup m=ae)(h:Q (.ref g,[.ref a]) s):wpAny (model X.prog X.w) A (getMethod (.ref a) m b) Q E s:=by obtain⟨i,O,r,_,_,_⟩:=uS I.aL e;have d:=d0.none_of (by rw[<-l];exact r m);exact Fl I.eI O (c.get m) k.at_ k.fn d h
def DA{u:ah}{Q:Unit->Shared->Prop}(I:Inv X pins σ H s)(e:H a=aa (.ins C dx fs))(c:eJ X.K C)(n:fq X.K C f)(G:fs.length<1000)(D:RelV y u)(h:∀j,Inv X pins σ (upd H a<|.ins C dx<|bK f y fs) j->Q () j):wpAny (model X.prog X.w) A (setAttr (.ref a) f u) Q E s:=by
 obtain⟨i,O,r,l,_,k⟩:=uS I.aL e;have p:(fs.map (·.1)).length<=sizeLine:=by rw[Ua,VG];omega
 refine G6 I.eI O c.sa c.po n.LC c.hd l p λt d sb=>h _ ?_
 have m:∃o,t.get? dx=aa o:=let⟨o,_,_,B,_⟩:=d.ns;⟨o,B⟩
 refine I.write (by rw[e];exact True.intro) (.inr k) (λb q F z=>(sb.2 b F).trans z) m ?_;refine⟨by rw[aS O.ne];exact k,?_,O.ne,d.obj,_,d.ns,λg=>?_,λg x=>?_⟩
 ·have:=xB f y fs;omega
 ·show d0 ((bK f y fs).lookup g) (if g=f then aa u else i g);rw[xA];by_cases q:g=f
  ·rw[T5 q,T5 q];exact D
  ·rw[T6 q,T6 q];exact r g
 ·by_cases q:g=f
  ·rw[q];exact(t_ f y fs).1
  ·refine(t_ f y fs).2 g (l g λz=>x ?_);show(if g=f then aa u else i g)=ae;rw[T6 q];exact z
def Inv.made(I:Inv X pins σ H s):Inv X pins σ (upd (upd H s.heap.objs.size<|.own<|s.heap.objs.size+1) (s.heap.objs.size+1)<|.ins C s.heap.objs.size []) {s with heap:=(s.heap.push PySem.W.emptyDict).push (PySem.W.instObj C s.heap.objs.size)}:=by
 have c:(s.heap.push PySem.W.emptyDict).get? s.heap.objs.size=aa PySem.W.emptyDict:=UU s.heap rfl;have i:=by
  have:=UU (s.heap.push PySem.W.emptyDict) (o:=PySem.W.instObj C s.heap.objs.size) rfl
  rwa [Wv] at this
 have h:(s.heap.push PySem.W.emptyDict).Ns s.heap.objs.size (λ_=>ae):=⟨PySem.W.emptyDict,#[],_,c,rfl,(λe g=>absurd g<|by simp),λ_=>rfl⟩;have k:=I.laid (o:=.own<|s.heap.objs.size+1) (t':=s.toks) (λb u q=>Uw _ q) (Uc _) ⟨_,c⟩;refine k.laid (λb u q=>Uw _ q) (V0<|Wv _ _) ?_;have d:s.heap.objs.size≠s.heap.objs.size+1:=UI<|W2 _;refine⟨by rw[aS d,cG],UX _,d,i,λ_=>ae,(Heap.Ns1.of_empty h).at λo q=>Uw _ q,λ_=>True.intro,λy j=>absurd rfl j⟩
def G7{w:World}{env:Env}{e:Expr}{f:Str}{pos:Pos}{s:Shared}{Q:ah->Shared->Prop}(c:attributeBase e f env (eval e env)=eval e env)(h:wpAny (model prog w) A (eval e env) (λo b=>wpAny (model prog w) A (getAttr o f af) Q E b) E s):wpAny (model prog w) A (eval (.Attribute e f pos) env) Q E s:=
 Attribute_any_ h (by rw[arm_eval_Attribute,c])
end
noncomputable def MC(K:PySem.W.Frag)(d:TE)(f:Str):TE:=λg H Q=>d g H λx b=>∃a C e c v,x=.ref a/\b a=aa (.ins C e c)/\eJ K C/\fq K C f/\c.lookup f=aa v/\Q v b
noncomputable def iR(K:PySem.W.Frag)(h i:TE)(f:Str):TS:=λD b H=>i b H λy g=>h b g λx e=>∃a C d c,x=.ref a/\e a=aa (.ins C d c)/\eJ K C/\fq K C f/\c.length<1000/\
 D.nx b (upd e a<|.ins C d<|bK f y c)
section
variable{X:Cx}{o e value:Expr}{f:Str}{pos pos' tpos:Pos}{ta tv:TE}
def vd(he:PE X e ta)(r:attributeBase e f X.env (eval e X.env)=eval e X.env):PE X (.Attribute e f pos) (MC X.K ta f):=by
 intro b s k H Q I h;refine G7 r<|aQ (he b s k H _ I h) λu A ⟨x,j,i,d,a,C,w,z,v,ex,g,c,n,l,q⟩=>?_
 subst ex;obtain rfl:u=Value.ref a:=d;exact Dz i g c n l λt y p m=>⟨v,j,p,m,q⟩
def Jw(g:PE X o ta)(z:PE X value tv)(k:swapsWith value (aa<|.Attribute o f pos') pos.line X.env=pure ag):PS X (.Assign [.Attribute o f pos'] value pos) (iR X.K ta tv f):=by intro b s d H D I h;refine plainObj_wpAny_Assign_Attribute (aQ (z b s d H _ I h) λu v ⟨y,t,p,A,q⟩=>aQ (g b v d t _ p q) λi G ⟨x,L,w,j,a,C,E,J,ex,m,c,n,l,B⟩=>?_) k;subst ex;obtain rfl:i=Value.ref a:=j;exact DA w m c n l A λF r=>⟨d,_,r,B⟩
def Rz{m:Str}{b:Pos}{args:List Expr}{pins:List (Addr×Obj)}{s:Shared}{σ:St}{H:Hp}{Q:ah->Shared->Prop}{p:TE}(y:PE X e p)(I:Inv X pins σ H s)(h:p σ H λx i=>∃a C j fs g,x=.ref a/\i a=aa (.ins C j fs)/\eJ X.K C/\Meth X.K C m g/\fs.lookup m=ae/\
  ∀d,Inv X pins σ i d->wpAny (model X.prog X.w) X.A (callWith pos (.ref g) [.ref a] (backTo pos (starEach args X.env)) (backToKw pos (keywordEach [] X.env))) Q X.xe d)
 (v:eval (.Call (.Attribute e m b) args [] pos) X.env=(do
  let r<-eval e X.env
  standAt b.atName
  let(f,first)<-holding [r] (getMethod r m pl)
  callWith pos f first (backTo pos (starEach args X.env)) (backToKw pos (keywordEach [] X.env)))):
 wpAny (model X.prog X.w) X.A (eval (.Call (.Attribute e m b) args [] pos) X.env) Q X.xe s:=by
 refine XH (aQ (y pins s σ H _ I h) λu d ⟨x,i,n,t,a,C,j,fs,g,ex,z,c,k,l,q⟩=>?_) v;subst ex;obtain rfl:u=Value.ref a:=t;exact xH n z c k l<|q d n
end
section
variable{X:Cx}{pins:List (Addr×Obj)}{σ:St}{H:Hp}{s:Shared}{A:Around}{E:ah->Shared->Prop}{Q:ah->Shared->Prop}{c:ah}{b:Bool}
inductive dU(K:PySem.W.Frag)(H:Hp):V->ah->Prop where
 |aA:dU K H .aA (.type "NoneType")
 |bl (x:Bool):dU K H (.bl x) (.type "bool")
 |int (i:Int):dU K H (.int i) (.type "int")
 |str (x:Str):dU K H (.str x) (.type "str")
 |iW (x:UInt64):dU K H (.iW x) (.type "float")
 |lst {a:Addr} {xs:List V} (e:H a=aa (.lst xs)):dU K H (.ref a) (.type "list")
 |a6 {a:Addr} {o:Obj} {xs:List V} (e:H a=aa (.a6 o<|.lst xs)):dU K H (.ref a) (.type "list")
 |tup {a:Addr} {xs:List V} (e:H a=aa (.tup xs)):dU K H (.ref a) (.type "tuple")
 |dK {a:Addr} {kvs:List (Key×V)} (e:H a=aa (.dK kvs)):dU K H (.ref a) (.type "dict")
 |dT {a:Addr} {kvs:List (List Key×V)} (e:H a=aa (.dT kvs)):dU K H (.ref a) (.type "dict")
 |ins {a C dx:Addr} {fs:List (Str×V)} (e:H a=aa (.ins C dx fs)) (cl:eJ K C) (ha:PySem.W.findIn K (.ref C) "__class__"=aa (aa<|.builtin "object.__class__")) (hn:PySem.W.specialIn K (.builtin "object.__class__") "__get__"=aa (aa<|.builtin "getset_descriptor.__get__")) (R':PySem.W.takesIn K (.builtin "object.__class__")=aa af) (hm:PySem.W.mroIn K C (.type "object")=aa af):dU K H (.ref a) (.ref C)
end
structure bY(k:Nat)(A:Around):Prop where
 hd:A.handled=ae
 dp:A.depth+3*k+5<recursionLimit
 un:A.units+16*k+200<cLine
def bY.deeper{A:Around}(r:bY (k+1) A)(env):bY k (A.deeper env):=
 ⟨r.hd,by have:=r.dp;show A.depth+1+3*k+5<_;omega,by have:=r.un;show A.units+3+16*k+200<_;omega⟩
def DB{A:Around}{C:Addr}{b:List ah}{a:List (Str×ah)}:(A.under<|.builtin "type.__call__" ⟨.ref C::b,a⟩).depth=A.depth+1:=by first|rfl|simp[Around.under]
def DC{A:Around}{C:Addr}{b:List ah}{a:List (Str×ah)}:(A.under<|.builtin "type.__call__" ⟨.ref C::b,a⟩).units=A.units+1:=by first|rfl|simp[Around.under]
def bY.make{A:Around}(r:bY (k+1) A)(C)(us)(kw):bY k (A.under<|.builtin "type.__call__" ⟨.ref C::us,kw⟩):=
 ⟨r.hd,by have:=r.dp;rw[DB];omega,by have:=r.un;rw[DC];omega⟩
def bY.depth{A:Around}(r:bY k A):A.depth<recursionLimit:=by have:=r.dp;omega
def bY.units{A:Around}(r:bY k A):A.units+64<cLine:=by have:=r.un;omega
def bY.ve{A:Around}(r:bY k A):A.units<cLine:=by have:=r.un;omega
noncomputable def MD:TA:=λ_ H Q=>Q [] H
noncomputable def LD(c:TE)(f:TA):TA:=λa H Q=>c a H λx b=>f a b λe d=>Q (x::e) d
section
variable{X:Cx}{e:Expr}{es:List Expr}{te:TE}{t:TA}{pos:Pos}
def iG:PA X [] MD:=λ_ _ _ _ H Q I h=>Ww ⟨[],H,I,.nil,h⟩
def f9(f:PE X e te)(c:PA X es t)(g:starEach (e::es) X.env=(ag,eval e X.env)::starEach es X.env:=by rfl):PA X (e::es) (LD te t):=by
 intro pos a s b H Q I h;rw[g];refine V1<|aQ (f a s b H _ I h) λu l ⟨x,k,j,p,d⟩=>?_
 exact aQ (c pos a l b k _ j d) λv r ⟨i,n,m,o,q⟩=>⟨x::i,n,m,.cons p o,q⟩
noncomputable def ME(t:TA):TE:=λc H Q=>t c H λb a=>b.length<=sizeLine/\∀p,a p=ae->Q (.ref p) (upd a p<|.tup b)
noncomputable def MF(t:TA):TE:=λc H Q=>t c H λb a=>b.length<=sizeLine/\∀p,a p=ae->Q (.ref p) (upd a p<|.lst b)
def AA{x1}(h:PA X es t):PE X (.Tuple es x1 pos) (ME t):=by
 intro a s l H Q I f;refine wpAny_Tuple_spliced<|aQ (h pos a s l H _ I f) λj d ⟨k,i,c,r,z,q⟩=>⟨by rw[<-r.length];exact z,?_⟩
 have g:=c.aL.fresh<|Uc _;refine⟨.ref d.heap.objs.size,upd i d.heap.objs.size<|.tup k,c.laid (λb u e=>Uw _ e) (Uc _) ?_,rfl,q _ g⟩;exact⟨z,j,r,⟨_,UU _ rfl,rfl,_,rfl⟩⟩
def Jx(h:PA X es t):PE X (.List es pos) (MF t):=by
 intro a s l H Q I f;refine wpAny_List_spliced<|aQ (h pos a s l H _ I f) λj d ⟨k,i,c,r,z,q⟩=>⟨by rw[<-r.length];exact z,?_⟩
 have g:=c.aL.fresh<|Uc _;refine⟨.ref d.heap.objs.size,upd i d.heap.objs.size<|.lst k,c.laid (λb u e=>Uw _ e) (Uc _) ?_,rfl,q _ g⟩;exact⟨z,j,0,r,UU _ rfl⟩
end
noncomputable abbrev Sp:=List V->Hp->VK->XK->Prop
noncomputable abbrev ir:=List Env->Hp->Shared->XK->ah->Shared->Prop
structure lj(P:Program)(w:World)(K:PySem.W.Frag)(mg:Str->Option ah)(base:Heap)(A:Around)(outer:List Env)(s:Shared)(H:Hp):Prop where
 frames:A.frames=aa outer
 mod:Mod K mg base
 bs:∀b o,base.get? b=aa o->s.heap.get? b=aa o/\H b=ae
 jt:base.objs.size<=s.heap.objs.size
 gM:s.heap.FunFrames base outer
 lx:∀b∈fT outer,H b=ae
 aL:cp P w H s.heap
 bare:AllBare s.gens
noncomputable def CE(outer:List Env)(P:Program)(w:World)(H:Hp)(s:Shared)(Q:VK)(u:ah)(a:Shared):Prop:=
 ∃v b,a.os=s.os/\AllBare a.gens/\Un (fT outer) [] H b s.heap a.heap/\cp P w b a.heap/\RelV v u/\Q v b
noncomputable def CR(b:ir)(outer:List Env)(P:Program)(w:World)(H:Hp)(s:Shared)(Q:VK)(E:XK)(r:Result)(a:Shared):Prop:=
 match r with
 |.ok (.ret u)=>CE outer P w H s Q u a
 |.ok _=>False
 |.error e=>b outer H s E e a
structure eG(P:Program)(w:World)(K:PySem.W.Frag)(mg:Str->Option ah)(base:Heap)(CX:ir)(k:Nat)(f:Addr)(fd:FuncData)(ps:List Str)(sp:Sp):Prop where
 len:∀vs H Q E,sp vs H Q E->vs.length=ps.length
 run:∀(A:Around) (outer:List Env) (s:Shared) (H:Hp) (args:Args) (us:List ah) (vs:List V) (Q:VK) (E:XK),bY k A->lj P w K mg base A outer s H->BindsTo s fd args (ps.zip us)->Vals vs us->sp vs H Q E->
  codeAny (model P w) A (.call (.ref f) args) (CR CX outer P w H s Q E) s
def eG.imp{w:World}{K:PySem.W.Frag}{e:Str->Option ah}{base:Heap}{g:ir}{k:Nat}{f:Addr}{d:FuncData}{c:List Str}{sp b:Sp}(F:eG P w K e base g k f d c sp)(h:∀vs H Q E,b vs H Q E->sp vs H Q E):eG P w K e base g k f d c b:=
 ⟨λvs H Q E q=>F.len vs H Q E<|h _ _ _ _ q,λA a s H args o vs Q E i j n m l=>F.run A a s H args o vs Q E i j n m<|h _ _ _ _ l⟩
def lj.make{P:Program}{w:World}{K:PySem.W.Frag}{a:Str->Option ah}{base:Heap}{A:Around}{outer:List Env}{s:Shared}{H:Hp}(e:lj P w K a base A outer s H)(C)(us)(kw):
 lj P w K a base (A.under<|.builtin "type.__call__" ⟨.ref C::us,kw⟩) outer s H:=⟨by first|exact e.frames|(simpa[Around.under,Code.envs,Code.isFrame,pushEnvs] using e.frames),e.mod,e.bs,e.jt,e.gM,e.lx,e.aL,e.bare⟩
section
variable{X:Cx}{pins:List (Addr×Obj)}{σ:St}{H:Hp}{s s':Shared}
def Inv.Bv(I:Inv X pins σ H s):lj X.prog X.w X.K X.mg X.base X.A X.stack s H:=
 ⟨I.ok.frames,I.ok.mod,I.bs,Uh I.ok.jt I.sz,I.stack,I.uQ,I.aL,I.bare⟩
def Inv.after{u:ah}(I:Inv X pins σ H s)(h:CE X.stack X.prog X.w H s Q u s'):EP X pins σ Q u s':=by obtain⟨v,i,f,a,j,c,r,q⟩:=h;obtain⟨k,g,d,t,e⟩:=s';obtain rfl:e=s.os:=f;exact⟨v,i,I.call j c a<|λb z=>absurd z<|by simp,r,q⟩
end
noncomputable def LF(sp:Sp)(a:List V)(E:XK)(t:TA):TE:=λd H Q=>t d H λc b=>sp (c++a) b Q E
noncomputable def LG(C:Addr)(m:Str)(sp:Sp)(b:List V)(E:XK)(i:TE)(t:TA):TE:=λe H Q=>i e H λx c=>∃a f d,x=.ref a/\c a=aa (.ins C f d)/\d.lookup m=ae/\
 t e c λh g=>sp (x::(h++b)) g Q E
noncomputable def LH(C:Addr)(sp:Sp)(c:List V)(E:XK)(t:TA):TE:=λf H Q=>t f H λe b=>∀x a,b x=ae->b a=ae->a≠x->
 sp (.ref x::(e++c)) (upd (upd b a<|.own x) x<|.ins C a []) (λv d=>v=.aA/\Q (.ref x) d) E
noncomputable def Binds(K:PySem.W.Frag)(d:FuncData)(b:List Str)(c:List ah):Prop:=
 ∀(s) (a),K.In s.heap->(a++c).length=b.length->BindsTo s d ⟨a,[]⟩ (b.zip<|a++c)
def Binds.all{K:PySem.W.Frag}{d:FuncData}{b:List Str}(h:∀a:List ah,a.length=b.length->bindArgs d ⟨a,[]⟩=pure (b.zip a)):Binds K d b []:=λs a _ c=>by rw[UY] at c⊢;exact .of_eq<|h a c
noncomputable def Passes(c:ir)(X:Cx)(E:XK):Prop:=∀(a) (d) (H) (s) (e) (b),Inv X a d H s->c X.stack H s E e b->X.xe e b
section
variable{X:Cx}{CX:ir}{k:Nat}{f C:Addr}{fd:FuncData}{ps:List Str}{sp:Sp}{gQ:List V}{ds:List ah}{E:XK}{x m:Str}{p pos apos:Pos}{e o:Expr}{es:List Expr}{ta:TE}{t:TA}
def vi{σ:St}{H:Hp}{s:Shared}{Q:VK}{a:List ah}{vs:List V}(F:eG X.prog X.w X.K X.mg X.base CX k f fd ps sp)(g:bY k X.A)(l:Binds X.K fd ps ds)(i:Vals gQ ds)(j:Passes CX X E)(I:Inv X pins σ H s)(r:Vals vs a)(h:sp (vs++gQ) H Q E):wpAny (model X.prog X.w) X.A (call (.ref f) a) (EP X pins σ Q) X.xe s:=by
 have c:=r.append i;have d:(a++ds).length=ps.length:=by rw[<-c.length];exact F.len _ _ _ _ h
 refine wpAny_call<|Wx (F.run X.A X.stack s H ⟨a,[]⟩ (a++ds) (vs++gQ) Q E g I.Bv (l s a I.eI d) c h) λr n b=>?_
 cases r with
 |error e=>exact j pins σ H s e n I b
 |ok q=>
  cases q with
  |ret u=>exact I.after b
  |next=>exact False.elim b
  |brk=>exact False.elim b
  |cont=>exact False.elim b
def G8(F:eG X.prog X.w X.K X.mg X.base CX k f fd ps sp)(g:bY k X.A)(u:Gl X x)(B:X.mg x=aa (.ref f))(y:PySem.W.keepIn X.K (.ref f)=af)(z:Binds X.K fd ps ds)(i:Vals gQ ds)(n:Passes CX X E)(j:PA X (e::es) t)(b:(x==("__debug__":Str))=ag:=by decide)(l:starEach (e::es) X.env=(ag,eval e X.env)::starEach es X.env:=by rfl)(c:(backTo pos<|starEach es X.env).any (·.1)=ag:=by rfl):
 PE X (.Call (.Name x p) (e::es) [] pos) (LF sp gQ E t):=by
 intro a s v H Q I h;refine V2<|uR I u B ?_ b;refine Wy I.ok.mod.mV y (aQ (j pos a s v H _ I h) λD L ⟨J,G,d,r,q⟩=>⟨d.eI,?_⟩) l c;exact vi F g z i n d r q
def G9{R:Sem Bool}(M:PE X o ta)(c:eJ X.K C)(z:Meth X.K C m f)(F:eG X.prog X.w X.K X.mg X.base CX k f fd ps sp)(B:bY k X.A)(T:Binds X.K fd ps ds)(D:Vals gQ ds)(O:Passes CX X E)(G:PA X (e::es) t)(d:starEach (e::es) X.env=(ag,eval e X.env)::starEach es X.env:=by rfl)(g:(backTo pos<|starEach es X.env).any (·.1)=ag:=by rfl)(L:eval (.Call (.Attribute o m apos) (e::es) [] pos) X.env=(do
  let i<-eval o X.env
  standAt apos.atName
  let(f,first)<-holding [i] (getMethod i m R)
  callWith pos f first (backTo pos (starEach (e::es) X.env)) (backToKw pos (keywordEach [] X.env))):=by rfl):
 PE X (.Call (.Attribute o m apos) (e::es) [] pos) (LG C m sp gQ E ta t):=by
 intro b s v H Q I h;refine XH (aQ (M b s v H _ I h) λu S ⟨x,P,j,J,a,Y,fs,ex,N,l,q⟩=>?_) L;subst ex;obtain rfl:u=Value.ref a:=J;refine xH j N c z l ?_;refine Wy I.ok.mod.mV z.kp (aQ (G pos b S v P _ j q) λus Z ⟨n,H2,y,r,U⟩=>⟨y.eI,?_⟩) d g;exact vi (vs:=.ref a::n) F B T D O y (.cons rfl r) U
structure Mk(K:PySem.W.Frag)(C f:Addr):Prop where
 makes:PySem.W.makesIn K C=af
 init:PySem.W.findIn K (.ref C) "__init__"=aa (aa<|.ref f)
 fn:PySem.W.isFn K (.ref f)=af
 kp:PySem.W.keepIn K (.ref C)=af
def Fn{σ:St}{H:Hp}{s:Shared}{Q:VK}{b:List ah}{vs:List V}(M:Mk X.K C f)(F:eG X.prog X.w X.K X.mg X.base CX k f fd ps sp)(j:bY (k+1) X.A)(N:Binds X.K fd ps ds)(l:Vals gQ ds)(D:Passes CX X E)(I:Inv X pins σ H s)(r:Vals vs b)(h:∀x c,H x=ae->H c=ae->c≠x->sp (.ref x::(vs++gQ)) (upd (upd H c<|.own x) x<|.ins C c []) (λv L=>v=.aA/\Q (.ref x) L) E):
 wpAny (model X.prog X.w) X.A (call (.ref C) b) (EP X pins σ Q) X.xe s:=by
 have g:=h (s.heap.objs.size+1) s.heap.objs.size (I.aL.fresh<|Nat.le_succ _) (I.aL.fresh<|Uc _)<|UI<|W2 _;have d:=Inv.made (C:=C) I;have i:Vals (V.ref (s.heap.objs.size+1)::(vs++gQ)) (Value.ref (s.heap.objs.size+1)::(b++ds)):=.cons rfl<|r.append l;have z:=by have e:=i.length;rw[F.len _ _ _ _ g] at e;exact e.symm
 refine wpAny_call (Fm I.eI M.makes M.init (U'.mp M.fn) (Wx (F.run _ X.stack _ _ ⟨Value.ref (s.heap.objs.size+1)::b,[]⟩ (Value.ref (s.heap.objs.size+1)::(b++ds)) _ _ E (j.make C b []) (d.Bv.make C b []) (N _ (Value.ref (s.heap.objs.size+1)::b) d.eI z) i g) λr n a=>?_))
 cases r with
 |error e=>exact D pins σ _ _ e n d a
 |ok y=>
  cases y with
  |ret u=>obtain⟨v,q,B,G,O,J⟩:=d.after a;subst O;exact⟨G,⟨V.ref<|s.heap.objs.size+1,q,B,rfl,J⟩⟩
  |next=>exact False.elim a
  |brk=>exact False.elim a
  |cont=>exact False.elim a
def G_(M:Mk X.K C f)(F:eG X.prog X.w X.K X.mg X.base CX k f fd ps sp)(g:bY (k+1) X.A)(u:Gl X x)(z:X.mg x=aa (.ref C))(y:Binds X.K fd ps ds)(i:Vals gQ ds)(n:Passes CX X E)(j:PA X (e::es) t)(b:(x==("__debug__":Str))=ag:=by decide)(l:starEach (e::es) X.env=(ag,eval e X.env)::starEach es X.env:=by rfl)(c:(backTo pos<|starEach es X.env).any (·.1)=ag:=by rfl):
 PE X (.Call (.Name x p) (e::es) [] pos) (LH C sp gQ E t):=by
 intro a s v H Q I h;refine V2<|uR I u z ?_ b;refine Wy I.ok.mod.mV M.kp (aQ (j pos a s v H _ I h) λB J ⟨G,D,d,r,q⟩=>⟨d.eI,?_⟩) l c;exact Fn M F g y i n d r q
end
section
variable{X:Cx}{CX:ir}{k:Nat}{f C:Addr}{fd:FuncData}{ps ks:List Str}{sp:Sp}{E:XK}{x m:Str}{p pos apos RT:Pos}{e o:Expr}{es:List Expr}{Sa:List Keyword}{te ta:TE}{t tk:TA}{nm:Option Str}
variable{g:List ah->List ah->List ah}{gV:List V->List V->List V}
end
structure ja(N P:List Str)(sc:Scope):Prop where
 kind:sc.kind=.function
 co:sc.isCoroutine=ag
 gen:sc.isGenerator=ag
 nd:N.Nodup
 pre:N.take P.length=P
 par:∀x∈P,sc.names.lookup x=aa .local\/sc.names.lookup x=aa .cell
 Jy:∀y∈sc.names,y.2≠.free
theorem x4{b:Str->Option NameKind}{x:Str}:∀{a:List (Str×ah)} {m:Str->Option ah},(∀v,(x,v)∉a)->bindL b a m x=m x
 |[],_,_=>rfl
 |(n,v)::r,m,h=>by
  unfold bindL;rw[x4 λw c=>h w (Ut _ c)];split
  ·have:x≠n:=by rintro rfl;exact h v UE
   simp[this]
  ·rfl
theorem x5{b:Str->Option NameKind}{x:Str}:∀{a:List (Str×ah)} {m:Str->Option ah},(∀v,(x,v)∉a)->bindC b a m x=m x
 |[],_,_=>rfl
 |(n,v)::r,m,h=>by
  unfold bindC;rw[x5 λw c=>h w (Ut _ c)];split
  ·rfl
  ·have:x≠n:=by rintro rfl;exact h v UE
   simp[this]
theorem x6{a:Str->Option NameKind}{x:Str}{v:ah}:∀{P:List Str} {vs:List ah} {i:Nat} {m:Str->Option ah},P.Nodup->P[i]? =aa x->vs[i]? =aa v->a x=aa .local->
 bindL a (P.zip vs) m x=aa v
 |[],_,_,_,_,h,_,_=>by simp at h
 |_::_,[],_,_,_,_,h,_=>by simp at h
 |p::P,w::vs,0,m,e,b,c,d=>by simp at b c;subst b;subst c;show bindL a ((p,w)::P.zip vs) m p=_;unfold bindL;rw[x4 λv f=>(UQ.mp e).1 (W3 f).1,T5 d];simp
 |p::P,w::vs,i+1,m,e,b,c,d=>by unfold bindL;exact x6 (UQ.mp e).2 (by simpa using b) (by simpa using c) d
theorem x8{a:Str->Option NameKind}{x:Str}{v:ah}:∀{P:List Str} {vs:List ah} {i:Nat} {m:Str->Option ah},P.Nodup->P[i]? =aa x->vs[i]? =aa v->a x≠aa .local->
 bindC a (P.zip vs) m x=aa v
 |[],_,_,_,_,h,_,_=>by simp at h
 |_::_,[],_,_,_,_,h,_=>by simp at h
 |p::P,w::vs,0,m,e,b,c,d=>by simp at b c;subst b;subst c;show bindC a ((p,w)::P.zip vs) m p=_;unfold bindC;rw[x5 λv f=>(UQ.mp e).1 (W3 f).1,T6 d];simp
 |p::P,w::vs,i+1,m,e,b,c,d=>by unfold bindC;exact x8 (UQ.mp e).2 (by simpa using b) (by simpa using c) d
noncomputable def start(N:List Str)(vs:List V):St:=vs.map aa++List.replicate (N.length-vs.length) ae
noncomputable def iS(g:ir)(P:Program)(w:World)(K:PySem.W.Frag)(d:Str->Option ah)(base:Heap)(N:List Str)(a:Str)(scope:Scope)(f:Addr)(c:ah)(A:Around)(outer:List Env)(s:Shared)(H:Hp)(E:XK):Cx where
 prog:=P
 w:=w
 K:=K
 mg:=d
 base:=base
 A:=A.deeper<|envOfC a scope s.heap.objs.size f c
 N:=N
 dn:=s
 k_:=H
 env:=envOfC a scope s.heap.objs.size f c
 outer:=outer
 stack:=envOfC a scope s.heap.objs.size f c::outer
 ex:=[]
 calm:=af
 fn:=λ_=>af
 pn:=[]
 xe:=λe i=>wpAny (model P w) (A.deeper<|envOfC a scope s.heap.objs.size f c) (leaving (envOfC a scope s.heap.objs.size f c) e) (λ_ b=>g outer H s E e b) (λh b=>g outer H s E h b) i
def yO{a:Scope}{n:Nat}{x:Str}(h:a.names.lookup x=aa .cell):∃c,(cellsFrom n a.names []).lookup x=aa c:=by have q:=XI a.names n []<|.inl h;exact W4.mp q
def D_{J:ir}{P:Program}{w:World}{K:PySem.W.Frag}{F:Str->Option ah}{base:Heap}{N n:List Str}{d:Str}{scope:Scope}{f:Addr}{C:ah}{A:Around}{outer:List Env}{s L:Shared}{H:Hp}{E:XK}{G:List ah}{vs:List V}(S:ja N n scope)(O:A.handled=ae)(j:lj P w K F base A outer s H)(X:vs.length=n.length)(r:Vals vs G)(x:InCallC s s.heap.objs.size (bindL (envOfC d scope s.heap.objs.size f C).kindOf (n.zip G) λ_=>ae) (cellsFrom (s.heap.objs.size+1) scope.names []) (bindC (envOfC d scope s.heap.objs.size f C).kindOf (n.zip G) λ_=>ae) L):
 Inv (iS J P w K F base N d scope f C A outer s H E) [] (start N vs) H L:=by
 have T:=by have:=U1 List.length S.pre;rw[VH] at this;omega
 obtain⟨B,U,rfl,M⟩:=x.done;have l:∀b:Addr,b∉(iS J P w K F base N d scope f C A outer s H E).ex:=λb z=>absurd (show b∈([]:List Addr) from z)<|by simp
 refine⟨⟨j.mod,S.kind,rfl,rfl,Uc _,λy z c B g=>?_,λy m=>?_,λy c _ h=>?_,λ_=>O,Around.frames_deeper j.frames,.inr ⟨rfl,rfl⟩,λb z=>absurd z<|l b,j.bs,j.jt,λb _ _=>l b,λb z=>absurd z<|l b,j.gM,j.lx⟩,
  rfl,j.bare,Un.kept M,⟨_,x.toInCall.ns,λi y v B g h3=>?_⟩,λy c h=>⟨_,x.cell y c h⟩,j.aL.fresh (Uc _),λy c h=>?_,λp t=>absurd (show p∈([]:List (Addr×Obj)) from t) (by simp),j.aL.kept M,?_⟩
 ·exact name_of_addr x.apart (Vr B)<|Vr g
 ·have m:=m;rcases m with m|m
  ·exact yO m
  ·exact absurd rfl<|S.Jy _<|Vr m
 ·exact VE<|x.above y c<|Vr h
 ·have D:i<vs.length:=by
   unfold start at g;by_cases D:i<vs.length
   ·exact D
   ·rw[Vn<|by simpa using D] at g;rw[XJ] at g;split at g<;>cases g
  have Q:vs[i]? =aa v:=by
   unfold start at g;rw[U6<|by simpa using D,U7] at g;cases e:vs[i]? with
   |none=>rw[e] at g;cases g
   |some a=>rw[e] at g;cases g;rfl
  obtain⟨u,I,R⟩:=r.get Q;have t:n[i]? =aa y:=by rw[<-S.pre,XM<|by omega];exact B
  have o:n.Nodup:=by rw[<-S.pre];exact S.nd.sublist<|List.take_sublist _ _
  refine⟨u,R,?_⟩;rcases S.par y (U8 t) with k|k
  ·exact .inl ⟨k,x6 o t I k⟩
  ·obtain⟨c,e⟩:=yO k;refine .inr ⟨.inl k,c,e,?_⟩;have q:=x.cell y c e;rw[x8 o t I (by show scope.names.lookup y≠_;rw[k];decide)] at q;exact q
 ·exact j.aL.fresh<|VE<|x.above y c<|Vr h
 ·unfold start;show _=N.length;rw[Us,Ua,W5];omega
def A8{P:Program}{w:World}{K:PySem.W.Frag}{D:Str->Option ah}{base:Heap}{k:Nat}{f:Addr}{name a:Str}{d:Arguments}{g:List Stmt}{scope:Scope}{U kV p T c ct oc:ah}{Z od:Option Addr}{M:Array (Option ah)}{N F:List Str}{sp:Sp}(lk:K.lookup f=aa ⟨oc,od,.func<|PySem.W.fnOf name a d g scope U kV p T Z c ct,M⟩)(R:PySem.W.codeIn K c a=af)(S:ja N F scope)(len:∀vs H Q E,sp vs H Q E->vs.length=F.length)(l:∀(A) (outer) (s) (H) (vs) (Q) (E),bY k (A.deeper<|envOfC a scope s.heap.objs.size f c)->sp vs H Q E->
  ∃t,fU (iS CX P w K D base N a scope f c A outer s H E) g t/\t {nx:=λ_ i=>Q .aA i,rt:=Q} (start N vs) H):
 eG P w K D base CX (k+1) f (PySem.W.fnOf name a d g scope U kV p T Z c ct) F sp:=by
 refine⟨len,λA outer s H args us vs Q E G C hb r z=>?_⟩;have hl:=len _ _ _ _ z;have X:=C.mod.mV.keeps λb o e=>(C.bs b o e).1
 have lim:=C.mod.nolimit.keeps λb o e=>(C.bs b o e).1
 have j:∀y∈F.zip us,scope.names.lookup y.1=aa .local\/(scope.names.lookup y.1=aa .cell/\((cellsFrom (s.heap.objs.size+1) scope.names []).lookup y.1).isSome=af):=λ⟨n,v⟩ hy=>by
  rcases S.par n (W3 hy).1 with q|q
  ·exact .inl q
  ·exact .inr ⟨q,XI _ _ _<|.inl q⟩
 refine codeAny_call_function G.depth (X _ _ lk) rfl S.co S.gen rfl (PySem.W.codeRec_of X R)<|hb _ _ _ _ ?_;refine wpAny_newFunctionEnv_cells S.kind j λenv he Y x=>?_
 subst he;refine⟨lim.keeps x.toInCall.keep,codeAny_func ?_⟩;obtain⟨t,ht,hq⟩:=l A outer s H vs Q E (G.deeper _) z;have I:Inv (iS CX P w K D base N a scope f c A outer s H E) [] (start N vs) H Y:=D_ S G.hd C hl r x;refine UL (ht [] Y (start N vs) H _ I hq) (λfl L m=>?_) λe L m=>m
 have B:∀{h:St} {i:Hp} {v:V} {u:ah},Inv (iS CX P w K D base N a scope f c A outer s H E) [] h i L->RelV v u->Q v i->CE outer P w H s Q u L:=
  λ{h i v u} J O q=>⟨v,i,J.os,J.bare,J.base,J.aL,O,q⟩
 cases fl with
 |ret u=>obtain⟨v,h,i,J,O,q⟩:=m;exact B J O q
 |next=>obtain⟨h,i,J,q⟩:=m;exact B (v:=V.aA) J rfl q
 |brk=>obtain⟨_,_,_,q⟩:=m;exact False.elim q
 |cont=>obtain⟨_,_,_,q⟩:=m;exact False.elim q
section
variable{X:Cx}{x:Str}{p pos:Pos}{e:Expr}{es:List Expr}{t:TA}{id T:String}{r:List V->Hp->VK->Prop}
noncomputable def BS(r:List V->Hp->VK->Prop)(t:TA):TE:=λc H Q=>t c H λb a=>r b a Q
def qi(k:hV X (.builtin id) r)(m:Gl X x)(v:X.mg x=ae)(u:bootBuiltins x=aa (.builtin id))(g:PA X (e::es) t)(o:x≠"__name__":=by decide)(b:(x==("__debug__":Str))=ag:=by decide)(he:starEach (e::es) X.env=(ag,eval e X.env)::starEach es X.env:=by rfl)(c:(backTo pos<|starEach es X.env).any (·.1)=ag:=by rfl):PE X (.Call (.Name x p) (e::es) [] pos) (BS r t):=by intro a s d H Q I h;refine V2<|kR I m v u ?_ o b;exact PyProof.Rows.callWith_builtin1 (aQ (g pos a s d H _ I h) λi q ⟨n,l,j,w,f⟩=>k a q d l n i Q j w f) he c
def x9(k:hV X (.type T) r)(m:Gl X x)(v:X.mg x=ae)(u:bootBuiltins x=aa (.type T))(g:PA X (e::es) t)(o:x≠"__name__":=by decide)(b:(x==("__debug__":Str))=ag:=by decide)(he:starEach (e::es) X.env=(ag,eval e X.env)::starEach es X.env:=by rfl)(c:(backTo pos<|starEach es X.env).any (·.1)=ag:=by rfl):PE X (.Call (.Name x p) (e::es) [] pos) (BS r t):=by intro a s d H Q I h;refine V2<|kR I m v u ?_ o b;exact Wu (aQ (g pos a s d H _ I h) λi q ⟨n,l,j,w,f⟩=>k a q d l n i Q j w f) he c
end
end L2
namespace HT
open PySem PyProof.Rows
section
open PySem.SeqAt
open PySem.AutoSeq1 (wpAny_loadPart')
open PySem.MeetsSeq PySem.MeetsSeq2 PySem.MeetsSeq3
end
section
variable{prog:Program}{w:World}{A:Around}{E:ah->Shared->Prop}{s:Shared}
noncomputable def bh(n d:Nat):Option Int->Nat
 |none=>d
 |some v=>if v<0 then(v+(n)).toNat else min v.toNat n
def RF(n d)(b:d<=n)(o):bh n d o<=n:=by
 cases o with
 |none=>exact b
 |some v=>
  show(if v<0 then(v+(n)).toNat else min v.toNat n)<=n;by_cases a:v<0
  ·rw[T5 a];omega
  ·rw[T6 a];exact Nat.min_le_right _ _
def zH(v:Int)(n d:Nat):(if v<0 then max (v+(n)) 0 else min v (n))=((bh n d (aa v):Nat):Int):=by
 show(if v<0 then max (v+(n)) 0 else min v (n))=(((if v<0 then(v+(n)).toNat else min v.toNat n):Nat):Int);by_cases a:v<0
 ·simp only[T5 a];omega
 ·simp only[T6 a];omega
def DD(lo hi)(n:Nat):Builtin.Slice.sliceAdjust lo hi 1 (n)=(((bh n 0 lo):Int),((bh n n hi):Int)):=by
 have a:¬((1)<0):=by omega
 unfold Builtin.Slice.sliceAdjust;simp only[a];refine Prod.ext ?_ ?_
 ·cases lo with
  |none=>rfl
  |some v=>exact zH v n 0
 ·cases hi with
  |none=>rfl
  |some v=>exact zH v n n
def DE(i j:Nat):Builtin.Slice.slicePlaces (i) (j) 1=j-i:=by
 unfold Builtin.Slice.slicePlaces;have a:(1:Int)>0:=by omega
 simp only[a,Uv];split<;>omega
def xI{o:Option Int}{Q:Option Int->Shared->Prop}(p:IsPart v o)(h:Q o s):wpAny (model prog w) A (Builtin.Slice.slicePartIndex v) Q E s:=by
 cases p with
 |none=>exact slicePart_none h
 |int i t=>exact slicePart_int h
def C2{e d:ah}{lo b:Option Int}{n:Nat}{Q:Int×Int×Nat->Shared->Prop}(f:s.heap.IsSliceOf sl e d .none)(i:IsPart e lo)(g:IsPart d b)(h:Q (((bh n 0 lo):Int),1,bh n n b-bh n 0 lo) s):wpAny (model prog w) A (Builtin.Slice.sliceApplied (.ref sl)<|pure<|n) Q E s:=by obtain⟨k,a,j,c⟩:=id f;unfold Builtin.Slice.sliceApplied Builtin.Slice.sliceFields;refine T8<|T8<|wpAny_field a c rfl<|T8<|wpAny_field a c rfl<|T8<|wpAny_field a c rfl<|Uk ?_;refine T8<|slicePart_none ?_;rw[T6<|by decide];refine T8<|xI i<|T8<|xI g<|T8<|Uk ?_;show wpAny _ _ (match Builtin.Slice.sliceAdjust lo b 1 (n) with|(lo,b)=>pure (lo,(1:Int),Builtin.Slice.slicePlaces lo b 1)) _ _ s;rw[DD lo b n];show wpAny _ _ (pure (((bh n 0 lo):Int),(1),Builtin.Slice.slicePlaces ((bh n 0 lo):Int) ((bh n n b):Int) 1)) _ _ s;rw[DE];exact Uk h
def Fo(xs:Array ah)(i k:Nat):((List.range k).filterMap λ(m:Nat)=>xs[((i:Int)+(m)*1).toNat]?).toArray=((xs.toList.drop i).take k).toArray:=by
 have e:(λ(m:Nat)=>xs[((i:Int)+(m)*1).toNat]?)=λm=>xs[i+m]? :=by
  funext m;have:((i:Int)+(m)*1).toNat=i+m:=by omega
  rw[this]
 rw[e];have:=pick_run xs i k;rw[List.filterMap_map] at this;have a:((λx=>xs[x]?)∘λx=>i+x)=λm=>xs[i+m]? :=rfl
 rw[a] at this;rw[this]
def C1{t i:Addr}{a:Array ah}{m k:ah}{lo c:Option Int}{Q:ah->Shared->Prop}(d:IsTup s.heap t a)(l:s.heap.IsSliceOf i m k .none)(r:IsPart m lo)(n:IsPart k c)(hw:¬(bh a.size 0 lo=0/\bh a.size a.size c=a.size))(h:Q (.ref s.heap.objs.size) {s with heap:=s.heap.push {cls:=.type "tuple",data:=.seq ((a.toList.drop<|bh a.size 0 lo).take<|bh a.size a.size c-bh a.size 0 lo).toArray}})(hsz:a.size<=sizeLine):wpAny (model prog w) A (getItem (.ref t)<|.ref i) Q E s:=by
 have b:sizeOk (.seq ((a.toList.drop<|bh a.size 0 lo).take<|bh a.size a.size c-bh a.size 0 lo).toArray):=by show((a.toList.drop<|bh a.size 0 lo).take<|bh a.size a.size c-bh a.size 0 lo).toArray.size<=sizeLine;rw[Ul,VH,W6,WY];omega
 obtain⟨p,g,f,o⟩:=id l;have e:s.TypeIs (.ref i) "slice":=⟨p,g,f⟩;unfold getItem;try with_reducible refine Vq ?_
 first|refine T8 (Uk ?_)|skip
 refine T8<|wpAny_sequenceKey d.typeIs (by decide) ?_;refine T8 (wpAny_callSpecial?_slot d.typeIs Wz (wpAny_call_entry Wz d.typeIs entry_tuple_getitem ?_ (args_tuple_getitem _ _)))
 show wpAny _ _ (Builtin.Tuple.tupleItemsOf (.ref t) >>= _) _ _ s;refine T8<|tupleItemsOf_ d ?_;refine T8<|wpAny_typeOf e ?_;rw[T5<|by decide];refine T8<|C2 l r n ?_;have j:¬((((bh a.size 0 lo:Nat):Int)==0&&(1:Int)==1&&(bh a.size a.size c-bh a.size 0 lo)==a.size)=af):=by intro q;rw[T',T'] at q;have u:=eq_of_beq q.1.1;have v:=eq_of_beq q.2;exact hw ⟨by omega,by omega⟩
 show wpAny _ _ (if(((bh a.size 0 lo:Nat):Int)==0&&(1)==1&&(bh a.size a.size c-bh a.size 0 lo)==a.size)=af then _ else _) _ _ s;rw[T6 j,Fo];first
  |exact T8<|Wa (Uk ⟨_,rfl,Uk h⟩) b
  |exact T8<|Wa (T8<|Uk<|Uk ⟨_,rfl,Uk h⟩) b
  |exact T8<|T8<|Wa (Uk<|Uk ⟨_,rfl,Uk h⟩) b
  |exact T8<|T8<|Wa (Uk ⟨_,rfl,Uk h⟩) b
end
end HT
namespace L2
open PySem PySem.Spec PyProof.Rows
noncomputable abbrev TO:=St->Hp->(Option Int->Hp->Prop)->Prop
noncomputable def PO(X:Cx)(e:Option Expr)(t:TO):Prop:=
 ∀(a) (s) (b) (H) (Q),Inv X a b H s->t b H Q->
  wpAny (model X.prog X.w) X.A (evalPart e X.env) (λu d=>∃o c,Inv X a b c d/\IsPart u o/\Q o c) X.xe s
noncomputable def G':TO:=λ_ H Q=>Q ae H
noncomputable def LI(t:TE):TO:=λb H Q=>t b H λx a=>∃i,x=.int i/\Q (aa i) a
def intsAre_of:∀{a:List ah},Vals (ns.map V.int) a->IntsAre a ns:=by
 induction ns with
 |nil=>intro a r;rw[Vo] at r;cases r;exact .nil
 |cons n ns c=>
  intro a r;rw[Ux] at r;cases r with
  |cons d b=>obtain⟨t,e⟩:=d;subst e;exact .cons n t<|c b
section
variable{X:Cx}{e:Expr}{te:TE}{lo hi:Option Expr}{tl th:TO}{pos p2:Pos}
def Ha:PO X ae G':=by intro a s b H Q I h;rw[evalPart_none];exact Uk ⟨ae,H,I,.none,h⟩
def Hb(h:PE X e te):PO X (aa e) (LI te):=by
 intro a s f H Q I d;rw[evalPart_some];refine aQ (h a s f H _ I d) λu k ⟨x,b,g,j,c⟩=>?_
 obtain⟨i,rfl,q⟩:=c;obtain⟨t,rfl⟩:=j;exact⟨aa i,b,g,.int i t,q⟩
noncomputable def j_(X:Cx)(r:V->Option Int->Option Int->Hp->VK->Prop):Prop:=
 ∀(a) (s) (d) (H) (x) (v f c) (lo hi) (b) (Q),Inv X a d H s->RelV x v->s.heap.IsSliceOf b f c .none->IsPart f lo->IsPart c hi->r x lo hi H Q->
  ∃T g,typeLookup (.type T) "__getitem__"=pure (aa<|.builtin g)/\s.TypeIs v T/\wpAny (model X.prog X.w) X.A (getItem v<|.ref b) (EP X a d Q) X.xe s
def j_.or(h:j_ X r)(h':j_ X r'):j_ X (λx lo hi H Q=>r x lo hi H Q\/r' x lo hi H Q):=by
 intro a s j H x v k f lo hi c Q I b d i g q;rcases q with q|q
 ·exact h a s j H x v k f lo hi c Q I b d i g q
 ·exact h' a s j H x v k f lo hi c Q I b d i g q
noncomputable def NH(r:V->Option Int->Option Int->Hp->VK->Prop)(te:TE)(tl th:TO):TE:=λa H Q=>te a H λx b=>tl a b λl c=>th a c λu d=>r x l u d Q
def Fp(k:j_ X r)(t:PE X e te)(z:PO X lo tl)(o:PO X hi th):PE X (.Subscript e (.Slice lo hi ae p2) pos) (NH r te tl th):=by
 intro a s f H Q I h;refine Subscript_<|aQ (t a s f H _ I h) λv G ⟨x,B,y,M,m⟩=>?_
 refine wpAny_Slice<|aQ (z a G f B _ y m) λi w ⟨l,L,K,E,N⟩=>aQ (o a w f L _ K N) λg d ⟨u,j,A,n,J⟩=>?_
 rw[evalPart_none];refine Uk ?_;have F:Inv X a f j {d with heap:=d.heap.push {cls:=.type "slice",data:=.fields #[i,g,.none]}}:=A.kept λb P q=>Uw _ q
 obtain⟨T,O,C,p,D⟩:=k a {d with heap:=d.heap.push {cls:=.type "slice",data:=.fields #[i,g,.none]}} f j x v i g l u d.heap.objs.size Q F M (Heap.IsSliceOf.new ..) E n J;exact tail_any p C D<|by with_unfolding_all rfl
noncomputable def mK(xs:List V)(lo hi:Option Int):List V:=(xs.drop<|HT.bh xs.length 0 lo).take<|HT.bh xs.length xs.length hi-HT.bh xs.length 0 lo
def xC(xs)(lo hi):(mK xs lo hi).length<=xs.length:=by unfold mK;rw[VH,W6];omega
noncomputable def MG(K:PySem.W.Frag):V->Option Int->Option Int->Hp->VK->Prop:=λx lo hi H Q=>∃a b,x=.ref a/\dD K H a b/\
 ¬(HT.bh b.length 0 lo=0/\HT.bh b.length b.length hi=b.length)/\∀p,H p=ae->Q (.ref p) (upd H p<|.tup<|mK b lo hi)
def Jz:j_ X (MG X.K):=by
 intro j s y H x v z t lo hi u Q I l m o k h;obtain⟨a,d,rfl,n,p,q⟩:=h;cases l;obtain⟨f,r,g,i⟩:=I.tuple n;have c:f.toArray.size=d.length:=by rw[Ul];exact r.length.symm
 refine⟨"tuple",_,Wz.lookup,g.typeIs,?_⟩;refine HT.C1 g m o k (by rw[c];exact p) ?_ (by rw[c];exact i);rw[c];refine⟨.ref s.heap.objs.size,_,I.laid (λb w q=>Uw _ q) (Uc _) ?_,rfl,q _<|I.aL.fresh<|Uc _⟩;exact⟨Uh (xC d lo hi) i,_,(r.drop<|HT.bh d.length 0 lo).take<|HT.bh d.length d.length hi-HT.bh d.length 0 lo,IsTup.new _ _⟩
end
noncomputable def cq(n:Nat)(i:Int):Option Nat:=if 0<=i then(if i<n then aa i.toNat else ae) else if-(n)<=i then aa (i+n).toNat else ae
noncomputable def cA{a:Type}(xs:List a)(i:Int):Option a:=(cq xs.length i).bind λj=>xs[j]?
def zI{i:Int}{j:Nat}(h:cq n i=aa j):seqIndex? i n=aa j/\j<n/\ -(n)<=i/\i<n:=by
 unfold cq at h;by_cases b:0<=i
 ·rw[T5 b] at h;by_cases a:i<n
  ·rw[T5 a] at h;have e:=Ug h;exact⟨by rw[seqIndex_of b a,e],by omega,by omega,a⟩
  ·rw[T6 a] at h;cases h
 ·rw[T6 b] at h;by_cases a: -(n)<=i
  ·rw[T5 a] at h;have e:=Ug h;exact⟨by rw[seqIndex_neg (by omega) a,e],by omega,a,by omega⟩
  ·rw[T6 a] at h;cases h
def zJ{xs:List α}{i:Int}{v:α}(h:cA xs i=aa v):∃j,seqIndex? i xs.length=aa j/\xs[j]? =aa v/\j<xs.length/\ -(xs.length:Int)<=i/\i<xs.length:=by
 unfold cA at h;cases e:cq xs.length i with
 |none=>rw[e] at h;cases h
 |some j=>rw[e] at h;obtain⟨a,b,h3,c⟩:=zI e;exact⟨j,a,h,b,h3,c⟩
noncomputable def zK(b:Expr):Prop:=∀o i,subscripted b ag o i=operate [o,i] (getItem o i)
noncomputable def lA(X:Cx)(r:R2):Prop:=
 ∀(c a) (b) (s) (d) (H) (x y) (v u) (Q),Inv X b d H s->RelV x v->RelV y u->r x y H Q->
  subscripted a ag v u=operate [v,u] (getItem v u)->wpAny (model X.prog X.w) X.A (subscriptTail c a v u) (EP X b d Q) X.xe s
noncomputable def iY(X:Cx)(e:String)(r:V->List V->Hp->VK->Prop):Prop:=
 ∀(a) (s) (d) (H) (x) (c) (v) (b) (Q),Inv X a d H s->RelV x v->Vals c b->r x c H Q->
  wpAny (model X.prog X.w) X.A (call (.builtin e)<|v::b) (EP X a d Q) X.xe s
section
variable{X:Cx}{a b:Expr}{ta tb:TE}{pos:Pos}
def lA.or(h:lA X r)(h':lA X r'):lA X (λx y H Q=>r x y H Q\/r' x y H Q):=by
 intro d c e s j H x y v u Q I f i q g;rcases q with q|q
 ·exact h d c e s j H x y v u Q I f i q g
 ·exact h' d c e s j H x y v u Q I f i q g
def iY.or{d:String}{r i:V->List V->Hp->VK->Prop}(h:iY X d r)(h':iY X d i):iY X d (λx xs H Q=>r x xs H Q\/i x xs H Q):=by
 intro c s g H x xs v f Q I e j q;rcases q with q|q
 ·exact h c s g H x xs v f Q I e j q
 ·exact h' c s g H x xs v f Q I e j q
def LJ(d:lA X r)(e:PE X a ta)(n:PE X b tb)(g:zK b):PE X (.Subscript a b pos) (rH r ta tb):=by intro c s j H Q I h;exact Subscript_<|vM e n I h λv u i x y l k f m q=>d a b c i j l x y v u Q k f m q<|g _ _
noncomputable def MH(K:PySem.W.Frag):R2:=λx y H Q=>∃p c i v,x=.ref p/\y=.int i/\bH K H p c/\cA c i=aa v/\Q v H
noncomputable def MI(K:PySem.W.Frag):R2:=λx y H Q=>∃p c i v,x=.ref p/\y=.int i/\dD K H p c/\cA c i=aa v/\Q v H
def Hc:lA X (MH X.K):=by
 intro m k c s L H x y v u Q I C M h o;obtain⟨p,O,i,z,rfl,rfl,F,D,q⟩:=h;cases C;obtain⟨t,rfl⟩:=M;obtain⟨g,r,l,P⟩:=I.list F;obtain⟨j,e,G,h3,J,N⟩:=zJ D;obtain⟨w,B,n⟩:=r.get G;have E:=r.length;have R:=qG;have d:EP X c L Q w s:=⟨z,H,I,n,q⟩;by_cases A:0<=i
 ·have f:=by rw[seqIndex_of A N] at e;exact Ug e
  exact item_listR l.isList A (by omega) (by rw[f];simpa using B) d o
 ·have f:(i+(g.toArray.size:Int)).toNat=j:=by rw[seqIndex_neg (by omega) J] at e;rw[Ul,<-E];exact Ug e
  exact subscriptTail_builtinR l.isList.typeIs slot_list_getitem.lookup (wpAny_getItem_list_neg l.isList (by omega) (by rw[Ul]<;>omega) (by omega) (by rw[f];simpa using B) ⟨rfl,d⟩) o
def JA:lA X (MI X.K):=by intro e d c s E H x y v u Q I m G h o;obtain⟨p,J,i,z,rfl,rfl,C,n,q⟩:=h;cases m;obtain⟨t,rfl⟩:=G;obtain⟨A,r,k,L⟩:=I.tuple C;obtain⟨j,l,D,h3,M,O⟩:=zJ n;obtain⟨w,F,f⟩:=r.get D;have B:=r.length;have N:=qG;have g:EP X c E Q w s:=⟨z,H,I,f,q⟩;exact subscriptTail_builtinR k.typeIs Wz.lookup (getItem_tuple k (by omega) (by omega) (by rw[Ul,<-B];exact l) (by simpa using F) ⟨rfl,g⟩) o
def DF(c:List ah)(n j)(u):Obj.mapSeq (·.setIfInBounds j u) {cls:=.type "list",data:=.seq c.toArray n}={cls:=.type "list",data:=.seq (c.set j u).toArray n}:=by simp[Obj.mapSeq]
def Inv.lst{σ:St}{H:Hp}{s:Shared}{p:Addr}{xs:List V}(I:Inv X pins σ H s)(h:H p=aa (.lst xs)):
 ∃(c:List ah) (n:Nat),Vals xs c/\s.heap.get? p=aa {cls:=.type "list",data:=.seq c.toArray n}/\xs.length<=sizeLine:=by
 obtain⟨z,c,n,r,e⟩:=I.aL p _ h;exact⟨c,n,r,e,z⟩
def Inv.JB{σ:St}{H:Hp}{s:Shared}{p:Addr}{xs ys:List V}{d c:List ah}{n g:Nat}{f:Obj->Obj}(I:Inv X pins σ H s)(h:H p=aa (.lst xs))(j:s.heap.get? p=aa {cls:=.type "list",data:=.seq d.toArray n})(i:f {cls:=.type "list",data:=.seq d.toArray n}={cls:=.type "list",data:=.seq c.toArray g})(r:Vals ys c)(hz:ys.length<=sizeLine)(t):
 Inv X pins σ (upd H p<|.lst ys) {s with heap:=s.heap.update p f,toks:=t}:=by
 have e:(s.heap.update p f).get? p=aa {cls:=.type "list",data:=.seq c.toArray g}:=by rw[Heap.get?_update_self f j<|by rw[i]<;>rfl,i]
 refine I.write (by rw[h];trivial) (.inl rfl) (λb u k q=>(W7 _ _<|Uz k).trans q) ⟨_,e⟩ ?_;exact⟨hz,c,g,r,e⟩
noncomputable def LK:V->V->V->Hp->(Hp->Prop)->Prop:=λo i v H Q=>∃p c k j,o=.ref p/\i=.int k/\H p=aa (.lst c)/\cq c.length k=aa j/\Q (upd H p<|.lst<|c.set j v)
def set_list:Bp X LK:=by
 intro m s J H o i v E L u Q I D A C h;obtain⟨p,F,k,j,rfl,rfl,l,z,q⟩:=h;cases D;obtain⟨t,rfl⟩:=A;obtain⟨c,n,r,f,B⟩:=I.lst l;obtain⟨d,G,h3,x⟩:=zI z;have e:=r.length;have K:=qG;have y:=
  I.JB l f (DF c n j u) (r.set C j) (by rw[Va];exact B) s.toks
 by_cases w:0<=k
 ·have g:=by rw[seqIndex_of w x] at d;exact Ug d
  exact PySem.W.ki_setAt f w (by omega) (by rw[Ul,<-e];exact x) (by rw[g];exact⟨_,y,q⟩)
 ·have g:(k+(c.toArray.size:Int)).toNat=j:=by rw[seqIndex_neg (by omega) h3] at d;rw[Ul,<-e];exact Ug d
  exact PySem.W.ki_setBack f (by omega) (by rw[Ul,<-e];exact h3) (by omega) (by rw[g];exact⟨_,y,q⟩)
def C9(lo c:Option Int)(n:Nat):(sliceBounds lo c ae n).1=((HT.bh n 0 lo:Nat):Int)/\(sliceBounds lo c ae n).2.1=((HT.bh n n c:Nat):Int)/\(sliceBounds lo c ae n).2.2=1:=by
 refine⟨?_,?_,rfl⟩
 ·cases lo with
  |none=>simp[sliceBounds,HT.bh]
  |some i=>
   simp only[sliceBounds,HT.bh,Option.getD_none];by_cases h:i<0
   ·simp only[h,Uv]<;>omega
   ·simp only[h,U2]<;>omega
 ·cases c with
  |none=>simp[sliceBounds,HT.bh]
  |some i=>
   simp only[sliceBounds,HT.bh,Option.getD_none];by_cases h:i<0
   ·simp only[h,Uv]<;>omega
   ·simp only[h,U2]<;>omega
def C5(c:List ah)(lo hi):slicePick c.toArray lo hi ae=((c.drop<|HT.bh c.length 0 lo).take<|HT.bh c.length c.length hi-HT.bh c.length 0 lo).toArray:=by obtain⟨e,d,h3⟩:=C9 lo hi c.toArray.size;unfold slicePick;rw[e,d,h3];simp only[sliceRange_one,pick_run]<;>rfl
noncomputable def MJ(K:PySem.W.Frag):V->Option Int->Option Int->Hp->VK->Prop:=λx e d H Q=>∃a c,x=.ref a/\bH K H a c/\∀p,H p=ae->Q (.ref p) (upd H p<|.lst<|mK c e d)
def Hd:j_ X (MJ X.K):=by
 intro i s y H x v z t e g u Q I k l p j h;obtain⟨a,d,rfl,o,q⟩:=h;cases k;obtain⟨m,r,f,n⟩:=I.list o;have c:=r.length;refine⟨"list",_,slot_list_getitem.lookup,f.isList.typeIs,?_⟩;refine wpAny_getItem_list_slice f.isList l p j .none (by simp) ?_<|by rw[Ul]<;>omega
 rw[C5,<-c];refine⟨.ref s.heap.objs.size,_,I.laid (λb w q=>Uw _ q) (Uc _) ?_,rfl,q _<|I.aL.fresh<|Uc _⟩;exact⟨Uh (xC d e g) n,_,0,(r.drop<|HT.bh d.length 0 e).take<|HT.bh d.length d.length g-HT.bh d.length 0 e,UU _ rfl⟩
noncomputable def dN:V->Bool
 |.aA=>af
 |.bl _=>af
 |.int _=>af
 |.str _=>af
 |_=>ag
noncomputable def dj:V->V->Bool
 |.aA,.aA=>af
 |.bl a,.bl b=>a==b
 |.bl a,.int b=>(if a then 1 else 0)==b
 |.int a,.bl b=>a==(if b then 1 else 0)
 |.int a,.int b=>a==b
 |.str a,.str b=>a==b
 |_,_=>ag
def qH{A:Around}{s:Shared}{y x:V}{u v:ah}(f:RelV y u)(c:RelV x v)(g:dN y=af)(e:dN x=af):SeqAt.EqAt A s u v (dj y x):=by
 cases y with
 |aA=>
  cases f;cases x with
  |aA=>cases c;exact SeqAt.EqAt.same _
  |bl b=>cases c;exact SeqAt.EqAt.none_bool b
  |int b=>obtain⟨t,rfl⟩:=c;exact SeqAt.EqAt.none_int b t
  |str b=>obtain⟨t,rfl⟩:=c;exact SeqAt.EqAt.none_str b t
  |_=>exact absurd (show ag=af from e) Uq
 |bl a=>
  cases f;cases x with
  |aA=>cases c;exact SeqAt.EqAt.bool_none a
  |bl b=>cases c;exact SeqAt.EqAt.bool_bool a b
  |int b=>obtain⟨t,rfl⟩:=c;exact SeqAt.EqAt.bool_int a b t
  |str b=>obtain⟨t,rfl⟩:=c;exact SeqAt.EqAt.bool_str a b t
  |_=>exact absurd (e) Uq
 |int a=>
  obtain⟨d,rfl⟩:=f;cases x with
  |aA=>cases c;exact SeqAt.EqAt.int_none a d
  |bl b=>cases c;exact SeqAt.EqAt.int_bool a d b
  |int b=>obtain⟨t,rfl⟩:=c;exact SeqAt.EqAt.int_int a d b t
  |str b=>obtain⟨t,rfl⟩:=c;exact SeqAt.EqAt.int_str a d b t
  |_=>exact absurd (e) Uq
 |str a=>
  obtain⟨d,rfl⟩:=f;cases x with
  |aA=>cases c;exact SeqAt.EqAt.str_none a d
  |bl b=>cases c;exact SeqAt.EqAt.str_bool a d b
  |int b=>obtain⟨t,rfl⟩:=c;exact SeqAt.EqAt.str_int a d b t
  |str b=>obtain⟨t,rfl⟩:=c;exact SeqAt.EqAt.str_str a d b t
  |_=>exact absurd (e) Uq
 |_=>exact absurd (g) Uq
noncomputable def eQ(x:V)(u:ah):Bool:=match u with
 |.none=>dj .aA x
 |.bool b=>dj (.bl b) x
 |.int i _=>dj (.int i) x
 |.str z _=>dj (.str z) x
 |_=>ag
def vj{x y:V}{u:ah}(r:RelV y u)(f:dN y=af):eQ x u=dj y x:=by
 cases y with
 |aA=>cases r;rfl
 |bl b=>cases r;rfl
 |int i=>obtain⟨t,rfl⟩:=r;rfl
 |str z=>obtain⟨t,rfl⟩:=r;rfl
 |_=>exact absurd (f) Uq
theorem oy:∀{xs:List V} {c:List ah},Vals xs c->xs.all dN=af->c.any (eQ x)=xs.any λy=>dj y x
 |_,_,.nil,_=>rfl
 |y::xs,u::c,.cons r t,f=>by rw[Vp,T'] at f;rw[U3,U3,vj r f.1,oy t f.2]
theorem ma{s:Shared}{x:V}{v:ah}(e:RelV x v)(g:dN x=af):∀{xs:List V} {d:List ah},Vals xs d->xs.all dN=af->∀u∈d,SeqAt.EqAt A s u v (eQ x u)
 |_,_,.nil,_=>λu c=>by cases c
 |y::xs,u::d,.cons r t,f=>λh c=>by
  rw[Vp,T'] at f;rcases T7.mp c with rfl|c
  ·rw[vj r f.1];exact qH r e f.1 g
  ·exact ma e g t f.2 h c
noncomputable def rJ(x:V)(xs:List V):Bool:=xs.any λy=>dj y x
noncomputable def BU(K:PySem.W.Frag)(neg:Bool):R2:=λx y H Q=>∃p c,y=.ref p/\(bH K H p c\/dD K H p c)/\dN x=af/\c.all dN=af/\Q (.bl<|if neg then !rJ x c else rJ x c) H
def D':b9 X (compareOp .In) (BU X.K ag):=by
 intro k s o H x y v u Q I i m h;obtain⟨p,n,rfl,d,j,e,q⟩:=h;cases m;rcases d with d|d
 ·obtain⟨c,r,f,l⟩:=I.list d;refine SeqAt.in_listAt (eQ x) f.isList (λw g=>ma i j r e w<|by simpa using g) ⟨.bl _,H,I,rfl,?_⟩;rw[show c.toArray.any (eQ x)=c.any (eQ x) by simp,oy r e];exact q
 ·obtain⟨c,r,f,l⟩:=I.tuple d;refine SeqAt.in_tupleAt (eQ x) f (λw g=>ma i j r e w<|by simpa using g) ⟨.bl _,H,I,rfl,?_⟩;rw[show c.toArray.any (eQ x)=c.any (eQ x) by simp,oy r e];exact q
def C_:b9 X (compareOp .NotIn) (BU X.K af):=by
 intro k s o H x y v u Q I i m h;obtain⟨p,n,rfl,d,j,e,q⟩:=h;cases m;rcases d with d|d
 ·obtain⟨c,r,f,l⟩:=I.list d;refine SeqAt.notIn_listAt (eQ x) f.isList (λw g=>ma i j r e w<|by simpa using g) ⟨.bl _,H,I,rfl,?_⟩;rw[show c.toArray.any (eQ x)=c.any (eQ x) by simp,oy r e];exact q
 ·obtain⟨c,r,f,l⟩:=I.tuple d;refine SeqAt.notIn_tupleAt (eQ x) f (λw g=>ma i j r e w<|by simpa using g) ⟨.bl _,H,I,rfl,?_⟩;rw[show c.toArray.any (eQ x)=c.any (eQ x) by simp,oy r e];exact q
def xw:hV X (.builtin "len") (λxs H Q=>∃p ys,xs=[.ref p]/\(bH X.K H p ys\/dD X.K H p ys)/\Q (.int ys.length) H):=by
 intro i s m H xs l Q I r h;obtain⟨p,ys,rfl,d,q⟩:=h;obtain⟨u,rfl,j⟩:=vals1 r;cases j;have n:=qG;rcases d with d|d
 ·obtain⟨g,e,f,k⟩:=I.list d;have c:=e.length;exact Calls.call_len_list f.isList (by simp only[Ul]<;>omega) ⟨.int ys.length,H,I.tok _,⟨s.toks+1,by rw[Ul,c]⟩,q⟩
 ·obtain⟨g,e,f,k⟩:=I.tuple d;have c:=e.length;exact len_tuple f (by simp only[Ul]<;>omega) ⟨.int ys.length,H,I.tok _,⟨s.toks+1,by rw[Ul,c]⟩,q⟩
def Dc:hV X (.type "list") (λxs H Q=>∃p ys,xs=[.ref p]/\(bH X.K H p ys\/dD X.K H p ys)/\∀l,H l=ae->Q (.ref l) (upd H l<|.lst ys)):=by
 intro t s E H xs F Q I r h;obtain⟨p,ys,rfl,m,q⟩:=h;obtain⟨u,rfl,D⟩:=vals1 r;cases D;have v:∀(c),Vals ys c->ys.length<=sizeLine->∀(d) (f),(∀b C,s.heap.get? b=aa C->d.get? b=aa C)->
  d.get? s.heap.objs.size=aa {cls:=.type "list",dict:=ae,data:=.seq c.toArray f,slots:= #[]}->EP X t E Q (.ref s.heap.objs.size) {s with heap:=d}:=λc g k d f i e=>
  ⟨.ref s.heap.objs.size,_,I.laid i (Uc _)<|show dA X.prog X.w _ d _ (.lst ys) from⟨k,c,f,g,e⟩,rfl,q _<|I.aL.fresh<|Uc _⟩
 rcases m with m|m
 ·obtain⟨c,g,A,k⟩:=I.list m;have j:=g.length;obtain⟨o,z,y,n,x⟩:=A.isList;exact call_list_seq p (.inl rfl) z y x (λd f i e=>v c g k d f i e)<|by simp only[Ul]<;>omega
 ·obtain⟨c,g,A,k⟩:=I.tuple m;have j:=g.length;obtain⟨o,z,y,n,x⟩:=A;exact call_list_seq p (.inr rfl) z y x (λd f i e=>v c g k d f i e)<|by simp only[Ul]<;>omega
noncomputable def wc(K:PySem.W.Frag)(T:String)(x:V)(H:Hp):Prop:=match x with
 |.str _=>T="str"
 |.int _=>T="int"
 |.ref p=>(T="list"/\∃d,bH K H p d)\/(T="tuple"/\∃o,K.lookup p=aa o/\o.cls=.type "tuple"/\o.dict=ae)\/ (T="dict"/\((∃c,H p=aa (.dK c))\/∃c,H p=aa (.dT c)))\/(T="set"/\∃S n,H p=aa (.set S n))
 |_=>False
def AB{σ:St}{H:Hp}{s:Shared}{T:String}{x:V}{v:ah}(I:Inv X pins σ H s)(r:RelV x v)(ty:wc X.K T x H):
 s.TypeIs v T/\∀a,v=.ref a->∃j,s.heap.get? a=aa j/\j.dict=ae:=by
 cases x with
 |str z=>obtain⟨t,rfl⟩:=r;cases(ty);exact⟨typeIs_str s z t,λ_ e=>nomatch e⟩
 |int i=>obtain⟨t,rfl⟩:=r;cases(ty);exact⟨typeIs_int s i t,λ_ e=>nomatch e⟩
 |ref p=>
  cases r;rcases ty with⟨rfl,q,l⟩|⟨rfl,o,d,hc,f⟩|⟨rfl,d⟩|⟨rfl,S,n,d⟩
  ·obtain⟨m,_,k,_⟩:=I.list l;refine⟨k.isList.typeIs,λa e=>?_⟩;cases e;obtain⟨o,n,e,c,f,_⟩:=k;exact⟨o,e,f⟩
  ·refine⟨⟨o,I.eI p o d,hc⟩,λa e=>?_⟩;cases e;exact⟨o,I.eI _ o d,f⟩
  ·have z:∃o,s.heap.get? p=aa o/\o.ExactDict:=by
    rcases d with⟨g,d⟩|⟨g,d⟩
    ·obtain⟨_,_,_,_,o,_,_,e,ex,_⟩:=I.aL p _ d;exact⟨o,e,ex⟩
    ·obtain⟨_,_,_,_,o,_,_,e,ex,_⟩:=I.aL p _ d;exact⟨o,e,ex⟩
   obtain⟨o,e,ex⟩:=z;refine⟨⟨o,e,ex.1⟩,λa h=>?_⟩;cases h;exact⟨o,e,ex.2.1⟩
  ·obtain⟨o,_,_,_,e,ex,_⟩:=I.aL p _ d;refine⟨⟨o,e,ex.1⟩,λa h=>?_⟩;cases h;exact⟨o,e,ex.2.1⟩
 |_=>exact False.elim ty
noncomputable def MK(K:PySem.W.Frag)(T:String)(r:V->List V->Hp->VK->Prop)(d:TE):TE:=λe H Q=>d e H λx c=>wc K T x c/\r x [] c Q
noncomputable def NI(K:PySem.W.Frag)(T:String)(r:V->List V->Hp->VK->Prop)(e:TE)(t:TA):TE:=λd H Q=>e d H λx c=>wc K T x c/\t d c λg f=>r x g f Q
variable{o e:Expr}{es:List Expr}{to:TE}{t:TA}{name:Str}{apos bF:Pos}{T id:String}{r:V->List V->Hp->VK->Prop}
def JC(w:PlainAttrs T)(g:Slot T name id)(i:typeOf (.builtin id)=pure (.type "method_descriptor"))(z:iY X id r)(q:PE X o to)(d:attributeBase o name X.env (eval o X.env)=eval o X.env:=by rfl)(f:(apos.endLine==bF.line)=af:=by rfl):PE X (.Call (.Attribute o name apos) [] [] bF) (MK X.K T r to):=by
 intro c s k H Q I h;refine wpAny_Call_method0_late d f<|aQ (q c s k H _ I h) λv y ⟨x,p,j,l,ty,n⟩=>?_
 obtain⟨m,u⟩:=AB j l ty;exact⟨T,id,w,g,i,m,u,V3 rfl<|PySem.evalArgs_none<|z c y k p x [] v [] Q j l .nil n⟩
def LM(F:PlainAttrs T)(i:Slot T name id)(k:typeOf (.builtin id)=pure (.type "method_descriptor"))(N:iY X id r)(C:PE X o to)(w:PA X (e::es) t)(f:attributeBase o name X.env (eval o X.env)=eval o X.env:=by rfl)(j:((backTo bF<|starEach (e::es) X.env).all (λx=>!x.1)&&(backToKw bF<|keywordEach [] X.env).all (λx=>x.1.isSome)
  &&ai ((e::es).length+([]:List Keyword).length+(if([]:List Keyword).isEmpty then 0 else 1)<30))=af:=by rfl)
 (g:(apos.endLine==bF.line)=af:=by rfl) (y:starEach (e::es) X.env=(ag,eval e X.env)::starEach es X.env:=by rfl) (d:(backTo bF<|starEach es X.env).any (·.1)=ag:=by rfl):
 PE X (.Call (.Attribute o name apos) (e::es) [] bF) (NI X.K T r to t):=by
 intro c s l H Q I h;refine wpAny_Call_method_late f j g rfl<|aQ (C c s l H _ I h) λv G ⟨x,B,m,p,ty,u⟩=>?_
 obtain⟨q,D⟩:=AB m p ty;refine⟨T,id,F,i,k,q,D,?_⟩;have n:=w bF c G l B _ m u;rw[y] at n⊢;refine V3 (by show(ag||(backTo bF<|starEach es X.env).any (·.1))=ag;rw[d]<;>rfl)<|WA ?_;exact aQ n λA z ⟨E,L,J,M,O⟩=>N c z l L x E v A Q J p M O
end
noncomputable def we(X:Cx)(e:String)(r:V->List V->Hp->VK->Prop):Prop:=
 ∀(a) (s) (d) (H) (x) (c) (v) (b) (Q),Inv X a d H s->RelV x v->Vals c b->r x c H Q->
  wpAny (model X.prog X.w) X.A (call (.builtin e)<|v::b) (EP X a d Q) X.xe s
theorem Vals.one:∀{x:V} {a:List ah},Vals [x] a->∃u,a=[u]/\RelV x u
 |_,_,.cons r .nil=>⟨_,rfl,r⟩
theorem Vals.zero:∀{a:List ah},Vals [] a->a=[]
 |_,.nil=>rfl
def Vals.dropLast{a:List ah}(h:Vals xs a):Vals xs.dropLast a.dropLast:=by
 induction h with
 |nil=>exact .nil
 |cons r t b=>
  cases t with
  |nil=>exact .nil
  |cons q c=>exact .cons r b
def DG{d:Type}(l:List d):l.eraseIdx (l.length-1)=l.dropLast:=by
 induction l with
 |nil=>rfl
 |cons a r c=>
  cases r with
  |nil=>rfl
  |cons b r=>
   have e:(a::b::r).length-1=((b::r).length-1)+1:=by have f:(a::b::r).length=r.length+2:=rfl;have g:(b::r).length=r.length+1:=rfl;omega
   rw[e,List.eraseIdx_cons_succ,c];all_goals rfl
section
variable{X:Cx}{pins:List (Addr×Obj)}{σ:St}{H:Hp}{s:Shared}{l b:Addr}{xs ys zs:List V}
def Inv.ri{c a:List ah}{n:Nat}{f:Array ah->Array ah}{t':Nat}(I:Inv X pins σ H s)(h:H l=aa (.lst xs))(e:s.heap.get? l=aa {cls:=.type "list",data:=.seq c.toArray n})(d:f c.toArray=a.toArray)(g:Vals ys a)(hz:ys.length<=sizeLine):
 Inv X pins σ (upd H l<|.lst ys) {s with heap:=s.heap.update l (Obj.mapSeq f),toks:=t'}:=by
 have q:=PySem.IsL.update e f;rw[d] at q;refine I.write (by rw[h];exact trivial) (.inl rfl) (λk u i j=>(W7 s.heap (Obj.mapSeq f)<|Uz i).trans j) ⟨_,q⟩ ?_;exact⟨hz,a,_,g,q⟩
def Inv.ML{t':Nat}(I:Inv X pins σ H s)(a:Vals ys rK)(hz:ys.length<=sizeLine):
 Inv X pins σ (upd H s.heap.objs.size<|.lst ys) {s with heap:=s.heap.push {cls:=.type "list",data:=.seq rK.toArray},toks:=t'}:=
 I.laid (λ_ _ q=>Uw _ q) (Uc _) ⟨hz,rK,0,a,UU _ rfl⟩
def Inv.fresh(I:Inv X pins σ H s):H s.heap.objs.size=ae:=I.aL.fresh<|Uc _
def Inv.j6(I:Inv X pins σ H s)(c:H l=aa (.lst xs)):xs.length<=sizeLine/\∃(a:List ah) (n:Nat),Vals xs a/\xs.length=a.length/\s.heap.get? l=aa {cls:=.type "list",data:=.seq a.toArray n}:=by obtain⟨z,a,n,r,e⟩:=I.aL l _ c;exact⟨z,a,n,r,r.length,e⟩
def yP(h:n<=sizeLine):Builtin.List.listTooLong n=ag:=by unfold Builtin.List.listTooLong;exact Uy<|by omega
end
section
variable{X:Cx}
noncomputable def He:V->List V->Hp->VK->Prop:=λx b H Q=>∃l a y,x=.ref l/\b=[y]/\H l=aa (.lst a)/\a.length<sizeLine/\Q .aA (upd H l<|.lst<|a++[y])
def Ea:we X "list.append" He:=by intro b s p H x o v i Q I d f h;obtain⟨l,j,y,rfl,rfl,c,k,q⟩:=h;cases d;obtain⟨u,rfl,g⟩:=f.one;obtain⟨z,a,n,r,m,e⟩:=I.j6 c;refine VP W8 ⟨_,e,rfl⟩ F.entry_list_append (F.args_list_append_2 _ _) (PySem.list_append l a.toArray n u (by rw[Ul];omega)) ⟨e,?_⟩;refine⟨.aA,_,I.ri c e (by simp) (r.append<|.cons g .nil) ?_,rfl,q⟩;rw[Us,WB];omega
noncomputable def Hf:V->List V->Hp->VK->Prop:=λx d H Q=>∃l b c a,x=.ref l/\d=[.ref b]/\H l=aa (.lst c)/\H b=aa (.lst a)/\c.length+a.length<=sizeLine/\Q .aA (upd H l<|.lst<|c++a)
def Eb:we X "list.extend" Hf:=by
 intro g s K H x J v B Q I j p h;obtain⟨l,b,C,A,rfl,rfl,i,m,D,q⟩:=h;cases j;obtain⟨u,rfl,t⟩:=p.one;cases t;obtain⟨z,c,n,r,G,e⟩:=I.j6 i;obtain⟨E,a,o,w,y,k⟩:=I.j6 m;have f:c.toArray.size+a.toArray.size<=sizeLine:=by rw[Ul,Ul];omega
 have d:¬(!c.toArray.isEmpty&&Builtin.List.listTooLong (c.toArray.size+a.toArray.size))=af:=by rw[yP f,VQ];exact Uq
 refine VP W9 ⟨_,e,rfl⟩ F.entry_list_extend (F.args_list_extend_2 _ _) (AutoSeq1.list_extend_list_list_0 l c.toArray n b a.toArray o d (by rw[Ul];omega)<|by omega) ⟨e,k,?_⟩
 refine⟨.aA,_,I.ri i e (by simp) (r.append w) ?_,rfl,q⟩;rw[Us];omega
noncomputable def MM:V->List V->Hp->VK->Prop:=λx b H Q=>∃l a y,x=.ref l/\b=[]/\H l=aa (.lst a)/\a[a.length-1]? =aa y/\Q y (upd H l<|.lst a.dropLast)
def JD:we X "list.pop" MM:=by
 intro d s A H x w v p Q I i k h;obtain⟨l,t,y,rfl,rfl,f,m,q⟩:=h;cases i;have b:=k.zero;subst b;obtain⟨z,a,n,r,j,e⟩:=I.j6 f;obtain⟨u,g,o⟩:=r.get m;have c:=by show a.toArray[a.length-1]? =aa u;rw[<-XN,<-j];exact g
 refine VP F.slot_list_pop ⟨_,e,rfl⟩ F.entry_list_pop (F.args_list_pop_1 _) (MeetsSeq.list_pop_last l a.toArray n u c (by rw[Ul];omega)) ⟨e,?_⟩;refine⟨y,_,I.ri f e ?_ r.dropLast ?_,o,q⟩
 ·show a.toArray.eraseIdxIfInBounds (a.toArray.size-1)=a.dropLast.toArray;rw[Ul,List.eraseIdxIfInBounds_toArray,DG]
 ·rw[List.length_dropLast];omega
noncomputable def MN:R2:=λx y H Q=>∃l b c a,x=.ref l/\y=.ref b/\H l=aa (.lst c)/\H b=aa (.lst a)/\c.length+a.length<=sizeLine/\∀p,H p=ae->Q (.ref p) (upd H p<|.lst<|c++a)
def JE:b9 X (binaryOp .Add) MN:=by
 intro d s E H x y v u Q I f m h;obtain⟨l,b,w,t,rfl,rfl,k,j,A,q⟩:=h;cases f;cases m;obtain⟨z,c,n,r,C,e⟩:=I.j6 k;obtain⟨B,a,D,o,p,i⟩:=I.j6 j;refine PySem.P.add_list e i ?_ (by rw[Ul,Ul];omega);have g:c.toArray++a.toArray=(c++a).toArray:=by simp
 rw[g];exact⟨.ref _,_,I.ML (r.append o) (by rw[Us];omega),rfl,q _ I.fresh⟩
end
section
variable{prog:Program}{w:World}{A:Around}{E:ah->Shared->Prop}{s:Shared}
set_option maxRecDepth 100000 in
end
section
variable{X:Cx}
end
end L2
namespace BV
open PySem PySem.W PySem.Calls PyProof.Rows
def C3{h:Heap}:∀(c) (vs),WellAll P h vs (c.map WData.int)->IntsAre vs c:=by
 intro c;induction c with
 |nil=>intro vs w;rw[Vo] at w;cases w;exact .nil
 |cons n c d=>
  intro vs w;rw[Ux] at w;cases w with
  |cons a b=>cases a;exact .cons _ _<|d _ b
def Ec{l:OpenLaw}{n:Nat}(w:l.most=aa n){P:Params}{h:Heap}{args:List WData}{c:List ah}(b:l.row.toRowW.claim.pre args=af)(k:WellAll P h c args):
 ∃a vs e,c=[Value.ref a]/\args=[WData.list<|e.map WData.int]/\h.get? a=aa {cls:=.type "list",data:=.seq vs.toArray}/\IntsAre vs e/\e.length<=n:=by
 have m:=(pre_splitW b).1;have o:l.pre.holds [] {args:=args}=af:=(pre_splitW b).2;obtain⟨d,r,rfl,p,v⟩:=hasAllW_cons m;obtain rfl:=hasAllW_nil v;obtain⟨y,rfl,h3⟩:=hasW_list p;obtain⟨e,rfl⟩:=items_int h3;have f:e.length<=n:=by
  unfold OpenLaw.pre at o;have i:=by have i:=(holds_andW o).1;rw[w] at i;exact i
  have j:=condW_of i<|w_not<|w_lt w_lit<|w_len_list<|w_arg rfl;rw[Ua] at j;refine V4 λq=>?_
  first
   |(rw[UR x] at j;exact absurd j<|by decide)
   |(simp at j;omega)
 cases k with
 |cons t s=>
  cases s;cases t with
  |list u g=>exact⟨_,_,e,rfl,rfl,u,C3 e _ g,f⟩
def Ed(l:OpenLaw)(args):l.row.toRowW.claim.post args (.bool af) args=af:=
 postW_of (show WShape.has [] (.bool af) .bool=af by first|rfl|decide|simp[WShape.has]) (w_eq_bool (w_res rfl) w_lit) rfl
def Dj{l:OpenLaw}{n:Nat}{q:Program}{c:List Str}{C:(Str->Option ah)->Heap->Prop}{B:World->Heap->Prop}{d:DefRec}(P:l.most=aa n)(z:d.params.defaults=[])(call:∀(w) (dn b) (s x) (k) (o) (v m e) (a) (vs) (t),
  Ground q c [] C w dn s x b.heap->B w b.heap->
  b.heap.get? k=aa o->o.data=.func (docDef d.name d.params d.body d.scope v m e)->b.heap.CodeRec m d.name->s d.name=aa (.ref k)->
  b.heap.get? a=aa {cls:=.type "list",data:=.seq vs.toArray}->IntsAre vs t->t.length<=n->b.gens= #[]->
  codeAny (model l.prog w) callerA (.call (.ref k) ⟨[.ref a],[]⟩) (λr p=>r=.ok (.ret (.bool af))/\OldK b.heap p.heap/\p.os=b.os/\AllBare p.gens) b):
 WalkO q c C B l.row.toRowW d [] (λf vs=>PySem.call f vs):=by
 intro w dn b s x G Y k o v m e J kV L H A E u M args F S h D I y Q;obtain rfl:J=.none:=Dflts.none E z;obtain rfl:kV=.none:=Dflts.noKw E;obtain⟨a,vs,t,rfl,rfl,j,g,i⟩:=Ec P h y;refine enter_call<|Wx (call w dn b s x k o v m e a vs t G Y L (fd_plain H) A u j g i M) λr p K=>?_
 obtain⟨rfl,N,h3,O⟩:=K;exact⟨.inl ⟨.bool af,.bool af,[],rfl,λ_=>rfl,.bool af,Ed l _,λ_=>⟨List.Pairwise.nil,λ_ R=>(nomatch R)⟩⟩,N,h3,O⟩
section
variable{prog:Program}{w:World}{A:Around}{E:ah->Shared->Prop}{s:Shared}{K:Frag}
end
end BV
namespace L2
open PySem PySem.Spec PyProof.Rows
theorem x_:∀{vs:List ah} {a:List Int},IntsAre vs a->Vals (a.map V.int) vs
 |_,_,.nil=>.nil
 |_,_,.cons n t h=>.cons ⟨t,rfl⟩<|x_ h
noncomputable def inClass(s:Stmt)(j:Nat):Stmt:=match s with
 |.ClassDef _ _ _ body _ _ _ _ _ _ _=>body.getD j<|.Pass ⟨0,0,0,0⟩
 |_=>.Pass ⟨0,0,0,0⟩
noncomputable def kI(s:Stmt):Arguments:=match s with
 |.FunctionDef _ a _ _ _ _ _ _ _ _=>a
 |_=>{posonlyargs:=[],args:=[],vararg:=ae,kwonlyargs:=[],kw_defaults:=[],kwarg:=ae,defaults:=[]}
noncomputable def gC(s:Stmt):List Stmt:=match s with
 |.FunctionDef _ _ b _ _ _ _ _ _ _=>b
 |_=>[]
noncomputable def cY(s:Stmt):Scope:=match s with
 |.FunctionDef _ _ _ _ _ _ sc _ _ _=>sc
 |_=>{kind:=.function,names:=[],isGenerator:=ag,isCoroutine:=ag}
noncomputable abbrev fD:ir:=λ_ _ _ _ _ _=>False
noncomputable abbrev E0:XK:=λ_ _ _=>False
def qX:Passes fD X E0:=λ_ _ _ _ _ _ _ h=>h.elim
structure iZ(K:PySem.W.Frag)(x qual:Str)(st:Stmt)(f:Addr)(fd:FuncData):Prop where
 ex:∃(oc:ah) (od:Option Addr) (kV doc pm:ah) (an:Option Addr) (wh ct:ah) (NJ:Array<|Option ah),
  fd=PySem.W.fnOf x qual (kI st) (gC st) (cY st) .none kV doc pm an wh ct/\K.lookup f=aa ⟨oc,od,.func fd,NJ⟩/\PySem.W.codeIn K wh qual=af
 kp:PySem.W.keepIn K (.ref f)=af
section
variable{P:Program}{w:World}{K:PySem.W.Frag}{mg:Str->Option ah}{base:Heap}
def iZ.ok{st:Stmt}{f:Addr}{i:FuncData}{N d:List Str}{k:Nat}{sp:Sp}(F:iZ K x qual st f i)(S:ja N d<|cY st)(c:∀vs H Q E,sp vs H Q E->vs.length=d.length)(b:∀(a) (A) (outer) (s) (H) (vs) (Q) (E),bY k (A.deeper<|envOfC qual (cY st) s.heap.objs.size f a)->sp vs H Q E->
  ∃t,fU (iS fD P w K mg base N qual (cY st) f a A outer s H E).iX (gC st) t/\t {nx:=λ_ n=>Q .aA n,rt:=Q} (start N vs) H):eG P w K mg base fD (k+1) f i d sp:=by
 obtain⟨r,u,kV,m,p,o,a,ct,l,rfl,lk,g⟩:=F.ex;refine A8 lk g S c λA outer s H vs Q E j e=>?_
 obtain⟨t,h,q⟩:=b a A outer s H vs Q E j e;exact⟨t,h.iX,q⟩
def iZ.binds{st:Stmt}{f:Addr}{i:FuncData}{c:List Str}(F:iZ K x qual st f i)(h:∀(kV a e) (d) (b ct) (g),g.length=c.length->bindArgs (PySem.W.fnOf x qual (kI st) (gC st) (cY st) .none kV a e d b ct) ⟨g,[]⟩=pure (c.zip g)):Binds K i c []:=by obtain⟨l,m,kV,a,e,d,b,ct,j,rfl,lk,k⟩:=F.ex;exact .all<|h kV a e d b ct
def AD{st:Stmt}{f:Addr}{h:ah}{i e:Option Addr}{d:Array (Option ah)}{kV b g a ct:ah}(l:K.lookup f=aa ⟨h,i,.func<|PySem.W.fnOf x qual (kI st) (gC st) (cY st) .none kV b g e a ct,d⟩)(c:PySem.W.codeIn K a qual=af)(k:PySem.W.keepIn K (.ref f)=af):iZ K x qual st f (PySem.W.fnOf x qual (kI st) (gC st) (cY st) .none kV b g e a ct):=⟨⟨h,i,kV,b,g,e,a,ct,d,rfl,l,c⟩,k⟩
end
def vA{k:Nat}(a:bY k A):A.units+1<cLine:=Nat.lt_of_le_of_lt (Nat.add_le_add_left (by decide) _) a.units
section
variable{X:Cx}
def pv(i){x:Str}{pos:Pos}(b:X.N[i]? =aa x:=by rfl)(d:o7 X.env.scope x:=by first|exact Or.inl rfl|exact Or.inr (Or.inl rfl)|exact Or.inr<|Or.inr rfl)(c:(x==("__debug__":Str))=ag:=by decide)(a:(x==("__classdict__":Str))=ag:=by decide):PE X (.Name x pos) (vK i):=mx b d c a
end
section
variable{κ:Type}[DecidableEq κ]
noncomputable def cM(kvs:List<|κ×V)(k:κ):Option V:=(kvs.find? λa=>ai<|a.1=k).map (·.2)
noncomputable def putK(kvs:List<|κ×V)(k:κ)(v:V):List (κ×V):=
 if(kvs.any λa=>ai<|a.1=k)=af then kvs.map (λa=>if a.1=k then(a.1,v) else a) else kvs++[(k,v)]
noncomputable def j0(kvs:List<|κ×V)(k:κ):List (κ×V):=kvs.filter λa=>ai<|a.1≠k
def n8{p:κ×V}{r:List (κ×V)}{k:κ}(e:p.1=k):cM (p::r) k=aa p.2:=by simp[cM,VI,e]
def n9{p:κ×V}{r:List (κ×V)}{k:κ}(e:¬p.1=k):cM (p::r) k=cM r k:=by simp[cM,VI,e]
theorem uo(k:κ):∀kvs:List (κ×V),(kvs.any λkv=>ai<|kv.1=k)=(cM kvs k).isSome
 |[]=>rfl
 |p::r=>by
  rw[U3];by_cases e:p.1=k
  ·simp only[n8 e,UR e,VR,W_]
  ·rw[n9 e,Uy e,Vs];exact uo k r
def tW(kvs:List<|κ×V)(k:κ)(v:V):(putK kvs k v).length<=kvs.length+1:=by
 unfold putK;split
 ·rw[Ua];omega
 ·rw[Us,UO,Vt];omega
def d0.pZ{o:Option V}{u:Option ah}(r:d0 o u):o.isSome=u.isSome:=by
 cases o with
 |none=>cases u with
  |none=>rfl
  |some _=>exact(show False from r).elim
 |some _=>cases u with
  |none=>exact(show False from r).elim
  |some _=>rfl
def d0.getD{o:Option V}{u:Option ah}{d:V}{d':ah}(r:d0 o u)(a:RelV d d'):RelV (o.getD d) (u.getD d'):=by
 cases o with
 |none=>cases u with
  |none=>exact a
  |some _=>exact(show False from r).elim
 |some _=>cases u with
  |none=>exact(show False from r).elim
  |some _=>exact r
def KV.val{kvs:List (κ×V)}{vs:List (κ×ah)}(r:KV kvs vs)(k:κ):d0 (cM kvs k) (valueAt vs k):=by
 unfold KV at r;induction r with
 |nil=>exact True.intro
 | @cons p q i c h t g=>
   obtain⟨d,f⟩:=h;by_cases e:p.1=k
   ·have a:q.1=k:=d.symm.trans e;have b:valueAt (q::c) k=aa q.2:=by simp[valueAt,VI,a]
    rw[n8 e,b];exact f
   ·have a:¬q.1=k:=λz=>e (d.trans z)
    have b:valueAt (q::c) k=valueAt c k:=by simp[valueAt,VI,a]
    rw[n9 e,b];exact g
def KV.any{kvs:List (κ×V)}{vs:List (κ×ah)}(r:KV kvs vs)(k:κ):(kvs.any λkv=>ai<|kv.1=k)=vs.any λkv=>ai (kv.1=k):=by
 unfold KV at r;induction r with
 |nil=>rfl
 |cons h t a=>rw[U3,U3,a,h.1]
def KV.oW{kvs:List (κ×V)}{vs:List (κ×ah)}(r:KV kvs vs)(k:κ){y:V}{u:ah}(b:RelV y u):
 KV (kvs.map λkv=>if kv.1=k then(kv.1,y) else kv) (vs.map λkv=>if kv.1=k then(kv.1,u) else kv):=by
 unfold KV at r⊢;induction r with
 |nil=>exact .nil
 | @cons p q f g h t d=>
   rw[Ux,Ux];refine .cons ?_ d;obtain⟨a,c⟩:=h;by_cases e:p.1=k
   ·rw[T5 e,T5<|a.symm.trans e];exact⟨a,b⟩
   ·rw[T6 e,T6<|λz=>e<|a.trans z];exact⟨a,c⟩
def KV.put{kvs:List (κ×V)}{vs:List (κ×ah)}(r:KV kvs vs)(k:κ){y:V}{u:ah}(a:RelV y u):KV (putK kvs k y) (stored vs k u):=by
 unfold putK stored;rw[r.any k];by_cases e:(vs.any λb=>ai<|b.1=k)=af
 ·rw[T5 e,T5 e];exact r.oW k a
 ·rw[T6 e,T6 e];exact Paired.snoc r ⟨rfl,a⟩
def KV.drop{kvs:List (κ×V)}{vs:List (κ×ah)}(r:KV kvs vs)(k:κ):KV (j0 kvs k) (without vs k):=by
 unfold KV at r⊢;unfold j0 without;induction r with
 |nil=>exact .nil
 | @cons p q i j h t d=>
   obtain⟨c,g⟩:=h;rw[Vu,Vu];by_cases e:p.1=k
   ·have a:¬ai (p.1≠k)=af:=by simp[e]
    have b:¬ai (q.1≠k)=af:=by simp[c.symm.trans e]
    rw[T6 a,T6 b];exact d
   ·have f:¬q.1=k:=λz=>e (c.trans z)
    have a:ai (p.1≠k)=af:=by simp[e]
    have b:ai (q.1≠k)=af:=by simp[f]
    rw[T5 a,T5 b];exact .cons ⟨c,g⟩ d
def KV.length{kvs:List (κ×V)}{vs:List (κ×ah)}(r:KV kvs vs):kvs.length=vs.length:=VD r
def yQ(kvs:List<|κ×V)(k:κ):(j0 kvs k).length<=kvs.length:=Vb _ _
end
def j1{P:Program}{w:World}{k:Key}{u:ah}(r:RelV (kV k) u):(dk P w).is k u=af:=by
 cases k with
 |inl i=>obtain⟨t,e⟩:=(show∃t,u=Value.int i t from r);subst e;exact Dh P w i t
 |inr x=>obtain⟨t,e⟩:=(show∃t,u=Value.str x t from r);subst e;exact Di P w x t
theorem ya{P:Program}{w:World}:∀{a:List Key} {b:List ah},Vals (a.map kV) b->ItemsAre (dk P w) a b
 |[],_,r=>by rw[Vo] at r;cases r;exact .nil
 |k::a,_,r=>by
  rw[Ux] at r;cases r with
  |cons h t=>exact .cons (j1 h)<|ya t
noncomputable abbrev KT(H:Hp):List (List Key×V)->List (List Key×Addr×ah)->Prop:=Paired λp q=>p.1=q.1/\H q.2.1=aa (.tup<|p.1.map kV)/\RelV p.2 q.2.2
def KT.val{H:Hp}{kvs:List (List Key×V)}{xs:List (List Key×Addr×ah)}(r:KT H kvs xs)(k:List Key):d0 (cM kvs k) ((atKey xs k).map (·.2)):=by
 induction r with
 |nil=>exact True.intro
 | @cons p q i c h t g=>
   obtain⟨d,_,f⟩:=h;by_cases e:p.1=k
   ·have a:q.1=k:=d.symm.trans e;have b:atKey (q::c) k=aa q.2:=by simp[atKey,VI,a]
    rw[n8 e,b];exact f
   ·have a:¬q.1=k:=λz=>e (d.trans z)
    have b:atKey (q::c) k=atKey c k:=by simp[atKey,VI,a]
    rw[n9 e,b];exact g
def KT.oW{H:Hp}{kvs:List (List Key×V)}{xs:List (List Key×Addr×ah)}(r:KT H kvs xs)(k:List Key){y:V}{u:ah}(c:RelV y u):
 KT H (kvs.map λkv=>if kv.1=k then(kv.1,y) else kv) (xs.map<|putAt k u):=by
 induction r with
 |nil=>exact .nil
 | @cons p q f g h t d=>
   rw[Ux,Ux];refine .cons ?_ d;obtain⟨a,b,h3⟩:=h;unfold putAt;by_cases e:p.1=k
   ·rw[T5 e,T5<|a.symm.trans e];exact⟨a,b,c⟩
   ·rw[T6 e,T6<|λz=>e<|a.trans z];exact⟨a,b,h3⟩
def KT.put{H:Hp}{kvs:List (List Key×V)}{xs:List (List Key×Addr×ah)}(r:KT H kvs xs)(k:List Key){b:Addr}{y:V}{u:ah}(d:H b=aa (.tup<|k.map kV))(a:RelV y u):
 KT H (putK kvs k y) (storedH xs k b u):=by
 have e:(kvs.any λc=>ai<|c.1=k)=(atKey xs k).isSome:=by rw[uo,(r.val k).pZ,W']
 unfold putK storedH;rw[e];by_cases q:(atKey xs k).isSome=af
 ·rw[T5 q,T5 q];exact r.oW k a
 ·rw[T6 q,T6 q];exact Paired.snoc r ⟨rfl,d,a⟩
def KT.keeps{H a:Hp}{kvs:List (List Key×V)}{xs:List (List Key×Addr×ah)}(r:KT H kvs xs)(c:∀b ys,H b=aa (.tup ys)->a b=aa (.tup ys)):KT a kvs xs:=
 Paired.vJ r λ_ _ z=>⟨z.1,c _ _ z.2.1,z.2.2⟩
section
variable{P:Program}{w:World}{H:Hp}{h:Heap}{a:Addr}
def A9{u:HO}(ok:cp P w H h)(e:Rd H a u):dA P w H h a u:=e.ok ok
def mB{kvs:List (Key×V)}(ok:cp P w H h)(e:Rd H a<|.dK kvs):kvs.length<=sizeLine/\(a==sysModules)=ag/\∃vs,KV kvs vs/\h.DictOf (dk P w) a vs:=
 show dA P w H h a (.dK kvs) from A9 ok e
def oJ{kvs:List (Key×V)}(ok:cp P w H h)(e:H a=aa (.dK kvs)):kvs.length<=sizeLine/\(a==sysModules)=ag/\∃vs,KV kvs vs/\h.DictOf (dk P w) a vs:=mB ok<|.inl e
def oE{b:List Key}(ok:cp P w H h)(e:H a=aa (.tup<|b.map kV)):(tupleKind<|dk P w).is h b a:=by obtain⟨_,c,r,o,d,f,n,h3⟩:=(show dA P w H h a (.tup<|b.map kV) from ok a _ e);exact⟨o,c.toArray,n,d,f,h3,by simpa using ya r⟩
def mD{kvs:List (List Key×V)}(ok:cp P w H h)(e:Rd H a<|.dT kvs):kvs.length<=sizeLine/\(a==sysModules)=ag/\
 ∃xs,KT H kvs xs/\h.DictOfH (tupleKind<|dk P w) a xs:=by
 obtain⟨z,y,xs,r,o,g,i,f,j,h3,k,s⟩:=(show dA P w H h a (.dT kvs) from A9 ok e);refine⟨z,y,xs,r,o,g,i,f,j,h3,k,λx b=>?_,s⟩;have c:∀{l:List (List Key×V)} {m:List (List Key×Addr×ah)},KT H l m->∀x∈m,(tupleKind<|dk P w).is h x.1 x.2.1:=by
  intro l m q;induction q with
  |nil=>intro x b;exact nomatch b
  | @cons p q v u d t n=>
    intro x b;rcases T7.mp b with e|b
    ·subst e;exact oE ok (by rw[<-d.1];exact d.2.1)
    ·exact n x b
 exact c r x b
def LN{kvs:List (List Key×V)}(ok:cp P w H h)(e:H a=aa (.dT kvs)):kvs.length<=sizeLine/\(a==sysModules)=ag/\
 ∃xs,KT H kvs xs/\h.DictOfH (tupleKind<|dk P w) a xs:=mD ok<|.inl e
end
noncomputable def fy(H:Hp)(a:Addr)(y:V)(r:Option V):Prop:=
 (∃c k,Rd H a (.dK c)/\y=kV k/\r=cM c k)\/∃c k b,Rd H a (.dT c)/\y=.ref b/\H b=aa (.tup<|k.map kV)/\r=cM c k
noncomputable def oX(H:Hp)(a:Addr)(y v:V)(d:Hp):Prop:=
 (∃c k,H a=aa (.dK c)/\y=kV k/\c.length<sizeLine/\d=upd H a (.dK<|putK c k v))\/
 ∃c k b,H a=aa (.dT c)/\y=.ref b/\H b=aa (.tup<|k.map kV)/\c.length<sizeLine/\d=upd H a (.dT<|putK c k v)
def fy.k{H:Hp}{a:Addr}{kvs:List (Key×V)}{k:Key}(e:H a=aa (.dK kvs)):fy H a (kV k) (cM kvs k):=.inl ⟨kvs,k,.inl e,rfl,rfl⟩
def oX.k{H:Hp}{a:Addr}{kvs:List (Key×V)}{k:Key}{v:V}(e:H a=aa (.dK kvs))(b:kvs.length<sizeLine):oX H a (kV k) v (upd H a<|.dK<|putK kvs k v):=.inl ⟨kvs,k,e,rfl,b,rfl⟩
section
variable{X:Cx}{pins:List (Addr×Obj)}{σ:St}{H:Hp}{s:Shared}{a:Addr}{y v:V}{u r:ah}{o:Option V}{A:Around}{E:ah->Shared->Prop}
def Inv.big(I:Inv X pins σ H s):sysModules<s.heap.objs.size:=by have h:mainGlobals<s.heap.objs.size:=(I.mod.glob.keeps I.bk).lt;exact Nat.lt_trans (by decide) h
def Ee{Q:ah->Shared->Prop}(C:A.units+1<cLine)(I:Inv X pins σ H s)(g:fy H a y<|aa v)(x:RelV y u)(h:∀f t,Inv X pins σ H t->RelV v f->Q f t):
 wpAny (model X.prog X.w) A (getItem (.ref a) u) Q E s:=by
 rcases g with⟨i,k,e,n,l⟩|⟨i,k,b,e,n,eb,l⟩
 ·subst n;obtain⟨z,B,G,c,j⟩:=mB I.aL e;obtain⟨f,q,d⟩:=d0.some_of (v:=v) (o:=valueAt G k) (by rw[l];exact c.val k);exact wpAny_getItem_of (j1 x) j.mapOf q<|h f _ (I.tok _) d
 ·subst n;cases(show u=Value.ref b from x);obtain⟨z,B,D,c,j⟩:=mD I.aL e;obtain⟨f,q,d⟩:=d0.some_of (v:=v) (o:=(atKey D k).map (·.2)) (by rw[l];exact c.val k);obtain⟨p,F,m⟩:=XO.mp q;refine wpAny_getItem_heap (WC C) (oE I.aL eb) j F ?_;rw[m];exact h f _ (I.tok _) d
def Hg{Q:ah->Shared->Prop}(p:A.units+1<cLine)(I:Inv X pins σ H s)(g:fy H a y o)(m:RelV y u)(h:∀n,Inv X pins σ H n->Q (.bool<|!o.isSome) n):
 wpAny (model X.prog X.w) A (compareOp .NotIn u<|.ref a) Q E s:=by
 rcases g with⟨i,k,e,f,l⟩|⟨i,k,b,e,f,eb,l⟩
 ·subst f;obtain⟨z,d,t,c,j⟩:=mB I.aL e;refine wpAny_notIn_of (j1 m) d j.mapOf ?_;rw[<-(c.val k).pZ,<-l];exact h _<|I.tok _
 ·subst f;cases(show u=Value.ref b from m);obtain⟨z,d,x,c,j⟩:=mD I.aL e;refine wpAny_notIn_heap (WC p) (oE I.aL eb) d j ?_;have q:=(c.val k).pZ;rw[W'] at q;rw[<-q,<-l];exact h _<|I.tok _
def oA{h':Heap}{t':Nat}{d:HO}(I:Inv X pins σ H s)(i:o6<|H a)(g:Heap.SameBut a s.heap h')(f:∃q,h'.get? a=aa q)(c:dA X.prog X.w (upd H a d) h' a d):
 Inv X pins σ (upd H a d) {s with heap:=h',toks:=t'}:=
 I.write (x:=a) (e:=a) i (.inl rfl) (λb q h z=>(g.2 b h).trans z) f c
def qJ{P:Program}{w:World}{e:Hp}{h':Heap}{kvs:List (Key×V)}{vs:List (Key×ah)}(z:kvs.length<=sizeLine)(d:(a==sysModules)=ag)(b:KV kvs vs)(c:h'.DictOf (dk P w) a vs):
 dA P w e h' a (.dK kvs):=⟨z,d,vs,b,c⟩
def Ef{F:Hp}{Q:Unit->Shared->Prop}(M:A.units+1<cLine)(I:Inv X pins σ H s)(g:oX H a y v F)(K:RelV y u)(J:RelV v r)(h:∀D,Inv X pins σ F D->Q () D):
 wpAny (model X.prog X.w) A (setItem (.ref a) u r) Q E s:=by
 rcases g with⟨d,k,e,B,l,C⟩|⟨d,k,b,e,B,eb,l,C⟩
 ·subst B C;obtain⟨z,m,S,f,n⟩:=oJ I.aL e;have t:S.length<=sizeLine:=by rw[<-f.length];exact z
  have x:(putK d k v).length<=sizeLine:=by have:=tW d k v;omega
  refine wpAny_setItem_pairs (hsz:=t) (j1 K) n λG i p=>h _ ?_
  have O:∃q,G.get? a=aa q:=let⟨q,_,_,j,_⟩:=i;⟨q,j⟩
  exact oA I (by rw[e];exact True.intro) p O<|qJ x m (f.put k J) i
 ·subst B C;cases(show u=Value.ref b from K);obtain⟨z,m,P,f,n⟩:=LN I.aL e;have t:P.length<=sizeLine:=by rw[<-VD f];exact z
  have x:(putK d k v).length<=sizeLine:=by have:=tW d k v;omega
  refine wpAny_setItem_heap (hsz:=t) (WC M) (oE I.aL eb) n λG i p=>h _ ?_
  obtain⟨q,L,N,j,R,h3,T,_,U⟩:=i;refine oA I (by rw[e];exact True.intro) p ⟨q,j⟩ ⟨x,m,_,(f.put k eb J).keeps λc W ec=>?_,q,L,N,j,R,h3,T,U⟩;rw[aS<|Lf ec e<|λz=>nomatch z];exact ec
end
section
variable{X:Cx}{pins:List (Addr×Obj)}{σ:St}{H:Hp}{s:Shared}{a:Addr}{kvs:List (Key×V)}{k:Key}{u:ah}{A:Around}{E:ah->Shared->Prop}
def RB{Q:Unit->Shared->Prop}(I:Inv X pins σ H s)(e:H a=aa (.dK kvs))(o:RelV (kV k) u)(l:(cM kvs k).isSome=af)(h:∀f,Inv X pins σ (upd H a<|.dK<|j0 kvs k) f->Q () f):
 wpAny (model X.prog X.w) A (delItem (.ref a) u) Q E s:=by
 obtain⟨z,g,p,b,d⟩:=oJ I.aL e;refine wpAny_delItem_slot d.typeIs (by decide) XP (V5 XP d.typeIs PySem.F.entry_dict_delitem (PySem.F.args_dict_delitem_2 _ _) (meets_dict_delitem_pairs (dk X.prog X.w) a<|j1 o) ⟨p,d,by rw[<-b.length];exact z,by rw[<-(b.val k).pZ];exact l,λn c m=>h _ ?_⟩)
 have j:∃q,n.get? a=aa q:=let⟨q,_,_,i,_⟩:=c;⟨q,i⟩
 exact oA I (by rw[e];exact True.intro) m j<|qJ (Uh (yQ kvs k) z) g (b.drop k) c
def LO{v:V}{b:List ah}{Q:ah->Shared->Prop}(I:Inv X pins σ H s)(e:H a=aa (.dK kvs))(j:RelV (kV k) u)(l:cM kvs k=aa v)(r:b=[]\/∃x,b=[x])(h:∀d n,Inv X pins σ (upd H a<|.dK<|j0 kvs k) n->RelV v d->Q d n):wpAny (model X.prog X.w) A (call (.builtin "dict.pop")<|.ref a::u::b) Q E s:=by
 obtain⟨z,y,p,c,m⟩:=oJ I.aL e;obtain⟨d,L,g⟩:=d0.some_of (v:=v) (o:=valueAt p k) (by rw[<-l];exact c.val k);have G:(keyPart u).isSome=af:=by
  cases k with
  |inl i=>obtain⟨t,q⟩:=(show∃t,u=Value.int i t from j);subst q;rfl
  |inr x=>obtain⟨t,q⟩:=(show∃t,u=Value.str x t from j);subst q;rfl
 have B:argsOk "dict.pop" ⟨.ref a::u::b,[]⟩:=by
  rcases r with q|⟨x,q⟩
  ·subst q;exact PySem.F.args_dict_pop_2 _ _
  ·subst q;exact PySem.F.args_dict_pop_3 _ _ _
 refine V5 XQ m.typeIs PySem.F.entry_dict_pop B (meets_dict_pop_there (dk X.prog X.w) a (j1 j) b r G)
  ⟨p,d,m,by rw[<-c.length];exact z,L,λK f D=>h d _ ?_ g⟩
 have C:∃q,K.get? a=aa q:=let⟨q,_,_,J,_⟩:=f;⟨q,J⟩
 exact oA I (by rw[e];exact True.intro) D C<|qJ (Uh (yQ kvs k) z) y (c.drop k) f
end
noncomputable def vP(i:Expr):Prop:=∀b a,subscripted i ag b a=operate [b,a] (getItem b a)
def Hh{prog:Program}{w:World}{A:Around}{E:ah->Shared->Prop}{s:Shared}{env:Env}{b a:Expr}{pos:Pos}{T p:String}{Q:ah->Shared->Prop}(m:typeLookup (.type T) "__getitem__"=pure (aa<|.builtin p))(n:vP a)(h:wpAny (model prog w) A (eval b env) (λo f=>wpAny (model prog w) A (eval a env) (λi c=>c.TypeIs o T/\wpAny (model prog w) A (getItem o i) Q E c) E f) E s):
 wpAny (model prog w) A (eval (.Subscript b a pos) env) Q E s:=by
 refine Subscript_<|UL h (λo f j=>UL j (λi c d=>?_) λ_ _ x=>x) λ_ _ x=>x
 obtain⟨l,d⟩:=d;unfold subscriptTail;refine T8 ?_;rw[getitemInPython_of_ne l.not_modules];refine T8<|wpAny_specialOf l m ?_;have g:wpAny (model prog w) A (subscripted a ag o i) (λr e=>wpAny (model prog w) A (letTemporaryGo b o r >>= λ_=>pure r) Q E e) E c:=by rw[n o i];exact wpAny_operating<|UL d (λr e k=>T8<|wpAny_letTemporaryGo<|Uk k) λ_ _ x=>x
 first
  |exact Uk<|T8 g
  |exact T8<|Uk<|T8 g
  |exact T8 g
def Dk{X:Cx}{pins:List (Addr×Obj)}{σ:St}{H:Hp}{s:Shared}{a:Addr}{y:V}{o:Option V}(I:Inv X pins σ H s)(g:fy H a y o):s.TypeIs (.ref a) "dict":=by
 rcases g with⟨c,k,e,_,_⟩|⟨c,k,b,e,_,_,_⟩
 ·obtain⟨_,_,f,_,d⟩:=mB I.aL e;exact d.typeIs
 ·obtain⟨_,_,h,_,d⟩:=mD I.aL e;exact d.typeIs
noncomputable def LP(e ty:TE):TE:=λc H Q=>e c H λx d=>ty c d λy b=>∃a v,x=.ref a/\fy b a y (aa v)/\Q v b
noncomputable def ia(g ty e:TE):TS:=λD b H=>e b H λv d=>g b d λx f=>ty b f λy h=>∃a c,x=.ref a/\oX h a y v c/\D.nx b c
section
variable{X:Cx}{o i e value:Expr}{pos pos' tpos:Pos}{td ty tv:TE}
def zL(k:X.A.units+1<cLine)(t:PE X o td)(r:PE X i ty)(m:vP i):PE X (.Subscript o i pos) (LP td ty):=by
 intro b s d H Q I h;refine Hh PySem.F.slot_dict_getitem.lookup m<|aQ (t b s d H _ I h) λu w ⟨x,q,n,l,j⟩=>aQ (r b w d q _ n j) λJ G ⟨y,z,f,B,a,v,ex,g,C⟩=>?_
 subst ex;obtain rfl:u=Value.ref a:=l;exact⟨Dk f g,Ee k f g B λD E p c=>⟨v,z,p,c,C⟩⟩
def Hi(f:X.A.units+1<cLine)(w:PE X o td)(t:PE X i ty)(G:PE X value tv)(k:swapsWith value (aa<|.Subscript o i pos') pos.line X.env=pure ag):
 PS X (.Assign [.Subscript o i pos'] value pos) (ia td ty tv):=by
 intro b s c H D I h;refine wpAny_Assign_Subscript (aQ (G b s c H _ I h) λr C ⟨v,p,m,z,d⟩=>aQ (w b C c p _ m d) λu l ⟨x,J,F,j,L⟩=>aQ (t b l c J _ F L) λP O ⟨y,N,n,K,a,q,ex,g,E⟩=>?_) k;subst ex;obtain rfl:u=Value.ref a:=j;exact Ef f n g K z λM B=>⟨c,q,B,E⟩
end
def Fq{P:Program}{w:World}{H:Hp}(h:Heap)(a:sysModules<h.objs.size):dA P w H (h.push {cls:=.type "dict",data:=.dict #[]}) h.objs.size (.dK []):=
 ⟨UX _,Vm.mpr<|Uz<|UI a,[],.nil,Heap.DictOf.new h⟩
noncomputable def JF:TE:=λ_ H Q=>∀p,H p=ae->Q (.ref p) (upd H p<|.dK [])
section
variable{X:Cx}{pos:Pos}
def yR:PE X (.Dict [] [] pos) JF:=λb s c H Q I h=>wpAny_Dict_empty ⟨.ref s.heap.objs.size,_,I.laid (a:=s.heap.objs.size) (o:=.dK []) (t':=s.toks) (λ_ _ q=>Uw _ q) (Uc _)<|Fq s.heap I.big,rfl,h _<|I.aL.fresh<|Uc _⟩
end
structure M1(X:Cx)(o:Expr)(m:Str)(apos:Pos)(e:Expr)(bF:Pos):Prop where
 base:attributeBase o m X.env (eval o X.env)=eval o X.env
 ju:((backTo bF<|starEach [e] X.env).all (λx=>!x.1)&&(backToKw bF<|keywordEach [] X.env).all (λx=>x.1.isSome)
  &&ai (([e]:List Expr).length+([]:List Keyword).length+(if([]:List Keyword).isEmpty then 0 else 1)<30))=af
 line:(apos.endLine==bF.line)=af
 trees:backTo bF (starEach [e] X.env)=[(ag,eval e X.env)]
structure M2(X:Cx)(o:Expr)(m:Str)(apos:Pos)(e f:Expr)(bF:Pos):Prop where
 base:attributeBase o m X.env (eval o X.env)=eval o X.env
 ju:((backTo bF<|starEach [e,f] X.env).all (λx=>!x.1)&&(backToKw bF<|keywordEach [] X.env).all (λx=>x.1.isSome)
  &&ai (([e,f]:List Expr).length+([]:List Keyword).length+(if([]:List Keyword).isEmpty then 0 else 1)<30))=af
 line:(apos.endLine==bF.line)=af
 trees:backTo bF (starEach [e,f] X.env)=[(ag,eval e X.env),(ag,eval f X.env)]
noncomputable def pf(H:Hp)(a:Addr):Prop:=(∃b,Rd H a<|.dK b)\/∃b,Rd H a (.dT b)
def qK{X:Cx}{pins:List (Addr×Obj)}{σ:St}{H:Hp}{s:Shared}{a:Addr}(I:Inv X pins σ H s)(d:pf H a):
 s.TypeIs (.ref a) "dict"/\(∀b,Value.ref a=.ref b->∃c,s.heap.get? b=aa c/\c.dict=ae)/\(a==sysModules)=ag:=by
 rcases d with⟨i,e⟩|⟨i,e⟩
 ·obtain⟨_,h,k,_,f⟩:=mB I.aL e;refine⟨f.typeIs,λb q=>?_,h⟩;cases q;obtain⟨c,_,_,g,j,_⟩:=f;exact⟨c,g,j.2.1⟩
 ·obtain⟨_,h,l,_,f⟩:=mD I.aL e;refine⟨f.typeIs,λb q=>?_,h⟩;cases q;obtain⟨c,_,_,g,j,_⟩:=f;exact⟨c,g,j.2.1⟩
section
variable{X:Cx}{pins:List (Addr×Obj)}{σ:St}{H:Hp}{s:Shared}{a:Addr}{y d:V}{u r:ah}{o:Option V}{A:Around}{E:ah->Shared->Prop}
def JG{Q:ah->Shared->Prop}(x:A.units+1<cLine)(I:Inv X pins σ H s)(g:fy H a y o)(p:RelV y u)(q:RelV d r)(h:∀n t,Inv X pins σ H t->RelV (o.getD d) n->Q n t):
 wpAny (model X.prog X.w) A (call (.builtin "dict.get") [.ref a,u,r]) Q E s:=by
 rcases g with⟨m,k,e,j,l⟩|⟨m,k,b,e,j,eb,l⟩
 ·subst j;obtain⟨z,i,B,c,f⟩:=mB I.aL e;refine V5 Xa f.typeIs XR (XS _ _ _) (meets_dict_get_default (dk X.prog X.w) a (j1 p) i r) ⟨_,f.mapOf,h _ _ (I.tok _) ?_⟩;rw[l];exact(c.val k).getD q
 ·subst j;cases(show u=Value.ref b from p);obtain⟨z,i,v,c,f⟩:=mD I.aL e;refine V5 Xa f.typeIs XR (XS _ _ _) (meetsH_dict_get_default (tupleKind<|dk X.prog X.w) a b i r) ⟨WC x,k,v,oE I.aL eb,f,h _ _ (I.tok _) ?_⟩;rw[l];exact(c.val k).getD q
end
noncomputable def JH(g ty f:TE):TE:=λb H Q=>g b H λx c=>∃a,x=.ref a/\pf c a/\ty b c λy e=>f b e λz d=>∃o,fy d a y o/\Q (o.getD z) d
noncomputable def JI(f ty:TE):TE:=λe H Q=>f e H λx c=>∃a,x=.ref a/\pf c a/\ty e c λy d=>∃b k v,d a=aa (.dK b)/\y=kV k/\cM b k=aa v/\Q v (upd d a<|.dK<|j0 b k)
section
variable{X:Cx}{o e f:Expr}{apos bF:Pos}{td ty tx:TE}
def Ft(n:X.A.units+1<cLine)(D:PE X o td)(t:PE X e ty)(k:PE X f tx)(m:M2 X o "get" apos e f bF):PE X (.Call (.Attribute o "get" apos) [e,f] [] bF) (JH td ty tx):=by
 intro b s c H Q I h;refine WD m.base m.ju m.line WE Xa PySem.F.type_dict_get<|aQ (D b s c H _ I h) λu G ⟨x,C,j,q,a,ex,d,l⟩=>?_
 subst ex;obtain rfl:u=Value.ref a:=q;obtain⟨r,N,_⟩:=qK j d;refine⟨r,N,?_⟩;rw[m.trees];refine V3 rfl (WA (V1 (aQ (t b G c C _ j l) λV w ⟨y,L,K,M,O⟩=>V1 (aQ (k b w c L _ K O) λU T ⟨z,p,B,v,S,g,J⟩=>Ww ?_))))
 exact JG n B g M v λP R E i=>⟨_,p,E,i,J⟩
def Fu(A:PE X o td)(q:PE X e ty)(m:M1 X o "pop" apos e bF):PE X (.Call (.Attribute o "pop" apos) [e] [] bF) (JI td ty):=by
 intro b s i H Q I h;refine WD m.base m.ju m.line WE XQ PySem.F.type_dict_pop<|aQ (A b s i H _ I h) λu B ⟨x,z,g,p,a,ex,d,j⟩=>?_
 subst ex;obtain rfl:u=Value.ref a:=p;obtain⟨J,G,_⟩:=qK g d;refine⟨J,G,?_⟩;rw[m.trees];refine V3 rfl<|WA<|V1<|aQ (q b B i z _ g j) λO M ⟨y,N,C,E,n,k,v,r,D,l,t⟩=>Ww ?_
 subst D;exact LO C r E l (.inl rfl) λK L w c=>⟨v,_,w,c,t⟩
end
section
variable{X:Cx}{pins:List (Addr×Obj)}{σ:St}{H:Hp}{s:Shared}{a:Addr}{kvs:List (Key×V)}{A:Around}{E:ah->Shared->Prop}
end
section
variable{X:Cx}{pins:List (Addr×Obj)}{σ:St}{H:Hp}{s:Shared}{a:Addr}{y:V}{u:ah}{A:Around}{E:ah->Shared->Prop}
end
end L2
set_option maxHeartbeats 4000000
namespace VM
inductive W where
 |aA
 |bl (b:Bool)
 |int (i:Int)
 |str (x:List Nat)
 |ref (a:Nat)
 deriving DecidableEq,Inhabited
inductive O where
 |lst (xs:List W)
 |a6 (xs:List W)
 |tup (xs:List W)
  |aG (kvs:List<|Int×W)
 |ins (c:List Nat) (fs:List<|List Nat×W)
 |dr (x:List Nat)
  |ba (g:Nat) (kvs:List<|Int×W)
 |bZ
  |eR (c:List Nat)
 deriving DecidableEq,Inhabited
noncomputable abbrev Mem:=List O
noncomputable abbrev St:=List<|Option W
inductive R(α:Type) where
 |ok (a:α) (M:Mem)
 |ex (v:W) (M:Mem)
 |bad
noncomputable def R.bind{b c:Type}:R b->(b->Mem->R c)->R c
 |.ok a M,f=>f a M
 |.ex v M,_=>.ex v M
 |.bad,_=>.bad
noncomputable def R.gL{a:Type}:R a->R a
 |.ex _ _=>.bad
 |r=>r
inductive RS where
 |nx (σ:St) (M:Mem)
 |rt (v:W) (M:Mem)
 |bk (σ:St) (M:Mem)
 |ct (σ:St) (M:Mem)
 |ex (v:W) (M:Mem)
 |bad
noncomputable def R.cz{b:Type}:R b->(b->Mem->RS)->RS
 |.ok a M,f=>f a M
 |.ex v M,_=>.ex v M
 |.bad,_=>.bad
noncomputable abbrev EM:=St->Mem->R W
noncomputable abbrev TM:=St->Mem->R Bool
noncomputable abbrev AM:=St->Mem->R (List W)
noncomputable abbrev SM:=St->Mem->RS
noncomputable abbrev GM:=W->St->Mem->R St
noncomputable abbrev d9:=W->W->Mem->R W
noncomputable abbrev CM:=List W->Mem->R W
noncomputable abbrev lim:Nat:=16777216
noncomputable def j2:Nat:=18446744073709551616
noncomputable def bb(xs:List W)(M:Mem):R W:=if xs.length<=lim then .ok (.ref M.length) (M++[.lst xs]) else .bad
noncomputable def gN(xs:List W)(M:Mem):R W:=if xs.length<=lim then .ok (.ref M.length) (M++[.tup xs]) else .bad
noncomputable def a8(M:Mem):W->Option (List W)
 |.ref a=>match M[a]? with
  |some (.lst xs)=>aa xs
  |some (.a6 xs)=>aa xs
  |_=>ae
 |_=>ae
noncomputable def cm(M:Mem):W->Option (List W)
 |.ref a=>match M[a]? with
  |some (.tup xs)=>aa xs
  |_=>ae
 |_=>ae
noncomputable def bu(M:Mem)(v:W):Option (List W):=match a8 M v with
 |some xs=>aa xs
 |none=>cm M v
noncomputable def bQ(M:Mem):W->Option (Nat×List W)
 |.ref a=>match M[a]? with
  |some (.lst xs)=>aa (a,xs)
  |_=>ae
 |_=>ae
noncomputable def aj(i:Nat):EM:=λa M=>match a[i]? with
 |some (aa v)=>.ok v M
 |_=>.bad
noncomputable def eC(v:W):EM:=λ_ M=>.ok v M
noncomputable def aq:AM:=λ_ M=>.ok [] M
noncomputable def ak(e:EM)(a:AM):AM:=λb M=>(e b M).bind λx M1=>(a b M1).bind λc M2=>.ok (x::c) M2
noncomputable def aR(a:AM):EM:=λb M=>(a b M).bind bb
noncomputable def bI(a:AM):EM:=λb M=>(a b M).bind gN
noncomputable def ao(f:d9)(a b:EM):EM:=λc M=>(a c M).bind λx M1=>(b c M1).bind λy M2=>f x y M2
noncomputable def bG:d9
 |.int i,.int j,M=>.ok (.int<|i+j) M
 |.ref a,.ref b,M=>match bQ M (.ref a),bQ M (.ref b) with
  |some (_,xs),aa (_,c)=>bb (xs++c) M
  |_,_=>.bad
 |_,_,_=>.bad
noncomputable def rj:d9
 |.int i,.int j,M=>.ok (.int<|i-j) M
 |_,_,_=>.bad
noncomputable def bL:d9
 |.int i,.int j,M=>if i.natAbs<j2\/j.natAbs<j2 then .ok (.int<|i*j) M else .bad
 |_,_,_=>.bad
noncomputable def oDiv:d9
 |.int i,.int j,M=>if 0<j/\j.natAbs<1073741824 then .ok (.int<|i / j) M else .bad
 |_,_,_=>.bad
noncomputable def oMod:d9
 |.int i,.int j,M=>if 0<j then .ok (.int<|i % j) M else .bad
 |_,_,_=>.bad
noncomputable def RU(a:EM):EM:=λb M=>(a b M).bind λx M1=>match x with
 |.int i=>.ok (.int (-i)) M1
 |_=>.bad
noncomputable def dh:W->W->Bool
 |.aA,.aA=>af|.aA,.int _=>af|.int _,.aA=>af|.aA,.bl _=>af|.bl _,.aA=>af|.aA,.str _=>af|.str _,.aA=>af
 |.int _,.int _=>af|.bl _,.bl _=>af|.str _,.str _=>af
 |.int _,.str _=>af|.str _,.int _=>af|.bl _,.str _=>af|.str _,.bl _=>af
 |_,_=>ag
noncomputable def flat:W->Bool
 |.ref _=>ag
 |_=>af
noncomputable def eK:W->W->Bool
 |.aA,.aA=>af
 |.bl a,.bl b=>a==b
 |.bl a,.int b=>(if a then 1 else 0)==b
 |.int a,.bl b=>a==(if b then 1 else 0)
 |.int a,.int b=>a==b
 |.str a,.str b=>a==b
 |_,_=>ag
noncomputable def fQ:List W->List W->Bool
 |[],[]=>af
 |x::xs,y::a=>eK x y&&fQ xs a
 |_,_=>ag
noncomputable def iK(xs ys:List W):Option Bool:=
 if xs.length≠ys.length then aa ag
 else if xs.all flat&&ys.all flat then aa (fQ xs ys) else ae
noncomputable def vB(xs ys:List W):Option Bool:=
 if xs.all flat&&ys.all flat then aa (fQ xs ys)
 else if xs.length=0\/ys.length=0 then aa (ai<|xs.length=ys.length) else ae
noncomputable def kY:W->Bool
 |.aA=>af
 |_=>ag
noncomputable def dt(M:Mem)(x y:W):Option Bool:=
 if dh x y then aa (ai<|x=y)
 else match a8 M x,a8 M y with
  |some xs,aa a=>iK xs a
  |_,_=>match cm M x,cm M y with
   |some xs,aa a=>vB xs a
   |_,_=>ae
noncomputable def vQ(M:Mem)(x y:W):Bool:=kY x&&(a8 M y).isSome
noncomputable def oEq:d9:=λx y M=>match dt M x y with
 |some b=>.ok (.bl b) M
 |none=>if vQ M x y then .ok (.bl ag) M else .bad
noncomputable def bp:d9:=λx y M=>match dt M x y with
 |some b=>.ok (.bl<|!b) M
 |none=>.bad
noncomputable def vR(p:Int->Int->Bool):d9
 |.int i,.int j,M=>.ok (.bl<|p i j) M
 |_,_,_=>.bad
noncomputable def oLt:d9:=vR λi j=>ai<|i<j
noncomputable def fV:d9:=vR λi j=>ai<|j<i
noncomputable def gR:d9:=vR λi j=>ai<|j<=i
noncomputable def RG(f g:d9)(a b c:EM):EM:=λd M=>(a d M).bind λx M1=>(b d M1).bind λy M2=>(f x y M2).bind λz e=>match z with
 |.bl k=>if k then(c d e).bind λw h=>g y w h else .ok (.bl ag) e
 |_=>.bad
noncomputable def jk(a:EM):EM:=λb M=>(a b M).bind λx M1=>.ok (.bl<|kY x) M1
noncomputable def mE(a:EM):EM:=λb M=>(a b M).bind λx M1=>.ok (.bl<|!kY x) M1
noncomputable def i0(x:W)(xs:List W):Bool:=xs.any λy=>eK y x
noncomputable def dP:d9:=λx y M=>match bu M y with
 |some xs=>if flat x&&xs.all flat then .ok (.bl<|i0 x xs) M else .bad
 |none=>.bad
noncomputable def jd:d9:=λx y M=>match bu M y with
 |some xs=>if flat x&&xs.all flat then .ok (.bl<|!i0 x xs) M else .bad
 |none=>.bad
noncomputable def cq(n:Nat)(i:Int):Option Nat:=if 0<=i then(if i<n then aa i.toNat else ae) else if-(n:Int)<=i then aa (i+n).toNat else ae
noncomputable def cA{a:Type}(xs:List a)(i:Int):Option a:=(cq xs.length i).bind λj=>xs[j]?
noncomputable def ax:d9
 |x,.int i,M=>match bu M x with
  |some xs=>match cA xs i with
   |some v=>.ok v M
   |none=>.bad
  |none=>.bad
 |_,_,_=>.bad
noncomputable def bh(n d:Nat):Option Int->Nat
 |none=>d
 |some v=>if v<0 then(v+(n:Int)).toNat else min v.toNat n
noncomputable def cut{a:Type}(xs:List a)(lo b:Option Int):List a:=(xs.drop<|bh xs.length 0 lo).take<|bh xs.length xs.length b-bh xs.length 0 lo
noncomputable abbrev PM:=St->Mem->R (Option Int)
noncomputable def j3:PM:=λ_ M=>.ok ae M
noncomputable def gg(e:EM):PM:=λa M=>(e a M).bind λx M1=>match x with
 |.int i=>.ok (aa i) M1
 |_=>.bad
noncomputable def rm(x:W)(lo a:Option Int)(M:Mem):R W:=match a8 M x with
 |some xs=>bb (cut xs lo a) M
 |none=>match cm M x with
  |some xs=>if bh xs.length 0 lo=0/\bh xs.length xs.length a=xs.length then .bad else gN (cut xs lo a) M
  |none=>.bad
noncomputable def iu(e:EM)(l h:PM):EM:=λa M=>(e a M).bind λx M1=>(l a M1).bind λc M2=>(h a M2).bind λb d=>rm x c b d
noncomputable def tB(e:EM):TM:=λa M=>(e a M).bind λx M1=>match x with
 |.bl b=>.ok b M1
 |_=>.bad
noncomputable def fP(a b:TM):TM:=λd M=>(a d M).bind λc M1=>if c then b d M1 else .ok ag M1
noncomputable def bg(a b:TM):TM:=λd M=>(a d M).bind λc M1=>if c then .ok af M1 else b d M1
noncomputable def bB(a:TM):TM:=λb M=>(a b M).bind λc M1=>.ok (!c) M1
noncomputable def eZ(a b:EM):EM:=λd M=>(a d M).bind λx M1=>match x with
 |.bl c=>if c then b d M1 else .ok (.bl ag) M1
 |_=>.bad
noncomputable def rL(a b:EM):EM:=λd M=>(a d M).bind λx M1=>match x with
 |.bl c=>if c then .ok (.bl af) M1 else b d M1
 |_=>.bad
noncomputable def vS(a:EM):EM:=λb M=>(a b M).bind λx M1=>match x with
 |.bl c=>.ok (.bl<|!c) M1
 |_=>.bad
noncomputable def NK(t:TM)(a b:EM):EM:=λd M=>(t d M).bind λc M1=>if c then a d M1 else b d M1
noncomputable def av(f:CM)(a:AM):EM:=λb M=>(a b M).bind f
noncomputable def aZ:CM:=λa M=>match a with
 |[x]=>match bu M x with
  |some xs=>.ok (.int xs.length) M
  |none=>.bad
 |_=>.bad
noncomputable def gh:CM:=λa M=>match a with
 |[x]=>match bu M x with
  |some xs=>bb xs M
  |none=>.bad
 |_=>.bad
noncomputable def iT:CM:=λa M=>match a with
 |[.int i]=>.ok (.int i) M
 |[.bl b]=>.ok (.int<|if b then 1 else 0) M
 |_=>.bad
noncomputable def intsOf:List W->Option (List Int)
 |[]=>aa []
 |.int i::r=>(intsOf r).map (i::·)
 |_=>ae
noncomputable def rn:CM:=λa M=>match a with
 |[x]=>match(a8 M x).bind intsOf with
  |some ns=>.ok (.int ns.sum) M
  |none=>.bad
 |_=>.bad
inductive Kd where
 |int|bool|str|list|tuple
 deriving DecidableEq
noncomputable def cD(M:Mem)(x:W):Kd->Option Bool:=λk=>match x with
 |.aA=>aa ag
 |.bl _=>aa<|ai<|k=.bool\/k=.int
 |.int _=>aa<|ai<|k=.int
 |.str _=>aa<|ai<|k=.str
 |.ref a=>match M[a]? with
  |some (.lst _)=>aa<|ai<|k=.list
  |some (.tup _)=>aa<|ai<|k=.tuple
  |_=>ae
noncomputable def cW(M:Mem)(x:W):List Kd->Option Bool
 |[]=>aa ag
 |k::r=>match cD M x k,cW M x r with
  |some a,aa b=>aa<|a||b
  |_,_=>ae
noncomputable def bt(c:List Kd)(a:EM):EM:=λd M=>(a d M).bind λx M1=>match cW M1 x c with
 |some b=>.ok (.bl b) M1
 |none=>.bad
noncomputable def bD(f:W->CM)(o:EM)(a:AM):EM:=λb M=>(o b M).bind λx M1=>match a8 M1 x with
 |some _=>(a b M1).bind λc M2=>f x c M2
 |none=>.bad
noncomputable def cZ(x:W):CM:=λb M=>match b,bQ M x with
 |[y],aa (a,xs)=>if xs.length<lim then .ok .aA (M.set a<|.lst<|xs++[y]) else .bad
 |_,_=>.bad
noncomputable def litOf(M:Mem):W->Option (List W)
 |.ref a=>match M[a]? with
  |some (.lst xs)=>aa xs
  |some (.tup xs)=>aa xs
  |_=>ae
 |_=>ae
noncomputable def kJ(x:W):CM:=λc M=>match c with
 |[y]=>match bQ M x,litOf M y with
  |some (a,xs),aa b=>if xs.length+b.length<=lim then .ok .aA (M.set a<|.lst<|xs++b) else .bad
  |_,_=>.bad
 |_=>.bad
noncomputable def iU(x:W):CM:=λb M=>match b,bQ M x with
 |[],aa (a,xs)=>match xs[xs.length-1]? with
  |some y=>.ok y<|M.set a<|.lst xs.dropLast
  |none=>.bad
 |_,_=>.bad
noncomputable def JJ:Nat:=4611686018427387904
noncomputable def RH(x:W):CM:=λb M=>match b with
 |[.int i]=>match bQ M x with
  |some (a,xs)=>match cq xs.length i with
   |some k=>match xs[k]? with
    |some y=>if i.natAbs<JJ then .ok y (M.set a<|.lst<|xs.eraseIdx k) else .bad
    |none=>.bad
   |none=>.bad
  |none=>.bad
 |_=>.bad
noncomputable def iH(x:W):CM:=λa M=>match a,bQ M x with
 |[y],aa (_,xs)=>if flat y&&xs.all flat then .ok (.int<|xs.countP λz=>eK z y) M else .bad
 |_,_=>.bad
noncomputable def bC(M:Mem):W->Option (Nat×List (Int×W))
 |.ref a=>match M[a]? with
  |some (.aG b)=>aa (a,b)
  |_=>ae
 |_=>ae
noncomputable def aW(kvs:List<|Int×W)(k:Int):Option W:=(kvs.find? λa=>ai<|a.1=k).map (·.2)
noncomputable def dput(kvs:List<|Int×W)(k:Int)(v:W):List (Int×W):=
 if(kvs.any λa=>ai<|a.1=k)=af then kvs.map (λa=>if a.1=k then(a.1,v) else a) else kvs++[(k,v)]
noncomputable def gj(kvs:List<|Int×W)(k:Int):List (Int×W):=kvs.filter λa=>ai<|a.1≠k
noncomputable def oK:EM:=λ_ M=>.ok (.ref M.length)<|M++[.aG []]
noncomputable def mL(x y:W)(M:Mem):R W:=match y,bC M x with
 |.int i,aa (_,a)=>match aW a i with
  |some v=>.ok v M
  |none=>.bad
 |_,_=>.bad
noncomputable def ib(d k:EM):EM:=λa M=>(d a M).bind λx M1=>(k a M1).bind λy M2=>mL x y M2
noncomputable def fv(x y z:W)(M:Mem):R W:=match y,bC M x with
 |.int i,aa (_,a)=>.ok ((aW a i).getD z) M
 |_,_=>.bad
noncomputable def gG(x y z:W)(M:Mem):R W:=match y,bC M x with
 |.int i,aa (a,b)=>match aW b i with
  |some v=>.ok v M
  |none=>if b.length<lim then .ok z (M.set a<|.aG<|dput b i z) else .bad
 |_,_=>.bad
noncomputable def mM(x y:W)(M:Mem):R W:=match y,bC M x with
 |.int i,aa (a,b)=>match aW b i with
  |some v=>.ok v<|M.set a<|.aG<|gj b i
  |none=>.bad
 |_,_=>.bad
noncomputable def mF(M:Mem)(x:W):Bool:=(bC M x).isSome
noncomputable def wj(f:W->W->Mem->R W)(d k:EM):EM:=λa M=>(d a M).bind λx M1=>if mF M1 x then(k a M1).bind λy M2=>f x y M2 else .bad
noncomputable def fe(f:W->W->W->Mem->R W)(d k e:EM):EM:=λa M=>(d a M).bind λx M1=>if mF M1 x then(k a M1).bind λy M2=>(e a M2).bind λz b=>f x y z b else .bad
noncomputable def j'(neg:Bool)(y x:W)(M:Mem):R W:=match y,bC M x with
 |.int i,aa (_,a)=>.ok (.bl<|(aW a i).isSome != neg) M
 |_,_=>.bad
noncomputable abbrev mN(neg:Bool)(k d:EM):EM:=ao (j' neg) k d
noncomputable def mO(x y v:W)(σ:St)(M:Mem):RS:=match y,bC M x with
 |.int i,aa (a,b)=>if b.length<lim then .nx σ (M.set a<|.aG<|dput b i v) else .bad
 |_,_=>.bad
noncomputable def ia(d k e:EM):SM:=λa M=>(e a M).cz λv M1=>(d a M1).cz λx M2=>(k a M2).cz λy b=>mO x y v a b
noncomputable def oM(d:EM):EM:=λb M=>(d b M).bind λx M1=>match bC M1 x with
 |some (_,a)=>.ok (.bl a.isEmpty)<|M1++[.aG []]
 |none=>.bad
noncomputable def gH(M:Mem):Int->Nat->List (Int×W)->Option Int
 |k,_,[]=>aa k
 |k,n,(i,v)::r=>match a8 M v with
  |some xs=>if xs.length<n then gH M i xs.length r else gH M k n r
  |none=>ae
noncomputable def minD(M:Mem):List (Int×W)->Option Int
 |[]=>ae
 |(i,v)::r=>match a8 M v with
  |some xs=>gH M i xs.length r
  |none=>ae
noncomputable def oN(d:EM):EM:=λc M=>(d c M).bind λx M1=>match bC M1 x with
 |some (_,a)=>match minD M1 a with
  |some k=>.ok (.int k)<|M1++[.lst<|a.map λb=>.int b.1]
  |none=>.bad
 |none=>.bad
noncomputable def eo(M:Mem):W->Option (Nat×List Nat×List (List Nat×W))
 |.ref a=>match M[a]? with
  |some (.ins c b)=>aa (a,c,b)
  |_=>ae
 |_=>ae
noncomputable def bK(f:List Nat)(v:W):List (List Nat×W)->List (List Nat×W)
 |[]=>[(f,v)]
 |(g,x)::r=>if g=f then(g,v)::r else(g,x)::bK f v r
noncomputable def cP(f:List Nat):List (List Nat×W)->Option W
 |[]=>ae
 |(g,x)::r=>if g=f then aa x else cP f r
noncomputable def oY(c f:List Nat)(x:W)(M:Mem):R W:=match eo M x with
 |some (_,b,a)=>if b=c then(match cP f a with
  |some v=>.ok v M
  |none=>.bad) else .bad
 |none=>.bad
noncomputable def aT(c f:List Nat)(o:EM):EM:=λa M=>(o a M).bind λx M1=>oY c f x M1
noncomputable def Bw(c f:List Nat)(x v:W)(σ:St)(M:Mem):RS:=match eo M x with
 |some (a,d,b)=>if d=c/\b.length<1000 then .nx σ (M.set a<|.ins c<|bK f v b) else .bad
 |none=>.bad
noncomputable def iR(c f:List Nat)(o e:EM):SM:=λa M=>(e a M).cz λv M1=>(o a M1).cz λx M2=>Bw c f x v a M2
noncomputable def kZ(c m:List Nat)(M:Mem)(x:W):Bool:=match eo M x with
 |some (_,b,a)=>ai (b=c)&&(cP m a).isNone
 |none=>ag
noncomputable def fu(c m:List Nat)(f:CM)(o:EM)(a:AM):EM:=λb M=>(o b M).bind λx M1=>if kZ c m M1 x then(a b M1).bind λd M2=>f (x::d) M2 else .bad
noncomputable def mW(c:List Nat)(f:CM):CM:=λa M=>(f (.ref M.length::a)<|M++[.ins c []]).bind λv M2=>match v with
 |.aA=>.ok (.ref M.length) M2
 |_=>.bad
noncomputable def ph(x:List Nat):EM:=λ_ M=>.ok (.ref M.length)<|M++[.dr x]
noncomputable def fnOf(M:Mem):W->Option (List Nat)
 |.ref a=>match M[a]? with
  |some (.dr x)=>aa x
  |_=>ae
 |_=>ae
noncomputable def pick(tab:List<|List Nat×CM)(x:W)(M:Mem):Option CM:=match fnOf M x with
 |some n=>(tab.find? λp=>ai<|p.1=n).map (·.2)
 |none=>ae
noncomputable def qL(tab:List<|List Nat×CM)(o:EM)(a:AM):EM:=λb M=>(o b M).bind λx M1=>match pick tab x M1 with
 |some c=>(a b M1).bind c
 |none=>.bad
noncomputable def az(i:Nat):GM:=λv a M=>.ok (a.set i<|aa v) M
noncomputable def iL:List GM->List W->St->Mem->R St
 |[],[],σ,M=>.ok σ M
 |g::b,v::c,σ,M=>(g v σ M).bind λa M1=>iL b c a M1
 |_,_,_,_=>.bad
noncomputable def dd(a:List GM):GM:=λv b M=>match cm M v with
 |some xs=>if xs.length=a.length then iL a xs b M else .bad
 |none=>.bad
noncomputable def eE(o i:EM):GM:=λv b M=>(o b M).bind λx M1=>(i b M1).bind λy M2=>match y,bQ M2 x with
 |.int k,aa (a,xs)=>match cq xs.length k with
  |some j=>.ok b<|M2.set a<|.lst<|xs.set j v
  |none=>.bad
 |_,_=>.bad
noncomputable def aO:SM:=λa M=>.nx a M
noncomputable def vU:SM:=λ_ _=>.bad
noncomputable def wm:SM:=λa M=>.bk a M
noncomputable def aN(e:EM)(g:GM):SM:=λb M=>(e b M).cz λx M1=>(g x b M1).cz λa M2=>.nx a M2
noncomputable def cg(e:EM):SM:=λa M=>(e a M).cz λ_ M1=>.nx a M1
noncomputable def aK(e:EM):SM:=λa M=>(e a M).cz λx M1=>.rt x M1
noncomputable def RS.andThen:RS->(St->Mem->RS)->RS
 |.nx σ M,f=>f σ M
 |r,_=>r
noncomputable def au(a b:SM):SM:=λc M=>(a c M).andThen b
noncomputable def aM(t:TM)(a b:SM):SM:=λd M=>(t d M).cz λc M1=>if c then a d M1 else b d M1
inductive Src where
 |val (x:W)
 |pair (x y:W)
noncomputable def Src.get:Src->Mem->R W
 |.val x,M=>.ok x M
 |.pair x y,M=>gN [x,y] M
noncomputable abbrev bN:=List<|Nat×O
noncomputable def bN.ok(c:bN)(M:Mem):Bool:=c.all λp=>ai<|M[p.1]? =aa p.2
noncomputable abbrev IM:=St->Mem->R (List Src×bN)
noncomputable def a9(e:EM):IM:=λb M=>(e b M).bind λx M1=>match x with
 |.ref a=>match M1[a]? with
  |some (.lst xs)=>.ok (xs.map .val,[(a,.lst xs)]) M1
  |some (.a6 xs)=>.ok (xs.map .val,[(a,.a6 xs)]) M1
  |some (.tup xs)=>.ok (xs.map .val,[(a,.tup xs)]) M1
  |_=>.bad
 |_=>.bad
noncomputable def bV:Nat:=4611686018427387904
noncomputable def cS(lo:Int)(n:Nat):List Src:=(List.range n).map λ(k:Nat)=>.val<|.int<|lo+(k:Int)
noncomputable def cc(e:EM):IM:=λa M=>(e a M).bind λx M1=>match x with
 |.int j=>if j.natAbs<bV then .ok (cS 0 j.toNat,[]) M1 else .bad
 |_=>.bad
noncomputable def dZ(e f:EM):IM:=λa M=>(e a M).bind λx M1=>(f a M1).bind λy M2=>match x,y with
 |.int i,.int j=>if i.natAbs<bV/\j.natAbs<bV then .ok (cS i (j-i).toNat,[]) M2 else .bad
 |_,_=>.bad
noncomputable def oO(M:Mem):W->Option (Nat×O×List W)
 |.ref a=>match M[a]? with
  |some (.lst xs)=>aa (a,.lst xs,xs)
  |some (.a6 xs)=>aa (a,.a6 xs,xs)
  |_=>ae
 |_=>ae
noncomputable def pairs(xs ys:List W):List Src:=List.zipWith Src.pair xs ys
noncomputable def eX:Nat->List W->List Src
 |_,[]=>[]
 |k,x::r=>.pair (.int k) x::eX (k+1) r
noncomputable def qY(e:EM):IM:=λb M=>(e b M).bind λx M1=>match oO M1 x with
 |some (a,o,xs)=>.ok (eX 0 xs,[(a,o)]) M1
 |none=>.bad
noncomputable def jU(e:EM):IM:=λd M=>(e d M).bind λx M1=>match bC M1 x with
 |some (a,b)=>.ok (b.map λc=>.pair (.int c.1) c.2,[(a,.ba M1.length b)])<|M1.set a (.ba M1.length b)++[.bZ]
 |none=>.bad
noncomputable def de:bN->Mem->Option Mem
 |[(a,.ba g b)],M=>if M[a]? =aa (.ba g b) then aa (M.set a<|.aG b) else ae
 |_,_=>ae
noncomputable def RS.de(c:bN):RS->RS
 |.nx σ M=>match VM.de c M with
  |some a=>.nx σ a
  |none=>.bad
 |.rt v M=>match VM.de c M with
  |some a=>.rt v a
  |none=>.bad
 |_=>.bad
noncomputable def loop(c:bN)(g:GM)(b:SM):List Src->St->Mem->RS
 |[],σ,M=>if c.ok M then .nx σ M else .bad
 |x::r,σ,M=>if c.ok M then (x.get M).cz λv M1=>(g v σ M1).cz λe M2=>match b e M2 with
   |.nx a d=>loop c g b r a d
   |.ct a d=>loop c g b r a d
   |.bk a d=>.nx a d
   |.rt v d=>.rt v d
   |.ex v d=>.ex v d
   |.bad=>.bad
  else .bad
noncomputable def bz(i:IM)(g:GM)(a:SM):SM:=λb M=>(i b M).cz λp M1=>loop p.2 g a p.1 b M1
noncomputable def mG(e:EM)(g:GM)(a:SM):SM:=λb M=>(jU e b M).cz λp M1=>(loop p.2 g a p.1 b M1).de p.2
noncomputable def dW(t:TM)(a:SM):Nat->St->Mem->RS
 |0,_,_=>.bad
 |n+1,σ,M=>(t σ M).cz λc M1=>if c then(match a σ M1 with
  |.nx b d=>dW t a n b d
  |.ct b d=>dW t a n b d
  |.bk b d=>.nx b d
  |.rt v d=>.rt v d
  |.ex v d=>.ex v d
  |.bad=>.bad) else .nx σ M1
noncomputable def qM(n:Nat)(t:TM)(a:SM):SM:=dW t a n
noncomputable def dE(cl:List Nat)(σ:St):St:=cl.foldl (λσ j=>σ.set j ae) σ
noncomputable def comp(c:bN)(g:GM)(t:TM)(elt:EM):List Src->St->Mem->List W->R (List W)
 |[],_,M,acc=>if c.ok M then .ok acc M else .bad
 |x::r,σ,M,acc=>if c.ok M then (x.get M).bind λv M1=>(g v σ M1).bind λa M2=>(t a M2).bind λb d=>if b then(elt a d).bind λy e=>comp c g t elt r a e (acc++[y]) else comp c g t elt r a d acc
  else .bad
noncomputable def bE(k:Nat)(cl:List Nat)(i:IM)(g:GM)(t:TM)(elt:EM):EM:=λa M=>(i a M).bind λp M1=>(comp p.2 g t elt p.1 (dE cl<|a++List.replicate k ae) M1 []).bind bb
noncomputable def kT(k:Nat)(cl:List Nat)(e:EM)(g:GM)(t:TM)(elt:EM):EM:=λa M=>(jU e a M).bind λp M1=>
 ((comp p.2 g t elt p.1 (dE cl<|a++List.replicate k ae) M1 []).bind bb).bind λv M2=>match de p.2 M2 with
   |some b=>.ok v b
   |none=>.bad
noncomputable def cX:TM:=λ_ M=>.ok af M
noncomputable abbrev CE:=Nat->CM
noncomputable def fn(c n:Nat)(a:SM):CM:=λargs M=>if args.length=c then(match a (args.map aa++List.replicate (n-c) ae) M with
 |.rt v b=>.ok v b
 |.nx _ b=>.ok .aA b
 |.ex v b=>.ex v b
 |_=>.bad) else .bad
noncomputable def bj(tab:CE->CE):Nat->CE
 |0=>λ_ _ _=>.bad
 |k+1=>tab<|bj tab k
def aB(h:M<+:M'){a:Nat}(e:M[a]? =aa o):M'[a]? =aa o:=by obtain⟨r,rfl⟩:=h;rw[U6 (Ub.mp e).1];exact e
def pre_app(M:Mem)(r:Mem):M<+:M++r:=⟨r,rfl⟩
def dc(M:Mem):M<+:M:=List.prefix_refl _
noncomputable def aF(M:Mem)(v:W)(ws:List W):Prop:=∃a,v=.ref a/\M[a]? =aa (.lst ws)
noncomputable def aI(M:Mem)(v:W)(ws:List W):Prop:=∃a,v=.ref a/\M[a]? =aa (.tup ws)
def aF.mono(h:aF M v ws)(p:M<+:M'):aF M' v ws:=by obtain⟨a,e,q⟩:=h;exact⟨a,e,aB p q⟩
def aI.mono(h:aI M v ws)(p:M<+:M'):aI M' v ws:=by obtain⟨a,e,q⟩:=h;exact⟨a,e,aB p q⟩
def aF.a8(h:aF M v ws):a8 M v=aa ws:=by obtain⟨a,rfl,q⟩:=h;simp only[VM.a8,q]
def aF.bu(h:aF M v ws):bu M v=aa ws:=by simp only[VM.bu,h.a8]
def aI.cm(h:aI M v ws):cm M v=aa ws:=by obtain⟨a,rfl,q⟩:=h;simp only[VM.cm,q]
def aI.a8(h:aI M v ws):VM.a8 M v=ae:=by obtain⟨a,rfl,q⟩:=h;simp only[VM.a8,q]
def aI.bu(h:aI M v ws):bu M v=aa ws:=by simp only[VM.bu,h.a8,h.cm]
def gA(h:M[a]? =aa (.lst ws)):bQ M (.ref a)=aa (a,ws):=by simp only[VM.bQ,h]
def dQ(h:M[a]? =aa (.lst ws)):a8 M (.ref a)=aa ws:=by simp only[VM.a8,h]
def jK(h:M[a]? =aa (.lst ws)):bu M (.ref a)=aa ws:=by simp only[VM.bu,dQ h]
def bT(h:ws.length<=16777216):bb ws M=.ok (.ref M.length) (M++[.lst ws]):=T5 h
def gX(h:ws.length<=16777216):gN ws M=.ok (.ref M.length) (M++[.tup ws]):=T5 h
def aF.new(M:Mem)(ws):aF (M++[.lst ws]) (.ref M.length) ws:=⟨_,rfl,by simp⟩
def aI.new(M:Mem)(ws):aI (M++[.tup ws]) (.ref M.length) ws:=⟨_,rfl,by simp⟩
def b8(M:Mem)(o):(M++[o])[M.length]? =aa o:=by simp
def md(M:Mem)(o o':O):(M++[o]).set M.length o'=M++[o']:=by simp
structure ay where
 nx:St->Mem->Prop
 rt:W->Mem->Prop
 bk:St->Mem->Prop:=λ_ _=>False
 ct:St->Mem->Prop:=λ_ _=>False
noncomputable def RS.Sat:RS->ay->Prop
 |.nx σ M,q=>q.nx σ M
 |.rt v M,q=>q.rt v M
 |.bk σ M,q=>q.bk σ M
 |.ct σ M,q=>q.ct σ M
 |.ex _ _,_=>False
 |.bad,_=>False
def aD(h:(a σ M).Sat {q with nx:=λc d=>(b c d).Sat q}):(au a b σ M).Sat q:=by
 unfold au;cases e:a σ M with
 |nx c d=>rw[e] at h;exact h
 |rt v d=>rw[e] at h;exact h
 |bk c d=>rw[e] at h;exact h
 |ct c d=>rw[e] at h;exact h
 |ex v d=>rw[e] at h;exact h
 |bad=>rw[e] at h;exact h
def jN(a:e σ M=.ok v M1)(b:g v σ M1=.ok bS M2)(h:q.nx bS M2):(aN e g σ M).Sat q:=by unfold aN;rw[a];simp only[R.cz,b];exact h
def bA(a:e σ M=.ok v M1)(h:q.nx (σ.set i<|aa v) M1):(aN e (az i) σ M).Sat q:=jN a rfl h
def df(a:e σ M=.ok v M1)(h:q.nx σ M1):(cg e σ M).Sat q:=by unfold cg;rw[a];exact h
def aV(a:e σ M=.ok v M1)(h:q.rt v M1):(aK e σ M).Sat q:=by unfold aK;rw[a];exact h
def bf(h:q.nx σ M):(aO σ M).Sat q:=h
def aJ(d:t σ M=.ok c M1)(e:c=af->(a σ M1).Sat q)(h3:c=ag->(b σ M1).Sat q):(aM t a b σ M).Sat q:=by
 unfold aM;rw[d];simp only[R.cz];cases c with
 |true=>exact e rfl
 |false=>exact h3 rfl
def RS.Sat.mono{r:RS}(h:r.Sat q)(a:∀σ M,q.nx σ M->q'.nx σ M)(b:∀v M,q.rt v M->q'.rt v M)(h3:∀σ M,q.bk σ M->q'.bk σ M)(c:∀σ M,q.ct σ M->q'.ct σ M):r.Sat q':=by
 cases r with
 |nx σ M=>exact a _ _ h
 |rt v M=>exact b _ _ h
 |bk σ M=>exact h3 _ _ h
 |ct σ M=>exact c _ _ h
 |ex v M=>exact h
 |bad=>exact h
def yS{c:bN}{g:GM}{b:SM}{q:ay}(a7:List Src)(P:Nat->St->Mem->Prop)(p:∀(j:Nat) x σ M,a7[j]? =aa x->P j σ M->c.ok M=af/\∃v M1 bS M2,x.get M=.ok v M1/\g v σ M1=.ok bS M2/\(b bS M2).Sat {nx:=P (j+1),ct:=P (j+1),bk:=q.nx,rt:=q.rt})(hd:∀σ M,P a7.length σ M->c.ok M=af/\q.nx σ M):∀(j:Nat) (σ:St) (M:Mem),j<=a7.length->P j σ M->(loop c g b (a7.drop j) σ M).Sat q:=by
 intro j;generalize r:a7.length-j=k;induction k generalizing j with
 |zero=>
  intro σ M o m;have e:j=a7.length:=by omega
  subst e;rw[WG,loop];obtain⟨i,l⟩:=hd σ M m;rw[T5 i];exact l
 |succ k n=>
  intro σ M o m;have h:j<a7.length:=by omega
  rw[V6 h,loop];obtain⟨i,v,M1,bS,M2,l,h3,a⟩:=p j a7[j] σ M (by simp[h]) m;rw[T5 i,l];simp only[R.cz,h3];cases e:b bS M2 with
  |nx d f=>rw[e] at a;exact n (j+1) (by omega) d f (by omega) a
  |ct d f=>rw[e] at a;exact n (j+1) (by omega) d f (by omega) a
  |bk d f=>rw[e] at a;exact a
  |rt v f=>rw[e] at a;exact a
  |ex v f=>rw[e] at a;exact a.elim
  |bad=>rw[e] at a;exact a.elim
def oB(b:i σ M=.ok (a7,c) M1)(P:Nat->St->Mem->Prop)(d:P 0 σ M1)(a:∀(j) x σ M,a7[j]? =aa x->P j σ M->c.ok M=af/\∃v M1 bS M2,x.get M=.ok v M1/\g v σ M1=.ok bS M2/\(body bS M2).Sat {nx:=P (j+1),ct:=P (j+1),bk:=q.nx,rt:=q.rt})(hd:∀σ M,P a7.length σ M->c.ok M=af/\q.nx σ M):(bz i g body σ M).Sat q:=by unfold bz;rw[b];exact yS a7 P a hd 0 σ M1 (UX _) d
def fJ{i:IM}{k:Nat}{a:SM}{σ:St}{M M1:Mem}{lo:Int}{n:Nat}{q:ay}(h:i σ M=.ok (cS lo n,[]) M1)(P:Nat->St->Mem->Prop)(l:P 0 σ M1)(g:∀(j:Nat) σ M,j<n->P j σ M->(a (σ.set k<|aa<|.int<|lo+(j:Int)) M).Sat {nx:=P (j+1),ct:=P (j+1),bk:=q.nx,rt:=q.rt})(hd:∀σ M,P n σ M->q.nx σ M):(bz i (az k) a σ M).Sat q:=by
 have d:(cS lo n).length=n:=by simp[cS]
 refine oB h P l (λj x σ M b c=>⟨rfl,?_⟩) λσ M c=>⟨rfl,hd σ M (by rw[d] at c;exact c)⟩
 have f:j<n:=by rw[<-d];exact(Ub.mp b).1
 have e:x=.val (.int<|lo+(j:Int)):=by unfold cS at b;rw[U7,List.getElem?_range f] at b;exact(Ug b).symm
 subst e;exact⟨_,M,_,M,rfl,rfl,g j σ M f c⟩
def dS{e:EM}{k:Nat}{c:SM}{σ:St}{M M1:Mem}{v:W}{xs:List W}{q:ay}(n:e σ M=.ok v M1)(r:aF M1 v xs)(P:Nat->St->Mem->Prop)(u:P 0 σ M1)(m:∀(j:Nat) σ M,j<=xs.length->P j σ M->aF M v xs)(o:∀(j:Nat) x σ M,xs[j]? =aa x->P j σ M->(c (σ.set k<|aa x) M).Sat {nx:=P (j+1),ct:=P (j+1),bk:=q.nx,rt:=q.rt})(hd:∀σ M,P xs.length σ M->q.nx σ M):(bz (a9 e) (az k) c σ M).Sat q:=by
 obtain⟨a,rfl,y⟩:=r;have p:a9 e σ M=.ok (xs.map .val,[(a,.lst xs)]) M1:=by unfold a9;rw[n];simp only[R.bind,y]
 have g:(xs.map Src.val).length=xs.length:=by simp
 have l:∀{j:Nat} {σ:St} {M:Mem},j<=xs.length->P j σ M->bN.ok [(a,O.lst xs)] M=af:=λ{j σ M} i d=>by obtain⟨b,s,t⟩:=m j σ M i d;cases s;simp[bN.ok,t]
 refine oB p P u (λj x σ M f d=>?_) λσ M d=>?_
 ·have i:j<xs.length:=by rw[<-g];exact(Ub.mp f).1
  rw[U7] at f;cases h:xs[j]? with
  |none=>rw[h] at f;cases f
  |some w=>rw[h] at f;have ex:x=.val w:=(Ug f).symm;subst ex;exact⟨l (by omega) d,_,M,_,M,rfl,rfl,o j w σ M h d⟩
 ·rw[g] at d;exact⟨l (Uc _) d,hd σ M d⟩
def bJ(c:args.length=np)(h:(body (args.map aa++List.replicate (n-np) ae) M).Sat {nx:=λ_ a=>Q .aA a,rt:=Q}):∃v a,fn np n body args M=.ok v a/\Q v a:=by
 unfold fn;rw[T5 c];cases e:body (args.map aa++List.replicate (n-np) ae) M with
 |nx b a=>rw[e] at h;exact⟨_,_,rfl,h⟩
 |rt v a=>rw[e] at h;exact⟨_,_,rfl,h⟩
 |ct b a=>rw[e] at h;exact h.elim
 |bk b a=>rw[e] at h;exact h.elim
 |ex v a=>rw[e] at h;exact h.elim
 |bad=>rw[e] at h;exact h.elim
inductive a_{α β:Type}(R:α->β->Prop):List α->List β->Prop
 |nil:a_ R [] []
 |cons {a b l m}:R a b->a_ R l m->a_ R (a::l) (b::m)
theorem a_.imp{R S:α->β->Prop}(f:∀a b,R a b->S a b):∀{l:List α} {m:List β},a_ R l m->a_ S l m
 |_,_,.nil=>.nil
 |_,_,.cons h t=>.cons (f _ _ h)<|a_.imp f t
theorem a_.len{R:α->β->Prop}:∀{l:List α} {m:List β},a_ R l m->l.length=m.length
 |_,_,.nil=>rfl
 |_,_,.cons _ t=>by simp[a_.len t]
theorem a_.app{R:α->β->Prop}:∀{l a:List α} {m b:List β},a_ R l m->a_ R a b->a_ R (l++a) (m++b)
 |_,_,_,_,.nil,s=>s
 |_,_,_,_,.cons h t,s=>.cons h<|a_.app t s
theorem a_.at{R:α->β->Prop}:∀{l:List α} {m:List β} {i:Nat} {x:α},a_ R l m->l[i]? =aa x->∃y,m[i]? =aa y/\R x y
 |_,_,_,_,.nil,e=>by simp at e
 |_,_,0,_,.cons r _,e=>by simp at e;subst e;exact⟨_,rfl,r⟩
 |_,_,i+1,x,.cons _ t,e=>by
  obtain⟨y,a,b⟩:=a_.at t<|by simpa using e
  exact⟨y,by simpa using a,b⟩
theorem a_.at'{R:α->β->Prop}:∀{l:List α} {m:List β} {i:Nat} {y:β},a_ R l m->m[i]? =aa y->∃x,l[i]? =aa x/\R x y
 |_,_,_,_,.nil,e=>by simp at e
 |_,_,0,_,.cons r _,e=>by simp at e;subst e;exact⟨_,rfl,r⟩
 |_,_,i+1,y,.cons _ t,e=>by
  obtain⟨x,a,b⟩:=a_.at' t<|by simpa using e
  exact⟨x,by simpa using a,b⟩
theorem p5{c:bN}{i:Nat}{t:TM}{elt:EM}{σ:St}(p:W->Bool)(P:W->W->Mem->Prop)(f:∀x y M b,M<+:b->P x y M->P x y b):∀(xs:List W) (M:Mem) (g:St) (d:List W),(∀v,g.set i (aa v)=σ.set i (aa v))-> (∀b,M<+:b->c.ok b=af)-> (∀x∈xs,∀b,M<+:b->∃M1,t (σ.set i<|aa x) b=.ok (p x) M1/\b<+:M1/\(p x=af->∃y M2,elt (σ.set i<|aa x) M1=.ok y M2/\M1<+:M2/\P x y M2))->
 ∃ys b,comp c (az i) t elt (xs.map .val) g M d=.ok (d++ys) b/\M<+:b/\a_ (λx y=>P x y b) (xs.filter p) ys
 |[],M,g,d,_,l,_=>⟨[],M,by rw[Vo,comp,T5<|l M<|dc M,UY],dc M,.nil⟩
 |x::r,M,g,d,m,l,h=>by
  obtain⟨M1,w,k,C⟩:=h x UE M<|dc M;have B:az i x g M=.ok (σ.set i<|aa x) M:=by unfold az;rw[m]
  have j:∀v,(σ.set i<|aa x).set i (aa v)=σ.set i (aa v):=λv=>by simp
  rw[Ux,comp,T5<|l M<|dc M];simp only[Src.get,R.bind,B,w];cases o:p x with
  |false=>
   obtain⟨ys,b,e,q,a⟩:=p5 p P f r M1 (σ.set i<|aa x) d j (λb q=>l b<|k.trans q) λz n b q=>h z (Ut _ n) b<|k.trans q
   simp only[Vc,U2];exact⟨ys,b,e,k.trans q,by rw[Vu,o];exact a⟩
  |true=>
   obtain⟨y,M2,A,s,u⟩:=C o;obtain⟨ys,b,e,q,a⟩:=p5 p P f r M2 (σ.set i<|aa x) (d++[y]) j (λb q=>l b<|k.trans<|s.trans q) λz n b q=>h z (Ut _ n) b<|k.trans<|s.trans q
   simp only[Uv,A];refine⟨y::ys,b,by rw[e];simp,k.trans<|s.trans q,?_⟩;rw[Vu,o];exact .cons (f _ _ _ _ q u) a
theorem gz{c:bN}{i:Nat}{t:TM}{elt:EM}{σ:St}{M:Mem}(p:W->Bool)(f:W->W):∀(xs:List W) (b:St) (a:List W),(∀v,b.set i (aa v)=σ.set i (aa v))->c.ok M=af-> (∀x∈xs,t (σ.set i<|aa x) M=.ok (p x) M/\(p x=af->elt (σ.set i<|aa x) M=.ok (f x) M))->
 comp c (az i) t elt (xs.map .val) b M a=.ok (a++(xs.filter p).map f) M
 |[],b,a,_,e,_=>by rw[Vo,comp,T5 e];simp
 |x::r,b,a,j,e,h=>by
  obtain⟨l,n⟩:=h x UE;have m:az i x b M=.ok (σ.set i<|aa x) M:=by unfold az;rw[j]
  have d:∀v,(σ.set i<|aa x).set i (aa v)=σ.set i (aa v):=λv=>by simp
  rw[Ux,comp,T5 e];simp only[Src.get,R.bind,m,l];cases k:p x with
  |false=>simp only[Vc,U2];rw[gz p f r _ a d e λz g=>h z<|Ut _ g,Vu,k];simp
  |true=>simp only[Uv,n k];rw[gz p f r _ (a++[f x]) d e λz g=>h z<|Ut _ g,Vu,k];simp
noncomputable def gJ(lo:Int)(n:Nat):List W:=(List.range n).map λ(k:Nat)=>.int<|lo+(k:Int)
def l4(lo)(n):cS lo n=(gJ lo n).map .val:=by simp[cS,gJ]
def pK(d:t σ M=.ok af M1)(b:(body σ M1).Sat {nx:=λa c=>(dW t body k a c).Sat q,ct:=λa c=>(dW t body k a c).Sat q,bk:=q.nx,rt:=q.rt}):(dW t body (k+1) σ M).Sat q:=by
 rw[dW,d];simp only[R.cz];cases e:body σ M1 with
 |nx a c=>rw[e] at b;exact b
 |rt v c=>rw[e] at b;exact b
 |bk a c=>rw[e] at b;exact b
 |ct a c=>rw[e] at b;exact b
 |ex v c=>rw[e] at b;exact b
 |bad=>rw[e] at b;exact b
def nL(a:t σ M=.ok ag M1)(h:q.nx σ M1):(dW t body (k+1) σ M).Sat q:=by rw[dW,a];simp only[R.cz];exact h
noncomputable def ltI:List Int->List Int->Bool
 |[],[]=>ag
 |[],_::_=>af
 |_::_,[]=>ag
 |x::xs,y::a=>if x=y then ltI xs a else ai (x<y)
noncomputable def gO(M:Mem)(w:W):Option (List Int):=(a8 M w).bind intsOf
noncomputable def mr:CM:=λc M=>match c with
 |[x]=>match bQ M x with
  |some (_,[])=>bb [] M
  |some (_,[a])=>bb [a] M
  |some (_,[a,b])=>match gO M a,gO M b with
   |some p,aa q=>bb (if ltI q p then[b,a] else[a,b]) M
   |_,_=>.bad
  |_=>.bad
 |_=>.bad
end VM
open VM in
local macro_rules| `(tactic|walk_at "ev")=> `(tactic|simp only[tB,fP,bg,bB,cX,ao,aj,eC,aR,bI,aq,ak,av,eZ,rL,vS,NK,jk,mE,bD,R.bind,bG,rj,az,eE,dd,iL,cc,dZ,List.length_cons,List.length_nil,List.map_cons,List.map_nil,List.cons_append,List.nil_append,List.append_nil,List.getElem?_cons_zero,List.getElem?_cons_succ,List.set_cons_zero,List.set_cons_succ,if_true,if_false,Bool.false_eq_true,Nat.reduceAdd,Nat.reduceSub,List.replicate_succ,List.replicate_zero,Nat.zero_add,Nat.add_zero,dE,List.foldl_nil,List.foldl_cons,List.append_assoc])
namespace LV
open VM
noncomputable def cC:CM:=fn 1 1 (
 aK (eZ (bt [.int] (aj 0)) (vS (bt [.bool] (aj 0)))))
noncomputable def iI:CM:=fn 2 2 (
 au (
  aM (tB<|ao oEq (aj 0)<|aR<|aq) (
   aK (eC (.int 0))) (
   aO)) (
 aK (ao bG (ao ax (aj 0) (ao oMod (aj 1) (av aZ (ak (aj 0) aq)))) (ao bL (eC (.int 3)) (ao oDiv (aj 1) (av aZ (ak (aj 0) aq)))))))
noncomputable def jL(a:CM):CM:=fn 2 6 (
 au (
  aN (aR (ak (aj 0) aq)) (az 2)) (
 au (
  aN (aR (ak (aj 1) aq)) (az 3)) (
 au (
  qM 1000000000 (tB<|ao bp (aj 3)<|aR<|aq) (
   au (
    aN (bD iU (aj 2) (aq)) (az 4)) (
   au (
    aN (bD iU (aj 3) (aq)) (az 5)) (
   aM (tB<|bt [.list,.tuple]<|aj 5) (
    au (
     aM (tB<|ao bp (bt [.list]<|aj 4)<|bt [.list]<|aj 5) (
      aK (eC (.bl ag))) (
      aO)) (
    au (
     aM (bg (tB<|ao bp (bt [.tuple]<|aj 4)<|bt [.tuple]<|aj 5)<|tB<|ao bp (av aZ<|ak (aj 4) aq)<|av aZ<|ak (aj 5) aq) (
      aK (eC (.bl ag))) (
      aO)) (
    au (
     cg (bD kJ (aj 2) (ak (aj 4) aq))) (
    cg (bD kJ (aj 3) (ak (aj 5) aq)))))) (
    aM (tB<|jk<|aj 5) (
     aM (tB<|mE<|aj 4) (
      aK (eC (.bl ag))) (
      aO)) (
     aM (tB<|bt [.bool]<|aj 5) (
      aM (bg (bB<|tB<|bt [.bool]<|aj 4)<|tB<|ao bp (aj 4)<|aj 5) (
       aK (eC (.bl ag))) (
       aO)) (
      aM (tB<|bt [.str]<|aj 5) (
       aM (bg (bB<|tB<|bt [.str]<|aj 4)<|tB<|ao bp (aj 4)<|aj 5) (
        aK (eC (.bl ag))) (
        aO)) (
       aM (bg (bB<|tB<|av a<|ak (aj 4) aq)<|tB<|ao bp (aj 4)<|aj 5) (
        aK (eC (.bl ag))) (
        aO))))))))) (
 aK (eC (.bl af))))))
noncomputable def lR:CM:=fn 1 1 (
 aK (ao ax (aR (ak (bI (ak (eC (.int 2)) (ak (eC (.int 2)) aq))) (ak (bI (ak (eC (.int 2)) (ak (eC (.int 2)) aq))) (ak (bI (ak (eC (.int 1)) (ak (eC (.int 3)) aq))) (ak (bI (ak (eC (.int 3)) (ak (eC (.int 1)) aq))) (ak (bI (ak (eC (.int 2)) (ak (eC (.int 1)) aq))) (ak (bI (ak (eC (.int 1)) (ak (eC (.int 2)) aq))) (ak (bI (ak (eC (.int 2)) (ak (eC (.int 2)) aq))) (ak (bI (ak (eC (.int 1)) (ak (eC (.int 1)) aq))) aq))))))))) (ao oMod (aj 0) (eC (.int 8)))))
noncomputable def lM:CM:=fn 2 9 (
 au (
  aN (ao bL (aj 0) (aj 1)) (az 2)) (
 au (
  aN (bE 1 [] (cc (ao bL (eC (.int 3)) (aj 2))) (az 9) (cX) (aR (aq))) (az 3)) (
 au (
  bz (cc<|ao bL (aj 2)<|aj 2) (az 4) (
   au (
    aN (ao oDiv (aj 4) (aj 2)) (az 5)) (
   au (
    aN (ao oMod (aj 4) (aj 2)) (az 6)) (
   au (
    aN (ao bG (ao bL (ao oDiv (aj 5) (aj 0)) (aj 0)) (ao oDiv (aj 6) (aj 1))) (az 7)) (
   bz (a9<|aR<|ak (aj 5)<|ak (ao bG (aj 2)<|aj 6)<|ak (ao bG (ao bL (eC<|.int 2)<|aj 2)<|aj 7) aq) (az 8) (
    cg (bD cZ (ao ax (aj 3) (aj 8)) (ak (aj 4) aq)))))))) (
 aK (aj 3)))))
noncomputable def lN:CM:=fn 3 11 (
 au (
  aN (ao bL (aj 0) (aj 1)) (az 3)) (
 au (
  aN (ao oMod (aj 2) (aj 3)) (az 4)) (
 au (
  aN (aR (aq)) (az 5)) (
 au (
  bz (cc<|aj 3) (az 6) (
   bz (cc<|aj 3) (az 7) (
    au (
     aN (ao oMod (ao bG (ao bG (ao bL (aj 1) (ao oMod (aj 6) (aj 0))) (ao oDiv (aj 6) (aj 0))) (aj 7)) (aj 3)) (az 8)) (
    cg (bD cZ (aj 5) (ak (ao bG (ao oMod (ao bG (ao bL (aj 8) (ao ax (aR (ak (eC (.int 1)) (ak (ao rj (aj 3) (eC (.int 1))) aq))) (ao oMod (ao oDiv (aj 2) (eC (.int 5))) (eC (.int 2))))) (aj 4)) (aj 3)) (eC (.int 1))) aq)))))) (
 au (
  aM (fP (tB<|ao oEq (ao oMod (ao oDiv (aj 2)<|eC<|.int 7)<|eC<|.int 2)<|eC<|.int 1)<|tB<|ao oEq (aj 0)<|aj 1) (
   au (
    aN (aR (aq)) (az 9)) (
   au (
    bz (cc<|ao bL (aj 3)<|aj 3) (az 10) (
     cg (bD cZ (aj 9) (ak (ao ax (aj 5) (ao bG (ao bL (ao oMod (aj 10) (aj 3)) (aj 3)) (ao oDiv (aj 10) (aj 3)))) aq)))) (
   aN (aj 9) (az 5)))) (
   aO)) (
 aK (aj 5)))))))
noncomputable def ky:CM:=fn 3 6 (
 au (
  aN (aR (aq)) (az 3)) (
 au (
  bz (cc<|av aZ<|ak (aj 0) aq) (az 4) (
   au (
    aN (eC (.int 0)) (az 5)) (
   au (
    aM (tB<|ao oLt (aj 4)<|av aZ<|ak (aj 1) aq) (
     aN (ao ax (aj 1) (aj 4)) (az 5)) (
     aO)) (
   cg (bD cZ (aj 3) (ak (ao bL (ao ax (aj 0) (aj 4)) (av iT (ak (ao gR (ao oMod (ao bG (aj 5) (aj 4)) (eC (.int 7))) (aj 2)) aq))) aq)))))) (
 aK (aj 3))))
noncomputable def jI:CM:=fn 4 6 (
 au (
  bz (a9<|aj 0) (az 4) (
   aM (tB<|ao dP (aj 2)<|aj 4) (
    bz (a9<|aj 4) (az 5) (
     aM (fP (tB<|ao bp (aj 5)<|aj 2)<|tB<|ao oEq (ao ax (aj 1)<|aj 5)<|aj 3) (
      aK (eC (.bl af))) (
      aO))) (
    aO))) (
 aK (eC (.bl ag))))
noncomputable def lS(a:CM):CM:=fn 3 7 (
 au (
  aN (aR (aq)) (az 3)) (
 au (
  bz (cc<|av aZ<|ak (aj 1) aq) (az 4) (
   au (
    aN (aR (aq)) (az 5)) (
   au (
    bz (dZ (eC<|.int 1)<|ao bG (aj 2)<|eC<|.int 1) (az 6) (
     aM (fP (tB<|ao oEq (ao ax (aj 1)<|aj 4)<|eC<|.int 0)<|bB<|tB<|av a<|ak (aj 0)<|ak (aj 1)<|ak (aj 4)<|ak (aj 6) aq) (
      cg (bD cZ (aj 5) (ak (aj 6) aq))) (
      aO))) (
   cg (bD cZ (aj 3) (ak (aj 5) aq)))))) (
 aK (aj 3))))
noncomputable def jO:CM:=fn 5 7 (
 au (
  aN (aj 4) (eE (aj 1) (aj 3))) (
 au (
  aN (aR (aq)) (eE (aj 2) (aj 3))) (
 bz (a9<|aj 0) (az 5) (
  aM (tB<|ao dP (aj 3)<|aj 5) (
   bz (a9<|aj 5) (az 6) (
    aN (bE 1 [] (a9 (ao ax (aj 2) (aj 6))) (az 7) (tB (ao bp (aj 7) (aj 4))) (aj 7)) (eE (aj 2) (aj 6)))) (
   aO)))))
noncomputable def fk:CM:=fn 4 4 (
 aK (bE 1 [] (a9 (ao ax (aj 0) (aj 2))) (az 4) (tB (ao dP (aj 3) (ao ax (aj 1) (aj 4)))) (aj 4)))
noncomputable def fm:CM:=fn 5 5 (
 au (
  aM (bg (tB<|ao oLt (aj 2)<|eC<|.int 0)<|bg (tB<|ao gR (aj 2)<|av aZ<|ak (aj 0) aq)<|bg (tB<|ao oLt (aj 3)<|eC<|.int 1)<|tB<|ao fV (aj 3)<|aj 4) (
   aK (eC (.bl ag))) (
   aO)) (
 aK (ao jd (aj 3) (bE 1 [] (a9 (ao ax (aj 0) (aj 2))) (az 5) (cX) (ao ax (aj 1) (aj 5))))))
noncomputable def kx(b a:CM):CM:=fn 5 6 (
 au (
  aN (ao ax (aj 3) (eC (.int 1))) (az 5)) (
 au (
  aM (bg (tB<|ao oLt (aj 5)<|eC<|.int 0)<|bg (tB<|ao gR (aj 5)<|av aZ<|ak (aj 1) aq)<|tB<|ao bp (ao ax (aj 1)<|aj 5)<|eC<|.int 0) (
   aK (eC (.bl ag))) (
   aO)) (
 au (
  aM (tB<|ao oEq (ao ax (aj 3)<|eC<|.int 0)<|eC<|.str [102,105,101,108,100]) (
   aK (ao oEq (ao ax (aj 2) (aj 5)) (aR (ak (ao ax (aj 3) (eC (.int 2))) aq)))) (
   aO)) (
 au (
  aM (bB<|tB<|av a<|ak (aj 0)<|ak (aj 1)<|ak (ao ax (aj 3)<|eC<|.int 3)<|ak (ao ax (aj 3)<|eC<|.int 2)<|ak (aj 4) aq) (
   aK (eC (.bl ag))) (
   aO)) (
 aK (ao oEq (av b (ak (aj 0) (ak (aj 2) (ak (ao ax (aj 3) (eC (.int 3))) (ak (ao ax (aj 3) (eC (.int 2))) aq))))) (aR (ak (aj 5) aq))))))))
noncomputable def lU(b a:CM):CM:=fn 5 6 (
 au (
  aM (tB<|ao oEq (ao ax (aj 3)<|eC<|.int 0)<|eC<|.str [102,105,101,108,100]) (
   au (
    aN (ao ax (aj 3) (eC (.int 1))) (az 5)) (
   au (
    aM (bg (tB<|ao oLt (aj 5)<|eC<|.int 0)<|bg (tB<|ao gR (aj 5)<|av aZ<|ak (aj 1) aq)<|tB<|ao bp (ao ax (aj 1)<|aj 5)<|eC<|.int 0) (
     aK (eC (.bl ag))) (
     aO)) (
   aK (ao oEq (ao ax (aj 2) (aj 5)) (aR (aq)))))) (
   aO)) (
 au (
  aM (tB<|ao oEq (ao ax (aj 3)<|eC<|.int 0)<|eC<|.str [103,114,111,117,112]) (
   au (
    aM (bB<|tB<|av a<|ak (aj 0)<|ak (aj 1)<|ak (ao ax (aj 3)<|eC<|.int 1)<|ak (ao ax (aj 3)<|eC<|.int 2)<|ak (aj 4) aq) (
     aK (eC (.bl ag))) (
     aO)) (
   aK (ao oEq (av b (ak (aj 0) (ak (aj 2) (ak (ao ax (aj 3) (eC (.int 1))) (ak (ao ax (aj 3) (eC (.int 2))) aq))))) (aR (aq))))) (
   aO)) (
 au (
  aM (bg (tB<|ao oLt (ao ax (aj 3)<|eC<|.int 1)<|eC<|.int 0)<|bg (tB<|ao gR (ao ax (aj 3)<|eC<|.int 1)<|av aZ<|ak (aj 0) aq)<|tB<|ao oLt (ao ax (aj 3)<|eC<|.int 2)<|eC<|.int 1) (
   aK (eC (.bl ag))) (
   aO)) (
 aK (ao fV (bD iH (bE 0 [5] (a9 (ao ax (aj 0) (ao ax (aj 3) (eC (.int 1))))) (az 5) (cX) (ao ax (aj 1) (aj 5))) (ak (ao ax (aj 3) (eC (.int 2))) aq)) (eC (.int 1)))))))
noncomputable def lO(b a:CM):CM:=fn 4 7 (
 au (
  bz (cc<|av aZ<|ak (aj 1) aq) (az 4) (
   aM (tB<|ao oEq (av aZ<|ak (ao ax (aj 2)<|aj 4) aq)<|eC<|.int 1) (
    aK (eC (.bl af))) (
    aO))) (
 au (
  bz (cc<|av aZ<|ak (aj 0) aq) (az 5) (
   bz (dZ (eC<|.int 1)<|ao bG (aj 3)<|eC<|.int 1) (az 6) (
    aM (tB<|av a<|ak (aj 0)<|ak (aj 1)<|ak (aj 5)<|ak (aj 6)<|ak (aj 3) aq) (
     aM (tB<|ao oEq (av aZ<|ak (av b<|ak (aj 0)<|ak (aj 2)<|ak (aj 5)<|ak (aj 6) aq) aq)<|eC<|.int 1) (
      aK (eC (.bl af))) (
      aO)) (
     aO)))) (
 aK (eC (.bl ag)))))
noncomputable def jH(a:CM):CM:=fn 1 2 (
 au (
  aM (bg (bB<|tB<|bt [.tuple]<|aj 0)<|bg (tB<|ao oLt (av aZ<|ak (aj 0) aq)<|eC<|.int 3)<|bB<|tB<|bt [.str]<|ao ax (aj 0)<|eC<|.int 0) (
   aK (eC (.bl ag))) (
   aO)) (
 au (
  bz (a9<|iu (aj 0) (gg<|eC<|.int 1) j3) (az 1) (
   aM (bB<|tB<|av a<|ak (aj 1) aq) (
    aK (eC (.bl ag))) (
    aO))) (
 au (
  aM (tB<|ao oEq (ao ax (aj 0)<|eC<|.int 0)<|eC<|.str [102,105,101,108,100]) (
   aK (ao oEq (av aZ (ak (aj 0) aq)) (eC (.int 3)))) (
   aO)) (
 aK (eZ (ao oEq (ao ax (aj 0) (eC (.int 0))) (eC (.str [103,114,111,117,112]))) (ao oEq (av aZ (ak (aj 0) aq)) (eC (.int 4))))))))
noncomputable def lP(a:CM):CM:=fn 1 2 (
 au (
  aM (bB<|tB<|bt [.list]<|aj 0) (
   aK (eC (.bl ag))) (
   aO)) (
 au (
  bz (a9<|aj 0) (az 1) (
   aM (bB<|tB<|av a<|ak (aj 1) aq) (
    aK (eC (.bl ag))) (
    aO))) (
 aK (eC (.bl af)))))
noncomputable def iC(a:CM):CM:=fn 1 2 (
 au (
  aM (bg (bB<|tB<|bt [.tuple]<|aj 0)<|bg (tB<|ao oLt (av aZ<|ak (aj 0) aq)<|eC<|.int 2)<|bB<|tB<|bt [.str]<|ao ax (aj 0)<|eC<|.int 0) (
   aK (eC (.bl ag))) (
   aO)) (
 au (
  bz (a9<|iu (aj 0) (gg<|eC<|.int 1) j3) (az 1) (
   aM (bB<|tB<|av a<|ak (aj 1) aq) (
    aK (eC (.bl ag))) (
    aO))) (
 au (
  aM (tB<|ao oEq (ao ax (aj 0)<|eC<|.int 0)<|eC<|.str [102,105,101,108,100]) (
   aK (ao oEq (av aZ (ak (aj 0) aq)) (eC (.int 2)))) (
   aO)) (
 aK (eZ (ao dP (ao ax (aj 0) (eC (.int 0))) (aR (ak (eC (.str [103,114,111,117,112])) (ak (eC (.str [116,119,105,99,101])) aq)))) (ao oEq (av aZ (ak (aj 0) aq)) (eC (.int 3))))))))
noncomputable def i8:CM:=fn 3 6 (
 au (
  bz (a9<|aj 0) (az 3) (
   au (
    aN (bE 1 [] (a9 (aj 3)) (az 6) (cX) (ao ax (aj 1) (aj 6))) (az 4)) (
   bz (dZ (eC<|.int 1)<|ao bG (aj 2)<|eC<|.int 1) (az 5) (
    aM (tB<|ao fV (bD iH (aj 4)<|ak (aj 5) aq)<|eC<|.int 1) (
     aK (eC (.bl ag))) (
     aO))))) (
 aK (eC (.bl af))))
noncomputable def lL(a:CM):CM:=fn 4 5 (
 au (
  bz (cc<|av aZ<|ak (aj 1) aq) (az 4) (
   aM (bg (tB<|ao oEq (ao ax (aj 2)<|aj 4)<|eC<|.int 0)<|tB<|ao jd (ao ax (aj 1)<|aj 4)<|aR<|ak (eC<|.int 0)<|ak (ao ax (aj 2)<|aj 4) aq) (
    aK (eC (.bl ag))) (
    aO))) (
 aK (av a (ak (aj 0) (ak (aj 2) (ak (aj 3) aq))))))
noncomputable def lX(a b:CM):CM:=fn 1 2 (
 au (
  aM (bg (bB<|tB<|bt [.tuple]<|aj 0)<|bg (tB<|ao oEq (aj 0)<|bI<|aq)<|bB<|tB<|bt [.str]<|ao ax (aj 0)<|eC<|.int 0) (
   aK (eC (.bl ag))) (
   aO)) (
 au (
  aM (tB<|ao oEq (ao ax (aj 0)<|eC<|.int 0)<|eC<|.str [99,108,97,115,104]) (
   aK (eZ (ao oEq (av aZ (ak (aj 0) aq)) (eC (.int 2))) (av b (ak (ao ax (aj 0) (eC (.int 1))) aq)))) (
   aO)) (
 au (
  aM (tB<|ao bp (ao ax (aj 0)<|eC<|.int 0)<|eC<|.str [116,114,121]) (
   aK (eZ (ao oEq (av aZ (ak (aj 0) aq)) (eC (.int 1))) (ao dP (ao ax (aj 0) (eC (.int 0))) (aR (ak (eC (.str [102,117,108,108])) (ak (eC (.str [108,101,102,116])) aq)))))) (
   aO)) (
 au (
  aM (bg (tB<|ao bp (av aZ<|ak (aj 0) aq)<|eC<|.int 3)<|bg (bB<|tB<|av a<|ak (ao ax (aj 0)<|eC<|.int 1) aq)<|bB<|tB<|bt [.list]<|ao ax (aj 0)<|eC<|.int 2) (
   aK (eC (.bl ag))) (
   aO)) (
 au (
  bz (a9<|ao ax (aj 0)<|eC<|.int 2) (az 1) (
   aM (bg (bB<|tB<|bt [.tuple]<|aj 1)<|bg (tB<|ao bp (av aZ<|ak (aj 1) aq)<|eC<|.int 2)<|bB<|tB<|av a<|ak (ao ax (aj 1)<|eC<|.int 0) aq) (
    aK (eC (.bl ag))) (
    aO))) (
 aK (eC (.bl af))))))))
noncomputable def lQ(a:CM):CM:=fn 6 7 (
 au (
  cg (bD cZ (aj 5) (ak (ao ax (aj 3) (eC (.int 0))) aq))) (
 au (
  aM (tB<|ao oEq (ao ax (aj 3)<|eC<|.int 0)<|eC<|.str [102,117,108,108]) (
   aK (ao jd (eC (.int 0)) (aj 1))) (
   aO)) (
 au (
  aM (tB<|ao oEq (ao ax (aj 3)<|eC<|.int 0)<|eC<|.str [99,108,97,115,104]) (
   aK (av a (ak (aj 0) (ak (aj 1) (ak (aj 2) (ak (ao ax (aj 3) (eC (.int 1))) (ak (aj 4) aq))))))) (
   aO)) (
 au (
  aM (tB<|ao oEq (ao ax (aj 3)<|eC<|.int 0)<|eC<|.str [108,101,102,116]) (
   aK (eC (.bl af))) (
   aO)) (
 au (
  aN (ao ax (aj 3) (eC (.int 1))) (az 6)) (
 au (
  aM (bg (tB<|ao oLt (aj 6)<|eC<|.int 0)<|bg (tB<|ao gR (aj 6)<|av aZ<|ak (aj 1) aq)<|tB<|ao bp (ao ax (aj 1)<|aj 6)<|eC<|.int 0) (
   aK (eC (.bl ag))) (
   aO)) (
 aK (ao oEq (bE 1 [] (a9 (ao ax (aj 3) (eC (.int 2)))) (az 7) (cX) (ao ax (aj 7) (eC (.int 0)))) (ao ax (aj 2) (aj 6))))))))))
noncomputable def pJ(e g a c b f d:CM):CM:=fn 4 16 (
 au (
  aN (aR (aq)) (az 4)) (
 au (
  aN (aR (aq)) (az 5)) (
 au (
  aN (eC (.bl af)) (az 6)) (
 au (
  aN (aR (ak (bI (ak (av gh (ak (aj 1) aq)) (ak (av e (ak (aj 0) (ak (aj 1) (ak (aj 3) aq)))) (ak (aj 2) aq)))) aq)) (az 7)) (
 au (
  qM 1000000000 (tB<|ao bp (aj 7)<|aR<|aq) (
   au (
    aN (bD iU (aj 7) (aq)) (dd [az 8,az 9,az 10])) (
   au (
    aM (bg (bB<|tB<|bt [.tuple]<|aj 10)<|bg (tB<|ao bp (av aZ<|ak (aj 10) aq)<|eC<|.int 2)<|bB<|tB<|av b<|ak (ao ax (aj 10)<|eC<|.int 0) aq) (
     aK (eC .aA)) (
     aO)) (
   au (
    aM (bB<|tB<|av f<|ak (ao ax (aj 10)<|eC<|.int 1) aq) (
     aK (eC .aA)) (
     aO)) (
   au (
    bz (a9<|ao ax (aj 10)<|eC<|.int 0) (az 11) (
     au (
      aM (bB<|tB<|av a<|ak (aj 0)<|ak (aj 8)<|ak (aj 9)<|ak (aj 11)<|ak (aj 3) aq) (
       aK (eC .aA)) (
       aO)) (
     cg (av g (ak (aj 0) (ak (aj 8) (ak (aj 9) (ak (ao ax (aj 11) (eC (.int 1))) (ak (ao ax (aj 11) (eC (.int 2))) aq))))))))) (
   au (
    aM (bB<|tB<|av d<|ak (aj 0)<|ak (aj 8)<|ak (aj 9)<|ak (ao ax (aj 10)<|eC<|.int 1)<|ak (aj 3)<|ak (aj 4) aq) (
     aK (eC .aA)) (
     aO)) (
   au (
    aM (tB<|ao oEq (ao ax (ao ax (aj 10)<|eC<|.int 1)<|eC<|.int 0)<|eC<|.str [102,117,108,108]) (
     cg (bD cZ (aj 5) (ak (aj 8) aq))) (
     aO)) (
   aM (tB<|ao oEq (ao ax (ao ax (aj 10)<|eC<|.int 1)<|eC<|.int 0)<|eC<|.str [116,114,121]) (
    au (
     aM (tB<|av c<|ak (aj 0)<|ak (aj 8)<|ak (aj 9)<|ak (aj 3) aq) (
      aN (eC (.bl ag)) (az 6)) (
      aO)) (
    bz (a9<|ao ax (ao ax (aj 10)<|eC<|.int 1)<|eC<|.int 2) (dd [az 12,az 13]) (
     au (
      aN (av gh (ak (aj 8) aq)) (az 14)) (
     au (
      aN (bE 1 [] (a9 (aj 9)) (az 16) (cX) (av gh (ak (aj 16) aq))) (az 15)) (
     au (
      cg (av g (ak (aj 0) (ak (aj 14) (ak (aj 15) (ak (ao ax (ao ax (aj 10) (eC (.int 1))) (eC (.int 1))) (ak (aj 12) aq))))))) (
     cg (bD cZ (aj 7) (ak (bI (ak (aj 14) (ak (aj 15) (ak (aj 13) aq)))) aq)))))))) (
    aO))))))))) (
 aK (bI (ak (aj 4) (ak (aj 5) (ak (aj 6) aq))))))))))
noncomputable def pP:CM:=fn 2 4 (
 au (
  aN (av gh (ak (aj 0) aq)) (az 2)) (
 au (
  bz (cc<|av aZ<|ak (aj 2) aq) (az 3) (
   aM (bg (tB<|ao dP (ao oMod (aj 3)<|eC<|.int 7)<|aR<|ak (eC<|.int 1)<|ak (eC<|.int 2)<|ak (eC<|.int 5) aq)<|tB<|ao oEq (ao oMod (aj 3)<|eC<|.int 9)<|ao oMod (aj 1)<|eC<|.int 9) (
    aM (tB<|ao oLt (bD iH (aj 2)<|ak (eC<|.int 0) aq)<|eC<|.int 45) (
     aN (eC (.int 0)) (eE (aj 2) (aj 3))) (
     aO)) (
    aO))) (
 aK (aj 2))))
end LV
namespace PB
open VM
noncomputable def kC:CM:=fn 2 2 (
 aK (bE 1 [] (cc (aj 0)) (az 2) (cX) (ao bG (ao bL (aj 1) (aj 0)) (aj 2))))
noncomputable def ku:CM:=fn 2 2 (
 aK (bE 1 [] (cc (aj 0)) (az 2) (cX) (ao bG (ao bL (aj 2) (aj 0)) (aj 1))))
noncomputable def kD:CM:=fn 3 9 (
 au (
  aN (ao bL (aj 0) (aj 1)) (az 3)) (
 au (
  aN (ao bL (ao oDiv (aj 2) (aj 0)) (aj 0)) (az 4)) (
 au (
  aN (ao bL (ao oMod (aj 2) (aj 0)) (aj 1)) (az 5)) (
 au (
  aN (aR (aq)) (az 6)) (
 au (
  bz (dZ (aj 4)<|ao bG (aj 4)<|aj 0) (az 7) (
   bz (dZ (aj 5)<|ao bG (aj 5)<|aj 1) (az 8) (
    cg (bD cZ (aj 6) (ak (ao bG (ao bL (aj 7) (aj 3)) (aj 8)) aq))))) (
 aK (aj 6)))))))
noncomputable def nU(b a c:CM):CM:=fn 2 6 (
 au (
  aN (ao bL (aj 0) (aj 1)) (az 2)) (
 au (
  aN (bE 1 [] (cc (aj 2)) (az 6) (cX) (av b (ak (aj 2) (ak (aj 6) aq)))) (az 3)) (
 au (
  aN (bE 1 [] (cc (aj 2)) (az 6) (cX) (av a (ak (aj 2) (ak (aj 6) aq)))) (az 4)) (
 au (
  aN (bE 1 [] (cc (aj 2)) (az 6) (cX) (av c (ak (aj 0) (ak (aj 1) (ak (aj 6) aq))))) (az 5)) (
 aK (ao bG (ao bG (aj 3) (aj 4)) (aj 5)))))))
noncomputable def lK:CM:=fn 3 5 (
 au (
  aN (ao bL (aj 0) (aj 1)) (az 3)) (
 au (
  aM (tB<|ao bp (av aZ<|ak (aj 2) aq)<|ao bL (aj 3)<|aj 3) (
   vU) (
   aO)) (
 bz (a9<|aj 2) (az 4) (
  aM (bg (tB<|ao oLt (aj 4)<|eC<|.int 0)<|tB<|ao fV (aj 4)<|aj 3) (
   vU) (
   aO)))))
noncomputable def lV:CM:=fn 3 7 (
 au (
  aN (ao bL (aj 0) (aj 1)) (az 3)) (
 au (
  aN (ao oDiv (aj 2) (aj 3)) (az 4)) (
 au (
  aN (ao oMod (aj 2) (aj 3)) (az 5)) (
 au (
  aN (ao bG (ao bL (ao oDiv (aj 4) (aj 0)) (aj 0)) (ao oDiv (aj 5) (aj 1))) (az 6)) (
 aK (aR (ak (aj 4) (ak (ao bG (aj 3) (aj 5)) (ak (ao bG (ao bL (eC (.int 2)) (aj 3)) (aj 6)) aq)))))))))
noncomputable def lT(c b a:CM):CM:=fn 4 6 (
 au (
  cg (av b (ak (aj 1) (ak (aj 2) (ak (aj 3) aq))))) (
 au (
  iR [83,116,97,116,101] [104,105,103,104] (aj 0) (aj 1)) (
 au (
  iR [83,116,97,116,101] [119,105,100,101] (aj 0) (aj 2)) (
 au (
  iR [83,116,97,116,101] [103,114,111,117,112,115] (aj 0) (av c (ak (aj 1) (ak (aj 2) aq)))) (
 au (
  iR [83,116,97,116,101] [110,117,109,98,101,114,115] (aj 0) (av gh (ak (aj 3) aq))) (
 au (
  iR [83,116,97,116,101] [99,97,110] (aj 0) (oK)) (
 bz (qY<|aj 3) (dd [az 4,az 5]) (
  aM (tB<|ao oEq (aj 5)<|eC<|.int 0) (
   ia (aT [83,116,97,116,101] [99,97,110] (aj 0)) (aj 4) (fu [83,116,97,116,101] [110,117,109,98,101,114,115,95,102,111,114] a (aj 0) (ak (aj 4) aq))) (
   aO)))))))))
noncomputable def lI(a:CM):CM:=fn 2 5 (
 au (
  aN (oK) (az 2)) (
 au (
  bz (a9<|av a<|ak (aT [83,116,97,116,101] [104,105,103,104]<|aj 0)<|ak (aT [83,116,97,116,101] [119,105,100,101]<|aj 0)<|ak (aj 1) aq) (az 3) (
   bz (a9<|ao ax (aT [83,116,97,116,101] [103,114,111,117,112,115]<|aj 0)<|aj 3) (az 4) (
    ia (aj 2) (ao ax (aT [83,116,97,116,101] [110,117,109,98,101,114,115] (aj 0)) (aj 4)) (eC (.bl af))))) (
 aK (bE 1 [] (dZ (eC (.int 1)) (ao bG (ao bL (aT [83,116,97,116,101] [104,105,103,104] (aj 0)) (aT [83,116,97,116,101] [119,105,100,101] (aj 0))) (eC (.int 1)))) (az 5) (tB (mN af (aj 5) (aj 2))) (aj 5)))))
noncomputable def lW(a:CM):CM:=fn 3 5 (
 au (
  aN (aj 2) (eE (aT [83,116,97,116,101] [110,117,109,98,101,114,115] (aj 0)) (aj 1))) (
 au (
  cg (wj mM (aT [83,116,97,116,101] [99,97,110] (aj 0)) (aj 1))) (
 bz (a9<|av a<|ak (aT [83,116,97,116,101] [104,105,103,104]<|aj 0)<|ak (aT [83,116,97,116,101] [119,105,100,101]<|aj 0)<|ak (aj 1) aq) (az 3) (
  bz (a9<|ao ax (aT [83,116,97,116,101] [103,114,111,117,112,115]<|aj 0)<|aj 3) (az 4) (
   aM (tB<|ao dP (aj 2)<|fe fv (aT [83,116,97,116,101] [99,97,110]<|aj 0) (aj 4)<|aR<|aq) (
    ia (aT [83,116,97,116,101] [99,97,110] (aj 0)) (aj 4) (bE 1 [] (a9 (ib (aT [83,116,97,116,101] [99,97,110] (aj 0)) (aj 4))) (az 5) (tB (ao bp (aj 5) (aj 2))) (aj 5))) (
    aO))))))
noncomputable def nI(a b:CM):CM:=fn 3 4 (
 au (
  aN (av b (ak (aT [83,116,97,116,101] [104,105,103,104] (aj 0)) (ak (aT [83,116,97,116,101] [119,105,100,101] (aj 0)) (ak (aT [83,116,97,116,101] [110,117,109,98,101,114,115] (aj 0)) aq)))) (az 3)) (
 au (
  cg (fu [83,116,97,116,101] [112,117,116] a (aj 3) (ak (aj 1) (ak (aj 2) aq)))) (
 aK (aj 3))))
noncomputable def uT(a:CM):CM:=mW [83,116,97,116,101] a
noncomputable def nV:CM:=fn 2 5 (
 au (
  aN (oK) (az 2)) (
 au (
  bz (a9<|ao ax (aT [83,116,97,116,101] [103,114,111,117,112,115]<|aj 0)<|aj 1) (az 3) (
   bz (a9<|fe fv (aT [83,116,97,116,101] [99,97,110]<|aj 0) (aj 3)<|aR<|aq) (az 4) (
    cg (bD cZ (fe gG (aj 2) (aj 4) (aR (aq))) (ak (aj 3) aq))))) (
 aK (aj 2))))
noncomputable def nJ:CM:=fn 1 1 (
 aK (kT 2 [] (aT [83,116,97,116,101] [99,97,110] (aj 0)) (dd [az 1,az 2]) (tB (ao oEq (aj 2) (aR (aq)))) (aj 1)))
noncomputable def nC:CM:=fn 2 5 (
 au (
  aN (oK) (az 2)) (
 au (
  bz (a9<|ao ax (aT [83,116,97,116,101] [103,114,111,117,112,115]<|aj 0)<|aj 1) (az 3) (
   au (
    ia (aj 2) (ao ax (aT [83,116,97,116,101] [110,117,109,98,101,114,115] (aj 0)) (aj 3)) (eC (.bl af))) (
   bz (a9<|fe fv (aT [83,116,97,116,101] [99,97,110]<|aj 0) (aj 3)<|aR<|aq) (az 4) (
    ia (aj 2) (aj 4) (eC (.bl af)))))) (
 aK (bE 0 [4] (dZ (eC (.int 1)) (ao bG (ao bL (aT [83,116,97,116,101] [104,105,103,104] (aj 0)) (aT [83,116,97,116,101] [119,105,100,101] (aj 0))) (eC (.int 1)))) (az 4) (tB (mN af (aj 4) (aj 2))) (aj 4)))))
noncomputable def nH:CM:=fn 2 3 (
 au (
  aN (bE 1 [] (a9 (ao ax (aT [83,116,97,116,101] [103,114,111,117,112,115] (aj 0)) (aj 1))) (az 3) (cX) (ao ax (aT [83,116,97,116,101] [110,117,109,98,101,114,115] (aj 0)) (aj 3))) (az 2)) (
 aK (bE 1 [] (dZ (eC (.int 1)) (ao bG (ao bL (aT [83,116,97,116,101] [104,105,103,104] (aj 0)) (aT [83,116,97,116,101] [119,105,100,101] (aj 0))) (eC (.int 1)))) (az 3) (tB (ao fV (bD iH (aj 2) (ak (aj 3) aq)) (eC (.int 1)))) (aj 3))))
noncomputable def nE(a b:CM):CM:=fn 3 5 (
 au (
  bz (cc<|av aZ<|ak (aT [83,116,97,116,101] [103,114,111,117,112,115]<|aj 0) aq) (az 3) (
   au (
    aN (qL [([116,119,105,99,101,95,110,117,109,98,101,114,115],b),([104,111,109,101,108,101,115,115,95,110,117,109,98,101,114,115],a)] (aj 2) (ak (aj 0) (ak (aj 3) aq))) (az 4)) (
   aM (tB<|ao bp (aj 4)<|aR<|aq) (
    aK (bI (ak (aj 1) (ak (aj 3) (ak (ao ax (aj 4) (eC (.int 0))) aq))))) (
    aO)))) (
 aK (eC .aA)))
noncomputable def nM(a:CM):CM:=fn 1 1 (
 aK (av a (ak (aj 0) (ak (eC (.str [116,119,105,99,101])) (ak (ph [116,119,105,99,101,95,110,117,109,98,101,114,115]) aq)))))
noncomputable def nF(b a:CM):CM:=fn 1 2 (
 au (
  aN (av b (ak (aj 0) aq)) (az 1)) (
 au (
  aM (tB<|ao bp (aj 1)<|aR<|aq) (
   aK (bI (ak (eC (.str [102,105,101,108,100])) (ak (ao ax (aj 1) (eC (.int 0))) aq)))) (
   aO)) (
 aK (av a (ak (aj 0) (ak (eC (.str [103,114,111,117,112])) (ak (ph [104,111,109,101,108,101,115,115,95,110,117,109,98,101,114,115]) aq)))))))
noncomputable def nQ(a:CM):CM:=fn 1 6 (
 au (
  mG (aT [83,116,97,116,101] [99,97,110]<|aj 0) (dd [az 1,az 2]) (
   aM (tB<|ao oEq (av aZ<|ak (aj 2) aq)<|eC<|.int 1) (
    aK (bI (ak (eC (.str [102,105,101,108,100])) (ak (aj 1) (ak (ao ax (aj 2) (eC (.int 0))) aq))))) (
    aO))) (
 au (
  bz (cc<|av aZ<|ak (aT [83,116,97,116,101] [103,114,111,117,112,115]<|aj 0) aq) (az 3) (
   mG (av a<|ak (aj 0)<|ak (aj 3) aq) (dd [az 4,az 5]) (
    aM (tB<|ao oEq (av aZ<|ak (aj 5) aq)<|eC<|.int 1) (
     aK (bI (ak (eC (.str [103,114,111,117,112])) (ak (ao ax (aj 5) (eC (.int 0))) (ak (aj 4) (ak (aj 3) aq)))))) (
     aO)))) (
 aK (eC .aA))))
noncomputable def nO(b a:CM):CM:=fn 1 2 (
 au (
  aN (av b (ak (aj 0) aq)) (az 1)) (
 au (
  aM (tB<|mE<|aj 1) (
   aK (aj 1)) (
   aO)) (
 aK (av a (ak (aj 0) aq)))))
noncomputable def nR(d a c b:CM):CM:=fn 1 4 (
 au (
  aN (aR (aq)) (az 1)) (
 au (
  aN (av b (ak (aj 0) aq)) (az 2)) (
 au (
  qM 1000000000 (tB<|jk<|aj 2) (
   au (
    aN (av c (ak (aj 0) aq)) (az 3)) (
   au (
    aM (tB<|jk<|aj 3) (
     wm) (
     aO)) (
   au (
    cg (fu [83,116,97,116,101] [112,117,116] d (aj 0) (ak (ao ax (aj 3) (eC (.int 1))) (ak (ao ax (aj 3) (eC (.int 2))) aq)))) (
   au (
    cg (bD cZ (aj 1) (ak (aj 3) aq))) (
   aN (av a (ak (aj 0) aq)) (az 2))))))) (
 aK (bI (ak (aj 1) (ak (aj 2) aq)))))))
noncomputable def nK:CM:=fn 1 1 (
 aK (oN (aT [83,116,97,116,101] [99,97,110] (aj 0))))
noncomputable def nS(b d a c:CM):CM:=fn 2 7 (
 au (
  aM (tB<|ao oEq (av aZ<|ak (aj 1) aq)<|eC<|.int 2) (
   aK (bI (ak (aR (aq)) (ak (bI (ak (eC (.str [108,101,102,116])) aq)) aq)))) (
   aO)) (
 au (
  aN (av d (ak (aj 0) aq)) (dd [az 2,az 3])) (
 au (
  aM (tB<|mE<|aj 3) (
   aK (bI (ak (aj 2) (ak (bI (ak (eC (.str [99,108,97,115,104])) (ak (aj 3) aq))) aq)))) (
   aO)) (
 au (
  aM (tB<|oM<|aT [83,116,97,116,101] [99,97,110]<|aj 0) (
   au (
    cg (bD cZ (aj 1) (ak (aT [83,116,97,116,101] [110,117,109,98,101,114,115] (aj 0)) aq))) (
   aK (bI (ak (aj 2) (ak (bI (ak (eC (.str [102,117,108,108])) aq)) aq))))) (
   aO)) (
 au (
  aN (av a (ak (aj 0) aq)) (az 4)) (
 au (
  aN (aR (aq)) (az 5)) (
 au (
  bz (a9<|ib (aT [83,116,97,116,101] [99,97,110]<|aj 0)<|aj 4) (az 6) (
   cg (bD cZ (aj 5) (ak (bI (ak (aj 6) (ak (av c (ak (fu [83,116,97,116,101] [98,101,104,105,110,100] b (aj 0) (ak (aj 4) (ak (aj 6) aq))) (ak (aj 1) aq))) aq))) aq)))) (
 aK (bI (ak (aj 2) (ak (bI (ak (eC (.str [116,114,121])) (ak (aj 4) (ak (aj 5) aq)))) aq)))))))))))
noncomputable def n_(b a:CM):CM:=fn 3 5 (
 au (
  aN (aR (aq)) (az 3)) (
 au (
  aN (av a (ak (av b (ak (aj 0) (ak (aj 1) (ak (aj 2) aq)))) (ak (aj 3) aq))) (az 4)) (
 aK (bI (ak (aj 3) (ak (aj 4) aq))))))
end PB
namespace LV
open VM
def dg{i j:Int}{M:Mem}(h:i.natAbs<=1000000):bL (.int i) (.int j) M=.ok (.int<|i*j) M:=T5<|.inl (by unfold j2;omega)
def fL(h:0<j)(a:j<1000000):oDiv (.int i) (.int j) M=.ok (.int<|i / j) M:=T5 ⟨h,by omega⟩
def dX(h:0<j):oMod (.int i) (.int j) M=.ok (.int<|i % j) M:=T5 h
def cU{j:Int}(h:0<=j)(a:j<1000000):j.natAbs<bV:=by unfold bV;omega
noncomputable def aX(M:Mem)(v:W)(a:List Int):Prop:=aF M v<|a.map .int
noncomputable def LL(M:Mem)(v:W)(a:List<|List Int):Prop:=∃b,aF M v b/\a_ (λw c=>aX M w c) b a
def LL.mono(h:LL M v NL)(p:M<+:M'):LL M' v NL:=by obtain⟨a,c,b⟩:=h;exact⟨a,c.mono p,b.imp λ_ _ q=>aF.mono q p⟩
noncomputable def lp(s r:Nat):List Int:=(List.range s).map λ(c:Nat)=>(r)*s+(c)
noncomputable def lq(s c:Nat):List Int:=(List.range s).map λ(r:Nat)=>(r)*s+(c)
noncomputable def vV(h w b:Nat):List Int:=(List.range h).flatMap λr=>(List.range w).map λc=>((b / h*h+r:Nat):Int)*(h*w:Nat)+(b % h*w+c:Nat)
noncomputable def ar(h w:Nat):List (List Int):=(List.range<|h*w).map (lp<|h*w)++(List.range<|h*w).map (lq<|h*w)++(List.range<|h*w).map (vV h w)
def filter_tt(l:List α):l.filter (λ_=>af)=l:=by
 induction l with
 |nil=>rfl
 |cons a r b=>simp[b]
def p_(h:M[a]? =aa (.lst xs))(b:xs.length<16777216):cZ (.ref a) [y] M=.ok .aA (M.set a<|.lst<|xs++[y]):=by unfold cZ;rw[gA h];exact T5 b
def xt(n)(f:Nat->List α):(List.range<|n+1).flatMap f=(List.range n).flatMap f++f n:=by rw[Vv,Xb];simp
def C4(n)(f:Nat->α):(List.range<|n+1).map f=(List.range n).map f++[f n]:=by rw[Vv,VS];rfl
def uq{elt:EM}{σ:St}{M:Mem}{s:Nat}(k:Nat)(f:Nat->List Int)(e:EM)(C:e σ M=.ok (.int s) M)(L:s<=9)(h:∀j,j<s->∀b,M<+:b->∃v d,elt ((σ++[ae]).set k<|aa<|.int j) b=.ok v d/\b<+:d/\aX d v (f j)):
 ∃v b,bE 1 [] (cc e) (az k) cX elt σ M=.ok v b/\M<+:b/\LL b v ((List.range s).map f):=by
 have o:(s:Int).natAbs<bV:=cU (by omega)<|by omega
 have F:cc e σ M=.ok (cS 0 s,[]) M:=by unfold cc;rw[C];simp only[R.bind];rw[T5 o,UA]
 obtain⟨l,b,D,pre,m⟩:=p5 (c:=[]) (i:=k) (t:=cX) (elt:=elt) (σ:=σ++[ae]) (λ_=>af) (λx y M=>∃j:Nat,x=.int j/\aX M y (f j)) (λx y M b p ⟨j,e,q⟩=>⟨j,e,aF.mono q p⟩) (gJ 0 s) M (σ++[ae]) [] (λ_=>rfl) (λ_ _=>rfl) (λx E b p=>by
   obtain⟨j,u,rfl⟩:=Um.mp E;rw[UD] at u;refine⟨b,rfl,dc _,λ_=>?_⟩;have J:(0:Int)+(j:Int)=(j:Int):=by omega
   obtain⟨v,d,z,G,h3⟩:=h j u b p;rw[J];exact⟨v,d,z,G,j,rfl,h3⟩)
 have A:l.length=s:=by have:=m.len;rw[filter_tt] at this;simp[gJ] at this;omega
 refine⟨.ref b.length,b++[.lst l],?_,pre.trans<|pre_app _ _,l,aF.new _ _,?_⟩
 ·unfold bE;rw[F];simp only[R.bind,R.gL,dE,VJ,Vw,VL,l4];rw[D];simp only[R.bind,UJ];exact bT<|by omega
 ·rw[filter_tt] at m;have g:∀(n:List Nat) (l:List W) (N:Mem),b<+:N->a_ (λx y=>∃j:Nat,x=W.int j/\aX b y (f j)) (n.map λ(j:Nat)=>W.int<|0+(j:Int)) l->a_ (λw I=>aX N w I) l (n.map f):=by
   intro n;induction n with
   |nil=>intro l N p a;cases a;exact .nil
   |cons j r H=>
    intro l N p a;cases a with
    |cons h t=>
     obtain⟨K,e,q⟩:=h;have B:j=K:=by injection e with e;omega
     subst B;exact .cons (aF.mono q p)<|H _ N p t
  exact g _ _ _ (pre_app _ _) m
def AE{M:Mem}{v u:W}{xs ys:List (List Int)}(h:LL M v xs)(i:LL M u ys)(l:xs.length+ys.length<=1000):∃w c,bG v u M=.ok w c/\M<+:c/\LL c w (xs++ys):=by
 obtain⟨d,⟨a,rfl,k⟩,g⟩:=h;obtain⟨f,⟨b,rfl,j⟩,e⟩:=i;have m:=g.len;have n:=e.len;refine⟨.ref M.length,M++[.lst<|d++f],?_,pre_app _ _,d++f,aF.new _ _,?_⟩
 ·simp only[bG,gA k,gA j];exact bT (by rw[Us];omega)
 ·exact a_.app (g.imp λ_ _ q=>aF.mono q<|pre_app _ _)<|e.imp λ_ _ q=>aF.mono q<|pre_app _ _
noncomputable def tX(f:CM):Prop:=∀(h w:Nat) (M),1<=h/\h<=3->1<=w/\w<=3->∃v a,f [.int h,.int w] M=.ok v a/\M<+:a/\LL a v (ar h w)
noncomputable def aw(fs:List Int)(i:Int):Int:=fs.getD i.toNat 0
def AF{fs:List Int}(b:0<=i)(h:i<(fs.length:Int)):cA (fs.map W.int) i=aa (.int<|aw fs i):=by
 have a:i.toNat<fs.length:=by omega
 have e:cq (fs.map W.int).length i=aa i.toNat:=by unfold cq;rw[T5 b,Ua,T5 h]
 unfold cA;rw[e];show(fs.map W.int)[i.toNat]? =_;rw[U7,VN a];simp[aw,List.getD,a]
def er(h:aX M v fs)(b:0<=i)(a:i<(fs.length:Int)):ax v (.int i) M=.ok (.int<|aw fs i) M:=by simp only[ax,aF.bu h,AF b a]
def je(h:aX M v fs):aZ [v] M=.ok (.int fs.length) M:=by unfold aZ;simp only[aF.bu h,Ua]
def ne_int:bp (.int i) (.int j) M=.ok (.bl<|!ai (i=j)) M:=by unfold bp dt;simp[VM.dh]
def eq_int:oEq (.int i) (.int j) M=.ok (.bl<|ai<|i=j) M:=by unfold oEq dt;simp[VM.dh]
def lt_int:oLt (.int i) (.int j) M=.ok (.bl<|ai<|i<j) M:=rfl
def gt_int:fV (.int i) (.int j) M=.ok (.bl<|ai<|j<i) M:=rfl
def ge_int:gR (.int i) (.int j) M=.ok (.bl<|ai<|j<=i) M:=rfl
structure bo(s:Nat)(ns:List Int):Prop where
 len:ns.length=s*s
 lo:∀x∈ns,0<=x
 hi:∀x∈ns,x<=(s:Int)
def fZ{a:List Int}{j:Nat}(h:(a.map W.int)[j]? =aa x):∃n∈a,x=.int n/\a[j]? =aa n:=by
 rw[U7] at h;cases e:a[j]? with
 |none=>rw[e] at h;cases h
 |some n=>rw[e] at h;exact⟨n,U8 e,(Ug h).symm,rfl⟩
def qj(x y)(M):(Src.pair x y).get M=.ok (.ref M.length) (M++[.tup [x,y]]):=by exact gX (by show 2<=16777216;decide)
def xJ(ns):intsOf (ns.map .int)=aa ns:=by
 induction ns with
 |nil=>rfl
 |cons n r a=>simp only[Ux,intsOf,a];rfl
def uU{σ:St}{M:Mem}{vg vf:W}{g fs:List Int}(e:EM)(f:EM)(k:Nat)(n:e σ M=.ok vg M)(q:aX M vg g)(m:aX M vf fs)(d:∀i∈g,0<=i/\i<(fs.length:Int))(s:g.length<=1000)(c:∀x,f ((σ++[ae]).set k<|aa x) M=.ok vf M)(o:∀x,aj k ((σ++[ae]).set k<|aa x) M=.ok x M):
 bE 1 [] (a9 e) (az k) cX (ao ax f<|aj k) σ M=.ok (.ref M.length) (M++[.lst<|(g.map<|aw fs).map .int]):=by
 obtain⟨a,rfl,h⟩:=q;unfold bE;have p:a9 e σ M=.ok ((g.map W.int).map .val,[(a,.lst<|g.map .int)]) M:=by unfold a9;rw[n];simp only[R.bind,h]
 rw[p];simp only[R.bind,R.gL,dE,VJ,Vw,VL];rw[gz (σ:=σ++[ae]) (λ_=>af) (λx=>match x with|.int i=>.int (aw fs i)|_=>.aA) _ _ _ (λ_=>rfl) (by simp[bN.ok,h]) ?_]
 ·simp only[filter_tt,UJ,VT];exact bT (by simp;omega)
 ·intro x l;obtain⟨i,b,rfl⟩:=Um.mp l;obtain⟨j,r⟩:=d i b;refine⟨rfl,λ_=>?_⟩;simp only[ao,c,o,R.bind];exact er m j r
def l7(ns:List Int):(ns.map W.int).all flat=af:=by
 induction ns with
 |nil=>rfl
 |cons n r a=>simp only[Ux,Vp,a,Vj];rfl
def yT(x)(a:List Int):i0 (.int x) (a.map .int)=a.any (·==x):=by unfold i0;rw[WH];rfl
def oQ(x)(h:aX M u fs):dP (.int x) u M=.ok (.bl (fs.any (·==x))) M:=by unfold dP;rw[aF.bu h];simp only[flat,l7,Vj,Uv,yT]
def h3(a:1<=h/\h<=3):h=1\/h=2\/h=3:=by omega
noncomputable def LQ(h w:Nat):Bool:=(ar h w).all λg=>ai (g.length<=9)&&g.all λi=>ai (0<=i)&&ai (i<((h*w*(h*w):Nat):Int))
def hJ(d:1<=h/\h<=3)(j:1<=w/\w<=3):∀g∈ar h w,g.length<=9/\∀i∈g,0<=i/\i<((h*w*(h*w):Nat):Int):=by
 have c:LQ h w=af:=by rcases h3 d with rfl|rfl|rfl<;>rcases h3 j with rfl|rfl|rfl<;>decide+kernel
 intro g f;have a:=US.mp c g f;rw[T'] at a;refine⟨UM a.1,λi e=>?_⟩;have b:=US.mp a.2 i e;rw[T'] at b;exact⟨UM b.1,UM b.2⟩
noncomputable def cnt(k:Int)(l:List Int):Nat:=l.countP (·==k)
def ur(k)(h:aX M v l):iH v [.int k] M=.ok (.int<|cnt k l) M:=by
 obtain⟨a,rfl,b⟩:=h;unfold iH;rw[gA b];simp only[flat,l7,Vj,Uv];have e:(l.map W.int).countP (λz=>eK z<|.int k)=cnt k l:=by rw[List.countP_map];rfl
 rw[e]
noncomputable def kj(g fs:List Int)(s:Nat):Bool:=(List.range s).all λk=>ai<|cnt ((k)+1) (g.map<|aw fs)<=1
noncomputable def bR(G:List<|List Int)(fs:List Int)(s:Nat):Bool:=G.all λg=>kj g fs s
def xu(n)(p):(List.range<|n+1).all p=((List.range n).all p&&p n):=by rw[Vv,Xc];simp
def any_eq(l:List Int)(n):l.any (·==n)=af↔n∈l:=by
 rw[Ui];constructor
 ·rintro⟨x,h,e⟩;rw[U'] at e;subst e;exact h
 ·intro h;exact⟨n,h,by simp⟩
def cnt_cons(k x)(l):cnt k (x::l)=(if x=k then 1 else 0)+cnt k l:=by
 unfold cnt;rw[Vx];by_cases h:x=k
 ·simp[h];omega
 ·simp[h]
def kK(k)(l):0<cnt k l↔k∈l:=by
 unfold cnt;rw[List.countP_pos_iff];constructor
 ·rintro⟨x,h,e⟩;rw[U'] at e;subst e;exact h
 ·intro h;exact⟨k,h,by simp⟩
def yb(l):l.Nodup↔∀k,cnt k l<=1:=by
 induction l with
 |nil=>simp[cnt]
 |cons x r c=>
  rw[UQ,c];constructor
  ·rintro⟨a,b⟩ k;rw[cnt_cons];by_cases h:x=k
   ·subst h;have:¬0<cnt x r:=λq=>a<|(kK x r).mp q
    simp;omega
   ·have:=b k;simp[h];exact this
  ·intro h;refine⟨λq=>?_,λk=>?_⟩
   ·have:=h x;rw[cnt_cons] at this;have:=(kK x r).mpr q;simp at*;omega
   ·have:=h k;rw[cnt_cons] at this;omega
def qv(h0:0<=i)(h:i<(fs.length:Int)):aw fs i∈fs:=by
 have a:i.toNat<fs.length:=by omega
 have:aw fs i=fs[i.toNat]:=by simp[aw,List.getD,a]
 rw[this];exact VU a
def gY{j:Nat}(h):aw fs (j)=fs[j]:=by simp[aw,List.getD,h]
def zM(M:Mem)(vG vf:W)(G:List<|List Int)(fs:List Int)(s:Nat)(C:LL M vG G)(A:aX M vf fs)(m:∀g∈G,g.length<=9/\∀i∈g,0<=i/\i<(fs.length:Int))(Q:s<=9):
 ∃a,i8 [vG,vf,.int s] M=.ok (.bl<|bR G fs s) a/\M<+:a:=by
 have f:∃r a,i8 [vG,vf,.int s] M=.ok r a/\(r=.bl (bR G fs s)/\M<+:a):=by
  refine bJ rfl ?_;show(au _ _ [aa vG,aa vf,aa<|.int s,ae,ae,ae] M).Sat _;refine aD ?_;obtain⟨o,u,q⟩:=C;refine dS (v:=vG) (M1:=M) (xs:=o) rfl u (λj d a=>(∃x y z,d=[aa vG,aa vf,aa<|.int s,x,y,z])/\M<+:a/\(G.take j).all (λg=>kj g fs s)=af) ⟨⟨_,_,_,rfl⟩,dc _,rfl⟩ (λj d a _ ⟨_,p,_⟩=>u.mono p) ?_ ?_
  ·rintro j x d a E ⟨⟨y1,y2,y3,rfl⟩,p,ha⟩;obtain⟨g,t,h⟩:=q.at E;have b:=U8 t;obtain⟨P,F⟩:=m g b;have B:G.take (j+1)=G.take j++[g]:=by rw[Vy,t];rfl
   simp only[T_,T9];refine aD<|bA (uU (aj 3) (aj 1) 6 rfl (aF.mono h p) (aF.mono A p) F (by omega) (λ_=>rfl)<|λ_=>rfl) ?_;simp only[T_,T9];have K:(1:Int).natAbs<bV/\((s:Int)+1).natAbs<bV:=⟨cU (by omega)<|by omega,cU (by omega)<|by omega⟩;have H:((s:Int)+1-1).toNat=s:=by omega
   have L:=aF.new a<|(g.map<|aw fs).map W.int;refine fJ (lo:=1) (n:=s) (M1:=a++[.lst ((g.map (aw fs)).map .int)]) (by walk_at "ev";rw[T5 K,H]) (λk d N=>(∃z,d=[aa vG,aa vf,aa<|.int s,aa x,aa<|.ref a.length,z])/\N=a++[.lst<|(g.map<|aw fs).map .int]/\(List.range k).all (λk=>ai<|cnt ((k:Int)+1) (g.map<|aw fs)<=1)=af) ⟨⟨_,rfl⟩,rfl,rfl⟩ ?_ ?_
   ·rintro k d N J ⟨⟨z,rfl⟩,rfl,hr⟩;simp only[T_,T9];have O:(1:Int)+(k:Int)=(k:Int)+1:=by omega
    refine aJ (c:=ai<|1<cnt ((k:Int)+1) (g.map<|aw fs)) (M1:=a++[.lst<|(g.map<|aw fs).map .int]) ?_ (λl=>?_) λl=>?_
    ·walk_at "ev"
     simp only[L.a8,O,ur _ L,gt_int];congr 1;rw[UW];simp;omega
    ·refine aV rfl ⟨?_,p.trans<|pre_app _ _⟩;have w:1<cnt ((k:Int)+1) (g.map<|aw fs):=UM l;have:kj g fs s=ag:=by unfold kj;rw[Xd];exact⟨k,UD.mpr J,by simp;omega⟩
     have I:bR G fs s=ag:=by unfold bR;rw[Xd];exact⟨g,b,by simp[this]⟩
     rw[I]
    ·refine⟨⟨_,rfl⟩,rfl,?_⟩;have w:=Vz l;rw[xu,hr,Vg];exact UR<|by omega
   ·rintro d N ⟨⟨z,rfl⟩,rfl,hr⟩;refine⟨⟨_,_,_,rfl⟩,p.trans<|pre_app _ _,?_⟩;rw[B,Xc,ha];have:kj g fs s=af:=hr;simp[this]
  ·rintro d a ⟨⟨y1,y2,y3,rfl⟩,p,ha⟩;dsimp only;refine aV rfl ⟨?_,p⟩;have D:G.take o.length=G:=by rw[q.len,UT]
   rw[D] at ha;have:bR G fs s=af:=ha;rw[this]
 obtain⟨r,a,e,rfl,p⟩:=f;exact⟨a,e,p⟩
noncomputable def jv(ss fs:List Int)(n:Nat):Bool:=(List.range n).all λj=>!ai (aw fs j=0)&&(ai (aw ss j=0)||ai (aw ss j=aw fs j))
def yc(M:Mem)(vG vs vf:W)(G:List<|List Int)(ss fs:List Int)(s:Nat)(C:LL M vG G)(q:aX M vs ss)(h:aX M vf fs)(H:ss.length=fs.length)(o:ss.length<=1000)(k:∀g∈G,g.length<=9/\∀i∈g,0<=i/\i<(fs.length:Int))(A:s<=9):
 ∃a,lL i8 [vG,vs,vf,.int s] M=.ok (.bl<|jv ss fs ss.length&&bR G fs s) a/\M<+:a:=by
 have l:∃r a,lL i8 [vG,vs,vf,.int s] M=.ok r a/\(r=.bl (jv ss fs ss.length&&bR G fs s)/\M<+:a):=by
  refine bJ rfl ?_;show(au _ _ [aa vG,aa vs,aa vf,aa<|.int s,ae] M).Sat _;refine aD ?_;have F:(ss.length:Int).natAbs<bV:=cU (by omega)<|by omega
  refine fJ (lo:=0) (n:=ss.length) (M1:=M) (by walk_at "ev";simp only[je q];rw[T5 F,UA]) (λj m a=>(∃x,m=[aa vG,aa vs,aa vf,aa<|.int s,x])/\M<+:a/\(List.range j).all (λj=>!ai (aw fs j=0)&&(ai (aw ss j=0)||ai (aw ss j=aw fs j)))=af) ⟨⟨_,rfl⟩,dc _,rfl⟩ ?_ ?_
  ·rintro j m a w ⟨⟨x,rfl⟩,p,ha⟩;simp only[T_,T9];have t:(0:Int)+(j:Int)=(j:Int):=by omega
   have u:=er (aF.mono h p) (i:=(j:Int)) (by omega)<|by omega
   have y:=er (aF.mono q p) (i:=(j:Int)) (by omega)<|by omega
   have bad:(!ai (aw fs j=0)&&(ai (aw ss j=0)||ai (aw ss j=aw fs j)))=ag->jv ss fs ss.length=ag:=λe=>by unfold jv;rw[Xd];exact⟨j,UD.mpr w,by rw[e];simp⟩
   by_cases f:aw fs j=0
   ·refine aJ (c:=af) (M1:=a) (by walk_at "ev";simp only[t,u,eq_int,f,V7,Uv]) (λ_=>?_) λz=>nomatch z
    refine aV rfl ⟨?_,p⟩;rw[bad<|by simp[f],Vi]
   ·have N:a<+:a++[.lst [.int 0,.int<|aw fs j]]:=pre_app _ _;have E:bb [.int 0,.int<|aw fs j] a=.ok (.ref a.length) (a++[.lst [.int 0,.int<|aw fs j]]):=bT (by show 2<=16777216;decide);have L:=aF.new a [.int 0,.int<|aw fs j];have b:jd (.int<|aw ss j) (.ref a.length) (a++[.lst [.int 0,.int<|aw fs j]])=.ok (.bl<|!(ai (aw ss j=0)||ai (aw ss j=aw fs j))) (a++[.lst [.int 0,.int<|aw fs j]]):=by
     unfold jd;rw[L.bu];have v:((0:Int)==aw ss j)=ai (aw ss j=0):=by rw[UW];simp;omega
     have B:(aw fs j==aw ss j)=ai (aw ss j=aw fs j):=by rw[UW];simp;omega
     simp only[flat,Vp,List.all_nil,Vj,Uv,i0,U3,Xe,Xf,eK,v,B]
    refine aJ (c:=!(ai (aw ss j=0)||ai (aw ss j=aw fs j))) (M1:=a++[.lst [.int 0,.int<|aw fs j]]) ?_ (λd=>?_) λd=>?_
    ·have I:=er (aF.mono h p) (i:=(j:Int)) (by omega) (by omega)
     walk_at "ev"
     simp only[t,u,y,eq_int,f,WI,Vc,U2,E,b]
    ·refine aV rfl ⟨?_,p.trans N⟩;have e:(ai (aw ss j=0)||ai (aw ss j=aw fs j))=ag:=by rw[UB] at d;exact d
     rw[bad (by rw[e];simp),Vi]
    ·refine⟨⟨_,rfl⟩,p.trans N,?_⟩;have e:=by rw[Vd] at d;exact d
     rw[xu,ha,e];simp[f]
  ·rintro m a ⟨⟨x,rfl⟩,p,ha⟩;obtain⟨M2,e,D⟩:=zM a vG vf G fs s (C.mono p) (aF.mono h p) k A;refine aV (by walk_at "ev";exact e) ⟨?_,p.trans D⟩;have:jv ss fs ss.length=af:=ha;rw[this,Vg]
 obtain⟨r,a,e,rfl,p⟩:=l;exact⟨a,e,p⟩
noncomputable def d_(M:Mem)(a:List Int):Prop:=M[0]? =aa (.a6<|a.map .int)
def d_.mono(h:d_ M ns)(p:M<+:M'):d_ M' ns:=aB p h
def d_.a8(h:d_ M ns):a8 M (.ref 0)=aa (ns.map .int):=by unfold d_ at h;simp only[VM.a8,h]
def d_.bu(h:d_ M ns):bu M (.ref 0)=aa (ns.map .int):=by simp only[VM.bu,h.a8]
def d_.len(h:d_ M ns):aZ [.ref 0] M=.ok (.int ns.length) M:=by unfold aZ;simp only[h.bu,Ua]
def mH(ns:List Int)(M:Mem)(k:Int)(w:d_ M ns)(z:ns.length<=63):
 ∃v a,iI [.ref 0,.int k] M=.ok (.int v) a/\M<+:a:=by
 have d:∃r a,iI [.ref 0,.int k] M=.ok r a/\((∃v:Int,r=.int v)/\M<+:a):=by
  refine bJ rfl ?_;show(au _ _ [aa<|.ref 0,aa<|.int k] M).Sat _;have o:bb [] M=.ok (.ref M.length) (M++[.lst []]):=rfl;have g:=w.mono<|pre_app M [.lst []];have L:=aF.new M [];have u:VM.dh (.ref 0) (.ref M.length)=ag:=rfl;refine aD<|aJ (c:=ai<|ns=[]) (M1:=M++[.lst []]) ?_ (λh=>?_) λh=>?_
  ·walk_at "ev"
   simp only[o,oEq,dt,u,g.a8,L.a8,Vc,U2];cases ns with
   |nil=>rfl
   |cons n r=>
    have:iK ((n::r).map W.int) []=aa ag:=by unfold iK;rw[T5<|by simp]
    rw[this];simp
  ·exact aV rfl ⟨⟨_,rfl⟩,pre_app _ _⟩
  ·refine bf ?_;dsimp only;have f:ns≠[]:=Vz h;have l:0<ns.length:=List.length_pos_iff.mpr f;have b:(0:Int)<(ns.length:Int):=by omega
   have q:=dX (M:=M++[.lst []]) (i:=k) b;have s:=fL (M:=M++[.lst []]) (i:=k) b<|by omega
   have m:=Wb k<|show(ns.length:Int)≠0 by omega
   have t:=Wc k b;have y:ax (.ref 0) (.int<|k % (ns.length:Int)) (M++[.lst []])=.ok (.int<|aw ns<|k % (ns.length:Int)) (M++[.lst []]):=by simp only[ax,g.bu,AF m t]
   have x:=dg (M:=M++[.lst []]) (i:=3) (j:=k / (ns.length:Int))<|by decide
   refine aV (v:=.int<|aw ns (k % (ns.length:Int))+3*(k / (ns.length:Int))) (M1:=M++[.lst []]) ?_ ⟨⟨_,rfl⟩,pre_app _ _⟩
   walk_at "ev"
   simp only[g.len,q,s,y,x]
 obtain⟨r,a,e,⟨v,rfl⟩,p⟩:=d;exact⟨v,a,e,p⟩
noncomputable def pj:List (Int×Int)->AM
 |[]=>aq
 |p::r=>ak (bI<|ak (eC<|.int p.1)<|ak (eC<|.int p.2) aq)<|pj r
theorem vk(σ):∀(c) (M),∃vs b,pj c σ M=.ok vs b/\M<+:b/\a_ (λv p=>aI b v [.int p.1,.int p.2]) vs c
 |[],M=>⟨[],M,rfl,dc _,.nil⟩
 |p::r,M=>by
  have d:gN [.int p.1,.int p.2] M=.ok (.ref M.length) (M++[.tup [.int p.1,.int p.2]]):=gX (by show 2<=16777216;decide);obtain⟨vs,b,e,q,a⟩:=vk σ r<|M++[.tup [.int p.1,.int p.2]];refine⟨.ref M.length::vs,b,?_,(pre_app _ _).trans q,.cons ((aI.new M _).mono q) a⟩;unfold pj
  walk_at "ev"
  simp only[d,e]
def DH(σ)(M:Mem)(d:List<|Int×Int)(o:d.length<=100)(x:∀p∈d,∃h w:Nat,p.1=h/\p.2=w/\(1<=h/\h<=3)/\(1<=w/\w<=3)/\h*w<=b)(ei)(i:Int)(r:0<=i)(z:i<d.length)(q:∀c,M<+:c->ei σ c=.ok (.int i) c):
 ∃v c,ao ax (aR<|pj d) ei σ M=.ok v c/\M<+:c/\∃h w:Nat,aI c v [.int h,.int w]/\(1<=h/\h<=3)/\(1<=w/\w<=3)/\h*w<=b:=by
 obtain⟨e,M1,l,k,a⟩:=vk σ d M;have A:=a.len;have s:bb e M1=.ok (.ref M1.length) (M1++[.lst e]):=bT<|by omega
 have L:=aF.new M1 e;have j:i.toNat<d.length:=by omega
 have g:=VN j;obtain⟨v,u,m⟩:=a.at' g;obtain⟨h,w,y,t,n⟩:=x _<|VU j;refine⟨v,M1++[.lst e],?_,k.trans<|pre_app _ _,h,w,?_,n⟩
 ·have f:cA e i=aa v:=by unfold cA cq;rw[T5 r,T5<|by omega];exact u
  unfold ao aR;simp only[l,R.bind,s,q _<|k.trans<|pre_app _ _,ax,L.bu,f]
 ·rw[<-y,<-t];exact m.mono<|pre_app _ _
noncomputable def yd(b:Nat)(f:CM):Prop:=∀(M) (c),d_ M c->c.length<=63->∃v a,f [.ref 0] M=.ok v a/\M<+:a/\∃h w:Nat,aI a v [.int h,.int w]/\(1<=h/\h<=3)/\(1<=w/\w<=3)/\h*w<=b
def Dl(c)(M):∃v a,lR [.int c] M=.ok v a/\M<+:a/\∃h w:Nat,aI a v [.int h,.int w]/\(1<=h/\h<=3)/\(1<=w/\w<=3)/\h*w<=6:=by
 refine bJ rfl ?_;obtain⟨v,a,e,r⟩:=DH (b:=6) [aa<|.int c] M [(2,2),(2,2),(1,3),(3,1),(2,1),(1,2),(2,2),(1,1)] (by decide) (by
  intro p d;simp only[T7,Ud,Ue] at d;rcases d with rfl|rfl|rfl|rfl|rfl|rfl|rfl|rfl<;>exact⟨_,_,rfl,rfl,by decide,by decide,by decide⟩)
  (ao oMod (aj 0)<|eC<|.int 8) (c % 8) (by omega) (by show c % 8<((8):Int);omega) (λa _=>by
   have:=dX (M:=a) (i:=c) (j:=8)<|by decide
   walk_at "ev";exact this)
 exact aV e r
def Hj(ns)(lo hi):cut (ns.map W.int) lo hi=(cut ns lo hi).map W.int:=by unfold cut;simp[List.map_drop,List.map_take]
def Hk(ns:List Int)(lo hi):(cut ns lo hi).length<=ns.length:=by unfold cut;rw[VH,W6];omega
def d_.cut(h:d_ M ns)(a:ns.length<=63)(lo hi):rm (.ref 0) lo hi M=.ok (.ref M.length) (M++[.lst<|(VM.cut ns lo hi).map .int]):=by unfold rm;rw[h.a8];simp only[Hj];exact bT (by have:=Hk ns lo hi;simp;omega)
def f_(M J:Mem)(o):(M++o::J)[M.length]? =aa o:=by simp
def mu(M J:Mem)(o o'):(M++o::J).set M.length o'=M++o'::J:=by simp
def qw(M J a:Mem)(o):(M++o::J)++a=M++o::(J++a):=by simp
def jP(M J:Mem)(o):M<+:M++o::J:=⟨o::J,rfl⟩
def gD(d:o σ M=.ok (.ref a) M)(h:M[a]? =aa (.lst xs))(e:arg σ M=.ok y M1)(b:M1[a]? =aa (.lst xs))(c:xs.length<16777216):
 bD cZ o (ak arg aq) σ M=.ok .aA (M1.set a<|.lst<|xs++[y]):=by
 unfold bD;rw[d];simp only[R.bind,dQ h,ak,e,aq,p_ b c]
noncomputable def Bx:EM:=ao oMod (ao bG (ao bG (ao bL (aj 1)<|ao oMod (aj 6)<|aj 0)<|ao oDiv (aj 6)<|aj 0)<|aj 7)<|aj 3
noncomputable def By:EM:=ao bG (ao oMod (ao bG (ao bL (aj 8)<|ao ax (aR<|ak (eC<|.int 1)<|ak (ao rj (aj 3)<|eC<|.int 1) aq)<|ao oMod (ao oDiv (aj 2)<|eC<|.int 5)<|eC<|.int 2)<|aj 4)<|aj 3)<|eC<|.int 1
noncomputable def Good(s:Nat)(l:List Int):Prop:=∀x∈l,1<=x/\x<=(s)
def Good.app(h:Good s l){z:Int}(a:1<=z)(c:z<=s):Good s (l++[z]):=λx b=>by
 rcases U0.mp b with q|q
 ·exact h x q
 ·rw[UN] at q;subst q;exact⟨a,c⟩
def JK(h w s:Nat)(c t r k)(f a b d)(m:1<=h/\h<=3)(o:1<=w/\w<=3)(n:1<=s/\s<=9)(M):
 ∃z:Int,Bx [aa<|.int h,aa<|.int w,aa<|.int c,aa<|.int s,aa<|.int t,f,aa<|.int r,aa<|.int k,a,b,d] M=.ok (.int z) M/\0<=z/\z<s:=by
 have e:=dX (M:=M) (i:=r) (j:=h)<|by omega
 have g:=dg (M:=M) (i:=(w)) (j:=r % h)<|by omega
 have h3:=fL (M:=M) (i:=r) (j:=h) (by omega)<|by omega
 have l:=dX (M:=M) (i:=(w)*(r % h)+r / h+k) (j:=s)<|by omega
 refine⟨((w)*(r % h)+r / h+k) % s,?_,Wb _<|by omega,Wc _<|by omega⟩;unfold Bx
 walk_at "ev"
 simp only[e,g,h3,l]
def JL(h w s:Nat)(c t r k z:Int)(f b d:Option W)(n:1<=s/\s<=9)(hz:0<=z/\z<s)(M:Mem):
 ∃y:Int,By [aa<|.int h,aa<|.int w,aa<|.int c,aa<|.int s,aa<|.int t,f,aa<|.int r,aa<|.int k,aa<|.int z,b,d] M=.ok (.int y) (M++[.lst [.int 1,.int<|(s:Int)-1]])/\1<=y/\y<=s:=by
 have m:bb [.int 1,.int<|(s:Int)-1] M=.ok (.ref M.length) (M++[.lst [.int 1,.int<|(s:Int)-1]]):=bT (by show 2<=16777216;decide);have L:aX (M++[.lst [.int 1,.int<|(s:Int)-1]]) (.ref M.length) [1,(s:Int)-1]:=aF.new M _;have a:=fL (M:=M++[.lst [.int 1,.int<|(s:Int)-1]]) (i:=c) (j:=5) (by decide)<|by decide
 have e:=dX (M:=M++[.lst [.int 1,.int<|(s:Int)-1]]) (i:=c / 5) (j:=2)<|by decide
 have g:=er L (i:=c / 5 % 2) (by omega) (by show c / 5 % 2<((2:Nat):Int);omega);have h3:=dg (M:=M++[.lst [.int 1,.int<|(s:Int)-1]]) (i:=z) (j:=aw [1,(s:Int)-1]<|c / 5 % 2)<|by omega
 have l:=dX (M:=M++[.lst [.int 1,.int<|(s)-1]]) (i:=z*aw [1,(s)-1] (c / 5 % 2)+t) (j:=s)<|by omega
 refine⟨(z*aw [1,(s)-1] (c / 5 % 2)+t) % s+1,?_,?_,?_⟩
 ·unfold By
  walk_at "ev"
  simp only[m,a,e,g,h3,l]
 ·have:=Wb (z*aw [1,(s)-1] (c / 5 % 2)+t) (show(s:Int)≠0 by omega);omega
 ·have:=Wc (z*aw [1,(s)-1] (c / 5 % 2)+t) (show(0:Int)<s by omega);omega
noncomputable def Fv(f:CM):Prop:=∀(h w:Nat) (c) (M),1<=h/\h<=3->1<=w/\w<=3->∃v a,f [.int h,.int w,.int c] M=.ok v a/\M<+:a/\∃b,aX a v b/\b.length=h*w*(h*w)/\Good (h*w) b
def Hl:Fv lN:=by
 intro h w c M t D;refine bJ rfl ?_;have e:h*w<=9:=Uh (UK t.2 D.2)<|by decide
 have m:1<=h*w:=V8 t.1 D.1;have R:=dg (M:=M) (i:=(h:Int)) (j:=(w:Int))<|by omega
 have N:(h:Int)*(w:Int)=((h*w:Nat):Int):=by simp
 show(au _ _ [aa<|.int h,aa<|.int w,aa<|.int c,ae,ae,ae,ae,ae,ae,ae,ae] M).Sat _;refine aD (bA (v:=.int ((h:Int)*w)) (M1:=M) (by walk_at "ev";simp only[R]) ?_);simp only[T_,T9,N];generalize hsz:h*w=s at e m;have T:=dX (M:=M) (i:=c) (j:=s)<|by omega
 refine aD (bA (v:=.int (c % s)) (M1:=M) (by walk_at "ev";simp only[T]) ?_);simp only[T_,T9];refine aD<|bA (v:=.ref M.length) (M1:=M++[.lst []]) rfl ?_;simp only[T_,T9];refine aD ?_;have K:(s:Int).natAbs<bV:=cU (by omega)<|by omega
 refine fJ (lo:=0) (n:=s) (M1:=M++[.lst []]) (by walk_at "ev";rw[T5 K,UA]) (λj f g=>(∃x y z,f=[aa<|.int h,aa<|.int w,aa<|.int c,aa<|.int s,aa<|.int<|c % s,aa<|.ref M.length,x,y,z,ae,ae])/\∃l J,g=M++.lst (l.map .int)::J/\l.length=j*s/\Good s l) ⟨⟨_,_,_,rfl⟩,[],[],rfl,by simp,λx C=>by simp at C⟩ ?_ ?_
 ·rintro j f g E ⟨⟨x,y,z,rfl⟩,l,J,rfl,ll,lg⟩;simp only[T_,T9];refine fJ (lo:=0) (n:=s) (M1:=M++.lst (l.map .int)::J) (by walk_at "ev";rw[T5 K,UA]) (λk f g=>(∃y z,f=[aa<|.int h,aa<|.int w,aa<|.int c,aa<|.int s,aa<|.int<|c % s,aa<|.ref M.length,aa<|.int<|0+(j:Int),y,z,ae,ae])/\∃l J,g=M++.lst (l.map .int)::J/\l.length=j*s+k/\Good s l) ⟨⟨_,_,rfl⟩,l,J,rfl,by simpa using ll,lg⟩ ?_ ?_
  ·rintro k f g hk ⟨⟨y,z,rfl⟩,l,J,rfl,ll,lg⟩;simp only[T_,T9];obtain⟨A,L,U,z1⟩:=JK h w s c (c % s) (0+(j:Int)) (0+(k:Int)) (aa<|.ref M.length) z ae ae t D ⟨m,e⟩<|M++.lst (l.map .int)::J;refine aD<|bA (v:=.int A) (M1:=M++.lst (l.map .int)::J) L ?_;simp only[T_,T9];obtain⟨yy,V,S,Q⟩:=JL h w s c (c % s) (0+(j:Int)) (0+(k:Int)) A (aa<|.ref M.length) ae ae ⟨m,e⟩ ⟨U,z1⟩<|M++.lst (l.map .int)::J;have p:(l.map W.int).length<16777216:=by have:j*s<=9*9:=UK (by omega) e;rw[Ua];omega
   have r:=gD (σ:=[aa<|.int h,aa<|.int w,aa<|.int c,aa<|.int s,aa<|.int<|c % s,aa<|.ref M.length,aa<|.int<|0+(j:Int),aa<|.int<|0+(k:Int),aa<|.int A,ae,ae]) (o:=aj 5) rfl (f_ M J _) V (by rw[qw];exact f_ M _ _) p;rw[qw,mu] at r;refine df r ?_;refine⟨⟨_,_,rfl⟩,l++[yy],J++[.lst [.int 1,.int<|(s:Int)-1]],by simp,?_,lg.app S Q⟩;rw[Us,ll];simp only[UO,Vt];omega
  ·rintro f g ⟨⟨y,z,rfl⟩,l,J,rfl,ll,lg⟩;exact⟨⟨_,_,_,rfl⟩,l,J,rfl,by rw[ll,Xg],lg⟩
 ·rintro f g ⟨⟨x,y,z,rfl⟩,l,J,rfl,ll,lg⟩;dsimp only;generalize q:M++O.lst (l.map .int)::J=M2;have H:M<+:M2:=by rw[<-q];exact jP _ _ _
  have F:aX M2 (.ref M.length) l:=⟨_,rfl,by rw[<-q];exact f_ M J _⟩;refine aD ?_;have d7:=fL (M:=M2) (i:=c) (j:=7) (by decide)<|by decide
  have Z:=dX (M:=M2) (i:=c / 7) (j:=2)<|by decide
  refine aJ (c:=ai (c / 7 % 2=1)&&ai (h=w)) (M1:=M2) ?_ (λ_=>?_) λ_=>?_
  ·walk_at "ev"
   simp only[d7,Z,eq_int];have:ai ((h:Int)=w)=ai (h=w):=by rw[UW,UC,UC];omega
   rw[this];cases ai (c / 7 % 2=1)<;>rfl
  ·refine aD (bA (v:=.ref M2.length) (M1:=M2++[.lst []]) rfl ?_);simp only[T_,T9];refine aD ?_;have P:=dg (M:=M2++[.lst []]) (i:=(s:Int)) (j:=(s:Int))<|by omega
   have B:(s:Int)*(s:Int)=((s*s:Nat):Int):=by simp
   have Y:s*s<=9*9:=UK e e;have r2:((s*s:Nat):Int).natAbs<bV:=cU (by omega)<|by omega
   refine fJ (lo:=0) (n:=s*s) (M1:=M2++[.lst []]) (by walk_at "ev";simp only[P];rw[B,T5 r2,UA]) (λj f g=>(∃u,f=[aa<|.int h,aa<|.int w,aa<|.int c,aa<|.int s,aa<|.int<|c % s,aa<|.ref M.length,x,y,z,aa<|.ref M2.length,u])/\∃l,g=M2++[.lst<|l.map .int]/\l.length=j/\Good s l) ⟨⟨_,rfl⟩,[],rfl,rfl,λx C=>by simp at C⟩ ?_ ?_
   ·rintro j f g E ⟨⟨u,rfl⟩,l2,rfl,wo,wq⟩;simp only[T_,T9];have ez:(0:Int)+(j:Int)=(j:Int):=by omega
    have n1:=dX (M:=M2++[.lst<|l2.map .int]) (i:=(j:Int)) (j:=(s:Int))<|by omega
    have n2:=dg (M:=M2++[.lst<|l2.map .int]) (i:=(j:Int) % (s:Int)) (j:=(s:Int)) (by
     have a:=Wb (j:Int)<|show(s:Int)≠0 by omega
     have b:=Wc (j:Int)<|show(0:Int)<s by omega
     omega)
    have X:=fL (M:=M2++[.lst<|l2.map .int]) (i:=(j:Int)) (j:=(s:Int)) (by omega)<|by omega
    have e3:(j:Int) % (s:Int)*(s:Int)+(j:Int) / (s:Int)=((j % s*s+j / s:Nat):Int):=by simp
    have G:j % s*s+j / s<s*s:=by have a:=V9 j m;have b:j / s<s:=Xh E;have d:(j % s+1)*s<=s*s:=Nat.mul_le_mul_right s a;rw[Xg] at d;omega
    have i3:=er (F.mono<|pre_app M2 [.lst<|l2.map .int]) (i:=((j % s*s+j / s:Nat):Int)) (Wd _) (by rw[ll];exact Int.ofNat_lt.mpr G);have ge:ao ax (aj 5) (ao bG (ao bL (ao oMod (aj 10)<|aj 3)<|aj 3)<|ao oDiv (aj 10)<|aj 3) [aa<|.int h,aa<|.int w,aa<|.int c,aa<|.int s,aa<|.int<|c % s,aa<|.ref M.length,x,y,z,aa<|.ref M2.length,aa<|.int<|0+(j:Int)] (M2++[.lst<|l2.map .int])=.ok (.int<|aw l ((j % s*s+j / s:Nat):Int)) (M2++[.lst<|l2.map .int]):=by
     walk_at "ev"
     simp only[ez,n1,n2,X,e3,i3]
    have r:=gD (o:=aj 9) rfl (b8 M2 _) ge (b8 M2 _) (by rw[Ua];omega);rw[md] at r;refine df r ?_;have I:=qv (fs:=l) (i:=((j % s*s+j / s:Nat):Int)) (Wd _) (by rw[ll];exact Int.ofNat_lt.mpr G);exact⟨⟨_,rfl⟩,l2++[aw l ((j % s*s+j / s:Nat):Int)],by simp,by rw[Us,wo];rfl,wq.app (lg _ I).1 (lg _ I).2⟩
   ·rintro f g ⟨⟨u,rfl⟩,l2,rfl,wo,wq⟩;dsimp only;refine bA (v:=.ref M2.length) (M1:=M2++[.lst<|l2.map .int]) rfl ?_;simp only[T_,T9];refine aV (v:=.ref M2.length) (M1:=M2++[.lst<|l2.map .int]) rfl ?_;exact⟨H.trans<|pre_app _ _,l2,aF.new _ _,wo,wq⟩
  ·refine bf ?_;dsimp only;exact aV rfl ⟨H,l,F,ll,lg⟩
def LR(M:Mem)(vf m:W)(fs k:List Int)(d:Int)(A:aX M vf fs)(J:aX M m k)(R:fs.length<=81):∃ss:List Int,ky [vf,m,.int d] M=.ok (.ref M.length) (M++[.lst<|ss.map .int])/\ss.length=fs.length/\∀j:Nat,j<fs.length->((aw ss j=0/\(j<k.length\/(j:Int) % 7<d))\/aw ss j=aw fs j):=by
 suffices key:∃v g,ky [vf,m,.int d] M=.ok v g/\∃ss:List Int,v=.ref M.length/\g=M++[.lst<|ss.map .int]/\ss.length=fs.length/\∀j:Nat,j<fs.length->((aw ss j=0/\(j<k.length\/(j:Int) % 7<d))\/aw ss j=aw fs j) by obtain⟨v,g,e,ss,rfl,rfl,h⟩:=key;exact⟨ss,e,h⟩
 refine bJ rfl ?_;show(au _ _ [aa vf,aa m,aa<|.int d,ae,ae,ae] M).Sat _;refine aD<|bA (v:=.ref M.length) (M1:=M++[.lst []]) rfl ?_;simp only[T_,T9];refine aD ?_;have P:(fs.length:Int).natAbs<bV:=cU (by omega)<|by omega
 refine fJ (lo:=0) (n:=fs.length) (M1:=M++[.lst []]) (by walk_at "ev";simp only[je (aF.mono A (pre_app M _))];rw[T5 P,UA]) (λj r g=>(∃x y,r=[aa vf,aa m,aa<|.int d,aa<|.ref M.length,x,y])/\∃l,g=M++[.lst<|l.map .int]/\l.length=j/\∀i:Nat,i<j->((aw l i=0/\(i<k.length\/(i:Int) % 7<d))\/aw l i=aw fs i)) ⟨⟨_,_,rfl⟩,[],rfl,rfl,λi L=>by omega⟩ ?_ ?_
 ·rintro j r g Q ⟨⟨x,y,rfl⟩,l,rfl,ll,lg⟩;simp only[T_,T9];have u:(0:Int)+(j:Int)=(j:Int):=by omega
  have F:=aF.mono A<|pre_app M [.lst<|l.map .int];have C:=aF.mono J<|pre_app M [.lst<|l.map .int];refine aD<|bA (v:=.int 0) (M1:=M++[.lst<|l.map .int]) rfl ?_;simp only[T_,T9];have p:∀a:Int,(j<k.length\/a=0)->(cg (bD cZ (aj 3)<|ak (ao bL (ao ax (aj 0)<|aj 4)<|av iT<|ak (ao gR (ao oMod (ao bG (aj 5)<|aj 4)<|eC<|.int 7)<|aj 2) aq) aq) [aa vf,aa m,aa<|.int d,aa<|.ref M.length,aa<|.int<|0+(j:Int),aa<|.int a]<|M++[.lst<|l.map .int]).Sat {nx:=λr g=>(∃x y,r=[aa vf,aa m,aa<|.int d,aa<|.ref M.length,x,y])/\∃l,g=M++[.lst<|l.map .int]/\l.length=j+1/\∀i:Nat,i<j+1->((aw l i=0/\(i<k.length\/(i:Int) % 7<d))\/aw l i=aw fs i),rt:=λ_ _=>False}:=by
   intro a f;have O:=er F (i:=(j:Int)) (by omega)<|by omega
   have E:=dX (M:=M++[.lst<|l.map .int]) (i:=a+(j:Int)) (j:=7)<|by decide
   have s:∀b:Bool,(if b then(1:Int) else 0).natAbs<=1000000:=λb=>by cases b<;>decide
   have G:∀b:Bool,bL (.int<|aw fs j) (.int<|if b then 1 else 0) (M++[.lst<|l.map .int])=.ok (.int<|aw fs j*(if b then 1 else 0)) (M++[.lst<|l.map .int]):=λb=>T5<|.inr (by have:=s b;unfold j2;omega)
   have K:ao bL (ao ax (aj 0)<|aj 4) (av iT<|ak (ao gR (ao oMod (ao bG (aj 5)<|aj 4)<|eC<|.int 7)<|aj 2) aq) [aa vf,aa m,aa<|.int d,aa<|.ref M.length,aa<|.int<|0+(j:Int),aa<|.int a] (M++[.lst<|l.map .int])=.ok (.int<|aw fs j*(if ai (d<=(a+(j:Int)) % 7) then 1 else 0)) (M++[.lst<|l.map .int]):=by
    walk_at "ev"
    simp only[u,O,E,ge_int,iT,G]
   have B:=gD (o:=aj 3) rfl (b8 M _) K (b8 M _) (by rw[Ua];omega);rw[md] at B;refine df B ⟨⟨_,_,rfl⟩,l++[aw fs j*(if ai (d<=(a+(j:Int)) % 7) then 1 else 0)],by simp,by rw[Us,ll];rfl,λi L=>?_⟩;by_cases q:i<j
   ·have:=lg i q;have e:aw (l++[aw fs j*(if ai (d<=(a+(j:Int)) % 7) then 1 else 0)]) i=aw l i:=by
     have w:i<l.length:=by omega
     rw[gY w,gY (by rw[Us];omega),List.getElem_append_left w]
    rw[e];exact this
   ·have D:i=l.length:=by omega
    subst D;rw[gY (j:=l.length)<|by simp];simp only[List.getElem_concat_length];rw[<-ll];rw[<-ll] at f;split
    ·right;omega
    ·rename_i I
     have H:=Vz<|Bool.not_eq_true _▸I;refine .inl ⟨by omega,?_⟩;rcases f with z|z
     ·exact .inl z
     ·subst z;right;omega
  refine aD<|aJ (c:=ai<|(j:Int)<(k.length:Int)) (M1:=M++[.lst<|l.map .int]) ?_ (λt=>?_) λ_=>?_
  ·walk_at "ev"
   simp only[u,je C,lt_int]
  ·have N:(j:Int)<(k.length:Int):=UM t;refine bA (v:=.int (aw k j)) (M1:=M++[.lst (l.map .int)]) (by walk_at "ev";simp only[u];exact er C (by omega) N) ?_;simp only[T_,T9];exact RS.Sat.mono (p _<|.inl<|by omega) (λ_ _ q=>q) (λ_ _ q=>q.elim) (λ_ _ q=>q.elim)<|λ_ _ q=>q.elim
  ·refine bf ?_;dsimp only;exact RS.Sat.mono (p _<|.inr rfl) (λ_ _ q=>q) (λ_ _ q=>q.elim) (λ_ _ q=>q.elim)<|λ_ _ q=>q.elim
 ·rintro r g ⟨⟨x,y,rfl⟩,l,rfl,ll,lg⟩;dsimp only;refine aV rfl ?_;exact⟨l,rfl,rfl,ll,lg⟩
theorem ye:∀(xs:List W) (σ) (M) (acc),comp [] (az i) cX (aR aq) (xs.map .val) σ M acc=.ok (acc++(List.range' M.length xs.length).map .ref) (M++List.replicate xs.length (.lst []))
 |[],σ,M,acc=>by rw[Vo,comp,T5<|show bN.ok [] M=af from rfl];simp
 |x::r,σ,M,acc=>by rw[Ux,comp,T5<|show bN.ok [] M=af from rfl];have a:bb [] M=.ok (.ref M.length) (M++[.lst []]):=rfl;simp only[Src.get,R.bind,az,cX,Uv,aR,aq,a];have:=ye (i:=i) r (σ.set i<|aa x) (M++[.lst []])<|acc++[.ref M.length];unfold aR aq at this;simp only[R.bind] at this;refine this.trans ?_;simp[List.range'_succ,Vw]
noncomputable def enc(A:List<|List Int):Mem:=A.map λl=>O.lst<|l.map .int
def uV(M K)(A)(g)(hg):(M++(enc A++K))[M.length+g]? =aa (.lst<|(A[g]).map .int):=by rw[Vn<|by omega,Xi,U6<|by simpa[enc] using hg];simp[enc,hg]
def Hm(M K)(A)(g)(l)(a:g<A.length):(M++(enc A++K)).set (M.length+g) (.lst<|l.map .int)=M++(enc (A.set g l)++K):=by rw[Xj _ _<|by omega,Xi,Xk _ _<|by simpa[enc] using a];simp[enc,WJ]
noncomputable def fO(p:Int)(A:List<|List Int)(g:Nat):List (List Int):=A.set g<|A.getD g []++[p]
def Eg(p)(A)(g):(fO p A g).length=A.length:=by simp[fO]
noncomputable def cf(h w p:Nat):List Nat:=[p / (h*w),h*w+p % (h*w),2*(h*w)+(p / (h*w) / h*h+p % (h*w) / w)]
noncomputable def AG(h w n:Nat):List (List Int):=(List.range n).foldl (λA (p)=>(cf h w p).foldl (fO<|p) A)<|List.replicate (3*(h*w)) []
def zN(h w n):AG h w (n+1)=(cf h w n).foldl (fO<|n) (AG h w n):=by unfold AG;rw[Vv,We];rfl
theorem nW(p):∀(a:List Nat) (A),(a.foldl (fO p) A).length=A.length
 |[],_=>rfl
 |g::r,A=>by rw[Wf,nW p r,Eg]
def JM(h w n):(AG h w n).length=3*(h*w):=by
 induction n with
 |zero=>simp[AG]
 |succ n a=>rw[zN,nW,a]
def Hn(a:1<=h/\h<=3)(b:1<=w/\w<=3):AG h w (h*w*(h*w))=ar h w:=by rcases h3 a with rfl|rfl|rfl<;>rcases h3 b with rfl|rfl|rfl<;>decide+kernel
def oR(b:1<=h/\h<=3)(d:1<=w/\w<=3)(c:p<h*w*(h*w)):∀g∈cf h w p,g<3*(h*w):=by intro g a;simp only[cf,T7,Ud,Ue] at a;rcases h3 b with rfl|rfl|rfl<;>rcases h3 d with rfl|rfl|rfl<;>simp at c a⊢<;>omega
theorem a_.of_get{R:α->β->Prop}:∀{l:List α} {m:List β},l.length=m.length->(∀(i:Nat) x y,l[i]? =aa x->m[i]? =aa y->R x y)->a_ R l m
 |[],[],_,_=>.nil
 |x::l,y::m,h,f=>.cons (f 0 x y rfl rfl)<|a_.of_get (by simpa using h) λi a b c d=>f (i+1) a b (by simpa using c)<|by simpa using d
 |[],_::_,h,_=>by simp at h
 |_::_,[],h,_=>by simp at h
def C6:tX lM:=by
 intro h w M T S;refine bJ rfl ?_;have E:h*w<=9:=Uh (UK T.2 S.2)<|by decide
 have U:1<=h*w:=V8 T.1 S.1;have m1:=dg (M:=M) (i:=(h:Int)) (j:=(w:Int))<|by omega
 have es:(h:Int)*(w:Int)=((h*w:Nat):Int):=by simp
 show(au _ _ [aa<|.int h,aa<|.int w,ae,ae,ae,ae,ae,ae,ae] M).Sat _;refine aD (bA (v:=.int ((h:Int)*w)) (M1:=M) (by walk_at "ev";simp only[m1]) ?_);simp only[T_,T9,es];have gi:∀p,p<h*w*(h*w)->∀g∈cf h w p,g<3*(h*w):=λp hp=>oR T S hp
 have z:=JM h w;have F:=Hn T S;have P:=zN h w;have G:∀p,cf h w p=[p / (h*w),h*w+p % (h*w),2*(h*w)+(p / (h*w) / h*h+p % (h*w) / w)]:=λp=>rfl
 have D:AG h w 0=List.replicate (3*(h*w)) []:=rfl;generalize hsz:h*w=s at E U gi z F G D;have m3:=dg (M:=M) (i:=(3:Int)) (j:=(s:Int))<|by decide
 have e3:(3:Int)*(s:Int)=((3*s:Nat):Int):=by simp
 have r3:((3*s:Nat):Int).natAbs<bV:=cU (by omega)<|by omega
 have t:((List.range' M.length<|3*s).map W.ref).length=3*s:=by simp
 have hc:bE 1 [] (cc<|ao bL (eC<|.int 3)<|aj 2) (az 9) cX (aR aq) [aa<|.int h,aa<|.int w,aa<|.int s,ae,ae,ae,ae,ae,ae] M=.ok (.ref<|M.length+3*s) (M++(enc (AG h w 0)++[.lst<|(List.range' M.length<|3*s).map .ref])):=by
  unfold bE;have hi:cc (ao bL (eC<|.int 3)<|aj 2) [aa<|.int h,aa<|.int w,aa<|.int s,ae,ae,ae,ae,ae,ae] M=.ok (cS 0<|3*s,[]) M:=by
   walk_at "ev"
   simp only[m3];rw[e3,T5 r3,UA]
  rw[hi];simp only[R.bind,l4];rw[ye];have r:(gJ 0<|3*s).length=3*s:=by simp[gJ]
  rw[r];simp only[R.bind,R.gL,UJ];rw[bT<|by omega,D];have e4:enc (List.replicate (3*s) [])=List.replicate (3*s) (.lst []):=by simp[enc]
  rw[e4,Us,W5,U9]
 refine aD<|bA hc ?_;simp only[T_,T9];refine aD ?_;generalize X:M++(enc (AG h w 0)++[.lst<|(List.range' M.length<|3*s).map .ref])=M1;have m4:=dg (M:=M1) (i:=(s:Int)) (j:=(s:Int))<|by omega
 have e5:(s:Int)*(s:Int)=((s*s:Nat):Int):=by simp
 have Sb:s*s<=9*9:=UK E E;have r5:((s*s:Nat):Int).natAbs<bV:=cU (by omega)<|by omega
 have m:∀(A:List<|List Int) (J:Mem),A.length=3*s->(M++(enc A++.lst ((List.range' M.length<|3*s).map .ref)::J))[M.length+3*s]? =aa (.lst<|(List.range' M.length<|3*s).map .ref):=λA J N=>by rw[Vn<|by omega,Xi,Vn<|by simp[enc,N]];simp[enc,N]
 refine fJ (lo:=0) (n:=s*s) (M1:=M1) (by walk_at "ev";simp only[m4];rw[e5,T5 r5,UA]) (λp u B=>(∃a b c d e,u=[aa<|.int h,aa<|.int w,aa<|.int s,aa<|.ref<|M.length+3*s,a,b,c,d,e])/\∃J,B=M++(enc (AG h w p)++.lst ((List.range' M.length<|3*s).map .ref)::J)/\∀l∈AG h w p,l.length<=3*p) ⟨⟨_,_,_,_,_,rfl⟩,[],X.symm,λl r=>by rw[D] at r;rw[List.eq_of_mem_replicate r];simp⟩ ?_ ?_
 ·rintro p u B hp ⟨⟨a,b,c,d,e,rfl⟩,J,rfl,hlen⟩;simp only[T_,T9];have ez:(0:Int)+(p:Int)=(p:Int):=by omega
  generalize Q:M++(enc (AG h w p)++.lst ((List.range' M.length<|3*s).map .ref)::J)=M2;have d1:=fL (M:=M2) (i:=(p:Int)) (j:=(s:Int)) (by omega)<|by omega
  have d2:=dX (M:=M2) (i:=(p:Int)) (j:=(s:Int))<|by omega
  have c1:(p:Int) / (s:Int)=((p / s:Nat):Int):=by simp
  have c2:(p:Int) % (s:Int)=((p % s:Nat):Int):=by simp
  refine aD (bA (v:=.int (p / s:Nat)) (M1:=M2) (by walk_at "ev";simp only[ez,d1,c1]) ?_);simp only[T_,T9];refine aD (bA (v:=.int (p % s:Nat)) (M1:=M2) (by walk_at "ev";simp only[ez,d2,c2]) ?_);simp only[T_,T9];have d3:=fL (M:=M2) (i:=((p / s:Nat):Int)) (j:=(h:Int)) (by omega)<|by omega
  have d4:=fL (M:=M2) (i:=((p % s:Nat):Int)) (j:=(w:Int)) (by omega)<|by omega
  have d5:bL (.int<|((p / s:Nat):Int) / (h:Int)) (.int h) M2=.ok (.int<|((p / s:Nat):Int) / (h:Int)*h) M2:=T5<|.inr (by unfold j2;omega);have c3:((p / s:Nat):Int) / (h:Int)*h+((p % s:Nat):Int) / (w:Int)=((p / s / h*h+p % s / w:Nat):Int):=by simp
  refine aD (bA (v:=.int (p / s / h*h+p % s / w:Nat)) (M1:=M2) (by walk_at "ev";simp only[d3,d4,d5,c3]) ?_);simp only[T_,T9];have d6:=dg (M:=M2) (i:=2) (j:=(s:Int))<|by decide
  have hn:bb ((cf h w p).map λ(g:Nat)=>W.int g) M2=.ok (.ref M2.length) (M2++[.lst<|(cf h w p).map λ(g:Nat)=>W.int g]):=bT (by rw[G];show 3<=16777216;decide);have hle:aR (ak (aj 5)<|ak (ao bG (aj 2)<|aj 6)<|ak (ao bG (ao bL (eC<|.int 2)<|aj 2)<|aj 7) aq) [aa<|.int h,aa<|.int w,aa<|.int s,aa<|.ref<|M.length+3*s,aa<|.int<|0+(p:Int),aa<|.int (p / s:Nat),aa<|.int (p % s:Nat),aa<|.int (p / s / h*h+p % s / w:Nat),e] M2=.ok (.ref M2.length) (M2++[.lst<|(cf h w p).map λ(g:Nat)=>W.int g]):=by
   rw[<-hn];unfold aR;have c4:(s:Int)+((p % s:Nat):Int)=((s+p % s:Nat):Int):=by simp
   have c5:(2:Int)*(s:Int)+((p / s / h*h+p % s / w:Nat):Int)=((2*s+(p / s / h*h+p % s / w):Nat):Int):=by simp
   walk_at "ev"
   simp only[d6,R.bind,c4,c5,G,Ux,Vo]
  have H:(cf h w p).length=3:=rfl;have Z:∀(k:Nat) (g:Nat),(cf h w p)[k]? =aa g->g<3*s:=λk g V=>gi p hp g<|U8 V
  have f:∀k g,(cf h w p)[k]? =aa g->(((cf h w p).take<|k+1).foldl (fO (p:Int))<|AG h w p)=fO (p:Int) (((cf h w p).take k).foldl (fO (p:Int))<|AG h w p) g:=λk g V=>by rw[Vy,V,We];rfl
  refine dS (v:=.ref M2.length) (xs:=(cf h w p).map λ(g:Nat)=>W.int g) hle (aF.new _ _) (λk u B=>(∃e,u=[aa<|.int h,aa<|.int w,aa<|.int s,aa<|.ref<|M.length+3*s,aa<|.int<|0+(p:Int),aa<|.int (p / s:Nat),aa<|.int (p % s:Nat),aa<|.int (p / s / h*h+p % s / w:Nat),e])/\B=M++(enc (((cf h w p).take k).foldl (fO (p:Int))<|AG h w p)++.lst ((List.range' M.length<|3*s).map .ref)::(J++[.lst<|(cf h w p).map λ(g:Nat)=>W.int g]))/\∀l∈((cf h w p).take k).foldl (fO (p:Int)) (AG h w p),l.length<=3*p+k)
   ⟨⟨_,rfl⟩,by rw[<-Q];simp,λl r=>hlen l r⟩ ?_ ?_ ?_
  ·rintro k u B hk ⟨_,rfl,_⟩;refine⟨_,rfl,?_⟩;rw[<-Q];have q1:M++(enc (((cf h w p).take k).foldl (fO (p:Int))<|AG h w p)++.lst ((List.range' M.length<|3*s).map .ref)::(J++[.lst<|(cf h w p).map λ(g:Nat)=>W.int g]))=(M++(enc (((cf h w p).take k).foldl (fO (p:Int))<|AG h w p)++.lst ((List.range' M.length<|3*s).map .ref)::J))++[.lst<|(cf h w p).map λ(g:Nat)=>W.int g]:=by simp
   rw[q1,Vn<|by simp[enc,nW]];simp[enc,nW]
  ·rintro k x u B C ⟨⟨e,rfl⟩,rfl,mX⟩;simp only[T_,T9];rw[U7] at C;cases L:(cf h w p)[k]? with
   |none=>rw[L] at C;cases C
   |some g=>
    rw[L] at C;have ex:x=.int g:=(Ug C).symm;subst ex;have gl:=Z k g L;have k3:k<3:=by have:=(Ub.mp L).1;omega
    generalize N:((cf h w p).take k).foldl (fO (p:Int)) (AG h w p)=A at mX;have NM:A.length=3*s:=by rw[<-N,nW,z]
    have I:g<A.length:=by omega
    generalize hK:O.lst ((List.range' M.length<|3*s).map .ref)::(J++[.lst<|(cf h w p).map λ(g:Nat)=>W.int g])=K;have ix:ax (.ref<|M.length+3*s) (.int g) (M++(enc A++K))=.ok (.ref<|M.length+g) (M++(enc A++K)):=by
     have q:=m A (J++[.lst<|(cf h w p).map λ(g:Nat)=>W.int g]) NM;rw[hK] at q;have Y:cA ((List.range' M.length<|3*s).map W.ref) (g:Int)=aa (.ref<|M.length+g):=by unfold cA cq;rw[T5<|by omega,T5 (by rw[t];omega)];simp[gl]
     simp only[ax,jK q,Y]
    have Sd:A[g].length<=3*p+k:=mX _<|VU I;have a1:=gD (σ:=[aa (.int h),aa (.int w),aa (.int s),aa (.ref (M.length+3*s)),aa (.int (0+(p:Int))),aa (.int (p / s:Nat)),aa (.int (p % s:Nat)),aa (.int (p / s / h*h+p % s / w:Nat)),aa (.int g)]) (o:=ao ax (aj 3) (aj 8)) (arg:=aj 4) (by walk_at "ev";exact ix) (uV M K A g I) (show _=R.ok (.int (0+(p:Int))) _ from rfl) (uV M K A g I) (by rw[Ua];omega);have e6:(A[g].map W.int++[W.int<|0+(p:Int)])=(A.getD g []++[(p:Int)]).map .int:=by simp[List.getD,I]
    rw[e6,Hm M K A g _ I] at a1;refine df a1 ?_;refine⟨⟨_,rfl⟩,?_,?_⟩
    ·rw[f k g L,N];rfl
    ·rw[f k g L,N];intro l r;unfold fO at r;rcases Wg r with q|q
     ·have:=mX l q;omega
     ·subst q;simp[List.getD,I];omega
  ·rintro u B ⟨⟨e,rfl⟩,rfl,mX⟩;have e7:(cf h w p).take ((cf h w p).map λ(g:Nat)=>W.int g).length=cf h w p:=by rw[Ua,UT]
   rw[e7] at mX;refine⟨⟨_,_,_,_,_,rfl⟩,J++[.lst<|(cf h w p).map λ(g:Nat)=>W.int g],by rw[e7,<-P],?_⟩;rw[P];intro l r;have:=mX l r;rw[Ua,H] at this;omega
 ·rintro u B ⟨⟨a,b,c,d,e,rfl⟩,J,rfl,hlen⟩;dsimp only;refine aV (v:=.ref<|M.length+3*s) (M1:=M++(enc (AG h w<|s*s)++.lst ((List.range' M.length<|3*s).map .ref)::J)) rfl ?_;refine⟨pre_app _ _,(List.range' M.length<|3*s).map .ref,⟨_,rfl,m _ J<|z _⟩,?_⟩;have H:(ar h w).length=3*s:=by rw[<-F,z]
  rw[F];refine a_.of_get (by rw[t,H]) λi x y C hy=>?_
  obtain⟨hi,ey⟩:=Ub.mp hy;have NN:i<3*s:=by omega
  have ex:=by simp[NN] at C;exact C.symm
  subst ex;refine⟨_,rfl,?_⟩;rw[uV M _ _ i hi,ey]
inductive Wk(M:Mem):List W->List W->Nat->Prop
 |nil:Wk M [] [] 0
 |flat {x:W} {ls rs:List W} {n:Nat}:VM.flat x=af->Wk M ls rs n->Wk M (ls++[x]) (rs++[x]) (n+1)
 |seq {a b:Nat} {xs ys ls rs:List W} {n:Nat}:M[a]? =aa (.lst xs)->M[b]? =aa (.lst ys)->xs.length=ys.length->Wk M (ls++xs) (rs++ys) n->Wk M (ls++[.ref a]) (rs++[.ref b]) (n+1)
 |tup {a b:Nat} {xs ys ls rs:List W} {n:Nat}:M[a]? =aa (.tup xs)->M[b]? =aa (.tup ys)->xs.length=ys.length->Wk M (ls++xs) (rs++ys) n->Wk M (ls++[.ref a]) (rs++[.ref b]) (n+1)
def Wk.len(h:Wk M ls rs n):ls.length<=n/\rs.length<=n:=by
 induction h with
 |nil=>simp
 |flat _ _ a=>simp;omega
 |seq _ _ _ _ a=>simp at a⊢;omega
 |tup _ _ _ _ a=>simp at a⊢;omega
def Wk.A_(h:Wk M ls rs n):∀(a),a.all VM.flat=af->Wk M (ls++a) (rs++a) (n+a.length):=by
 intro a;induction a generalizing ls rs n with
 |nil=>intro _;simpa using h
 |cons z r c=>intro b;rw[Vp,T'] at b;have:=c (h.flat b.1) b.2;rw[U9,U9] at this;rw[UO,show n+(r.length+1)=n+1+r.length by omega];exact this
def eV(M J:Mem)(o p):(M++o::p::J)[M.length]? =aa o/\(M++o::p::J)[M.length+1]? =aa p:=by
 constructor
 ·simp
 ·rw[Vn<|by omega];simp
def qk(M J:Mem)(o p o'):(M++o::p::J).set M.length o'=M++o'::p::J:=by simp
def oe(M J:Mem)(o p p'):(M++o::p::J).set (M.length+1) p'=M++o::p'::J:=by rw[Xj _ _<|by omega];simp
def vm(h:M[a]? =aa (.lst<|xs++[x])):iU (.ref a) [] M=.ok x (M.set a<|.lst xs):=by
 unfold iU;rw[gA h];have e:(xs++[x])[(xs++[x]).length-1]? =aa x:=by simp
 simp only[e];simp
def qN(h:M[a]? =aa (.lst xs))(c:M[b]? =aa (.lst ys)\/M[b]? =aa (.tup ys))(d:xs.length+ys.length<=16777216):kJ (.ref a) [.ref b] M=.ok .aA (M.set a<|.lst<|xs++ys):=by
 have e:litOf M (.ref b)=aa ys:=by rcases c with c|c<;>simp only[litOf,c]
 simp only[kJ,gA h,e];exact T5 d
def zO(h:M[a]? =aa (.tup xs)):bu M (.ref a)=aa xs:=by
 have e:a8 M (.ref a)=ae:=by simp only[VM.a8,h]
 simp only[VM.bu,e,VM.cm,h]
def qa(i)(M):cC [.int i] M=.ok (.bl af) M:=rfl
def Ho(x)(M)(h:VM.flat x=af):bp x x M=.ok (.bl ag) M:=by unfold bp dt;cases x<;>simp[VM.dh,VM.flat] at h⊢
def qZ(a b)(M):bp (.bl a) (.bl b) M=.ok (.bl<|!ai (a=b)) M:=by unfold bp dt;simp[VM.dh]
noncomputable def j4:TM:=tB<|ao bp (aj 3)<|aR<|aq
noncomputable def Ba(a:CM):SM:=
 aM (tB<|bt [.list,.tuple]<|aj 5) (
  au (
   aM (tB<|ao bp (bt [.list]<|aj 4)<|bt [.list]<|aj 5) (
    aK (eC (.bl ag))) (
    aO)) (
  au (
   aM (bg (tB<|ao bp (bt [.tuple]<|aj 4)<|bt [.tuple]<|aj 5)<|tB<|ao bp (av aZ<|ak (aj 4) aq)<|av aZ<|ak (aj 5) aq) (
    aK (eC (.bl ag))) (
    aO)) (
  au (
   cg (bD kJ (aj 2) (ak (aj 4) aq))) (
  cg (bD kJ (aj 3) (ak (aj 5) aq)))))) (
  aM (tB<|jk<|aj 5) (
   aM (tB<|mE<|aj 4) (
    aK (eC (.bl ag))) (
    aO)) (
   aM (tB<|bt [.bool]<|aj 5) (
    aM (bg (bB<|tB<|bt [.bool]<|aj 4)<|tB<|ao bp (aj 4)<|aj 5) (
     aK (eC (.bl ag))) (
     aO)) (
    aM (tB<|bt [.str]<|aj 5) (
     aM (bg (bB<|tB<|bt [.str]<|aj 4)<|tB<|ao bp (aj 4)<|aj 5) (
      aK (eC (.bl ag))) (
      aO)) (
     aM (bg (bB<|tB<|av a<|ak (aj 4) aq)<|tB<|ao bp (aj 4)<|aj 5) (
      aK (eC (.bl ag))) (
      aO)))))
noncomputable def oS(a:CM):SM:=au (aN (bD iU (aj 2)<|aq)<|az 4)<|au (aN (bD iU (aj 3)<|aq)<|az 5)<|Ba a
def Eh(M:Mem)(f d:W):∀(n:Nat) (k:Nat) (ls rs:List W) (J:Mem) (x y:Option W),Wk M ls rs n->n<k->n<=16000000-> (dW j4 (oS cC) k [aa f,aa d,aa<|.ref M.length,aa<|.ref<|M.length+1,x,y]<|M++.lst ls::.lst rs::J).Sat {nx:=λ_ i=>M<+:i,rt:=λ_ _=>False}:=by
 intro n;induction n with
 |zero=>
  intro k ls rs J x y K Z _;obtain⟨k,rfl⟩:∃j,k=j+1:=⟨k-1,by omega⟩;cases K;have t:j4 [aa f,aa d,aa<|.ref M.length,aa<|.ref<|M.length+1,x,y] (M++.lst []::.lst []::J)=.ok ag (M++.lst []::.lst []::J++[.lst []]):=by have S:bb [] (M++.lst []::.lst []::J)=.ok (.ref (M++O.lst []::.lst []::J).length) (M++.lst []::.lst []::J++[.lst []]):=rfl;have h:=aB (pre_app (M++O.lst []::.lst []::J) [.lst []]) (eV M J (.lst [])<|.lst []).2;have o:=aF.new (M++O.lst []::.lst []::J) [];unfold j4;simp only[tB,ao,aj,aR,aq,Uo,Uj,R.bind,S,bp,dt,VM.dh,Vc,U2,dQ h,o.a8];rfl
  refine nL t ?_;exact⟨.lst []::.lst []::J++[.lst []],by simp⟩
 |succ n Q=>
  intro k ls rs J x y K Z Y;obtain⟨k,rfl⟩:∃j,k=j+1:=⟨k-1,by omega⟩;have hl:=K.len;have s:∀(l r:W) (g e:List W),ls=g++[l]->rs=e++[r]-> ((Ba cC) [aa f,aa d,aa<|.ref M.length,aa<|.ref<|M.length+1,aa l,aa r]<|M++.lst g::.lst e::(J++[.lst []])).Sat {nx:=λF i=>(dW j4 (oS cC) k F i).Sat {nx:=λ_ i=>M<+:i,rt:=λ_ _=>False},rt:=λ_ _=>False,ct:=λF i=>(dW j4 (oS cC) k F i).Sat {nx:=λ_ i=>M<+:i,rt:=λ_ _=>False},bk:=λ_ i=>M<+:i}-> (dW j4 (oS cC) (k+1) [aa f,aa d,aa<|.ref M.length,aa<|.ref<|M.length+1,x,y]<|M++.lst ls::.lst rs::J).Sat {nx:=λ_ i=>M<+:i,rt:=λ_ _=>False}:=by
   rintro l r g e rfl rfl w;have t:j4 [aa f,aa d,aa<|.ref M.length,aa<|.ref<|M.length+1,x,y] (M++.lst (g++[l])::.lst (e++[r])::J)=.ok af (M++.lst (g++[l])::.lst (e++[r])::(J++[.lst []])):=by
    have S:bb [] (M++.lst (g++[l])::.lst (e++[r])::J)=.ok (.ref (M++O.lst (g++[l])::.lst (e++[r])::J).length) (M++.lst (g++[l])::.lst (e++[r])::J++[.lst []]):=rfl;have h:=aB (pre_app (M++O.lst (g++[l])::.lst (e++[r])::J) [.lst []]) (eV M J (.lst<|g++[l])<|.lst<|e++[r]).2;have o:=aF.new (M++O.lst (g++[l])::.lst (e++[r])::J) [];have e0:iK (e++[r]) []=aa ag:=by unfold iK;rw[T5<|by simp]
    unfold j4;simp only[tB,ao,aj,aR,aq,Uo,Uj,R.bind,S,bp,dt,VM.dh,Vc,U2,dQ h,o.a8,e0];simp
   refine pK t ?_;unfold oS;obtain⟨h,o⟩:=eV M (J++[.lst []]) (.lst<|g++[l])<|.lst<|e++[r];have V:=vm h;rw[qk] at V;refine aD<|bA (v:=l) (M1:=M++.lst g::.lst (e++[r])::(J++[.lst []])) ?_ ?_
   ·simp only[bD,aj,aq,Uo,Uj,R.bind,dQ h];exact V
   simp only[T_,T9];obtain⟨T,p⟩:=eV M (J++[.lst []]) (.lst g)<|.lst<|e++[r];have U:=vm p;rw[oe] at U;refine aD<|bA (v:=r) (M1:=M++.lst g::.lst e::(J++[.lst []])) ?_ ?_
   ·simp only[bD,aj,aq,Uo,Uj,R.bind,dQ p];exact U
   simp only[T_,T9];exact w
  cases K with
  | @flat l g e _ hf D=>
    refine s l l g e rfl rfl ?_;have m:=Q k g e (J++[.lst []]) (aa l) (aa l) D (by omega)<|by omega
    generalize M++O.lst g::.lst e::(J++[.lst []])=N at m;have E:=Ho l N hf;cases l with
    |ref a=>cases hf
    |aA=>
     refine aJ (c:=ag) (M1:=N) rfl (λz=>nomatch z) λ_=>?_
     refine aJ (c:=af) (M1:=N) rfl (λ_=>?_) λz=>nomatch z
     exact aJ (c:=ag) (M1:=N) rfl (λz=>nomatch z) λ_=>m
    |bl b=>
     refine aJ (c:=ag) (M1:=N) rfl (λz=>nomatch z) λ_=>?_
     refine aJ (c:=ag) (M1:=N) rfl (λz=>nomatch z) λ_=>?_
     refine aJ (c:=af) (M1:=N) rfl (λ_=>?_) λz=>nomatch z
     refine aJ (c:=ag) (M1:=N) ?_ (λz=>nomatch z) λ_=>m
     walk_at "ev"
     simp only[bt,cW,cD,R.bind,aj,Uo,Uj,E];simp
    |str b=>
     refine aJ (c:=ag) (M1:=N) rfl (λz=>nomatch z) λ_=>?_
     refine aJ (c:=ag) (M1:=N) rfl (λz=>nomatch z) λ_=>?_
     refine aJ (c:=ag) (M1:=N) rfl (λz=>nomatch z) λ_=>?_
     refine aJ (c:=af) (M1:=N) rfl (λ_=>?_) λz=>nomatch z
     refine aJ (c:=ag) (M1:=N) ?_ (λz=>nomatch z) λ_=>m
     walk_at "ev"
     simp only[bt,cW,cD,R.bind,aj,Uo,Uj,E];simp
    |int b=>
     refine aJ (c:=ag) (M1:=N) rfl (λz=>nomatch z) λ_=>?_
     refine aJ (c:=ag) (M1:=N) rfl (λz=>nomatch z) λ_=>?_
     refine aJ (c:=ag) (M1:=N) rfl (λz=>nomatch z) λ_=>?_
     refine aJ (c:=ag) (M1:=N) rfl (λz=>nomatch z) λ_=>?_
     refine aJ (c:=ag) (M1:=N) ?_ (λz=>nomatch z) λ_=>m
     walk_at "ev"
     simp only[qa,R.bind,E];simp
  | @seq a b xs G g e _ L I q D=>
    refine s (.ref a) (.ref b) g e rfl rfl ?_;have m:=Q k (g++xs) (e++G) (J++[.lst []]) (aa<|.ref a) (aa<|.ref b) D (by omega)<|by omega
    have u:=D.len;rw[Us,Us] at u;obtain⟨h,o⟩:=eV M (J++[.lst []]) (.lst g)<|.lst e;have A:=aB (pre_app M<|O.lst g::.lst e::(J++[.lst []])) L;have B:=aB (pre_app M<|O.lst g::.lst e::(J++[.lst []])) I;have C:=qN h (.inl A)<|by omega
    rw[qk] at C;obtain⟨T,p⟩:=eV M (J++[.lst []]) (.lst<|g++xs)<|.lst e;have P:=aB (pre_app M<|O.lst (g++xs)::.lst e::(J++[.lst []])) I;have H:=qN p (.inl P)<|by omega
    rw[oe] at H;generalize X:M++O.lst g::.lst e::(J++[.lst []])=N at A B C h o;refine aJ (c:=af) (M1:=N) ?_ (λ_=>?_) λz=>nomatch z
    ·simp only[tB,bt,aj,Uo,Uj,R.bind,cW,cD,B];rfl
    refine aD<|aJ (c:=ag) (M1:=N) ?_ (λz=>nomatch z) λ_=>?_
    ·simp only[tB,ao,bt,aj,Uo,Uj,R.bind,cW,cD,A,B,qZ];rfl
    refine bf ?_;dsimp only;refine aD<|aJ (c:=ag) (M1:=N) ?_ (λz=>nomatch z) λ_=>?_
    ·simp only[bg,tB,ao,bt,av,ak,aq,aj,Uo,Uj,R.bind,cW,cD,A,B,qZ,aZ,jK A,jK B,ne_int,q];simp
    refine bf ?_;dsimp only;refine aD<|df (v:=.aA) (M1:=M++O.lst (g++xs)::.lst e::(J++[.lst []])) ?_ ?_
    ·simp only[bD,aj,ak,aq,Uo,Uj,R.bind,dQ h];exact C
    refine df (v:=.aA) (M1:=M++O.lst (g++xs)::.lst (e++G)::(J++[.lst []])) ?_ ?_
    ·simp only[bD,aj,ak,aq,Uo,Uj,R.bind,dQ p];exact H
    exact m
  | @tup a b xs G g e _ L I q D=>
    refine s (.ref a) (.ref b) g e rfl rfl ?_;have m:=Q k (g++xs) (e++G) (J++[.lst []]) (aa<|.ref a) (aa<|.ref b) D (by omega)<|by omega
    have u:=D.len;rw[Us,Us] at u;obtain⟨h,o⟩:=eV M (J++[.lst []]) (.lst g)<|.lst e;have A:=aB (pre_app M<|O.lst g::.lst e::(J++[.lst []])) L;have B:=aB (pre_app M<|O.lst g::.lst e::(J++[.lst []])) I;have C:=qN h (.inr A)<|by omega
    rw[qk] at C;obtain⟨T,p⟩:=eV M (J++[.lst []]) (.lst<|g++xs)<|.lst e;have P:=aB (pre_app M<|O.lst (g++xs)::.lst e::(J++[.lst []])) I;have H:=qN p (.inr P)<|by omega
    rw[oe] at H;generalize X:M++O.lst g::.lst e::(J++[.lst []])=N at A B C h o;refine aJ (c:=af) (M1:=N) ?_ (λ_=>?_) λz=>nomatch z
    ·simp only[tB,bt,aj,Uo,Uj,R.bind,cW,cD,B];rfl
    refine aD<|aJ (c:=ag) (M1:=N) ?_ (λz=>nomatch z) λ_=>?_
    ·simp only[tB,ao,bt,aj,Uo,Uj,R.bind,cW,cD,A,B,qZ];rfl
    refine bf ?_;dsimp only;refine aD<|aJ (c:=ag) (M1:=N) ?_ (λz=>nomatch z) λ_=>?_
    ·simp only[bg,tB,ao,bt,av,ak,aq,aj,Uo,Uj,R.bind,cW,cD,A,B,qZ,aZ,zO A,zO B,ne_int,q];simp
    refine bf ?_;dsimp only;refine aD<|df (v:=.aA) (M1:=M++O.lst (g++xs)::.lst e::(J++[.lst []])) ?_ ?_
    ·simp only[bD,aj,ak,aq,Uo,Uj,R.bind,dQ h];exact C
    refine df (v:=.aA) (M1:=M++O.lst (g++xs)::.lst (e++G)::(J++[.lst []])) ?_ ?_
    ·simp only[bD,aj,ak,aq,Uo,Uj,R.bind,dQ p];exact H
    exact m
def zP(M:Mem)(f d:W)(n:Nat)(h:Wk M [f] [d] n)(i:n<=16000000):∃a,jL cC [f,d] M=.ok (.bl af) a/\M<+:a:=by
 have b:∃r a,jL cC [f,d] M=.ok r a/\(r=.bl af/\M<+:a):=by
  refine bJ rfl ?_;show(au _ _ [aa f,aa d,ae,ae,ae,ae] M).Sat _;have g:bb [f] M=.ok (.ref M.length) (M++[.lst [f]]):=bT (by show 1<=16777216;decide);have c:bb [d] (M++[.lst [f]])=.ok (.ref<|M.length+1) (M++.lst [f]::.lst [d]::[]):=by rw[bT (by show 1<=16777216;decide)];simp
  refine aD (bA (v:=.ref M.length) (by walk_at "ev";exact g) ?_);refine aD (bA (by walk_at "ev";exact c) ?_);refine aD ?_;refine RS.Sat.mono (Eh M f d n 1000000000 [f] [d] [] ae ae h (by omega) i) (λj a p=>?_) (λ_ _ z=>z.elim) (λ_ _ z=>z.elim)<|λ_ _ z=>z.elim
  dsimp only;refine aV rfl ?_;exact⟨rfl,p⟩
 obtain⟨r,a,e,rfl,p⟩:=b;exact⟨a,e,p⟩
def og(h:aX M v fs)(a:fs.length<=1000):gh [v] M=.ok (.ref M.length) (M++[.lst<|fs.map .int]):=by unfold gh;simp only[aF.bu h];exact bT (by rw[Ua];omega)
end LV
namespace VM
def xx{e:EM}{k:Nat}{a:SM}{σ:St}{M M1:Mem}{v:W}{xs:List W}{q:ay}(g:e σ M=.ok v M1)(l:aF M1 v xs)(F:St->Mem->Prop)(p:Nat->Bool)(Q:W->Mem->Prop)(m:F σ M1)(c:∀σ M,F σ M->aF M v xs)(i:∀(j:Nat) x σ M,xs[j]? =aa x->F σ M->(a (σ.set k<|aa x) M).Sat {nx:=λσ M=>F σ M/\p j=ag,ct:=λσ M=>F σ M/\p j=ag,rt:=λv M=>p j=af/\Q v M})(n:∀σ M,F σ M->(List.range xs.length).any p=ag->q.nx σ M)(d:∀v M,Q v M->(List.range xs.length).any p=af->q.rt v M):(bz (a9 e) (az k) a σ M).Sat q:=by
 refine dS g l (λj σ M=>F σ M/\(List.range j).any p=ag) ⟨m,rfl⟩ (λj σ M _ h=>c σ M h.1) ?_ ?_
 ·rintro j x σ M b ⟨hf,ha⟩;have f:j<xs.length:=(Ub.mp b).1;refine RS.Sat.mono (i j x σ M b hf) (λσ M h=>⟨h.1,?_⟩) (λv M h=>d v M h.2 ?_) (λ_ _ z=>z.elim)<|λσ M h=>⟨h.1,?_⟩
  ·rw[Vv,Wh,ha];simp[h.2]
  ·rw[Ui];exact⟨j,UD.mpr f,h.1⟩
  ·rw[Vv,Wh,ha];simp[h.2]
 ·rintro σ M ⟨hf,ha⟩;exact n σ M hf ha
def tU(d:i σ M=.ok (cS lo n,[]) M1)(F:St->Mem->Prop)(p)(Q:W->Mem->Prop)(e:F σ M1)(c:∀(j) σ M,j<n->F σ M->(body (σ.set k<|aa<|.int<|lo+(j)) M).Sat {nx:=λσ M=>F σ M/\p j=ag,ct:=λσ M=>F σ M/\p j=ag,rt:=λv M=>p j=af/\Q v M})(f:∀σ M,F σ M->(List.range n).any p=ag->q.nx σ M)(b:∀v M,Q v M->(List.range n).any p=af->q.rt v M):(bz i (az k) body σ M).Sat q:=by
 refine fJ d (λj σ M=>F σ M/\(List.range j).any p=ag) ⟨e,rfl⟩ ?_ ?_
 ·rintro j σ M a ⟨hf,ha⟩;refine RS.Sat.mono (c j σ M a hf) (λσ M h=>⟨h.1,?_⟩) (λv M h=>b v M h.2 ?_) (λ_ _ z=>z.elim)<|λσ M h=>⟨h.1,?_⟩
  ·rw[Vv,Wh,ha];simp[h.2]
  ·rw[Ui];exact⟨j,UD.mpr a,h.1⟩
  ·rw[Vv,Wh,ha];simp[h.2]
 ·rintro σ M ⟨hf,ha⟩;exact f σ M hf ha
def aP(d:a σ M=.ok x M1)(c:b σ M1=.ok y M2)(e:f x y M2=r):ao f a b σ M=r:=by unfold ao;rw[d];simp only[R.bind];rw[c];exact e
def aU(h:e σ M=.ok (.bl b) M1):tB e σ M=.ok b M1:=by unfold tB;rw[h];rfl
def any_range(l:List α)(d)(f):(List.range l.length).any (λj=>f<|l.getD j d)=l.any f:=by
 induction l with
 |nil=>rfl
 |cons x r a=>rw[UO,XT,U3,WH,U3,<-a];rfl
end VM
namespace LV
open VM
def getD_at{l:List α}(h:l[j]? =aa x):l.getD j d=x:=by simp[h]
noncomputable def fz(ss g:List Int)(p n:Int):Bool:=g.any (·==p)&&g.any λq=>!ai (q=p)&&ai (aw ss q=n)
noncomputable def c7(G:List<|List Int)(ss:List Int)(p n:Int):Bool:=G.any λg=>fz ss g p n
def Ei(M)(vG vs)(G)(ss)(p n)(D:LL M vG G)(B:aX M vs ss)(s:∀g∈G,∀i∈g,0<=i/\i<(ss.length:Int)):
 jI [vG,vs,.int p,.int n] M=.ok (.bl<|c7 G ss p n) M:=by
 have m:∃r a,jI [vG,vs,.int p,.int n] M=.ok r a/\(r=.bl (c7 G ss p n)/\a=M):=by
  refine bJ rfl ?_;refine aD ?_;obtain⟨F,A,t⟩:=D;have l:=t.len;have d:(List.range F.length).any (λj=>fz ss (G.getD j []) p n)=c7 G ss p n:=by rw[l];exact any_range G []<|λg=>fz ss g p n
  refine xx rfl A (λb a=>(∃x y,b=[aa vG,aa vs,aa<|.int p,aa<|.int n,x,y])/\a=M) (λj=>fz ss (G.getD j []) p n) (λv a=>v=.bl af/\a=M) ⟨⟨_,_,rfl⟩,rfl⟩ (λb a ⟨_,e⟩=>by rw[e];exact A) ?_ ?_ ?_
  ·rintro j x b a H ⟨⟨y,z,rfl⟩,rfl⟩;obtain⟨g,u,h⟩:=t.at H;rw[getD_at u];have J:=oQ p h;refine aJ (c:=g.any (·==p)) (M1:=a) (by walk_at "ev";simp only[J]) (λk=>?_) λk=>?_
   ·have f:=any_range g 0 (λq=>!ai (q=p)&&ai (aw ss q=n));refine xx rfl h (λb N=>(∃z,b=[aa vG,aa vs,aa<|.int p,aa<|.int n,aa x,z])/\N=a) (λi=>!ai (g.getD i 0=p)&&ai (aw ss (g.getD i 0)=n)) (λv N=>v=.bl af/\N=a) ⟨⟨_,rfl⟩,rfl⟩ (λb N ⟨_,e⟩=>by rw[e];exact h) ?_ ?_ ?_
    ·rintro i w b N K ⟨⟨z,rfl⟩,rfl⟩;obtain⟨q,I,rfl,o⟩:=fZ K;rw[getD_at o];obtain⟨C,E⟩:=s g (U8 u) q I;have L:=er B C E;refine aJ (c:=!ai (q=p)&&ai (aw ss q=n)) (M1:=N) ?_ (λk=>?_) λk=>?_
     ·walk_at "ev"
      simp only[ne_int,L,eq_int];cases ai (q=p)<;>simp
     ·exact aV rfl ⟨k,rfl,rfl⟩
     ·exact⟨⟨⟨_,rfl⟩,rfl⟩,k⟩
    ·rintro b N ⟨⟨z,rfl⟩,rfl⟩ ha;rw[Ua,f] at ha;exact⟨⟨⟨_,_,rfl⟩,rfl⟩,by unfold fz;rw[ha,VQ]⟩
    ·rintro v N ⟨rfl,rfl⟩ ha;rw[Ua,f] at ha;exact⟨by unfold fz;rw[k,ha];rfl,rfl,rfl⟩
   ·exact⟨⟨⟨_,_,rfl⟩,rfl⟩,by unfold fz;rw[k,Vi]⟩
  ·rintro b a ⟨⟨y,z,rfl⟩,rfl⟩ ha;rw[d] at ha;dsimp only;exact aV rfl ⟨by rw[ha],rfl⟩
  ·rintro v a ⟨rfl,rfl⟩ ha;rw[d] at ha;exact⟨by rw[ha],rfl⟩
 obtain⟨r,a,e,rfl,rfl⟩:=m;exact e
noncomputable def nums(s:Nat):List Int:=(List.range s).map λ(k:Nat)=>(k)+1
noncomputable def rowOf(G:List<|List Int)(ss:List Int)(s:Nat)(p:Int):List Int:=(nums s).filter λn=>ai (aw ss p=0)&& !c7 G ss p n
noncomputable def tabOf(G:List<|List Int)(ss:List Int)(s:Nat):List (List Int):=(List.range ss.length).map λ(p:Nat)=>rowOf G ss s<|p
def jJ(G)(ss)(s)(p):(rowOf G ss s p).length<=s:=by unfold rowOf;refine Uh (Vb _ _) ?_;simp[nums]
def yf(k):nums (k+1)=nums k++[(k:Int)+1]:=by unfold nums;rw[Vv,VS];rfl
noncomputable def mP(a:Nat)(J:Mem)(ws:List W)(b:List<|List Int):Prop:=a_ (λw r=>∃k,w=W.ref (a+1+k)/\J[k]? =aa (O.lst<|r.map .int)) ws b
def Fw(N J:Mem)(o)(k):(N++o::J)[N.length+1+k]? =J[k]? :=by rw[Vn<|by omega,show N.length+1+k-N.length=k+1 by omega];rfl
def mP.grow(h:mP a J ws rows)(K):mP a (J++K) ws rows:=h.imp λw r ⟨k,e,q⟩=>⟨k,e,aB (pre_app J K) q⟩
noncomputable def Hq(f:CM):Prop:=∀(M) (d c) (G) (a) (s:Nat),LL M d G->aX M c a->(∀g∈G,∀i∈g,0<=i/\i<(a.length:Int))->a.length<=81->s<=9->
 ∃b J,f [d,c,.int s] M=.ok (.ref M.length) (M++.lst b::J)/\mP M.length J b (tabOf G a s)
def JN:Hq (lS jI):=by
 intro M m l G a s I w D Z S;have A:∃r d,lS jI [m,l,.int s] M=.ok r d/\(r=.ref M.length/\∃b J,d=M++.lst b::J/\mP M.length J b (tabOf G a s)):=by
  refine bJ rfl ?_;show(au _ _ [aa m,aa l,aa<|.int s,ae,ae,ae,ae] M).Sat _;refine aD<|bA (v:=.ref M.length) (M1:=M++[.lst []]) rfl ?_;simp only[T_,T9];refine aD ?_;have X:(a.length:Int).natAbs<bV:=cU (by omega)<|by omega
  refine fJ (lo:=0) (n:=a.length) (M1:=M++[.lst []]) (by walk_at "ev";simp only[je (aF.mono w (pre_app M _))];rw[T5 X,UA]) (λj g d=>(∃x y z,g=[aa m,aa l,aa<|.int s,aa<|.ref M.length,x,y,z])/\∃b J,d=M++.lst b::J/\mP M.length J b ((List.range j).map λ(p:Nat)=>rowOf G a s (p:Int))) ⟨⟨_,_,_,rfl⟩,[],[],rfl,.nil⟩ ?_ ?_
  ·rintro j g d Y ⟨⟨x,y,z,rfl⟩,b,J,rfl,hT⟩;simp only[T_,T9];have V:(0:Int)+(j:Int)=(j:Int):=by omega
   generalize t:M++O.lst b::J=N;have L:M<+:N:=by rw[<-t];exact jP _ _ _
   refine aD<|bA (v:=.ref N.length) (M1:=N++[.lst []]) rfl ?_;simp only[T_,T9];refine aD ?_;have U:(1:Int).natAbs<bV/\((s:Int)+1).natAbs<bV:=⟨cU (by omega)<|by omega,cU (by omega)<|by omega⟩;have Q:((s:Int)+1-1).toNat=s:=by omega
   refine fJ (lo:=1) (n:=s) (M1:=N++[.lst []]) (by walk_at "ev";rw[T5 U,Q]) (λk g d=>(∃z,g=[aa m,aa l,aa<|.int s,aa<|.ref M.length,aa<|.int<|0+(j:Int),aa<|.ref N.length,z])/\d=N++[.lst<|((nums k).filter λn=>ai (aw a j=0)&& !c7 G a j n).map .int]) ⟨⟨_,rfl⟩,rfl⟩ ?_ ?_
   ·rintro k g d hk ⟨⟨z,rfl⟩,rfl⟩;simp only[T_,T9];generalize f:(nums k).filter (λn=>ai (aw a j=0)&& !c7 G a j n)=cur;have T:cur.length<=k:=by rw[<-f];exact Uh (Vb _ _)<|by simp[nums]
    have P:=L.trans<|pre_app N [.lst<|cur.map .int];have W:=er (aF.mono w P) (i:=(j:Int)) (by omega)<|by omega
    have F:=Ei _ m l G a j (1+(k:Int)) (I.mono P) (aF.mono w P) D;have E:(1:Int)+(k:Int)=(k:Int)+1:=by omega
    refine aJ (c:=ai (aw a j=0)&& !c7 G a j ((k:Int)+1)) (M1:=N++[.lst<|cur.map .int]) ?_ (λB=>?_) λB=>?_
    ·walk_at "ev"
     rw[E] at F⊢;simp only[V,W,eq_int,F];cases ai (aw a j=0)<;>simp
    ·have u:=gD (σ:=[aa m,aa l,aa<|.int s,aa<|.ref M.length,aa<|.int<|0+(j:Int),aa<|.ref N.length,aa<|.int<|1+(k:Int)]) (o:=aj 5) (arg:=aj 6) rfl (b8 N<|.lst<|cur.map .int) (show _=R.ok (.int<|1+(k:Int)) _ from rfl) (b8 N<|.lst<|cur.map .int) (by rw[Ua];omega);rw[md] at u;refine df u ⟨⟨_,rfl⟩,?_⟩;rw[yf,Xl,f];simp[B,E]
    ·refine⟨⟨_,rfl⟩,?_⟩;rw[yf,Xl,f];simp[B]
   ·rintro g d ⟨⟨z,rfl⟩,rfl⟩;dsimp only;have C:=hT.len;have q:(nums s).filter (λn=>ai (aw a j=0)&& !c7 G a j n)=rowOf G a s j:=rfl;rw[q];have H:(N++[.lst<|(rowOf G a s j).map .int])[M.length]? =aa (.lst b):=aB (pre_app _ _) (by rw[<-t];exact f_ _ _ _);have K:b.length=j:=by rw[C];simp
    have u:=gD (σ:=[aa m,aa l,aa<|.int s,aa<|.ref M.length,aa<|.int<|0+(j),aa<|.ref N.length,z]) (o:=aj 3) (arg:=aj 5) rfl H (rfl) H<|by omega
    refine df u ?_;refine⟨⟨_,_,_,rfl⟩,b++[.ref N.length],J++[.lst<|(rowOf G a s j).map .int],?_,?_⟩
    ·rw[<-t];simp
    ·rw[Vv,VS];refine a_.app (hT.grow _)<|.cons ⟨J.length,?_,by simp⟩ .nil;rw[<-t];simp;omega
  ·rintro g d ⟨⟨x,y,z,rfl⟩,b,J,rfl,hT⟩;dsimp only;exact aV rfl ⟨rfl,b,J,rfl,hT⟩
 obtain⟨r,d,e,rfl,b,J,rfl,h⟩:=A;exact⟨b,J,e,h⟩
def gk(h:LL M v G)(g:0<=i)(j:i<(G.length:Int)):∃w,ax v (.int i) M=.ok w M/\aX M w (G.getD i.toNat []):=by
 obtain⟨c,d,b⟩:=h;have k:=b.len;have e:G[i.toNat]? =aa (G.getD i.toNat []):=by
  have:i.toNat<G.length:=by omega
  simp[this]
 obtain⟨w,f,q⟩:=b.at' e;refine⟨w,?_,q⟩;have a:cA c i=aa w:=by unfold cA cq;rw[T5 g,T5<|by omega];exact f
 simp only[ax,d.bu,a]
def qO(h:LL M v G):aZ [v] M=.ok (.int G.length) M:=by obtain⟨c,a,b⟩:=h;unfold aZ;simp only[a.bu,b.len]
noncomputable def bU(G T:List<|List Int)(g n:Int):List Int:=(G.getD g.toNat []).filter λp=>(T.getD p.toNat []).any (·==n)
def uu(M)(vG vT)(G T)(g n)(s:LL M vG G)(A:LL M vT T)(B:0<=g)(l:g<(G.length:Int))(j:∀i∈G.getD g.toNat [],0<=i/\i<(T.length:Int))(z:(G.getD g.toNat []).length<=9):
 fk [vG,vT,.int g,.int n] M=.ok (.ref M.length) (M++[.lst<|(bU G T g n).map .int]):=by
 obtain⟨w,D,f⟩:=gk s B l;obtain⟨a,rfl,k⟩:=f;have e:bE 1 [] (a9<|ao ax (aj 0)<|aj 2) (az 4) (tB<|ao dP (aj 3)<|ao ax (aj 1)<|aj 4) (aj 4) [aa vG,aa vT,aa<|.int g,aa<|.int n] M=.ok (.ref M.length) (M++[.lst<|(bU G T g n).map .int]):=by
  unfold bE;have y:a9 (ao ax (aj 0)<|aj 2) [aa vG,aa vT,aa<|.int g,aa<|.int n] M=.ok (((G.getD g.toNat []).map W.int).map .val,[(a,.lst<|(G.getD g.toNat []).map .int)]) M:=by
   unfold a9
   walk_at "ev"
   simp only[D,k]
  rw[y];simp only[R.bind];rw[gz (λx=>match x with|.int i=>(T.getD i.toNat []).any (·==n)|_=>ag) (λx=>x) _ _ _ (λ_=>rfl) (by simp[bN.ok,k]) ?_]
  ·have m:((G.getD g.toNat []).map W.int).filter (λx=>match x with|.int i=>(T.getD i.toNat []).any (·==n)|_=>ag)=(bU G T g n).map .int:=by unfold bU;rw[Wi];rfl
   rw[m];simp only[UJ,List.map_id'];have C:(bU G T g n).length<=9:=Uh (Vb _ _) z;exact bT (by rw[Ua];omega)
  ·intro x v;obtain⟨i,b,rfl⟩:=Um.mp v;obtain⟨p,t⟩:=j i b;obtain⟨u,o,h⟩:=gk A p t;have q:=oQ n h;refine⟨?_,λ_=>rfl⟩
   walk_at "ev"
   simp only[o,q]
 have d:∃r c,fk [vG,vT,.int g,.int n] M=.ok r c/\(r=.ref M.length/\c=M++[.lst<|(bU G T g n).map .int]):=by refine bJ rfl ?_;exact aV e ⟨rfl,rfl⟩
 obtain⟨r,c,e,rfl,rfl⟩:=d;exact e
noncomputable def dY(G:List<|List Int)(ss:List Int)(g n:Int)(s:Nat):Bool:=
 !(ai (g<0)||(ai ((G.length:Int)<=g)||(ai (n<1)||ai ((s)<n))))&& !((G.getD g.toNat []).map<|aw ss).any (·==n)
def yU(x)(h:aX M u fs):jd (.int x) u M=.ok (.bl (!fs.any (·==x))) M:=by unfold jd;rw[aF.bu h];simp only[flat,l7,Vj,Uv,yT]
def uv(M)(vG vs)(G)(ss)(g n)(s:Nat)(k:LL M vG G)(m:aX M vs ss)(d:∀g∈G,g.length<=9/\∀i∈g,0<=i/\i<(ss.length:Int)):
 ∃a,fm [vG,vs,.int g,.int n,.int s] M=.ok (.bl<|dY G ss g n s) a/\M<+:a:=by
 have h:∃r a,fm [vG,vs,.int g,.int n,.int s] M=.ok r a/\(r=.bl (dY G ss g n s)/\M<+:a):=by
  refine bJ rfl ?_;refine aD<|aJ (c:=ai (g<0)||(ai ((G.length:Int)<=g)||(ai (n<1)||ai ((s)<n)))) (M1:=M) ?_ (λf=>?_) λf=>?_
  ·walk_at "ev"
   simp only[lt_int,ge_int,gt_int,qO k];cases ai (g<0)<;>cases ai ((G.length:Int)<=g)<;>cases ai (n<1)<;>simp
  ·refine aV rfl ⟨?_,dc _⟩;unfold dY;rw[f];rfl
  ·refine bf ?_;have b:=f;simp only[U_,UZ] at b;obtain⟨u,t,v,x⟩:=b;obtain⟨w,o,j⟩:=gk k (i:=g) (by omega)<|by omega
   have l:G.getD g.toNat []∈G:=by
    have:g.toNat<G.length:=by omega
    simp[this]
   have e:=uU (σ:=[aa vG,aa vs,aa (.int g),aa (.int n),aa (.int s)]) (ao ax (aj 0) (aj 2)) (aj 1) 5 (by walk_at "ev";exact o) j m (d _ l).2 (by have:=(d _ l).1;omega) (λ_=>rfl) (λ_=>rfl);have L:aX (M++[.lst<|((G.getD g.toNat []).map<|aw ss).map .int]) (.ref M.length) ((G.getD g.toNat []).map<|aw ss):=aF.new _ _;have q:=yU n L;refine aV (M1:=M++[.lst<|((G.getD g.toNat []).map<|aw ss).map .int]) ?_ ⟨rfl,pre_app _ _⟩;refine aP rfl e ?_;rw[q];unfold dY;rw[f];rfl
 obtain⟨r,a,e,rfl,p⟩:=h;exact⟨a,e,p⟩
inductive ee where
 |fld (p n:Int)
 |c9 (p n g:Int)
 deriving DecidableEq
noncomputable abbrev oF:W:=.str [102,105,101,108,100]
noncomputable abbrev hU:W:=.str [103,114,111,117,112]
noncomputable def ee.ws:ee->List W
 |.fld p n=>[oF,.int p,.int n]
 |.c9 p n g=>[hU,.int p,.int n,.int g]
noncomputable def ee.place:ee->Int
 |.fld p _=>p
 |.c9 p _ _=>p
noncomputable def ee.num:ee->Int
 |.fld _ n=>n
 |.c9 _ n _=>n
noncomputable def jg(M:Mem)(v:W)(st:ee):Prop:=aI M v st.ws
theorem yg:∀(xs ys:List Int),fQ (xs.map W.int) (ys.map W.int)=ai (xs=ys)
 |[],[]=>rfl
 |[],_::_=>rfl
 |_::_,[]=>rfl
 |x::xs,y::ys=>by show(eK (.int x) (.int y)&&fQ (xs.map W.int) (ys.map W.int))=_;rw[yg xs ys,UW];show((x==y)&&_)=af↔_;simp
def DI(xs ys:List Int):iK (xs.map W.int) (ys.map W.int)=aa (ai<|xs=ys):=by
 unfold iK;by_cases h:xs.length=ys.length
 ·rw[T6<|by simpa using h];simp only[l7,Vj,Uv,yg]
 ·rw[T5<|by simpa using h,Uy<|λe=>h<|by rw[e]]
def yV(c:aX M u xs)(d:aX M v ys):dt M u v=aa (ai<|xs=ys):=by have e:=aF.a8 c;have f:=aF.a8 d;obtain⟨a,rfl,_⟩:=c;obtain⟨b,rfl,_⟩:=d;unfold dt;rw[T6<|by simp[VM.dh],e,f];exact DI xs ys
def jQ(a:aX M u xs)(b:aX M v ys):oEq u v M=.ok (.bl<|ai<|xs=ys) M:=by unfold oEq;rw[yV a b]
def Hr(a:aX M u xs)(b:aX M v ys):bp u v M=.ok (.bl<|!ai (xs=ys)) M:=by unfold bp;rw[yV a b]
def eq_str(a b):oEq (.str a) (.str b) M=.ok (.bl<|ai<|a=b) M:=by unfold oEq dt;simp[VM.dh]
def dm(h:aI M v ws)(i:Nat)(b:ws[i]? =aa x):ax v (.int i) M=.ok x M:=by
 have a:cA ws (i)=aa x:=by unfold cA cq;have c:=(Ub.mp b).1;rw[T5<|by omega,T5<|by omega];exact b
 simp only[ax,h.bu,a]
def zQ(h:e σ M=.ok x M1):aR (ak e aq) σ M=.ok (.ref M1.length) (M1++[.lst [x]]):=by unfold aR ak aq;rw[h];simp only[R.bind];exact bT (by show 1<=16777216;decide)
noncomputable def cV(ss:List Int)(p:Int):Bool:=!(ai (p<0)||(ai ((ss.length:Int)<=p)|| !ai (aw ss p=0)))
noncomputable def jV(G:List<|List Int)(ss:List Int)(T:List<|List Int)(s:Nat):ee->Bool
 |.fld p n=>cV ss p&&ai (T.getD p.toNat []=[n])
 |.c9 p n g=>cV ss p&&(dY G ss g n s&&ai (bU G T g n=[p]))
def lY(G)(ss)(T)(s)(p n):jV G ss T s (.fld p n)=(cV ss p&&ai (T.getD p.toNat []=[n])):=rfl
def kE(G)(ss)(T)(s)(p n g):jV G ss T s (.c9 p n g)=(cV ss p&&(dY G ss g n s&&ai (bU G T g n=[p]))):=rfl
def oh(h:dY G ss g n s=af):0<=g/\g<(G.length:Int)/\1<=n/\n<=(s):=by unfold dY at h;simp only[T',UB,U_,UZ] at h;omega
noncomputable def Ej(f:CM):Prop:=∀(M) (h d c a) (G) (b) (T) (s:Nat) (st),LL M h G->aX M d b->LL M c T->jg M a st->T.length=b.length->(∀g∈G,g.length<=9/\∀i∈g,0<=i/\i<(b.length:Int))->
 ∃e,f [h,d,c,a,.int s] M=.ok (.bl<|jV G b T s st) e/\M<+:e
def Fx:Ej (kx fk fm):=by
 intro M B J K a G h T s k P D Q b Z m;have F:∃r y,kx fk fm [B,J,K,a,.int s] M=.ok r y/\(r=.bl (jV G h T s k)/\M<+:y):=by
  refine bJ rfl ?_;show(au _ _ [aa B,aa J,aa K,aa a,aa<|.int s,ae] M).Sat _;have i1:ax a (.int 1) M=.ok (.int k.place) M:=by cases k<;>exact dm b 1 rfl
  refine aD (bA (v:=.int k.place) (M1:=M) (by walk_at "ev";exact i1) ?_);simp only[T_,T9];generalize A:k.place=p;refine aD<|aJ (c:=!cV h p) (M1:=M) ?_ (λj=>?_) λj=>?_
  ·unfold cV;rw[Bool.not_not]
   walk_at "ev"
   simp only[lt_int,ge_int,je D];by_cases o:p<0
   ·simp[o]
   ·by_cases t:(h.length:Int)<=p
    ·simp[o,t]
    ·simp only[o,t,WI,Vc,U2];have V:=er D (i:=p) (by omega)<|by omega
     simp only[V,ne_int,Vs]
  ·refine aV rfl ⟨?_,dc _⟩;rw[UB] at j;cases k with
   |fld d n=>cases A;rw[lY,show cV h d=ag from j,Vi]
   |c9 d n g=>cases A;rw[kE,show cV h d=ag from j,Vi]
  ·refine bf ?_;dsimp only;rw[Vd] at j;have l:=j;unfold cV at l;simp only[UB,U_,UZ,Vd,UC] at l;obtain⟨o,t,c3⟩:=l;cases k with
   |fld d n=>
    cases A;have o:¬d<0:=o;have t:¬(h.length:Int)<=d:=t;have N:=dm b 0 (x:=oF) rfl;have E:=dm b 2 (x:=.int n) rfl;refine aD<|aJ (c:=af) (M1:=M) ?_ (λ_=>?_) λz=>nomatch z
    ·walk_at "ev"
     rw[show ax a (.int 0) M=_ from N];simp only[eq_str,V7]
    ·obtain⟨w,hw,H⟩:=gk Q (i:=d) (by omega) (by omega);have L:aX (M++[.lst [.int n]]) (.ref M.length) [n]:=aF.new _ _;refine aV (v:=.bl<|ai<|T.getD d.toNat []=[n]) (M1:=M++[.lst [.int n]]) ?_ ⟨?_,pre_app _ _⟩
     ·refine aP (x:=w) (M1:=M) (by walk_at "ev";exact hw) (zQ (x:=.int n) (M1:=M) (by walk_at "ev";exact E)) ?_;exact jQ (aF.mono H<|pre_app _ _) L
     ·rw[lY,show cV h d=af from j,Vg]
   |c9 d n g=>
    cases A;have N:=dm b 0 (x:=hU) rfl;have E:=dm b 2 (x:=.int n) rfl;have e3:=dm b 3 (x:=.int g) rfl;refine aD<|aJ (c:=ag) (M1:=M) ?_ (λz=>nomatch z) λ_=>?_
    ·walk_at "ev"
     rw[show ax a (.int 0) M=_ from N];simp only[eq_str];rfl
    refine bf ?_;dsimp only;obtain⟨M1,Y,u⟩:=uv M B J G h g n s P D m;refine aD<|aJ (c:=!dY G h g n s) (M1:=M1) ?_ (λf=>?_) λf=>?_
    ·walk_at "ev"
     rw[show ax a (.int 3) M=_ from e3];simp only[R.bind];rw[show ax a (.int 2) M=_ from E];simp only[Y]
    ·refine aV rfl ⟨?_,u⟩;rw[UB] at f;rw[kE,f,Vi,VQ]
    ·refine bf ?_;dsimp only;rw[Vd] at f;obtain⟨g0,g1,n0,n1⟩:=oh f;have S:G.getD g.toNat []∈G:=by
      have:g.toNat<G.length:=by omega
      simp[List.getD,this]
     have W:=uu M1 B K G T g n (P.mono u) (Q.mono u) g0 g1 (λi hi=>by rw[Z];exact(m _ S).2 i hi) (m _ S).1;have q:=b.mono u;have C:=dm q 2 (x:=.int n) rfl;have I:=dm q 3 (x:=.int g) rfl;refine aV (v:=.bl<|ai<|bU G T g n=[d]) (M1:=M1++[.lst<|(bU G T g n).map .int]++[.lst [.int d]]) ?_ ⟨?_,u.trans<|(pre_app _ _).trans<|pre_app _ _⟩
     ·refine aP (x:=.ref M1.length) (M1:=M1++[.lst<|(bU G T g n).map .int]) ?_ (zQ rfl) ?_
      ·walk_at "ev"
       rw[show ax a (.int 3) M1=_ from I];simp only[R.bind];rw[show ax a (.int 2) M1=_ from C];simp only[W]
      ·have X:aX (M1++[.lst<|(bU G T g n).map .int]) (.ref M1.length) (bU G T g n):=aF.new _ _;have U:aX (M1++[.lst<|(bU G T g n).map .int]++[.lst [.int d]]) (.ref (M1++[O.lst<|(bU G T g n).map .int]).length) [d]:=aF.new _ _;exact jQ (aF.mono X<|pre_app _ _) U
     ·rw[kE,show cV h d=af from j,f,Vg,Vg]
 obtain⟨r,y,e,rfl,p⟩:=F;exact⟨y,e,p⟩
def JO(s r:Nat)(l:s<=9)(h:r<=9)(M):∃v c,PB.kC [.int s,.int r] M=.ok v c/\M<+:c/\aX c v (lp s r):=by
 refine bJ rfl ?_;have b:(s:Int).natAbs<bV:=cU (by omega)<|by omega
 have e:bE 1 [] (cc<|aj 0) (az 2) cX (ao bG (ao bL (aj 1)<|aj 0)<|aj 2) [aa<|.int s,aa<|.int r] M=bb ((lp s r).map .int) M:=by
  unfold bE
  walk_at "ev"
  rw[T5 b];simp only[UA,l4];rw[gz (λ_=>af) (λx=>match x with|.int i=>.int ((r)*s+i)|_=>.aA) _ _ _ (λ_=>rfl) rfl ?_]
  ·simp only[filter_tt,UJ,gJ,lp,VT];congr 1;apply Wj;intro a _;simp
  ·intro x f;obtain⟨k,_,rfl⟩:=Um.mp f;refine⟨rfl,λ_=>?_⟩;have g:=dg (M:=M) (i:=(r)) (j:=(s))<|by omega
   walk_at "ev"
   simp only[g]
 have d:((lp s r).map W.int).length<=16777216:=by simp[lp];omega
 rw[bT d] at e;refine aV e ?_;exact⟨pre_app _ _,aF.new _ _⟩
def JP(s c:Nat)(n:s<=9)(m:c<=9)(M):∃v d,PB.ku [.int s,.int c] M=.ok v d/\M<+:d/\aX d v (lq s c):=by
 refine bJ rfl ?_;have b:(s:Int).natAbs<bV:=cU (by omega)<|by omega
 have e:bE 1 [] (cc<|aj 0) (az 2) cX (ao bG (ao bL (aj 2)<|aj 0)<|aj 1) [aa<|.int s,aa<|.int c] M=bb ((lq s c).map .int) M:=by
  unfold bE
  walk_at "ev"
  rw[T5 b];simp only[UA,l4];rw[gz (λ_=>af) (λx=>match x with|.int i=>.int (i*s+c)|_=>.aA) _ _ _ (λ_=>rfl) rfl ?_]
  ·simp only[filter_tt,UJ,gJ,lq,VT];congr 1;apply Wj;intro a _;simp
  ·intro x g;obtain⟨k,h,rfl⟩:=Um.mp g;rw[UD] at h;refine⟨rfl,λ_=>?_⟩;have l:=dg (M:=M) (i:=(0+(k))) (j:=(s))<|by omega
   walk_at "ev"
   simp only[l]
 have f:((lq s c).map W.int).length<=16777216:=by simp[lq];omega
 rw[bT f] at e;refine aV e ?_;exact⟨pre_app _ _,aF.new _ _⟩
noncomputable def gd(h w b r n:Nat):List Int:=(List.range n).map λc=>((b / h*h+r:Nat):Int)*(h*w:Nat)+(b % h*w+c:Nat)
noncomputable def gb(h w b n:Nat):List Int:=(List.range n).flatMap λr=>gd h w b r w
def Dm(h w b n):(gb h w b n).length=n*w:=by
 induction n with
 |zero=>simp[gb]
 |succ n a=>have e:gb h w b (n+1)=gb h w b n++gd h w b n w:=xt n _;rw[e,Us,a];simp[gd,Xg]
def JQ(h w b:Nat)(o:1<=h/\h<=3)(m:1<=w/\w<=3)(P:b<9)(M:Mem):∃v a,PB.kD [.int h,.int w,.int b] M=.ok v a/\M<+:a/\aX a v (vV h w b):=by
 refine bJ rfl ?_;have l:b / h<=9:=Uh (Nat.div_le_self b h)<|by omega
 have f:b % h<3:=Up (V9 b<|by omega) o.2;have s:=dg (M:=M) (i:=(h:Int)) (j:=(w:Int))<|by omega
 have u:=fL (M:=M) (i:=(b:Int)) (j:=(h:Int)) (by omega)<|by omega
 have p:((b:Int) / (h:Int))=((b / h:Nat):Int):=rfl;have t:=dg (M:=M) (i:=((b / h:Nat):Int)) (j:=(h:Int)) (by rw[Xm];exact Uh l<|by decide);have G:=dX (M:=M) (i:=(b:Int)) (j:=(h:Int))<|by omega
 have z:((b:Int) % (h:Int))=((b % h:Nat):Int):=rfl;have r:=dg (M:=M) (i:=((b % h:Nat):Int)) (j:=(w:Int)) (by rw[Xm];exact Uh (VE f)<|by decide);show(au _ _ [aa<|.int h,aa<|.int w,aa<|.int b,ae,ae,ae,ae,ae,ae] M).Sat _;refine aD (bA (v:=.int ((h:Int)*w)) (M1:=M) (by walk_at "ev";simp only[s]) ?_);refine aD (bA (v:=.int (((b / h:Nat):Int)*h)) (M1:=M) (by walk_at "ev";simp only[u,p,t]) ?_);refine aD (bA (v:=.int (((b % h:Nat):Int)*w)) (M1:=M) (by walk_at "ev";simp only[G,z,r]) ?_);refine aD (bA (v:=.ref M.length) (M1:=M++[.lst []]) (by walk_at "ev";exact bT (by simp)) ?_);refine aD ?_;have L:(b / h*h:Nat)<=9:=Uh (Nat.div_mul_le_self b h)<|by omega
 have N:(b % h*w:Nat)<=9:=by have:=UK (VE f) m.2;omega
 have I:((b / h:Nat):Int)*(h:Int)=((b / h*h:Nat):Int):=by simp
 have D:((b % h:Nat):Int)*(w:Int)=((b % h*w:Nat):Int):=by simp
 have q:(h:Int)*(w:Int)=((h*w:Nat):Int):=by simp
 have C:h*w<=9:=Uh (UK o.2 m.2)<|by decide
 simp only[T_,T9,I,D,q];have J:((b / h*h:Nat):Int).natAbs<bV/\(((b / h*h:Nat):Int)+(h:Int)).natAbs<bV:=⟨cU (by omega)<|by omega,cU (by omega)<|by omega⟩;have E:((b % h*w:Nat):Int).natAbs<bV/\(((b % h*w:Nat):Int)+(w:Int)).natAbs<bV:=⟨cU (by omega)<|by omega,cU (by omega)<|by omega⟩;have F:(((b / h*h:Nat):Int)+(h:Int)-((b / h*h:Nat):Int)).toNat=h:=by omega
 have B:(((b % h*w:Nat):Int)+(w:Int)-((b % h*w:Nat):Int)).toNat=w:=by omega
 refine fJ (lo:=((b / h*h:Nat):Int)) (n:=h) (M1:=M++[.lst []]) (by walk_at "ev";rw[T5 J,F]) (λj d a=>∃x y,d=[aa<|.int h,aa<|.int w,aa<|.int b,aa<|.int (h*w:Nat),aa<|.int (b / h*h:Nat),aa<|.int (b % h*w:Nat),aa<|.ref M.length,x,y]/\a=M++[.lst<|(gb h w b j).map .int]) ⟨ae,ae,rfl,rfl⟩ ?_ ?_
 ·rintro j d a K ⟨x,y,rfl,rfl⟩;simp only[T_,T9];refine fJ (lo:=((b % h*w:Nat):Int)) (n:=w) (M1:=M++[.lst ((gb h w b j).map .int)]) (by walk_at "ev";rw[T5 E,B]) (λc d a=>∃y,d=[aa<|.int h,aa<|.int w,aa<|.int b,aa<|.int (h*w:Nat),aa<|.int (b / h*h:Nat),aa<|.int (b % h*w:Nat),aa<|.ref M.length,aa<|.int<|((b / h*h:Nat):Int)+(j:Int),y]/\a=M++[.lst<|(gb h w b j++gd h w b j c).map .int]) ⟨y,rfl,by simp[gd]⟩ ?_ ?_
  ·rintro c d a O ⟨y,rfl,rfl⟩;simp only[T_,T9];have g:=b8 M<|.lst<|(gb h w b j++gd h w b j c).map .int;have k:=dQ g;have e:((gb h w b j++gd h w b j c).map W.int).length<16777216:=by rw[Ua,Us,Dm];have:j*w<=3*3:=UK (by omega) m.2;simp[gd];omega
   have H:=dg (M:=M++[.lst<|(gb h w b j++gd h w b j c).map .int]) (i:=(((b / h*h:Nat):Int)+(j:Int))) (j:=((h*w:Nat):Int))<|by omega
   refine df (v:=.aA) (M1:=M++[.lst<|(gb h w b j++gd h w b j (c+1)).map .int]) ?_ ⟨_,rfl,rfl⟩
   walk_at "ev"
   simp only[k,H];rw[p_ g e,md];have A:gd h w b j (c+1)=gd h w b j c++[((b / h*h+j:Nat):Int)*(h*w:Nat)+(b % h*w+c:Nat)]:=C4 c _;rw[A];simp
  ·rintro d a ⟨y,rfl,rfl⟩;exact⟨_,_,rfl,by rw[show gb h w b (j+1)=gb h w b j++gd h w b j w from xt j _]⟩
 ·rintro d a ⟨x,y,rfl,rfl⟩;dsimp only;refine aV rfl ?_;exact⟨pre_app _ _,aF.new _ _⟩
def Ek:tX (PB.nU PB.kC PB.ku PB.kD):=by
 intro h w M l q;refine bJ rfl ?_;have e:h*w<=9:=Uh (UK l.2 q.2)<|by decide
 have t:=dg (M:=M) (i:=(h:Int)) (j:=(w:Int))<|by omega
 have J:(h:Int)*(w:Int)=((h*w:Nat):Int):=by simp
 show(au _ _ [aa<|.int h,aa<|.int w,ae,ae,ae,ae] M).Sat _;refine aD (bA (v:=.int ((h)*w)) (M1:=M) (by walk_at "ev";simp only[t]) ?_);obtain⟨n,M1,r,H,u⟩:=uq (σ:=[aa<|.int h,aa<|.int w,aa<|.int (h*w:Nat),ae,ae,ae]) (elt:=av PB.kC<|ak (aj 2)<|ak (aj 6) aq) 6 (lp<|h*w) (aj 2) rfl e (λj k f p=>by obtain⟨v,d,a,b,c⟩:=JO (h*w) j e (by omega) f;exact⟨v,d,by walk_at "ev";exact a,b,c⟩)
 refine aD<|bA r ?_;obtain⟨D,M2,z,o,s⟩:=uq (σ:=[aa<|.int h,aa<|.int w,aa<|.int (h*w:Nat),aa n,ae,ae]) (elt:=av PB.ku<|ak (aj 2)<|ak (aj 6) aq) 6 (lq<|h*w) (aj 2) rfl e (λj k f p=>by obtain⟨v,d,a,b,c⟩:=JP (h*w) j e (by omega) f;exact⟨v,d,by walk_at "ev";exact a,b,c⟩)
 refine aD<|bA z ?_;obtain⟨N,O,B,g,F⟩:=uq (σ:=[aa<|.int h,aa<|.int w,aa<|.int (h*w:Nat),aa n,aa D,ae]) (elt:=av PB.kD<|ak (aj 0)<|ak (aj 1)<|ak (aj 6) aq) 6 (vV h w) (aj 2) rfl e (λj k f p=>by obtain⟨v,d,a,b,c⟩:=JQ h w j l q (by omega) f;exact⟨v,d,by walk_at "ev";exact a,b,c⟩)
 refine aD<|bA B ?_;simp only[T_,T9];obtain⟨L,K,G,m,C⟩:=AE ((u.mono o).mono g) (s.mono g) (by simp;omega);obtain⟨E,I,A,x,y⟩:=AE C (F.mono m) (by simp;omega);refine aV (v:=E) (M1:=I) ?_ ?_
 ·simp only[ao,aj,Uj,Uo,R.bind,G,A]
 ·exact⟨H.trans<|o.trans<|g.trans<|m.trans x,y⟩
def El(h w:Nat)(p:1<=h/\h<=3)(C:1<=w/\w<=3)(M:Mem)(v:W)(l:List Int)(k:aX M v l)(f:bo (h*w) l):PB.lK [.int h,.int w,v] M=.ok .aA M:=by
 have g:∃u a,PB.lK [.int h,.int w,v] M=.ok u a/\(u=.aA/\a=M):=by
  refine bJ rfl ?_;have B:h*w<=9:=Uh (UK p.2 C.2)<|by decide
  have r:=dg (M:=M) (i:=(h:Int)) (j:=(w:Int))<|by omega
  have q:(h:Int)*(w:Int)=((h*w:Nat):Int):=by simp
  have s:=dg (M:=M) (i:=((h*w:Nat):Int)) (j:=((h*w:Nat):Int))<|by omega
  have d:((h*w:Nat):Int)*((h*w:Nat):Int)=((h*w*(h*w):Nat):Int):=by simp
  refine aD (bA (v:=.int ((h)*w)) (M1:=M) (by walk_at "ev";simp only[r]) ?_);simp only[T_,T9,q];refine aD<|aJ (c:=ag) (M1:=M) ?_ (λz=>nomatch z) λ_=>?_
  ·walk_at "ev"
   simp only[je k,s,ne_int,f.len,d,V7,WK]
  refine bf ?_;refine dS rfl k (λj b a=>(∃x,b=[aa<|.int h,aa<|.int w,aa v,aa<|.int (h*w:Nat),x])/\a=M) ⟨⟨_,rfl⟩,rfl⟩ (λj b a _ ⟨_,e⟩=>by subst e;exact k) ?_ ?_
  ·rintro j x b a A ⟨⟨y,rfl⟩,rfl⟩;obtain⟨n,m,rfl,_⟩:=fZ A;have D:=f.lo n m;have E:=f.hi n m;refine aJ (c:=ag) (M1:=a) ?_ (λz=>nomatch z) λ_=>?_
   ·walk_at "ev"
    have o:ai (n<0)=ag:=Uy<|by omega
    have t:ai (((h*w:Nat):Int)<n)=ag:=Uy<|by omega
    simp only[lt_int,gt_int,o,t,Vc,U2]
   ·exact⟨⟨_,rfl⟩,rfl⟩
  ·rintro b a ⟨⟨y,rfl⟩,rfl⟩;exact⟨trivial,rfl⟩
 obtain⟨u,a,e,rfl,rfl⟩:=g;exact e
def gB(e:p.1=k):aW (p::r) k=aa p.2:=by simp[aW,VI,e]
def f5(e:¬p.1=k):aW (p::r) k=aW r k:=by simp[aW,VI,e]
theorem mf(k):∀kvs:List (Int×W),(kvs.any λkv=>ai<|kv.1=k)=(aW kvs k).isSome
 |[]=>rfl
 |p::r=>by
  rw[U3];by_cases e:p.1=k
  ·simp only[gB e,UR e,VR,W_]
  ·rw[f5 e,Uy e,Vs];exact mf k r
theorem yW(k j)(y):∀kvs:List (Int×W),aW (kvs.map λkv=>if kv.1=k then(kv.1,y) else kv) j=(aW kvs j).map λx=>if j=k then y else x
 |[]=>rfl
 |p::r=>by
  have a:=yW k j y r;rw[Ux];by_cases h:p.1=k
  ·rw[T5 h];by_cases e:p.1=j
   ·rw[gB (p:=(p.1,y)) e,gB e,VV,T5<|e.symm.trans h]
   ·rw[f5 (p:=(p.1,y)) e,f5 e,a]
  ·rw[T6 h];by_cases e:p.1=j
   ·rw[gB e,gB e,VV,T6<|λz=>h<|e.trans z]
   ·rw[f5 e,f5 e,a]
theorem qc(k j)(y):∀kvs:List (Int×W),aW kvs k=ae->aW (kvs++[(k,y)]) j=if j=k then aa y else aW kvs j
 |[],_=>by
  by_cases e:k=j
  ·rw[T5 e.symm];exact gB e
  ·rw[T6<|λz=>e z.symm];exact f5 e
 |p::r,a=>by
  rw[VA];have b:¬p.1=k:=λz=>by rw[gB z] at a;cases a
  rw[f5 b] at a;have c:=qc k j y r a;by_cases e:p.1=j
  ·rw[gB e,gB e,T6<|λz=>b<|e.trans z]
  ·rw[f5 e,f5 e,c]
def uw(v)(h:aW kvs k=ae):dput kvs k v=kvs++[(k,v)]:=by unfold dput;rw[mf,h];exact T6<|by decide
def uy(v)(h:aW kvs k=aa x):dput kvs k v=kvs.map (λkv=>if kv.1=k then(kv.1,v) else kv):=by unfold dput;rw[mf,h];exact T5 rfl
def mh(kvs)(k j)(y):aW (dput kvs k y) j=if j=k then aa y else aW kvs j:=by
 cases q:aW kvs k with
 |none=>rw[uw y q];exact qc k j y kvs q
 |some x=>
  rw[uy y q,yW];by_cases e:j=k
  ·rw[T5 e,e,q,VV,T5 rfl]
  ·rw[T6 e];cases aW kvs j with
   |none=>rfl
   |some z=>rw[VV,T6 e]
def ql(kvs)(k)(v):(dput kvs k v).length<=kvs.length+1:=by
 unfold dput;split
 ·rw[Ua];omega
 ·rw[Us,UO,Vt];omega
def Dd(v)(h:aW kvs k=aa x):(dput kvs k v).length=kvs.length:=by rw[uy v h,Ua]
def C7(v)(h:aW kvs k=aa x):(dput kvs k v).map (·.1)=kvs.map (·.1):=by
 rw[uy v h,VT];refine Wj λp _=>?_
 show(if p.1=k then(p.1,v) else p).1=p.1;split<;>rfl
def Fy(h:aW kvs k=ae):k∉kvs.map (·.1):=λm=>by obtain⟨p,b,e⟩:=Um.mp m;have q:(kvs.any λa=>ai<|a.1=k)=af:=Ui.mpr ⟨p,b,UR e⟩;rw[mf,h] at q;exact absurd q<|by simp
def xK(v:W)(h:aW kvs k=ae)(d:(kvs.map (·.1)).Nodup):((kvs++[(k,v)]).map (·.1)).Nodup:=by rw[VS];refine Xn.mpr ⟨d,by simp,λa e b c=>?_⟩;simp only[Ux,Vo,UN] at c;rintro rfl;exact Fy h<|c▸e
def xM(v)(a:(kvs.map (·.1)).Nodup):((dput kvs k v).map (·.1)).Nodup:=by
 cases q:aW kvs k with
 |none=>rw[uw v q];exact xK v q a
 |some x=>rw[C7 v q];exact a
theorem mj:∀{kvs:List (Int×W)} {k:Int} {v:W},(k,v)∈kvs->(kvs.map (·.1)).Nodup->aW kvs k=aa v
 |p::r,k,v,hm,a=>by
  rw[Ux,UQ] at a;rcases T7.mp hm with rfl|hm
  ·exact gB rfl
  ·have:¬p.1=k:=λe=>a.1 (Um.mpr ⟨_,hm,e.symm⟩)
   rw[f5 this];exact mj hm a.2
def uc(h:aW kvs k=aa v):(k,v)∈kvs:=by
 unfold aW at h;cases e:kvs.find? (λb=>ai<|b.1=k) with
 |none=>rw[e] at h;cases h
 |some p=>
  rw[e] at h;have a:=Xo e;have c:=by simpa using Xp e
  have h3:=Ug h;rw[<-c,<-h3];exact a
def yh(kvs)(k j):aW (gj kvs k) j=if j=k then ae else aW kvs j:=by
 induction kvs with
 |nil=>unfold gj;simp[aW]
 |cons p r b=>
  unfold gj at b⊢;rw[Vu];by_cases e:p.1=k
  ·rw[T6<|by simp[e],b];by_cases a:j=k
   ·rw[T5 a,T5 a]
   ·rw[T6 a,T6 a,f5<|λz=>a<|z.symm.trans e]
  ·rw[T5<|by simp[e]];by_cases a:p.1=j
   ·rw[gB a,gB a,T6<|λz=>e<|a.trans z]
   ·rw[f5 a,f5 a,b]
def Dn(k)(a:(kvs.map (·.1)).Nodup):((gj kvs k).map (·.1)).Nodup:=by unfold gj;exact Xq (List.Sublist.map _ Xr) a
def Em(kvs)(k):(gj kvs k).length<=kvs.length:=Vb _ _
def fo(h:M[a]? =aa (.aG kvs)):bC M (.ref a)=aa (a,kvs):=by simp only[bC,h]
def oi(h:M[a]? =aa (.aG kvs)):mF M (.ref a)=af:=by simp only[mF,fo h,W_]
def AH(neg)(k)(h:M[a]? =aa (.aG kvs)):j' neg (.int k) (.ref a) M=.ok (.bl<|(aW kvs k).isSome != neg) M:=by simp only[j',fo h]
def Hs(k)(v)(h:M[a]? =aa (.aG kvs))(b:kvs.length<16777216):mO (.ref a) (.int k) v σ M=.nx σ (M.set a<|.aG<|dput kvs k v):=by simp only[mO,fo h];exact T5 b
noncomputable abbrev aY:List Nat:=[83,116,97,116,101]
noncomputable abbrev fH:List Nat:=[104,105,103,104]
noncomputable abbrev fW:List Nat:=[119,105,100,101]
noncomputable abbrev fG:List Nat:=[103,114,111,117,112,115]
noncomputable abbrev fN:List Nat:=[110,117,109,98,101,114,115]
noncomputable abbrev fC:List Nat:=[99,97,110]
def ml(h:M[a]? =aa (.ins c fs)):eo M (.ref a)=aa (a,c,fs):=by simp only[eo,h]
def Ht(h:M[a]? =aa (.ins c fs))(b:cP f fs=aa v):oY c f (.ref a) M=.ok v M:=by simp only[oY,ml h,b,Uv]
def cL(b:σ[i]? =aa (aa<|.ref a))(h:M[a]? =aa (.ins c fs))(d:cP f fs=aa v):aT c f (aj i) σ M=.ok v M:=by simp only[aT,aj,b,R.bind];exact Ht h d
noncomputable abbrev jw(h w:Nat)(vG a b:W):List (List Nat×W):=[(fH,.int h),(fW,.int w),(fG,vG),(fN,a),(fC,b)]
noncomputable def cu(h w p:Nat):List Int:=(cf h w p).map λ(g:Nat)=>(g)
noncomputable def uW(f:CM):Prop:=∀(h w p:Nat) (M),1<=h/\h<=3->1<=w/\w<=3->p<h*w*(h*w)->f [.int h,.int w,.int p] M=.ok (.ref M.length) (M++[.lst<|(cu h w p).map .int])
def qP:uW PB.lV:=by
 intro h w p M f j l;have n:1<=h*w/\h*w<=9:=by rcases h3 f with rfl|rfl|rfl<;>rcases h3 j with rfl|rfl|rfl<;>decide
 have c:∃r a,PB.lV [.int h,.int w,.int p] M=.ok r a/\(r=.ref M.length/\a=M++[.lst<|(cu h w p).map .int]):=by
  refine bJ rfl ?_;show(au _ _ [aa<|.int h,aa<|.int w,aa<|.int p,ae,ae,ae,ae] M).Sat _;refine aD<|bA (v:=.int ((h*w:Nat):Int)) (M1:=M) ?_ ?_
  ·walk_at "ev"
   rw[dg<|by omega,WL]
  simp only[T_,T9];refine aD<|bA (v:=.int ((p / (h*w):Nat):Int)) (M1:=M) ?_ ?_
  ·walk_at "ev"
   rw[fL (by omega)<|by omega,Xs]
  simp only[T_,T9];refine aD<|bA (v:=.int ((p % (h*w):Nat):Int)) (M1:=M) ?_ ?_
  ·walk_at "ev"
   rw[dX<|by omega,Int.natCast_emod]
  simp only[T_,T9];have i:p / (h*w)<=9:=by have:p / (h*w)<h*w:=Xh l;omega
  refine aD<|bA (v:=.int ((p / (h*w) / h*h+p % (h*w) / w:Nat):Int)) (M1:=M) ?_ ?_
  ·have m:p / (h*w) / h<=9:=Uh (Nat.div_le_self _ _) i;have d:ao oDiv (aj 4) (aj 0) [aa<|.int h,aa<|.int w,aa<|.int p,aa<|.int ((h*w:Nat):Int),aa<|.int ((p / (h*w):Nat):Int),aa<|.int ((p % (h*w):Nat):Int),ae] M=.ok (.int ((p / (h*w) / h:Nat):Int)) M:=
    aP rfl rfl (by rw[fL (by omega)<|by omega,<-Xs])
   have k:=aP (b:=aj 0) d rfl<|dg (by rw[Xm];exact Uh m<|by decide);have g:ao oDiv (aj 5) (aj 1) [aa<|.int h,aa<|.int w,aa<|.int p,aa<|.int ((h*w:Nat):Int),aa<|.int ((p / (h*w):Nat):Int),aa<|.int ((p % (h*w):Nat):Int),ae] M=.ok (.int ((p % (h*w) / w:Nat):Int)) M:=
    aP rfl rfl (by rw[fL (by omega)<|by omega,<-Xs])
   refine aP k g ?_;show R.ok (W.int<|_+_) M=_;rw[Int.natCast_add,WL]
  simp only[T_,T9];refine aV ?_ ⟨rfl,rfl⟩
  walk_at "ev"
  rw[dg<|by omega];simp only;rw[bT (by show 3<=16777216;decide)];simp only[cu,cf,Ux,Vo,Int.natCast_add,WL];rfl
 obtain⟨r,a,e,rfl,rfl⟩:=c;exact e
def om(he:e σ M=.ok v M1)(c:d σ M1=.ok (.ref a) M2)(f:k σ M2=.ok (.int i) M3)(g:M3[a]? =aa (.aG kvs))(b:kvs.length<16777216)(h:q.nx σ<|M3.set a<|.aG<|dput kvs i v):(ia d k e σ M).Sat q:=by unfold ia;rw[he];simp only[R.cz,c,f,Hs i v g b];exact h
noncomputable def jW(G:List<|List Int)(ss:List Int)(a:List Int)(n:Int):Bool:=a.any λg=>(G.getD g.toNat []).any λf=>ai<|aw ss f=n
noncomputable def freeOf(G:List<|List Int)(ss:List Int)(s:Nat)(a:List Int):List Int:=(nums s).filter λn=>!jW G ss a n
def xN(s):gJ 1 s=(nums s).map .int:=by
 unfold gJ nums;rw[VT];refine Wj λk _=>?_
 show W.int (1+(k))=W.int ((k)+1);rw[Int.add_comm]
def eL(a:1<=h/\h<=3)(b:1<=w/\w<=3):1<=h*w/\h*w<=9:=by rcases h3 a with rfl|rfl|rfl<;>rcases h3 b with rfl|rfl|rfl<;>decide
def jb(h w):(ar h w).length=3*(h*w):=by unfold ar;simp;omega
def pL(l:List α)(f)(j){x:α}(h:l[j]? =aa x):(l.take<|j+1).any f=((l.take j).any f||f x):=by rw[Vy,h];simp
def getD_mem{G:List (List Int)}(b:0<=g)(a:g<(G.length:Int)):G.getD g.toNat []∈G:=by
 have:g.toNat<G.length:=by omega
 simp[List.getD,this]
def zR(b:σ[0]? =aa (aa<|.ref a))(c:M[a]? =aa (.ins aY fs))(i:cP fH fs=aa (.int h))(g:cP fW fs=aa (.int w))(he:e σ M=.ok (.int p) M)(d:f [.int h,.int w,.int p] M=r):av f (ak (aT aY fH<|aj 0)<|ak (aT aY fW<|aj 0)<|ak e aq) σ M=r:=by simp only[av,ak,aq,cL b c i,cL b c g,he,R.bind];exact d
def zS{h w:Nat}(e:h<=3)(b:σ[0]? =aa (aa<|.ref a))(c:M[a]? =aa (.ins aY fs))(f:cP fH fs=aa (.int h))(d:cP fW fs=aa (.int w)):
 ao bL (aT aY fH<|aj 0) (aT aY fW<|aj 0) σ M=.ok (.int ((h*w:Nat):Int)) M:=
 aP (cL b c f) (cL b c d) (by rw[dg<|by omega,WL])
def Eo{f:CM}(hf:uW f){h w p:Nat}{M:Mem}{a:Nat}{fs:List (List Nat×W)}{vG X:W}{ss:List Int}(t:1<=h/\h<=3)(D:1<=w/\w<=3)(Y:p<h*w*(h*w))(C:M[a]? =aa (.ins aY fs))(f1:cP fH fs=aa (.int h))(f2:cP fW fs=aa (.int w))(f3:cP fG fs=aa vG)(f4:cP fN fs=aa X)(G:LL M vG<|ar h w)(hN:aX M X ss)(hl:ss.length=h*w*(h*w)):
 ∃k d,PB.lI f [.ref a,.int p] M=.ok (.ref k) d/\M<+:d/\M.length<=k/\d[k]? =aa (.lst<|(freeOf (ar h w) ss (h*w)<|cu h w p).map .int):=by
 obtain⟨s1,s9⟩:=eL t D;have L:=hJ t D;have H:∃r d,PB.lI f [.ref a,.int p] M=.ok r d/\∃k,r=.ref k/\M<+:d/\M.length<=k/\d[k]? =aa (.lst<|(freeOf (ar h w) ss (h*w)<|cu h w p).map .int):=by
  refine bJ rfl ?_;show(au _ _ [aa<|.ref a,aa<|.int p,ae,ae,ae] M).Sat _;refine aD<|bA (v:=.ref M.length) (M1:=M++[.aG []]) rfl ?_;simp only[T_,T9];refine aD ?_;have gI:∀g∈cu h w p,0<=g/\g<((ar h w).length:Int):=λg K=>by obtain⟨n,hn,rfl⟩:=Um.mp K;have:=oR t D Y n hn;rw[jb];exact⟨Wd _,by omega⟩
  have gl:(cu h w p).length=3:=rfl;have pre:∀(b:List<|Int×W) (l:List W),M<+:M++[.aG b,.lst l]:=λb l=>pre_app _ _
  refine dS (v:=.ref<|M.length+1) (xs:=(cu h w p).map .int) (M1:=M++[.aG [],.lst<|(cu h w p).map .int]) ?_ ?_ (λj m d=>(∃x y,m=[aa<|.ref a,aa<|.int p,aa<|.ref M.length,x,y])/\∃b,d=M++[.aG b,.lst<|(cu h w p).map .int]/\b.length<=9*j/\∀n,(aW b n).isSome=jW (ar h w) ss ((cu h w p).take j) n)
   ⟨⟨_,_,rfl⟩,[],rfl,by simp,λn=>rfl⟩ ?_ ?_ ?_
  ·have e:=hf h w p (M++[.aG []]) t D Y;refine zR rfl (aB (pre_app _ _) C) f1 f2 rfl<|e.trans ?_;simp
  ·exact⟨_,rfl,(eV M [] _ _).2⟩
  ·rintro j m d hj ⟨_,b,rfl,_⟩;exact⟨_,rfl,(eV M [] _ _).2⟩
  ·rintro j x m d hx ⟨⟨x',y',rfl⟩,b,rfl,hk,hv⟩;obtain⟨g,K,rfl,u⟩:=fZ hx;obtain⟨T,U⟩:=gI g K;simp only[T_,T9];obtain⟨V,o,E⟩:=gk (G.mono<|pre b<|(cu h w p).map .int) T U;obtain⟨BW,s⟩:=L _<|getD_mem T U;have hW:aX M V ((ar h w).getD g.toNat []):=by
    obtain⟨w2,F,J⟩:=gk G T U;obtain⟨ws,hL,hA⟩:=G;simp only[ax,hL.bu,(aF.mono hL<|pre b<|(cu h w p).map .int).bu] at o F;cases q:cA ws g with
    |none=>rw[q] at o;cases o
    |some z=>rw[q] at o F;cases o;cases F;exact J
   refine dS (v:=V) (xs:=((ar h w).getD g.toNat []).map .int) (M1:=M++[O.aG b,O.lst<|(cu h w p).map W.int]) (aP (cL rfl (aB (pre _ _) C) f3) rfl o) E (λi m d=>(∃y,m=[aa<|.ref a,aa<|.int p,aa<|.ref M.length,aa<|.int g,y])/\∃b,d=M++[.aG b,.lst<|(cu h w p).map .int]/\b.length<=9*j+i/\∀n,(aW b n).isSome=(jW (ar h w) ss ((cu h w p).take j) n||(((ar h w).getD g.toNat []).take i).any λf=>ai<|aw ss f=n))
    ⟨⟨_,rfl⟩,b,rfl,by omega,λn=>by rw[hv n];simp⟩ ?_ ?_ ?_
   ·rintro i m d hi ⟨_,b,rfl,_⟩;exact aF.mono hW<|pre _ _
   ·rintro i x m d S ⟨⟨y,rfl⟩,b,rfl,mY,iv⟩;obtain⟨c,hc,rfl,B⟩:=fZ S;simp only[T_,T9];obtain⟨c0,c1⟩:=s c hc;have il:i<((ar h w).getD g.toNat []).length:=(Ub.mp B).1;have jl:j<3:=by rw[<-gl];exact(Ub.mp u).1
    refine om (M1:=M++[.aG b,.lst<|(cu h w p).map .int]) (M2:=M++[.aG b,.lst<|(cu h w p).map .int]) (M3:=M++[.aG b,.lst<|(cu h w p).map .int]) (a:=M.length) (i:=aw ss c) (v:=.bl af) (kvs:=b) rfl rfl (aP (cL rfl (aB (pre _ _) C) f4) rfl<|er (aF.mono hN<|pre _ _) c0 (by rw[hl];exact c1)) (eV M [] _ _).1 (by omega) ⟨⟨_,rfl⟩,dput b (aw ss c)<|.bl af,qk _ _ _ _ _,?_,λn=>?_⟩
    ·have:=ql b (aw ss c)<|.bl af;omega
    ·rw[mh,pL _ _ _ B,<-Xt,<-iv n];by_cases e:n=aw ss c
     ·rw[T5 e,UR e.symm];simp
     ·rw[T6 e,Uy<|λz=>e z.symm];simp
   ·rintro m d ⟨⟨y,rfl⟩,b,rfl,mY,iv⟩;refine⟨⟨_,_,rfl⟩,b,rfl,?_,λn=>?_⟩
    ·simp only[Ua] at mY;omega
    ·rw[iv n,Ua,UT];unfold jW;rw[pL _ _ _ u]
  ·rintro m d ⟨⟨x,y,rfl⟩,b,rfl,hk,hv⟩;dsimp only;generalize P:M++[.aG b,.lst<|(cu h w p).map .int]=N;have Z:M<+:N:=by rw[<-P];exact pre _ _
   have hD:N[M.length]? =aa (.aG b):=by rw[<-P];exact(eV M [] _ _).1
   have r2:(1:Int).natAbs<bV/\(((h*w:Nat):Int)+1).natAbs<bV:=⟨cU (by omega)<|by omega,cU (by omega)<|by omega⟩;have n2:(((h*w:Nat):Int)+1-1).toNat=h*w:=by omega
   have ef:(freeOf (ar h w) ss (h*w)<|cu h w p).map W.int=((gJ 1<|h*w).filter λx=>match x with|.int n=>!jW (ar h w) ss (cu h w p) n|_=>ag).map id:=by rw[xN,Wi,Xu];rfl
   refine aV (v:=.ref N.length) (M1:=N++[.lst<|(freeOf (ar h w) ss (h*w)<|cu h w p).map .int]) ?_ ⟨N.length,rfl,Z.trans<|pre_app _ _,?_,b8 _ _⟩
   ·have Q:=aB Z C;have I:dZ (eC<|.int 1) (ao bG (ao bL (aT aY fH<|aj 0)<|aT aY fW<|aj 0)<|eC<|.int 1) [aa<|.ref a,aa<|.int p,aa<|.ref M.length,x,y] N=.ok (cS 1<|h*w,[]) N:=by have o:ao bG (ao bL (aT aY fH<|aj 0)<|aT aY fW<|aj 0) (eC<|.int 1) [aa<|.ref a,aa<|.int p,aa<|.ref M.length,x,y] N=.ok (.int<|((h*w:Nat):Int)+1) N:=aP (zS t.2 rfl Q f1 f2) rfl rfl;simp only[dZ,o,R.bind,eC];rw[T5 r2,n2]
    unfold bE;rw[I];simp only[R.bind,dE,VJ,Vw,VL,l4,VA,UJ];rw[gz (σ:=[aa<|.ref a,aa<|.int p,aa<|.ref M.length,x,y,ae]) (λx=>match x with|.int n=>!jW (ar h w) ss (cu h w p) n|_=>ag) id _ _ _ (λ_=>rfl) rfl ?_]
    ·simp only[UJ];rw[<-ef];refine bT ?_;rw[Ua];refine Uh (Vb _ _) ?_;simp[nums];omega
    ·intro z hz;obtain⟨k,_,rfl⟩:=Um.mp hz;refine⟨?_,λ_=>rfl⟩;have A:=hv<|1+(k:Int);rw[Ua,UT] at A;show tB (mN af (aj 5)<|aj 2) [aa<|.ref a,aa<|.int p,aa<|.ref M.length,x,y,aa<|.int<|1+(k)] N=_;simp only[tB,mN,ao,aj,R.bind,Uo,Uj,AH af _ hD,A];simp
   ·rw[<-P];simp
 obtain⟨r,d,e,k,rfl,q⟩:=H;exact⟨k,d,e,q⟩
noncomputable def Bz(h w:Nat):Bool:=(List.range<|h*w*(h*w)).all λp=>(List.range<|3*(h*w)).all λi=>((ar h w).getD i []).any (·==(p:Int))==(cf h w p).contains i
def Hu(a:1<=h/\h<=3)(b:1<=w/\w<=3):Bz h w=af:=by rcases h3 a with rfl|rfl|rfl<;>rcases h3 b with rfl|rfl|rfl<;>decide+kernel
def oo{h w:Nat}(f:1<=h/\h<=3)(k:1<=w/\w<=3)(l:p<h*w*(h*w))(g:i<3*(h*w)):(p:Int)∈(ar h w).getD i []↔i∈cf h w p:=by
 have c:=Hu f k;unfold Bz at c;have a:=US.mp (US.mp c p<|UD.mpr l) i<|UD.mpr g;rw[U'] at a;constructor
 ·intro b;have:((ar h w).getD i []).any (·==(p))=af:=Ui.mpr ⟨_,b,by simp⟩;rw[a] at this;simpa using this
 ·intro b;have:(cf h w p).contains i=af:=by simpa using b
  rw[<-a] at this;obtain⟨x,d,e⟩:=Ui.mp this;have j:=by simpa using e
  rw[<-j];exact d
def Fz{h w:Nat}(j:1<=h/\h<=3)(r:1<=w/\w<=3)(l:p<h*w*(h*w))(v:aw ss p≠n):c7 (ar h w) ss p n=jW (ar h w) ss (cu h w p) n:=by
 rw[UW];unfold c7 jW fz;rw[Ui,Ui];constructor
 ·rintro⟨g,u,e⟩;rw[T',Ui,Ui] at e;obtain⟨⟨x,t,ex⟩,q,m,d⟩:=e;have o:=by simpa using ex
  subst o;obtain⟨i,c,rfl⟩:=VW u;have a:i<3*(h*w):=by rw[<-jb];exact c
  have f:(ar h w).getD i []=(ar h w)[i]:=by simp[c]
  have b:=(oo j r l a).mp (by rw[f];exact t);refine⟨(i),Um.mpr ⟨i,b,rfl⟩,?_⟩;rw[UA,f];refine Ui.mpr ⟨q,m,?_⟩;simp only[T'] at d;exact d.2
 ·rintro⟨y,k,e⟩;obtain⟨i,c,rfl⟩:=Um.mp k;rw[UA] at e;have a:=oR j r l i c;have s:i<(ar h w).length:=by rw[jb];exact a
  have f:(ar h w).getD i []=(ar h w)[i]:=by simp[s]
  have b:=(oo j r l a).mpr c;rw[f] at e b;refine⟨_,VU s,?_⟩;rw[T',Ui,Ui];obtain⟨q,m,d⟩:=Ui.mp e;refine⟨⟨_,b,by simp⟩,q,m,?_⟩;rw[T'];refine⟨?_,d⟩;have:q≠(p):=by rintro rfl;exact v<|UM d
  simp[this]
def FA{h w:Nat}(b:1<=h/\h<=3)(c:1<=w/\w<=3)(e:p<h*w*(h*w))(a:aw ss p=0):freeOf (ar h w) ss (h*w) (cu h w p)=rowOf (ar h w) ss (h*w) p:=by
 unfold freeOf rowOf;refine Xv λn d=>?_
 obtain⟨k,_,rfl⟩:=Um.mp d;rw[UR a,Vg,Fz b c e (by rw[a];omega)]
def qx(h:aw ss p≠0):rowOf G ss s p=[]:=by unfold rowOf;rw[Wl];intro n _;simp[h]
def oq(he:e σ M=.ok v M1)(g:o σ M1=.ok (.ref a) M2)(d:M2[a]? =aa (.ins c fs))(b:fs.length<1000)(h:q.nx σ<|M2.set a<|.ins c<|bK f v fs):(iR c f o e σ M).Sat q:=by unfold iR;rw[he];simp only[R.cz,g,Bw,ml d,true_and];rw[T5 b];exact h
noncomputable def cT(ss:List Int)(p:Int):Prop:=0<=p/\p<(ss.length:Int)/\aw ss p=0
noncomputable def Bb(M:Mem)(n:Nat)(G:List<|List Int)(ss:List Int)(s:Nat)(kvs:List<|Int×W):Prop:=
 kvs.length<=ss.length/\(kvs.map (·.1)).Nodup/\∀p:Int,(aW kvs p=ae/\¬cT ss p)\/∃k,aW kvs p=aa (.ref k)/\cT ss p/\n<k/\M[k]? =aa (.lst<|(rowOf G ss s p).map .int)
noncomputable def gS(n:Nat)(M:Mem)(v:W)(G:List<|List Int):Prop:=∃c,(∃a,v=.ref a/\a≠n/\M[a]? =aa (.lst c))/\a_ (λw d=>∃b,w=.ref b/\b≠n/\M[b]? =aa (.lst<|d.map .int)) c G
def gS.ll(h:gS n M v G):LL M v G:=by obtain⟨c,⟨a,e,_,q⟩,r⟩:=h;exact⟨c,⟨a,e,q⟩,r.imp λw d ⟨b,e,_,q⟩=>⟨b,e,q⟩⟩
def LL.NO(h:LL M v G)(f:M.length<=n)(k:∀(b:Nat) (ws),M[b]? =aa (.lst ws)->M'[b]? =aa (.lst ws)):gS n M' v G:=by
 have c:∀{b:Nat} {ws:List W},M[b]? =aa (.lst ws)->b≠n:=λ{b ws} e=>by have:=(Ub.mp e).1;omega
 obtain⟨ws,⟨a,e,q⟩,r⟩:=h;exact⟨ws,⟨a,e,c q,k _ _ q⟩,r.imp λw d ⟨b,e,q⟩=>⟨b,e,c q,k _ _ q⟩⟩
structure b_(M:Mem)(a n c:Nat)(h w:Nat)(ss:List Int):Prop where
 ob:∃vG,M[a]? =aa (.ins aY<|jw h w vG (.ref n)<|.ref c)/\gS n M vG (ar h w)
 nm:M[n]? =aa (.lst<|ss.map .int)
 cn:∃kvs,M[c]? =aa (.aG kvs)/\Bb M n (ar h w) ss (h*w) kvs
noncomputable def uz(f:CM):Prop:=∀(h w) (M0) (d) (a),1<=h/\h<=3->1<=w/\w<=3->aX M0 d a->bo (h*w) a->
 ∃b n c,f [.ref M0.length,.int h,.int w,d] (M0++[.ins aY []])=.ok .aA b/\M0<+:b/\b_ b M0.length n c h w a/\M0.length<n/\M0.length<c
theorem l9:∀(xs) (i j:Nat) (x),(eX i xs)[j]? =aa x->∃w,xs[j]? =aa w/\x=.pair (.int ((i+j:Nat):Int)) w
 |[],_,_,_,h=>by simp[eX] at h
 |y::r,i,0,x,h=>by simp only[eX] at h;exact⟨y,rfl,(Ug h).symm⟩
 |y::r,i,j+1,x,h=>by simp only[eX] at h;obtain⟨w,a,b⟩:=l9 r (i+1) j x h;exact⟨w,by simpa using a,by rw[b,show i+1+j=i+(j+1) by omega]⟩
theorem l_:∀(xs) (i),(eX i xs).length=xs.length
 |[],_=>rfl
 |_::r,i=>by simp[eX,l_ r]
def q7:dd [az i,az j] (.ref M.length) σ (M++[.tup [x,y]])=.ok ((σ.set i<|aa x).set j<|aa y) (M++[.tup [x,y]]):=by have h:=(aI.new M [x,y]).cm;simp only[dd,h,UO,Vt,Uv,iL,az,R.bind]
def Hv{fg fr fn:CM}(hg:tX fg)(hr:∀(h w:Nat),1<=h/\h<=3->1<=w/\w<=3->∀(M:Mem) (v:W) (ns:List Int),aX M v ns->bo (h*w) ns->fr [.int h,.int w,v] M=.ok .aA M)(hn:∀{h w p:Nat} {M:Mem} {a:Nat} {fs:List (List Nat×W)} {vG vN:W} {ss:List Int},1<=h/\h<=3->1<=w/\w<=3->p<h*w*(h*w)->M[a]? =aa (.ins aY fs)->cP fH fs=aa (.int h)->cP fW fs=aa (.int w)->cP fG fs=aa vG->cP fN fs=aa vN->LL M vG (ar h w)->aX M vN ss->ss.length=h*w*(h*w)->
  ∃k g,fn [.ref a,.int p] M=.ok (.ref k) g/\M<+:g/\M.length<=k/\g[k]? =aa (.lst ((freeOf (ar h w) ss (h*w) (cu h w p)).map .int))):uz (PB.lT fg fr fn):=by
 intro h w M0 vs ss E D hs sh;have I:=sh.len;have key:∃r g,PB.lT fg fr fn [.ref M0.length,.int h,.int w,vs] (M0++[.ins aY []])=.ok r g/\(r=.aA/\∃n c,M0<+:g/\b_ g M0.length n c h w ss/\M0.length<n/\M0.length<c):=by
  refine bJ rfl ?_;show(au _ _ [aa<|.ref M0.length,aa<|.int h,aa<|.int w,aa vs,ae,ae] _).Sat _;refine aD<|df (v:=.aA) (M1:=M0++[.ins aY []]) ?_ ?_
  ·simp only[av,ak,aq,aj,R.bind,Uo,Uj];exact hr h w E D _ _ _ (aF.mono hs<|pre_app _ _) sh
  refine aD<|oq (v:=.int h) (a:=M0.length) (fs:=[]) (M1:=M0++[.ins aY []]) (M2:=M0++[.ins aY []]) rfl rfl (b8 _ _) (by decide) ?_;rw[md];refine aD<|oq (v:=.int w) (a:=M0.length) (fs:=[(fH,.int h)]) (M1:=M0++[.ins aY [(fH,.int h)]]) (M2:=M0++[.ins aY [(fH,.int h)]]) rfl rfl (b8 _ _) (by show 1<1000;decide) ?_;rw[md];obtain⟨vG,M4,e4,⟨J,rfl⟩,hG⟩:=hg h w (M0++[.ins aY [(fH,.int h),(fW,.int w)]]) E D;rw[U9] at e4 hG;have NP:fg [.int h,.int w] (M0++[.ins aY [(fH,.int h),(fW,.int w)]])=.ok vG (M0++.ins aY [(fH,.int h),(fW,.int w)]::J):=e4;have NQ:LL (M0++.ins aY [(fH,.int h),(fW,.int w)]::J) vG (ar h w):=hG;refine aD<|oq (v:=vG) (a:=M0.length) (fs:=[(fH,.int h),(fW,.int w)]) (M1:=M0++.ins aY [(fH,.int h),(fW,.int w)]::J) (M2:=M0++.ins aY [(fH,.int h),(fW,.int w)]::J) ?_ rfl (f_ _ _ _) (by show 2<1000;decide) ?_
  ·simp only[av,ak,aq,aj,R.bind,Uo,Uj];exact NP
  rw[mu];generalize t:M0++O.ins aY (bK fG vG [(fH,.int h),(fW,.int w)])::J=N3;have p3:M0<+:N3:=by rw[<-t];exact jP _ _ _
  have l3:N3.length=M0.length+1+J.length:=by rw[<-t];simp;omega
  refine aD<|oq (v:=.ref N3.length) (a:=M0.length) (fs:=bK fG vG [(fH,.int h),(fW,.int w)]) (M1:=N3++[.lst<|ss.map .int]) (M2:=N3++[.lst<|ss.map .int]) ?_ rfl (aB (pre_app _ _) (by rw[<-t];exact f_ _ _ _)) (by show 3<1000;decide) ?_
  ·simp only[av,ak,aq,aj,R.bind,Uo,Uj];exact og (aF.mono hs p3) (by rw[I];obtain⟨a1,F⟩:=eL E D;have:=UK F F;omega)
  have e5:(N3++[O.lst<|ss.map .int]).set M0.length (.ins aY<|bK fN (.ref N3.length)<|bK fG vG [(fH,.int h),(fW,.int w)])=M0++.ins aY (bK fN (.ref N3.length)<|bK fG vG [(fH,.int h),(fW,.int w)])::(J++[.lst<|ss.map .int]):=by rw[<-t,qw,mu]
  rw[e5];refine aD<|oq (v:=.ref<|N3.length+1) (a:=M0.length) (fs:=bK fN (.ref N3.length)<|bK fG vG [(fH,.int h),(fW,.int w)]) (M1:=M0++.ins aY (bK fN (.ref N3.length)<|bK fG vG [(fH,.int h),(fW,.int w)])::(J++[.lst<|ss.map .int,.aG []])) (M2:=M0++.ins aY (bK fN (.ref N3.length)<|bK fG vG [(fH,.int h),(fW,.int w)])::(J++[.lst<|ss.map .int,.aG []])) ?_ rfl (f_ _ _ _) (by show 4<1000;decide) ?_
  ·show R.ok (W.ref _) _=_;rw[qw];simp[l3];omega
  rw[mu];have e6:M0++O.ins aY (bK fC (.ref<|N3.length+1)<|bK fN (.ref N3.length)<|bK fG vG [(fH,.int h),(fW,.int w)])::(J++[.lst<|ss.map .int,.aG []])=(M0++O.ins aY (jw h w vG (.ref N3.length)<|.ref<|N3.length+1)::J)++.lst (ss.map .int)::.aG []::[]:=by simp[bK]
  rw[e6];generalize f:M0++O.ins aY (jw h w vG (.ref N3.length)<|.ref<|N3.length+1)::J=N0;have l0:N0.length=N3.length:=by rw[<-f,l3];simp;omega
  rw[<-l0] at f;have p0:M0<+:N0:=by rw[<-f];exact jP _ _ _
  have X:N0[M0.length]? =aa (.ins aY<|jw h w vG (.ref N0.length)<|.ref<|N0.length+1):=by
   conv=>lhs;rw[<-f]
   exact f_ _ _ _
  have mZ:∀(b:Nat) (V:List W),(M0++O.ins aY [(fH,.int h),(fW,.int w)]::J)[b]? =aa (.lst V)->N0[b]? =aa (.lst V):=λb V e=>by
   by_cases hb:b=M0.length
   ·subst hb;rw[f_] at e;cases e
   ·have e1:(M0++O.ins aY [(fH,.int h),(fW,.int w)]::J).set M0.length (O.ins aY<|jw h w vG (.ref N0.length)<|.ref<|N0.length+1)=N0:=by rw[mu];exact f
    rw[<-e1,UG<|Uz hb];exact e
  have lJ:(M0++O.ins aY [(fH,.int h),(fW,.int w)]::J).length=N0.length:=by rw[l0,l3];simp;omega
  have H:∀K:Mem,gS N0.length (N0++K) vG (ar h w):=λK=>LL.NO NQ (V0 lJ) λb V e=>aB (pre_app _ _)<|mZ b V e
  obtain⟨b,rfl,hb⟩:=hs;have C:∀K:Mem,(N0++K)[b]? =aa (.lst<|ss.map .int):=λK=>aB (p0.trans<|pre_app _ _) hb
  refine oB (a7:=eX 0<|ss.map .int) (c:=[(b,.lst<|ss.map .int)]) (M1:=N0++.lst (ss.map .int)::.aG []::[]) ?_ (λj σ g=>(∃x y,σ=[aa<|.ref M0.length,aa<|.int h,aa<|.int w,aa<|.ref b,x,y])/\∃d K,g=N0++.lst (ss.map .int)::.aG d::K/\d.length<=j/\(d.map (·.1)).Nodup/\
    ∀p:Int,(aW d p=ae/\¬(cT ss p/\p<(j:Int)))\/∃k,aW d p=aa (.ref k)/\cT ss p/\p<(j:Int)/\N0.length<k/\(N0++.lst (ss.map .int)::.aG d::K)[k]? =aa (.lst ((rowOf (ar h w) ss (h*w) p).map .int)))
   ⟨⟨_,_,rfl⟩,[],[],rfl,by simp,by simp,λp=>.inl ⟨rfl,λz=>by have:=z.1.1;have:=z.2;omega⟩⟩ ?_ ?_
  ·show(qY<|aj 3) _ _=_;simp only[qY,aj,R.bind,Uo,Uj,oO,C]
  ·rintro j x σ g hx ⟨⟨x',y',rfl⟩,d,K,rfl,hk,rM,hv⟩;obtain⟨w',BX,rfl⟩:=l9 _ _ _ _ hx;obtain⟨v,Se,rfl,A⟩:=fZ BX;have hj:j<ss.length:=(Ub.mp A).1;have nj:aw ss (j:Int)=v:=by rw[gY hj];rw[VN hj] at A;exact Ug A
   refine⟨by simp[bN.ok,C],_,_,_,_,qj _ _ _,q7,?_⟩;simp only[T_,T9,Nat.zero_add];generalize o:N0++O.lst (ss.map .int)::.aG d::K=N at hv⊢;have pN:N0<+:N:=by rw[<-o];exact pre_app _ _
   have nN:N[N0.length]? =aa (.lst<|ss.map .int):=by rw[<-o];exact(eV _ _ _ _).1
   have cN:N[N0.length+1]? =aa (.aG d):=by rw[<-o];exact(eV _ _ _ _).2
   refine aJ (c:=ai<|v=0) (M1:=N++[.tup [.int (j:Int),.int v]]) ?_ (λhc=>?_) λhc=>?_
   ·exact aU<|aP rfl rfl eq_int
   ·have s:v=0:=UM hc;have B:=aB (pN.trans<|pre_app N [.tup [.int (j:Int),.int v]]) X;obtain⟨k,M2,e2,⟨L,rfl⟩,mY,Q⟩:=hn (p:=j) E D (by rw[<-I];exact hj) B rfl rfl rfl rfl (by rw[<-o,U9];exact(H _).ll) ⟨_,rfl,aB (pre_app _ _) nN⟩ I;rw[FA E D (by rw[<-I];exact hj) (by rw[nj];exact s)] at Q;have T:(N++[O.tup [.int (j:Int),.int v]]++L)[N0.length+1]? =aa (.aG d):=aB ((pre_app _ _).trans<|pre_app _ _) cN;have Z:aW d (j:Int)=ae:=by
     rcases hv (j:Int) with⟨e,_⟩|⟨_,_,_,z,_⟩
     ·exact e
     ·omega
    refine om (i:=(j:Int)) (v:=.ref k) (a:=N0.length+1) (kvs:=d) (M1:=N++[.tup [.int (j:Int),.int v]]++L) (M2:=N++[.tup [.int (j:Int),.int v]]++L) (M3:=N++[.tup [.int (j:Int),.int v]]++L) ?_ ?_ rfl T (by have gv:ss.length<=81:=(by rw[I];obtain⟨a1,F⟩:=eL E D;exact UK F F);omega) ?_
    ·simp only[fu,aj,R.bind,Uo,Uj,kZ,ml B,ak,aq];exact e2
    ·exact cL rfl (aB (pre_app _ _) B) rfl
    ·refine⟨⟨_,_,rfl⟩,dput d (j:Int)<|.ref k,K++[.tup [.int (j:Int),.int v]]++L,?_,?_,xM _ rM,λp=>?_⟩
     ·rw[<-o];simp only[U9,VA,UJ];exact oe _ _ _ _ _
     ·have:=ql d (j:Int)<|.ref k;omega
     ·have hE:N0++O.lst (ss.map .int)::.aG (dput d (j:Int)<|.ref k)::(K++[.tup [.int (j:Int),.int v]]++L)=(N++[O.tup [.int (j:Int),.int v]]++L).set (N0.length+1) (.aG<|dput d (j:Int)<|.ref k):=by rw[<-o];simp only[U9,VA,UJ];exact(oe _ _ _ _ _).symm
      have U:∀(m:Nat) (l:List W),(N++[O.tup [.int (j:Int),.int v]]++L)[m]? =aa (.lst l)->((N++[O.tup [.int (j:Int),.int v]]++L).set (N0.length+1)<|.aG<|dput d (j:Int)<|.ref k)[m]? =aa (.lst l):=λm l e=>by
       have:m≠N0.length+1:=by rintro rfl;rw[T] at e;cases e
       rw[UG<|Uz this];exact e
      rw[mh,hE];by_cases Y:p=(j:Int)
      ·subst Y;rw[T5 rfl];refine .inr ⟨k,rfl,⟨Wd _,by omega,by rw[nj];exact s⟩,by omega,?_,U _ _ Q⟩;have:N.length=N0.length+2+K.length:=by rw[<-o];simp;omega
       simp at mY;omega
      ·rw[T6 Y];rcases hv p with⟨e,z⟩|⟨m,e,G,z2,S,P⟩
       ·exact .inl ⟨e,λu=>z ⟨u.1,by have:=u.2;omega⟩⟩
       ·exact .inr ⟨m,e,G,by omega,S,U _ _<|aB ((pre_app _ _).trans<|pre_app _ _) P⟩
   ·have s:v≠0:=Vz hc;refine⟨⟨_,_,rfl⟩,d,K++[.tup [.int (j:Int),.int v]],?_,by omega,rM,λp=>?_⟩
    ·rw[<-o];simp
    ·have hE:N0++O.lst (ss.map .int)::.aG d::(K++[.tup [.int (j:Int),.int v]])=N++[.tup [.int<|j,.int v]]:=by rw[<-o];simp
     rw[hE];rcases hv p with⟨e,z⟩|⟨m,e,G,z2,S,P⟩
     ·refine .inl ⟨e,λu=>?_⟩;by_cases Y:p=(j)
      ·subst Y;exact s (by rw[<-nj];exact u.1.2.2)
      ·exact z ⟨u.1,by omega⟩
     ·exact .inr ⟨m,e,G,by omega,S,aB (pre_app _ _) P⟩
  ·rintro σ g ⟨⟨x,y,rfl⟩,d,K,rfl,hk,rM,hv⟩;refine⟨by simp[bN.ok,C],rfl,N0.length,N0.length+1,p0.trans<|pre_app _ _,⟨⟨vG,aB (pre_app _ _) X,H _⟩,(eV _ _ _ _).1,d,(eV _ _ _ _).2,?_,rM,λp=>?_⟩,?_,?_⟩
   ·rw[l_,Ua] at hk;exact hk
   ·rcases hv p with⟨e,z⟩|⟨m,e,G,z2,S,P⟩
    ·refine .inl ⟨e,λu=>z ⟨u,?_⟩⟩;rw[l_,Ua];exact u.2.1
    ·exact .inr ⟨m,e,G,S,P⟩
   ·rw[<-f];simp
   ·rw[<-f];simp;omega
 obtain⟨r,g,e,rfl,n,c,q⟩:=key;exact⟨g,n,c,e,q⟩
def qy{M b:Mem}(h:M<+:b)(c:M.length<=a)(o):M<+:b.set a o:=by obtain⟨J,rfl⟩:=h;rw[Xj _ _ c];exact pre_app _ _
structure kO(M:Mem)(M':Mem)(kvs:List<|Int×W)(F:Int->List Int):Prop where
 pre:M<+:M'
 at_:M'[M.length]? =aa (.aG kvs)
 nd:(kvs.map (·.1)).Nodup
 val:∀m,(aW kvs m=ae/\F m=[])\/∃k,aW kvs m=aa (.ref k)/\F m≠[]/\M.length<k/\M'[k]? =aa (.lst<|(F m).map .int)
 inj:∀m m' k,aW kvs m=aa (.ref k)->aW kvs m'=aa (.ref k)->m=m'
noncomputable def jm(F:Int->List Int)(n f:Int):Int->List Int:=λm=>if m=n then F m++[f] else F m
def Ep{M a:Mem}{kvs:List (Int×W)}{F:Int->List Int}(I:kO M a kvs F){σ:St}{n f:Int}(E:σ[2]? =aa (aa<|.ref M.length))(G:σ[4]? =aa (aa<|.int n))(h3:σ[3]? =aa (aa<|.int f))(L:kvs.length<1000)(K:(F n).length<1000):∃t h,bD cZ (fe gG (aj 2) (aj 4)<|aR<|aq) (ak (aj 3) aq) σ a=.ok .aA t/\kO M t h (jm F n f)/\h.length<=kvs.length+1:=by
 have y:M.length<a.length:=(Ub.mp I.at_).1;have H:bb [] a=.ok (.ref a.length) (a++[.lst []]):=bT<|by decide
 have p:(a++[O.lst []])[M.length]? =aa (.aG kvs):=aB (pre_app _ _) I.at_;have A:fe gG (aj 2) (aj 4) (aR<|aq) σ a=gG (.ref M.length) (.int n) (.ref a.length) (a++[.lst []]):=by simp only[fe,aj,E,G,R.bind,oi I.at_,Uv,aR,aq,H]
 rcases I.val n with⟨e,z⟩|⟨k,e,z,hk,hL⟩
 ·have d:gG (.ref M.length) (.int n) (.ref a.length) (a++[.lst []])=.ok (.ref a.length) ((a++[O.lst []]).set M.length<|O.aG<|kvs++[(n,W.ref a.length)]):=by simp only[gG,fo p,e];rw[T5 (by show _<16777216;omega),uw _ e]
  generalize v:(a++[O.lst []]).set M.length (O.aG<|kvs++[(n,W.ref a.length)])=N at d;have r:N[a.length]? =aa (.lst []):=by rw[<-v,UG<|by omega];exact b8 _ _
  have B:N[M.length]? =aa (.aG<|kvs++[(n,W.ref a.length)]):=by rw[<-v,UH (by simp;omega)]
  have x:∀(b:Nat) (o:O),b≠M.length->a[b]? =aa o->N[b]? =aa o:=λb o J q=>by rw[<-v,UG<|Uz J];exact aB (pre_app _ _) q
  have C:M<+:N:=by rw[<-v];exact qy (I.pre.trans<|pre_app _ _) (Uc _) _
  refine⟨N.set a.length<|.lst [.int f],kvs++[(n,W.ref a.length)],?_,⟨qy C (by omega) _,?_,xK _ e I.nd,λm=>?_,λm w k i g=>?_⟩,by simp⟩
  ·simp only[bD,A,d,R.bind,dQ r,ak,aq,aj,h3];exact p_ r<|by decide
  ·rw[UG<|by omega];exact B
  ·rw[qc _ _ _ _ e];by_cases l:m=n
   ·subst l;refine .inr ⟨a.length,T5 rfl,?_,y,?_⟩
    ·unfold jm;rw[T5 rfl];simp
    ·rw[UH (Ub.mp r).1];unfold jm;rw[T5 rfl,z];rfl
   ·rw[T6 l];unfold jm;rw[T6 l];rcases I.val m with⟨c,j⟩|⟨k,c,j,k2,L2⟩
    ·exact .inl ⟨c,j⟩
    ·refine .inr ⟨k,c,j,k2,?_⟩;have:k<a.length:=(Ub.mp L2).1;rw[UG<|by omega];exact x _ _ (by omega) L2
  ·rw[qc _ _ _ _ e] at i g;have s:∀m,aW kvs m≠aa (.ref a.length):=λm q=>by
    rcases I.val m with⟨c,_⟩|⟨k,c,_,_,L2⟩
    ·rw[c] at q;cases q
    ·rw[c] at q;cases q;have:a.length<a.length:=(Ub.mp L2).1;omega
   by_cases u:m=n
   ·by_cases c:w=n
    ·rw[u,c]
    ·rw[T5 u] at i;rw[T6 c] at g;cases i;exact(s w g).elim
   ·by_cases c:w=n
    ·rw[T6 u] at i;rw[T5 c] at g;cases g;exact(s m i).elim
    ·rw[T6 u] at i;rw[T6 c] at g;exact I.inj m w k i g
 ·have d:gG (.ref M.length) (.int n) (.ref a.length) (a++[.lst []])=.ok (.ref k) (a++[.lst []]):=by simp only[gG,fo p,e]
  have r:(a++[O.lst []])[k]? =aa (.lst<|(F n).map .int):=aB (pre_app _ _) hL;have D:=(Ub.mp hL).1;refine⟨(a++[O.lst []]).set k<|O.lst<|(F n).map W.int++[W.int f],kvs,?_,⟨qy (I.pre.trans<|pre_app _ _) (by omega) _,?_,I.nd,λm=>?_,I.inj⟩,by omega⟩
  ·simp only[bD,A,d,R.bind,dQ r,ak,aq,aj,h3];exact p_ r (by rw[Ua];omega)
  ·rw[UG<|by omega];exact p
  ·by_cases l:m=n
   ·subst l;refine .inr ⟨k,e,?_,hk,?_⟩
    ·unfold jm;rw[T5 rfl];simp
    ·rw[UH (by simp;omega)];unfold jm;rw[T5 rfl,VS];rfl
   ·unfold jm;rw[T6 l];rcases I.val m with⟨c,j⟩|⟨k2,c,j,g,L2⟩
    ·exact .inl ⟨c,j⟩
    ·refine .inr ⟨k2,c,j,g,?_⟩;have:k2≠k:=by rintro rfl;exact l<|I.inj m n k2 c e
     rw[UG<|Uz this];exact aB (pre_app _ _) L2
def xD(G)(ss)(s)(p):(rowOf G ss s p).Nodup:=by
 have h:(nums s).Nodup:=by unfold nums;rw[WM,List.pairwise_map];refine List.Pairwise.imp ?_<|WM.mp List.nodup_range;intro a b h e;omega
 exact Xq Xr h
def DJ(l:List Int)(b:l.Nodup)(m f:Int):(l.filter (·==m)).map (λ_=>f)=if l.any (·==m) then[f] else[]:=by
 induction l with
 |nil=>rfl
 |cons x r a=>
  rw[UQ] at b;have a:=a b.2;rw[Vu,U3];by_cases e:x=m
  ·subst e;have:r.any (·==x)=ag:=by
    rw[Ve];intro h;obtain⟨y,d,c⟩:=Ui.mp h;have:=by simpa using c
    exact b.1<|this▸d
   rw[this] at a;simp only[VX,Uv,Ux,a,VR];rfl
  ·have:(x==m)=ag:=by simpa using e
   simp only[this,Vc,U2,Vs,a]
def kU(h0:0<=p)(b:p<(ss.length:Int)):(tabOf G ss s).getD p.toNat []=rowOf G ss s p:=by
 have a:p.toNat<ss.length:=by omega
 unfold tabOf;simp[List.getD,a,WN h0]
def zT{e:EM}{k:Nat}{b:SM}{σ:St}{M M1:Mem}{v:W}{q:ay}(i:e σ M=.ok v M1)(d:aF M1 v [])(h:q.nx σ M1):(bz (a9 e) (az k) b σ M).Sat q:=
 dS i d (λj a c=>a=σ/\c=M1) ⟨rfl,rfl⟩ (λj a c _ ⟨_,e⟩=>e▸d) (λj x a c f _=>by simp at f) λa c ⟨g,l⟩=>by rw[g,l];exact h
def nG(l:List α)(p)(j){x:α}(h:l[j]? =aa x):(l.take<|j+1).filter p=(l.take j).filter p++if p x then[x] else[]:=by rw[Vy,h,Xl];cases e:p x<;>simp[e]
noncomputable def yi(f:CM):Prop:=∀(M) (a n c h w) (d) (g),1<=h/\h<=3->1<=w/\w<=3->b_ M a n c h w d->bo (h*w) d->0<=g->g<((ar h w).length:Int)->
 ∃e b,f [.ref a,.int g] M=.ok (.ref M.length) e/\kO M e b (λm=>bU (ar h w) (tabOf (ar h w) d<|h*w) g m)/\b.length<=81
def FC:yi PB.nV:=by
 intro M a n c h w d g hh hw S sh g0 U;have sl:=sh.len;obtain⟨s1,s9⟩:=eL hh hw;obtain⟨⟨vG,ob,J⟩,hN,kc,hc,m8,wu,V⟩:=S;have K:=J.ll;obtain⟨BW,D⟩:=hJ hh hw _<|getD_mem g0 U;have Z:∃r l,PB.nV [.ref a,.int g] M=.ok r l/\(r=.ref M.length/\∃b,kO M l b (λm=>bU (ar h w) (tabOf (ar h w) d<|h*w) g m)/\b.length<=81):=by
  refine bJ rfl ?_;show(au _ _ [aa<|.ref a,aa<|.int g,ae,ae,ae] M).Sat _;refine aD<|bA (v:=.ref M.length) (M1:=M++[.aG []]) rfl ?_;simp only[T_,T9];refine aD ?_;obtain⟨wg,A,Y⟩:=gk (K.mono<|pre_app M [.aG []]) g0 U;have L:aX M wg ((ar h w).getD g.toNat []):=by
   obtain⟨w2,e2,wx⟩:=gk K g0 U;obtain⟨ws,F,hA⟩:=K;simp only[ax,F.bu,(aF.mono F<|pre_app M [.aG []]).bu] at A e2;cases q:cA ws g with
   |none=>rw[q] at A;cases A
   |some z=>rw[q] at A e2;cases A;cases e2;exact wx
  generalize P:(ar h w).getD g.toNat []=gr at*;refine dS (v:=wg) (xs:=gr.map .int) (M1:=M++[O.aG []]) (aP (cL rfl (aB (pre_app _ _) ob) rfl) rfl A) Y (λj s l=>(∃x y,s=[aa<|.ref a,aa<|.int g,aa<|.ref M.length,x,y])/\∃b,kO M l b (λm=>(gr.take j).filter λp=>(rowOf (ar h w) d (h*w) p).any (·==m))/\b.length<=9*j)
   ⟨⟨_,_,rfl⟩,[],⟨pre_app _ _,b8 _ _,by simp,λm=>.inl ⟨rfl,rfl⟩,λm m' k q=>by cases q⟩,by simp⟩ ?_ ?_ ?_
  ·rintro j s l hj ⟨_,b,I,_⟩;exact aF.mono L I.pre
  ·rintro j x s l hx ⟨⟨x',y',rfl⟩,b,I,hk⟩;obtain⟨f,hf,rfl,u⟩:=fZ hx;obtain⟨f0,f1⟩:=D f hf;have jl:j<gr.length:=(Ub.mp u).1;simp only[T_,T9];have Q:f<(d.length:Int):=by rw[sl];exact f1
   have N:=aB I.pre ob;have E:=aB I.pre hc;have B:bb [] l=.ok (.ref l.length) (l++[.lst []]):=bT<|by decide
   have X:=aB (pre_app l [.lst []]) E;have H:fe fv (aT aY fC<|aj 0) (aj 3) (aR<|aq) [aa<|.ref a,aa<|.int g,aa<|.ref M.length,aa<|.int f,y'] l=.ok ((aW kc f).getD<|.ref l.length) (l++[.lst []]):=by have e1:aT aY fC (aj 0) [aa<|.ref a,aa<|.int g,aa<|.ref M.length,aa<|.int f,y'] l=.ok (.ref c) l:=cL rfl N rfl;simp only[fe,e1,R.bind,oi E,Uv,aj,Uo,Uj,aR,aq,B,fv,fo X]
   have In:kO M (l++[.lst []]) b (λm=>(gr.take j).filter λp=>(rowOf (ar h w) d (h*w) p).any (·==m)):=
    ⟨I.pre.trans<|pre_app _ _,aB (pre_app _ _) I.at_,I.nd,λm=>by
     rcases I.val m with z|⟨k,q1,q2,q3,q4⟩
     ·exact .inl z
     ·exact .inr ⟨k,q1,q2,q3,aB (pre_app _ _) q4⟩,I.inj⟩
   rcases V f with⟨e,hE⟩|⟨k,e,hE,mY,F⟩
   ·rw[e] at H;refine zT H ⟨_,rfl,b8 _ _⟩ ⟨⟨_,_,rfl⟩,b,?_,by omega⟩;have hz:aw d f≠0:=λz=>hE ⟨f0,Q,z⟩
    have:(λm=>(gr.take<|j+1).filter λp=>(rowOf (ar h w) d (h*w) p).any (·==m))=λm=>(gr.take j).filter λp=>(rowOf (ar h w) d (h*w) p).any (·==m):=by funext m;rw[nG _ _ _ u,qx hz];simp
    rw[this];exact In
   ·rw[e] at H;refine dS H ⟨k,rfl,aB In.pre F⟩ (λi s t=>(∃y,s=[aa<|.ref a,aa<|.int g,aa<|.ref M.length,aa<|.int f,y])/\∃b,kO M t b (λm=>((gr.take j).filter λp=>(rowOf (ar h w) d (h*w) p).any (·==m))++(((rowOf (ar h w) d (h*w) f).take i).filter (·==m)).map (λ_=>f))/\b.length<=9*j+i)
     ⟨⟨_,rfl⟩,b,by simpa using In,by omega⟩ ?_ ?_ ?_
    ·rintro i s t hi ⟨_,b,I2,_⟩;exact⟨k,rfl,aB I2.pre F⟩
    ·rintro i x s t T ⟨⟨y,rfl⟩,b,I2,m9⟩;obtain⟨o,NR,rfl,C⟩:=fZ T;simp only[T_,T9];have il:i<(rowOf (ar h w) d (h*w) f).length:=(Ub.mp C).1;have rl:=jJ (ar h w) d (h*w) f;have fl:(((gr.take j).filter λp=>(rowOf (ar h w) d (h*w) p).any (·==o))++(((rowOf (ar h w) d (h*w) f).take i).filter (·==o)).map (λ_=>f)).length<1000:=by rw[Us,Ua];have a1:=Vb (λp=>(rowOf (ar h w) d (h*w) p).any (·==o))<|gr.take j;have a2:=Vb (·==o)<|(rowOf (ar h w) d (h*w) f).take i;rw[VH] at a1 a2;omega
     obtain⟨M3,G,e3,I3,l3⟩:=Ep I2 (σ:=[aa<|.ref a,aa<|.int g,aa<|.ref M.length,aa<|.int f,aa<|.int o]) (n:=o) (f:=f) rfl rfl rfl (by omega) fl;refine df e3 ⟨⟨_,rfl⟩,G,?_,by omega⟩;have:jm (λm=>((gr.take j).filter λp=>(rowOf (ar h w) d (h*w) p).any (·==m))++(((rowOf (ar h w) d (h*w) f).take i).filter (·==m)).map (λ_=>f)) o f=λm=>((gr.take j).filter λp=>(rowOf (ar h w) d (h*w) p).any (·==m))++(((rowOf (ar h w) d (h*w) f).take<|i+1).filter (·==m)).map (λ_=>f):=by
      funext m;unfold jm;rw[nG _ _ _ C];by_cases em:m=o
      ·subst em;simp
      ·rw[T6 em];have:(o==m)=ag:=by simpa usingλz:o=m=>em z.symm
       simp[this]
     rw[<-this];exact I3
    ·rintro s t ⟨⟨y,rfl⟩,b,I2,m9⟩;have rl:=jJ (ar h w) d (h*w) f;rw[Ua] at m9;refine⟨⟨_,_,rfl⟩,b,?_,by omega⟩;have:(λm=>((gr.take j).filter λp=>(rowOf (ar h w) d (h*w) p).any (·==m))++(((rowOf (ar h w) d (h*w) f).take ((rowOf (ar h w) d (h*w) f).map W.int).length).filter (·==m)).map (λ_=>f))=λm=>(gr.take<|j+1).filter λp=>(rowOf (ar h w) d (h*w) p).any (·==m):=by funext m;rw[nG _ _ _ u,Ua,UT,DJ _<|xD _ _ _ _]
     rw[<-this];exact I2
  ·rintro s l ⟨⟨x,y,rfl⟩,b,I,hk⟩;dsimp only;refine aV rfl ⟨rfl,b,?_,by rw[Ua] at hk;omega⟩;have:(λm=>(gr.take (gr.map W.int).length).filter λp=>(rowOf (ar h w) d (h*w) p).any (·==m))=λm=>bU (ar h w) (tabOf (ar h w) d<|h*w) g m:=by
    funext m;rw[Ua,UT];unfold bU;rw[P];refine Xv λp hp=>?_
    obtain⟨p0,p1⟩:=D p hp;rw[kU p0 (by rw[sl];exact p1)]
   rw[<-this];exact I
 obtain⟨r,l,e,rfl,b,q⟩:=Z;exact⟨l,b,e,q⟩
def b_.mono(S:b_ M a n c h w ss)(p:M<+:M'):b_ M' a n c h w ss:=by
 obtain⟨⟨t,m,g,⟨b,e,f,q⟩,r⟩,l,d,i,s,o,j⟩:=S;refine⟨⟨t,aB p m,g,⟨b,e,f,aB p q⟩,r.imp λw u ⟨b,e,f,q⟩=>⟨b,e,f,aB p q⟩⟩,aB p l,d,aB p i,s,o,λx=>?_⟩;rcases j x with z|⟨k,e1,e2,e3,e4⟩
 ·exact .inl z
 ·exact .inr ⟨k,e1,e2,e3,aB p e4⟩
def qd:cV ss p=af↔cT ss p:=by unfold cV cT;simp only[UB,U_,UZ,Vd,U4];omega
def oD(h:m∈rowOf G ss s p):aw ss p=0/\1<=m/\m<=(s)/\c7 G ss p m=ag:=by unfold rowOf at h;obtain⟨b,a⟩:=UP.mp h;obtain⟨k,c,rfl⟩:=Um.mp b;have:=UD.mp c;simp only[T',U4,UB] at a;exact⟨a.1,by omega,by omega,a.2⟩
def FD{G:List (List Int)}{ss:List Int}{s:Nat}{g p m:Int}(d:0<=g)(f:g<(G.length:Int))(o:p∈G.getD g.toNat [])(l:m∈rowOf G ss s p):dY G ss g m s=af:=by
 obtain⟨z,r,t,k⟩:=oD l;have j:=getD_mem d f;have b:(G.getD g.toNat []).any (λq=>ai<|aw ss q=m)=ag:=by
  rw[Ve];intro h;obtain⟨q,c,e⟩:=Ui.mp h;have i:aw ss q=m:=UM e;by_cases a:q=p
  ·subst a;omega
  ·have:c7 G ss p m=af:=by unfold c7 fz;refine Ui.mpr ⟨_,j,?_⟩;rw[T',Ui,Ui];exact⟨⟨p,o,by simp⟩,q,c,by simp[a,i]⟩
   rw[k] at this;cases this
 unfold dY;have n:((G.getD g.toNat []).map<|aw ss).any (·==m)=ag:=by rw[WH,<-b];congr 1
 simp only[n];simp only[T',UB,U_,UZ,Bool.not_false,and_true];omega
noncomputable def qe(f:CM):Prop:=∀(h w) (M) (d) (a),1<=h/\h<=3->1<=w/\w<=3->aX M d a->bo (h*w) a->
 ∃b n c,f [.int h,.int w,d] M=.ok (.ref M.length) b/\M<+:b/\b_ b M.length n c h w a/\M.length<n/\M.length<c
def FE(hf:uz f):qe (PB.uT f):=by intro h w M a b d j i g;obtain⟨k,n,c,e,q⟩:=hf h w M a b d j i g;refine⟨k,n,c,?_,q⟩;show mW aY f [.int h,.int w,a] M=_;simp only[mW,e,R.bind]
def FG:uz (PB.lT (PB.nU PB.kC PB.ku PB.kD) PB.lK<|PB.lI PB.lV):=
 Hv Ek (λh w a b M v j=>El h w a b M v j) λa b m f l g e i k d c=>Eo qP a b m f l g e i k d c
def nil_eq{σ:St}{e:EM}{w:W}{xs:List Int}(h:e σ M=.ok w M)(a:aX M w xs):ao oEq e (aR aq) σ M=.ok (.bl<|ai<|xs=[]) (M++[.lst []]):=
 aP h (rfl) (jQ (aF.mono a<|pre_app _ _)<|aF.new M [])
def zU(a:Int){n:Nat}(h:0<n):0<=a % (n)/\a % (n)<(n):=⟨Wb _<|by omega,Wc _<|by omega⟩
noncomputable def sb(vG vs j:W)(b a:Int)(s:Nat)(m k i l f g e h c d:Option W):St:=[aa vG,aa vs,aa j,aa<|.int b,aa<|.int a,aa<|.int s,m,k,i,l,f,g,e,h,c,d]
def BY(b:1<=h/\h<=3)(c:1<=w/\w<=3):h*w<=9/\1<=h*w/\h*w*(h*w)<=81:=by
 have a:h*w<=9:=Uh (UK b.2 c.2)<|by decide
 exact⟨a,V8 b.1 c.1,Uh (UK a a)<|by decide⟩
def eW(a:e σ M=.ok v M1)(h:(b (σ.set i<|aa v) M1).Sat q):(au (aN e<|az i) b σ M).Sat q:=aD<|bA a h
structure Start(h w:Nat)(M0:Mem)(vG vf:W)(fs:List Int)(M:Mem):Prop where
 hh:1<=h/\h<=3
 hw:1<=w/\w<=3
 pre:M0<+:M
 G:LL M vG (ar h w)
 F:aX M vf fs
 fl:fs.length=h*w*(h*w)
 fg:Good (h*w) fs
noncomputable def Bc(a c b full:CM)(k:SM):SM:=au (
 aN (av a (ak (aj 0) aq)) (dd [az 1,az 2])) (
 au (
  aN (ao bL (aj 1) (aj 2)) (az 3)) (
 au (
  aN (av b (ak (aj 1) (ak (aj 2) aq))) (az 4)) (
 au (
  aN (av full (ak (aj 1) (ak (aj 2) (ak (av c (ak (aj 0) (ak (eC (.int 1)) aq))) aq)))) (az 5)) k)))
def Hw{a:CM}{b:Nat}(g:yd b a)(rest:St)(M0:Mem)(e:List Int)(c:d_ M0 e)(n:e.length<=63){k:SM}{q:ay}(H:∀h w vG vf fs M,Start h w M0 vG vf fs M->h*w<=b->(k (aa (.ref 0)::aa (.int h)::aa (.int w)::aa (.int (h*w:Nat))::aa vG::aa vf::rest) M).Sat q): (Bc a iI lM lN k (aa (.ref 0)::ae::ae::ae::ae::ae::rest) M0).Sat q:=by
 unfold Bc;obtain⟨x,M1,s,r,h,w,E,d,f,I⟩:=g M0 e c n;obtain⟨L,N,z⟩:=BY d f;refine aD (jN (v:=x) (M1:=M1) (M2:=M1) (bS:=aa (.ref 0)::aa (.int h)::aa (.int w)::ae::ae::ae::rest) (by walk_at "ev";exact s) (by simp only[dd,E.cm,iL,az,R.bind,UO,Vt,Uv,T_,T9]) ?_);have t:=dg (M:=M1) (i:=(h)) (j:=(w))<|by omega
 refine eW (v:=.int ((h)*w)) (M1:=M1) (by walk_at "ev";simp only[t]) ?_;obtain⟨vG,M2,y,o,J⟩:=C6 h w M1 d f;refine eW (by walk_at "ev";exact y) ?_;have K:=(c.mono r).mono o;obtain⟨u,C,D,p⟩:=mH e M2 1 K n;obtain⟨vf,l,G,m,fs,A,B,F⟩:=Hl h w u C d f;refine eW (v:=vf) (M1:=l) (by walk_at "ev";simp only[D,G]) ?_;exact H h w vG vf fs l ⟨d,f,r.trans<|o.trans<|p.trans m,J.mono<|p.trans m,A,B,F⟩ I
def MO(s:Int):∃i:Int,(if ai ((3)<s)=af then(1) else 0)+(if ai ((4)<s)=af then(1) else 0)=i/\0<=i/\i<3/\0<aw [7,4,3] i/\(4<s->aw [7,4,3] i=3):=by refine⟨_,rfl,?_⟩;by_cases a:(3)<s<;>by_cases b:(4)<s<;>simp[a,b,aw]<;>omega
noncomputable def AI(at':CM):EM:=ao oMod (av at'<|ak (aj 0)<|ak (eC<|.int 2) aq)<|ao ax (aR<|ak (eC<|.int 7)<|ak (eC<|.int 4)<|ak (eC<|.int 3) aq)<|ao bG (av iT<|ak (ao fV (aj 3)<|eC<|.int 3) aq)<|av iT<|ak (ao fV (aj 3)<|eC<|.int 4) aq
def FH(M:Mem)(e:List Int)(u:d_ M e)(r:e.length<=63)(x1 x2)(s)(rest:St):∃z h,AI iI (aa (.ref 0)::x1::x2::aa (.int s)::rest) M=.ok (.int z) h/\M<+:h/\(4<s->z<3):=by
 obtain⟨k,a,p,n⟩:=mH e M 2 u r;obtain⟨v,d,f,q,c,b⟩:=MO s;have j:bb [.int 7,.int 4,.int 3] a=.ok (.ref a.length) (a++[.lst [.int 7,.int 4,.int 3]]):=bT<|by decide
 have l:a<+:a++[.lst [.int 7,.int 4,.int 3]]:=pre_app _ _;have g:aX (a++[.lst [.int 7,.int 4,.int 3]]) (.ref a.length) [7,4,3]:=aF.new _ _;generalize o:a++[O.lst [.int 7,.int 4,.int 3]]=M6 at j l g;have m:=er g f<|by omega
 have t:=dX (M:=M6) (i:=k) c;refine⟨k % aw [7,4,3] v,M6,?_,n.trans l,λz=>by rw[b z];omega⟩;unfold AI
 walk_at "ev"
 simp only[p,j,gt_int,iT,d,m,t]
def FI(f:fs.length=s*s)(c:Good s fs)(e:ss.length=fs.length)(h:∀j:Nat,j<fs.length->(aw ss j=0\/aw ss j=aw fs j)):bo s ss:=by
 have b:∀x∈ss,x=0\/x∈fs:=by
  intro x a;obtain⟨j,d,rfl⟩:=VW a;have:=h j<|by omega
  rw[gY d,gY<|by omega] at this;rcases this with q|q
  ·exact .inl q
  ·rw[q];exact .inr<|VU _
 refine⟨by omega,λx a=>?_,λx a=>?_⟩
 ·rcases b x a with rfl|q
  ·omega
  ·have:=(c x q).1;omega
 ·rcases b x a with rfl|q
  ·omega
  ·exact(c x q).2
noncomputable def AJ(a:CM):EM:=av a<|ak (aj 5)<|ak (iu (aj 0) (gg<|eC<|.int 3)<|gg<|eC<|.int 19)<|ak (aj 6) aq
def Er(M:Mem)(a:List Int)(t:d_ M a)(l:a.length<=63){vf:W}{fs:List Int}(F:aX M vf fs){s:Nat}(k:fs.length=s*s)(i:s*s<=81)(g:Good s fs)(x1 o n p:Option W)(b:Int)(rest:St):
 ∃N ss,AJ ky (aa (.ref 0)::x1::o::n::p::aa vf::aa (.int b)::rest) M=.ok (.ref N.length) (N++.lst (ss.map .int)::[])/\M<+:N/\bo s ss/\∀j:Nat,j<s*s->aw ss j=0->j<16\/(j:Int) % 7<b:=by
 have e:=t.cut l (aa 3)<|aa 19;have c:M<+:M++[.lst<|(VM.cut a (aa 3)<|aa 19).map .int]:=pre_app _ _;have f:aX (M++[.lst<|(VM.cut a (aa 3)<|aa 19).map .int]) (.ref M.length) (VM.cut a (aa 3)<|aa 19):=aF.new _ _;generalize r:M++[O.lst<|(VM.cut a (aa 3)<|aa 19).map .int]=M7 at e c f;obtain⟨ss,h,m,sb⟩:=LR M7 vf (.ref M.length) fs _ b (aF.mono F c) f<|by omega
 refine⟨M7,ss,?_,c,FI k g m λj d=>(sb j d).imp And.left id,λj d z=>?_⟩
 rotate_left
 ·have u:(VM.cut a (aa 3)<|aa 19).length<=16:=by unfold VM.cut bh;rw[VH];simp only;split<;>split<;>omega
  rcases sb j (by omega) with⟨_,q|q⟩|q
  ·exact .inl<|by omega
  ·exact .inr q
  ·have:=(g (aw fs j)<|qv (by omega)<|by omega).1;omega
 unfold AJ
 walk_at "ev"
 simp only[iu,gg,R.bind,aj,eC,Uj,e,h]
def bo.set(h:bo s ts)(i){x:Int}(c:0<=x)(b:x<=s):bo s (ts.set i x) where
 len:=by rw[Va];exact h.len
 lo:=λy a=>by
  rcases Wg a with q|q
  ·exact h.lo y q
  ·rw[q];exact c
 hi:=λy a=>by
  rcases Wg a with q|q
  ·exact h.hi y q
  ·rw[q];exact b
def JR{a:List Int}(e:o σ (N++.lst (a.map .int)::J)=.ok (.ref N.length) (N++.lst (a.map .int)::J))(d:ie σ (N++.lst (a.map .int)::J)=.ok (.int i) (N++.lst (a.map .int)::J))(f:0<=i)(b:i<(a.length:Int)):eE o ie (.int x) σ (N++.lst (a.map .int)::J)=.ok σ (N++.lst ((a.set i.toNat x).map .int)::J):=by
 have c:cq (a.map W.int).length i=aa i.toNat:=by unfold cq;rw[T5 f,Ua,T5 b]
 unfold eE;simp only[e,d,R.bind,gA<|f_ N J _,c,mu,WJ]
def xO(p:N++o::J<+:M'):∃a,M'=N++o::a:=by obtain⟨r,rfl⟩:=p;exact⟨J++r,by simp⟩
def FJ:(ar h w).length=3*(h*w):=by unfold ar;simp;omega
def uA(G)(ss)(s)(a:s<=9):∀r∈tabOf G ss s,r.length<=9:=by intro r b;obtain⟨p,_,rfl⟩:=Um.mp b;exact Uh (jJ _ _ _ _) a
def gZ(G)(ss)(s):(tabOf G ss s).length=ss.length:=by simp[tabOf]
def same_ints(M:Mem)(a b:W)(xs:List Int)(f:aX M a xs)(e:aX M b xs)(h:xs.length<=81):∃c,jL cC [a,b] M=.ok (.bl af) c/\M<+:c:=by obtain⟨p,rfl,g⟩:=f;obtain⟨q,rfl,d⟩:=e;refine zP M _ _ (0+(xs.map W.int).length+1) (Wk.seq (ls:=[]) (rs:=[]) g d rfl<|Wk.A_ Wk.nil _<|l7 xs) ?_;rw[Ua];omega
inductive eJ where
 |fld (p:Int)
 |c9 (g n:Int)
 |i2 (g n:Int)
 deriving DecidableEq
noncomputable abbrev kW:W:=.str [116,119,105,99,101]
noncomputable def eJ.ws:eJ->List W
 |.fld p=>[oF,.int p]
 |.c9 g n=>[hU,.int g,.int n]
 |.i2 g n=>[kW,.int g,.int n]
noncomputable def ic(M:Mem)(v:W)(c:eJ):Prop:=aI M v c.ws
noncomputable def dM(G:List<|List Int)(ss:List Int)(T:List<|List Int)(s:Nat):eJ->Bool
 |.fld p=>cV ss p&&ai (T.getD p.toNat []=[])
 |.c9 g n=>dY G ss g n s&&ai (bU G T g n=[])
 |.i2 g n=>!(ai (g<0)||(ai ((G.length:Int)<=g)||ai (n<1)))&&ai (1<cnt n ((G.getD g.toNat []).map<|aw ss))
def pR(G)(ss)(T)(s)(p):dM G ss T s (.fld p)=(cV ss p&&ai (T.getD p.toNat []=[])):=rfl
def pS(G)(ss)(T)(s)(g n):dM G ss T s (.c9 g n)=(dY G ss g n s&&ai (bU G T g n=[])):=rfl
def pT(G)(ss)(T)(s)(g n):dM G ss T s (.i2 g n)=(!(ai (g<0)||(ai ((G.length:Int)<=g)||ai (n<1)))&&ai (1<cnt n ((G.getD g.toNat []).map<|aw ss))):=rfl
def xP(i j)(c:aX M vs ss)(d:aj i σ=λM=>.ok vs M)(b:aj j σ=λM=>.ok (.int p) M):
 bg (tB<|ao oLt (aj j)<|eC<|.int 0) (bg (tB<|ao gR (aj j)<|av aZ<|ak (aj i) aq)<|tB<|ao bp (ao ax (aj i)<|aj j)<|eC<|.int 0) σ M=.ok (!cV ss p) M:=by
 unfold cV;rw[Bool.not_not];unfold bg;have h:tB (ao oLt (aj j)<|eC<|.int 0) σ M=.ok (ai<|p<0) M:=aU<|aP (by rw[b]) rfl lt_int;have g:tB (ao gR (aj j)<|av aZ<|ak (aj i) aq) σ M=.ok (ai<|(ss.length:Int)<=p) M:=aU<|aP (by rw[b]) (by unfold av ak aq;rw[d];simp only[R.bind,je c]) ge_int;rw[h];simp only[R.bind];rw[g];by_cases a:p<0
 ·simp[a]
 ·by_cases e:(ss.length:Int)<=p
  ·simp[a,e]
  ·have f:tB (ao bp (ao ax (aj i)<|aj j)<|eC<|.int 0) σ M=.ok (!ai (aw ss p=0)) M:=aU (aP (aP (by rw[d]) (by rw[b])<|er c (by omega)<|by omega) rfl ne_int);simp only[a,e,WI,Vc,U2,Vs];exact f
def cI(i)(k)(h:aI M v ws)(b:aj i σ=λM=>.ok v M)(a:ws[k.toNat]? =aa x)(c:0<=k:=by decide):ao ax (aj i) (eC<|.int k) σ M=.ok x M:=by refine aP (by rw[b]) rfl ?_;have:=dm h k.toNat a;rw[show((k.toNat:Nat):Int)=k by omega] at this;exact this
def c_(h:t σ M=.ok b M1):bB t σ M=.ok (!b) M1:=by unfold bB;rw[h];rfl
def fI(i)(b)(h:aI M v ws)(d:aj i σ=λM=>.ok v M)(c:ws[0]? =aa (.str a)):ao oEq (ao ax (aj i)<|eC<|.int 0) (eC<|.str b) σ M=.ok (.bl<|ai<|a=b) M:=
 aP (cI i 0 h d c) rfl (eq_str a b)
def mI(l:a σ M=.ok x M)(k:b σ M=.ok y M)(g:c σ M=.ok z M)(i:d σ M=.ok u M)(j:e σ M=.ok v M)(h:f [x,y,z,u,v] M=r):
 av f (ak a<|ak b<|ak c<|ak d<|ak e aq) σ M=r:=by
 unfold av ak aq;simp only[l,k,g,i,j,R.bind,h]
def mJ(j:a σ M=.ok x M)(i:b σ M=.ok y M)(e:c σ M=.ok z M)(g:d σ M=.ok u M)(h:f [x,y,z,u] M=r):
 av f (ak a<|ak b<|ak c<|ak d aq) σ M=r:=by
 unfold av ak aq;simp only[j,i,e,g,R.bind,h]
def mem_getD{G:List (List Int)}(b:0<=g)(a:g<(G.length:Int)):G.getD g.toNat []∈G:=by
 have:g.toNat<G.length:=by omega
 simp[List.getD,this]
def FL(e)(ef)(k)(m:e σ M=.ok vg M)(p:aX M vg g)(n:aX M vf fs)(d:∀i∈g,0<=i/\i<(fs.length:Int))(r:g.length<=1000)(b:∀x,ef ((dE [k]<|σ++List.replicate 0 ae).set k<|aa x) M=.ok vf M)(f:∀x,aj k ((dE [k]<|σ++List.replicate 0 ae).set k<|aa x) M=.ok x M):
 bE 0 [k] (a9 e) (az k) cX (ao ax ef<|aj k) σ M=.ok (.ref M.length) (M++[.lst<|(g.map<|aw fs).map .int]):=by
 obtain⟨a,rfl,h⟩:=p;unfold bE;have o:a9 e σ M=.ok ((g.map W.int).map .val,[(a,.lst<|g.map .int)]) M:=by unfold a9;rw[m];simp only[R.bind,h]
 rw[o];simp only[R.bind];generalize dE [k] (σ++List.replicate 0 ae)=i4 at b f;rw[gz (λ_=>af) (λx=>match x with|.int i=>.int (aw fs i)|_=>.aA) _ _ _ (λ_=>rfl) (by simp[bN.ok,h]) ?_]
 ·simp only[filter_tt,UJ,VT];exact bT (by simp;omega)
 ·intro x l;obtain⟨i,c,rfl⟩:=Um.mp l;obtain⟨j,q⟩:=d i c;refine⟨rfl,λ_=>?_⟩;simp only[ao,b,f,R.bind];exact er n j q
noncomputable def yj(f:CM):Prop:=∀(M) (j e b d) (G) (a) (T) (s:Nat) (c),LL M j G->aX M e a->LL M b T->ic M d c->T.length=a.length->(∀g∈G,g.length<=9/\∀i∈g,0<=i/\i<(a.length:Int))->
 ∃h,f [j,e,b,d,.int s] M=.ok (.bl<|dM G a T s c) h/\M<+:h
def FN:yj (lU fk fm):=by
 intro M l o q m G j T s c B D N b W h;have E:∃r A,lU fk fm [l,o,q,m,.int s] M=.ok r A/\(r=.bl (dM G j T s c)/\M<+:A):=by
  refine bJ rfl ?_;show(au _ _ [aa l,aa o,aa q,aa m,aa<|.int s,ae] M).Sat _;cases c with
  |fld p=>
   refine aD<|aJ (c:=af) (M1:=M) (aU<|fI 3 _ b rfl rfl) (λ_=>?_) λz=>nomatch z
   refine aD<|bA (v:=.int p) (M1:=M) (cI 3 1 b rfl rfl) ?_;simp only[T_,T9];refine aD<|aJ (xP 1 5 D rfl rfl) (λf=>?_) λf=>?_
   ·refine aV rfl ⟨?_,dc _⟩;rw[UB] at f;rw[pR,f,Vi]
   ·refine bf ?_;dsimp only;rw[Vd] at f;have d:=f;unfold cV at d;simp only[UB,U_,UZ,Vd,UC] at d;obtain⟨C,Z,c3⟩:=d;obtain⟨w,I,F⟩:=gk N (i:=p) (by omega)<|by omega
    refine aV (nil_eq (w:=w) (aP (x:=q) (y:=.int p) (M1:=M) (M2:=M) rfl rfl I) F) ⟨?_,pre_app _ _⟩;rw[pR,f,Vg]
  |c9 g n=>
   refine aD<|aJ (c:=ag) (M1:=M) (aU<|fI 3 _ b rfl rfl) (λz=>nomatch z) λ_=>?_
   refine bf ?_;dsimp only;refine aD<|aJ (c:=af) (M1:=M) (aU<|fI 3 _ b rfl rfl) (λ_=>?_) λz=>nomatch z
   obtain⟨M1,V,u⟩:=uv M l o G j g n s B D h;refine aD<|aJ (c:=!dY G j g n s) (M1:=M1) ?_ (λa=>?_) λa=>?_
   ·exact c_<|aU<|mI rfl rfl (cI 3 1 b rfl rfl) (cI 3 2 b rfl rfl) rfl V
   ·refine aV rfl ⟨?_,u⟩;rw[UB] at a;rw[pS,a,Vi]
   ·refine bf ?_;dsimp only;rw[Vd] at a;obtain⟨O,P,Y,n1⟩:=oh a;have t:=mem_getD O P;have S:=uu M1 l q G T g n (B.mono u) (N.mono u) O P (λi X=>by rw[W];exact(h _ t).2 i X) (h _ t).1;have C:=b.mono u;have U:aX (M1++[.lst<|(bU G T g n).map .int]) (.ref M1.length) (bU G T g n):=aF.new _ _;refine aV (v:=.bl<|ai<|bU G T g n=[]) (M1:=M1++[.lst<|(bU G T g n).map .int]++[.lst []]) ?_ ⟨?_,u.trans<|(pre_app _ _).trans<|pre_app _ _⟩
    ·exact aP (mJ rfl rfl (cI 3 1 C rfl rfl) (cI 3 2 C rfl rfl) S) (show _=R.ok (.ref _) _ from rfl)<|jQ (ys:=[]) (aF.mono U<|pre_app _ _)<|aF.new _ []
    ·rw[pS,a,Vg]
  |i2 g n=>
   refine aD<|aJ (c:=ag) (M1:=M) (aU<|fI 3 _ b rfl rfl) (λz=>nomatch z) λ_=>?_
   refine bf ?_;dsimp only;refine aD<|aJ (c:=ag) (M1:=M) (aU<|fI 3 _ b rfl rfl) (λz=>nomatch z) λ_=>?_
   refine bf ?_;dsimp only;have K:∀k:St,aj 3 k=(λM=>.ok m M)->ao ax (aj 3) (eC<|.int 1) k M=.ok (.int g) M:=λk e=>cI 3 1 b e rfl
   have Q:∀k:St,aj 3 k=(λM=>.ok m M)->ao ax (aj 3) (eC<|.int 2) k M=.ok (.int n) M:=λk e=>cI 3 2 b e rfl
   refine aD<|aJ (c:=ai (g<0)||(ai ((G.length:Int)<=g)||ai (n<1))) (M1:=M) ?_ (λf=>?_) λf=>?_
   ·unfold bg;rw[aU<|aP (y:=.int 0) (M2:=M) (K _ rfl) rfl lt_int];simp only[R.bind];rw[aU (aP (y:=.int G.length) (M2:=M) (K _ rfl) (by walk_at "ev";exact qO B) ge_int)];simp only[R.bind];rw[aU<|aP (y:=.int 1) (M2:=M) (Q _ rfl) rfl lt_int];cases ai (g<0)<;>cases ai ((G.length:Int)<=g)<;>cases ai (n<1)<;>rfl
   ·refine aV rfl ⟨?_,dc _⟩;rw[pT,f];rfl
   ·refine bf ?_;dsimp only;have d:=f;simp only[U_,UZ] at d;obtain⟨w,I,H⟩:=gk B (i:=g) (by omega)<|by omega
    have t:=mem_getD (G:=G) (g:=g) (by omega)<|by omega
    have e:=FL (σ:=[aa l,aa o,aa q,aa m,aa<|.int s,ae]) (ao ax (aj 0)<|ao ax (aj 3)<|eC<|.int 1) (aj 1) 5 (M:=M) (vg:=w) (vf:=o) (aP (x:=l) (y:=.int g) (M1:=M) (M2:=M) rfl (K _ rfl) I) H D (h _ t).2 (by have:=(h _ t).1;omega) (λ_=>rfl)<|λ_=>rfl
    have L:aX (M++[.lst<|((G.getD g.toNat []).map<|aw j).map .int]) (.ref M.length) ((G.getD g.toNat []).map<|aw j):=aF.new _ _;have J:=cI (σ:=[aa l,aa o,aa q,aa m,aa<|.int s,ae]) 3 2 (b.mono<|pre_app M [.lst<|((G.getD g.toNat []).map<|aw j).map .int]) rfl rfl;refine aV (v:=.bl<|ai<|1<cnt n ((G.getD g.toNat []).map<|aw j)) (M1:=M++[.lst<|((G.getD g.toNat []).map<|aw j).map .int]) ?_ ⟨?_,pre_app _ _⟩
    ·refine aP (x:=.int<|cnt n<|(G.getD g.toNat []).map<|aw j) (M1:=M++[.lst<|((G.getD g.toNat []).map<|aw j).map .int]) ?_ rfl ?_
     ·unfold bD;rw[e];simp only[R.bind,aF.a8 L];unfold ak aq;rw[J];simp only[R.bind];exact ur n L
     ·rw[gt_int];congr 2;rw[UW,UC,UC];omega
    ·rw[pT,f];rfl
 obtain⟨r,A,e,rfl,p⟩:=E;exact⟨A,e,p⟩
noncomputable def my(G:List<|List Int)(ss:List Int)(T:List<|List Int)(s:Nat)(g k:Nat):Bool:=dY G ss (g) ((k)+1) s&&ai ((bU G T (g)<|(k)+1).length=1)
noncomputable def eh(G:List<|List Int)(ss:List Int)(T:List<|List Int)(s:Nat):Bool:=
 (List.range ss.length).any (λ(p)=>ai<|(T.getD p []).length=1)||(List.range G.length).any λg=>(List.range s).any λk=>my G ss T s g k
noncomputable def Hx(G:List<|List Int)(ss:List Int)(T:List<|List Int)(s:Nat)(g k:Nat):Bool:=dM G ss T s<|.c9 (g)<|(k)+1
noncomputable def kF(G:List<|List Int)(ss:List Int)(T:List<|List Int)(s:Nat):Bool:=
 (List.range ss.length).any (λ(p)=>ai (aw ss p=0)&&ai (T.getD p []=[]))||(List.range G.length).any λg=>(List.range s).any λk=>Hx G ss T s g k
section
variable{M:Mem}{vG vs vT:W}{G:List (List Int)}{ss:List Int}{T:List (List Int)}{s:Nat}
def mv(h:e σ M=.ok v M1)(a:aX M1 v xs):av aZ (ak e aq) σ M=.ok (.int xs.length) M1:=by unfold av ak aq;rw[h];simp only[R.bind];exact je a
def Hy(i)(c:aX M v xs)(a:aj i σ=λM=>.ok v M)(d:xs.length<=1000):cc (av aZ<|ak (aj i) aq) σ M=.ok (cS 0 xs.length,[]) M:=by
 have b:(xs.length:Int).natAbs<bV:=cU (by omega)<|by omega
 unfold cc;rw[mv (by rw[a]) c];simp only[R.bind];rw[T5 b,UA]
def FO(i)(c:LL M v xs)(a:aj i σ=λM=>.ok v M)(d:xs.length<=1000):cc (av aZ<|ak (aj i) aq) σ M=.ok (cS 0 xs.length,[]) M:=by
 have b:(xs.length:Int).natAbs<bV:=cU (by omega)<|by omega
 unfold cc av ak aq;rw[a];simp only[R.bind,qO c];rw[T5 b,UA]
def FP(i)(c:aj i σ=λM=>.ok (.int s) M)(d:s<=9):dZ (eC<|.int 1) (ao bG (aj i)<|eC<|.int 1) σ M=.ok (cS 1 s,[]) M:=by
 have b:(1:Int).natAbs<bV/\((s:Int)+1).natAbs<bV:=⟨cU (by omega)<|by omega,cU (by omega)<|by omega⟩;have a:((s:Int)+1-1).toNat=s:=by omega
 unfold dZ;have e:ao bG (aj i) (eC<|.int 1) σ M=.ok (.int<|(s)+1) M:=aP (by rw[c]) rfl rfl;show((ao bG (aj i) (eC<|.int 1) σ M).bind _)=_;rw[e];simp only[R.bind];rw[T5 b,a]
def Es{q:ay}{M0 M:Mem}{σ:St}{a:SM}(b:Nat->Nat->Bool)(F:St->Mem->Prop)(Q:W->Mem->Prop)(w:LL M0 vG G)(l:G.length<=1000)(e:s<=9)(m:∀σ M,F σ M->M0<+:M/\aj 0 σ=(λM=>.ok vG M))(f:∀σ M x,F σ M->F (σ.set 5<|aa x) M/\aj 3 (σ.set 5<|aa x)=λM=>.ok (.int s) M)(h0:F σ M)(D:∀σ M j,F σ M->∀x,x=(σ.set 5<|aa<|.int<|0+(j:Int))->F x M)(u:∀(j k:Nat) σ M,j<G.length->k<s->F σ M->σ[5]? =aa (aa<|.int<|0+(j:Int))->(a (σ.set 6<|aa<|.int<|1+(k:Int)) M).Sat {nx:=λσ M=>F σ M/\σ[5]? =aa (aa<|.int<|0+(j:Int))/\b j k=ag,ct:=λσ M=>F σ M/\σ[5]? =aa (aa<|.int<|0+(j:Int))/\b j k=ag,rt:=λv M=>b j k=af/\Q v M})(i:∀σ M,F σ M->5<σ.length)(B:∀σ M,F σ M->((List.range G.length).any λg=>(List.range s).any λk=>b g k)=ag->q.nx σ M)(o:∀v M,Q v M->((List.range G.length).any λg=>(List.range s).any λk=>b g k)=af->q.rt v M): (bz (cc<|av aZ<|ak (aj 0) aq) (az 5) (bz (dZ (eC<|.int 1)<|ao bG (aj 3)<|eC<|.int 1) (az 6) a) σ M).Sat q:=by
 refine tU (lo:=0) (n:=G.length) (M1:=M) (FO 0 (w.mono (m σ M h0).1) (m σ M h0).2 l) F (λg=>(List.range s).any λk=>b g k) Q h0 ?_ B o;intro j σ M p c;obtain⟨r,A⟩:=f σ M (.int<|0+(j:Int)) c;have t:(σ.set 5<|aa<|.int<|0+(j:Int))[5]? =aa (aa<|.int<|0+(j:Int)):=by rw[UH<|i σ M c]
 refine tU (lo:=1) (n:=s) (M1:=M) (FP 3 A e) (λσ M=>F σ M/\σ[5]? =aa (aa<|.int<|0+(j:Int))) (λk=>b j k) Q ⟨r,t⟩ ?_ ?_ ?_
 ·rintro k σ M C ⟨c,hg⟩;refine RS.Sat.mono (u j k σ M p C c hg) (λσ M h=>⟨⟨h.1,h.2.1⟩,h.2.2⟩) (λv M h=>h) (λ_ _ z=>z)<|λσ M h=>⟨⟨h.1,h.2.1⟩,h.2.2⟩
 ·rintro σ M ⟨c,_⟩ d;exact⟨c,d⟩
 ·intro v M y d;exact⟨d,y⟩
noncomputable def FF(vG vs vT:W)(s:Nat)(M0:Mem)(σ:St)(M:Mem):Prop:=(∃x y z,σ=[aa vG,aa vs,aa vT,aa<|.int s,x,y,z])/\M0<+:M
def Dp(M:Mem)(vG vs vT:W)(G:List<|List Int)(ss:List Int)(T:List<|List Int)(s:Nat)(A:LL M vG G)(E:aX M vs ss)(H:LL M vT T)(S:T.length=ss.length)(h:∀g∈G,g.length<=9/\∀i∈g,0<=i/\i<(ss.length:Int))(P:ss.length<=81)(Y:G.length<=27)(B:s<=9):
 ∃a,lO fk fm [vG,vs,vT,.int s] M=.ok (.bl<|eh G ss T s) a/\M<+:a:=by
 have t:∃r a,lO fk fm [vG,vs,vT,.int s] M=.ok r a/\(r=.bl (eh G ss T s)/\M<+:a):=by
  refine bJ rfl ?_;show(au _ _ [aa vG,aa vs,aa vT,aa<|.int s,ae,ae,ae] M).Sat _;refine aD ?_;refine tU (lo:=0) (n:=ss.length) (M1:=M) (Hy 1 E rfl<|by omega) (FF vG vs vT s M) (λ(p:Nat)=>ai<|(T.getD p []).length=1) (λv a=>v=.bl af/\M<+:a) ⟨⟨_,_,_,rfl⟩,dc _⟩ ?_ ?_ ?_
  ·rintro j f a K ⟨⟨x,y,z,rfl⟩,p⟩;simp only[T_,T9];have C:(0:Int)+(j:Int)=(j:Int):=by omega
   rw[C];obtain⟨w,X,m⟩:=gk (H.mono p) (i:=(j:Int)) (by omega)<|by omega
   rw[UA] at m;refine aJ (c:=ai<|(T.getD j []).length=1) (M1:=a) ?_ (λb=>?_) λb=>?_
   ·refine aU (aP (x:=.int (T.getD j []).length) (y:=.int 1) (M1:=a) (M2:=a) (mv (aP (x:=vT) (y:=.int j) (M1:=a) (M2:=a) rfl rfl X) m) rfl ?_);rw[eq_int];congr 2;rw[UW,UC,UC];omega
   ·exact aV rfl ⟨b,rfl,p⟩
   ·exact⟨⟨⟨_,_,_,rfl⟩,p⟩,b⟩
  ·rintro f a ⟨⟨x,y,z,rfl⟩,p⟩ ha;dsimp only;refine aD ?_;refine Es (vG:=vG) (G:=G) (s:=s) (λg k=>my G ss T s g k) (FF vG vs vT s M) (λv a=>v=.bl af/\M<+:a) A (by omega) B ?_ ?_ ⟨⟨_,_,_,rfl⟩,p⟩ ?_ ?_ ?_ ?_ ?_
   ·rintro f N ⟨⟨x,y,z,rfl⟩,q⟩;exact⟨q,rfl⟩
   ·rintro f N u ⟨⟨x,y,z,rfl⟩,q⟩;exact⟨⟨⟨_,_,_,rfl⟩,q⟩,rfl⟩
   ·rintro f N j ⟨⟨x,y,z,rfl⟩,q⟩ _ rfl;exact⟨⟨_,_,_,rfl⟩,q⟩
   ·rintro j k f N K hk ⟨⟨x,y,z,rfl⟩,q⟩ h5;have V:y=aa (.int<|0+(j:Int)):=Ug h5;subst V;simp only[T_,T9];have C:(0:Int)+(j:Int)=(j:Int):=by omega
    have O:(1:Int)+(k:Int)=(k:Int)+1:=by omega
    rw[C,O];obtain⟨l,R,D⟩:=uv N vG vs G ss j ((k:Int)+1) s (A.mono q) (aF.mono E q) h;refine aJ (c:=dY G ss (j:Int) ((k:Int)+1) s) (M1:=l) (aU<|mI rfl rfl rfl rfl rfl R) (λb=>?_) λb=>?_
    ·have o:=q.trans D;obtain⟨I,J,Z,n1⟩:=oh b;have F:=mem_getD I J;have L:=uu l vG vT G T j ((k:Int)+1) (A.mono o) (H.mono o) I J (λi U=>by rw[S];exact(h _ F).2 i U) (h _ F).1;have Q:aX (l++[.lst<|(bU G T (j:Int)<|(k)+1).map .int]) (.ref l.length) (bU G T (j)<|(k)+1):=aF.new _ _;refine aJ (c:=ai<|(bU G T (j)<|(k)+1).length=1) (M1:=l++[.lst<|(bU G T (j)<|(k)+1).map .int]) ?_ (λd=>?_) λd=>?_
     ·refine aU (aP (mv (mJ rfl rfl rfl rfl L) Q) rfl ?_);rw[eq_int];congr 2;rw[UW,UC,UC];omega
     ·exact aV rfl ⟨by unfold my;rw[b,d];rfl,rfl,o.trans<|pre_app _ _⟩
     ·exact⟨⟨⟨_,_,_,rfl⟩,o.trans<|pre_app _ _⟩,rfl,by unfold my;rw[d,VQ]⟩
    ·exact⟨⟨⟨_,_,_,rfl⟩,q.trans D⟩,rfl,by unfold my;rw[b,Vi]⟩
   ·rintro f N ⟨⟨x,y,z,rfl⟩,q⟩;show 5<7;decide
   ·rintro f N ⟨⟨x,y,z,rfl⟩,q⟩ hb;dsimp only;refine aV rfl ⟨?_,q⟩;unfold eh;rw[ha,hb];rfl
   ·rintro v N ⟨rfl,q⟩ hb;refine⟨?_,q⟩;unfold eh;rw[hb,Bool.or_true]
  ·rintro v a ⟨rfl,q⟩ ha;refine⟨?_,q⟩;unfold eh;rw[ha,VR]
 obtain⟨r,a,e,rfl,p⟩:=t;exact⟨a,e,p⟩
def ot(f:a σ M=.ok x M)(d:b σ M=.ok y M)(e:c σ M=.ok z M):bI (ak a<|ak b<|ak c aq) σ M=.ok (.ref M.length) (M++[.tup [x,y,z]]):=by unfold bI ak aq;simp only[f,d,e,R.bind];exact gX (by show 3<=16777216;decide)
end
end LV
namespace VM
def Hz(he:e σ M=.ok v M1)(n:aI M1 v xs)(P:Nat->St->Mem->Prop)(s:P 0 σ M1)(l:∀(j) σ M,j<=xs.length->P j σ M->aI M v xs)(m:∀(j) x σ M,xs[j]? =aa x->P j σ M->(body (σ.set k<|aa x) M).Sat {nx:=P (j+1),ct:=P (j+1),bk:=q.nx,rt:=q.rt})(hd:∀σ M,P xs.length σ M->q.nx σ M):(bz (a9 e) (az k) body σ M).Sat q:=by
 obtain⟨a,rfl,t⟩:=n;have o:a9 e σ M=.ok (xs.map .val,[(a,.tup xs)]) M1:=by unfold a9;rw[he];simp only[R.bind,t]
 have f:(xs.map Src.val).length=xs.length:=by simp
 have i:∀{j:Nat} {σ:St} {M:Mem},j<=xs.length->P j σ M->bN.ok [(a,O.tup xs)] M=af:=λ{j σ M} h c=>by obtain⟨b,p,r⟩:=l j σ M h c;cases p;simp[bN.ok,r]
 refine oB o P s (λj x σ M d c=>?_) λσ M c=>?_
 ·have h:j<xs.length:=by rw[<-f];exact(Ub.mp d).1
  rw[U7] at d;cases g:xs[j]? with
  |none=>rw[g] at d;cases d
  |some w=>rw[g] at d;have ex:=(Ug d).symm;subst ex;exact⟨i (by omega) c,_,M,_,M,rfl,rfl,m j w σ M g c⟩
 ·rw[f] at c;exact⟨i (Uc _) c,hd σ M c⟩
end VM
namespace LV
open VM
def is_tup(h:aI M v ws)(i)(b:aj i σ=λM=>.ok v M):tB (bt [.tuple]<|aj i) σ M=.ok af M:=by obtain⟨a,rfl,c⟩:=h;refine aU ?_;unfold bt;rw[b];simp only[R.bind,cW,cD,c];rfl
def JS(h:aF M v ws)(i)(b:aj i σ=λM=>.ok v M):tB (bt [.list]<|aj i) σ M=.ok af M:=by obtain⟨a,rfl,c⟩:=h;refine aU ?_;unfold bt;rw[b];simp only[R.bind,cW,cD,c];rfl
def iE(h:aI M v ws)(i)(a:aj i σ=λM=>.ok v M):av aZ (ak (aj i) aq) σ M=.ok (.int ws.length) M:=by unfold av ak aq;rw[a];simp only[R.bind];unfold aZ;simp only[h.bu]
def zV(h:aI M v ws)(i)(c:aj i σ=λM=>.ok v M)(b:ws[0]? =aa (.str a)):tB (bt [.str]<|ao ax (aj i)<|eC<|.int 0) σ M=.ok af M:=by refine aU ?_;unfold bt;rw[cI i 0 h c b];rfl
def qf{M:Mem}{v:W}{ws:List W}{a:List Nat}{σ:St}{n:Int}(h:aI M v ws)(i:Nat)(b:aj i σ=λM=>.ok v M)(c:ws[0]? =aa (.str a))(d:n<=(ws.length:Int)):
 bg (bB<|tB<|bt [.tuple]<|aj i) (bg (tB<|ao oLt (av aZ<|ak (aj i) aq)<|eC<|.int n)<|bB<|tB<|bt [.str]<|ao ax (aj i)<|eC<|.int 0) σ M=.ok ag M:=by
 unfold bg;rw[c_<|is_tup h i b];simp only[R.bind];rw[aU<|aP (y:=.int n) (M2:=M) (iE h i b) rfl lt_int];simp only[R.bind];rw[c_<|zV h i b c,Uy<|by omega];rfl
def qg{q:ay}{M:Mem}{v:W}{x:W}{rs:List W}{σ:St}{x1:Option W}{c:SM}(h:aI M v<|x::rs)(f:rs.length<=100)(d:σ=[aa v,x1])(l:∀(r:W) (b:Mem),r∈rs->M<+:b->(c [aa v,aa r] b).Sat {nx:=λσ N=>σ=[aa v,aa r]/\N=b,rt:=λ_ _=>False})(hd:∀σ b,(∃y,σ=[aa v,y])->M<+:b->q.nx σ b):(bz (a9<|iu (aj 0) (gg<|eC<|.int 1) j3) (az 1) c σ M).Sat q:=by
 subst d;obtain⟨a,rfl,g⟩:=h;have k:VM.cut (x::rs) (aa 1) ae=rs:=by unfold VM.cut bh;simp
 have e:iu (aj 0) (gg<|eC<|.int 1) j3 [aa<|.ref a,x1] M=.ok (.ref M.length) (M++[.tup rs]):=by
  unfold iu gg j3 aj eC;simp only[Uj,R.bind];unfold rm;have m:VM.a8 M (.ref a)=ae:=by simp only[VM.a8,g]
  have n:VM.cm M (.ref a)=aa (x::rs):=by simp only[VM.cm,g]
  rw[m,n];simp only[k];rw[T6]
  ·exact gX<|by omega
  ·unfold bh;simp
 refine Hz e (aI.new _ _) (λj σ b=>(∃y,σ=[aa<|.ref a,y])/\b=M++[.tup rs]) ⟨⟨_,rfl⟩,rfl⟩ (λj σ b _ ⟨_,e⟩=>by rw[e];exact aI.new _ _) ?_ ?_
 ·rintro j r σ b i ⟨⟨y,rfl⟩,rfl⟩;refine RS.Sat.mono (l r _ (U8 i)<|pre_app _ _) (λσ N h=>⟨⟨_,h.1⟩,h.2⟩) (λ_ _ z=>z.elim) (λ_ _ z=>z.elim)<|λ_ _ z=>z.elim
 ·rintro σ b ⟨hy,rfl⟩;exact hd _ _ hy<|pre_app _ _
def pU:((aM (bB<|tB<|av cC<|ak (aj 1) aq) (aK<|eC<|.bl ag) aO:SM) [aa v,aa<|.int i] M).Sat {nx:=λσ N=>σ=[aa v,aa<|.int i]/\N=M,rt:=λ_ _=>False}:=by
 refine aJ (c:=ag) (M1:=M) ?_ (λz=>nomatch z) λ_=>?_
 ·exact c_<|aU (b:=af) (by unfold av ak aq;exact qa i M)
 ·exact⟨rfl,rfl⟩
def Et(M:Mem)(v:W)(st:ee)(h:jg M v st):∃a,jH cC [v] M=.ok (.bl af) a/\M<+:a:=by
 have f:∃r a,jH cC [v] M=.ok r a/\(r=.bl af/\M<+:a):=by
  refine bJ rfl ?_;show(au _ _ [aa v,ae] M).Sat _;cases st with
  |fld p n=>
   refine aD<|aJ (qf h 0 rfl rfl (by show(3:Int)<=((3:Nat):Int);decide)) (λz=>nomatch z) λ_=>?_
   refine bf ?_;dsimp only;refine aD<|qg (x:=oF) h (by show 2<=100;decide) rfl (λr a c _=>?_) λi a d q=>?_
   ·simp only[T7,Ud,Ue] at c;rcases c with rfl|rfl<;>exact pU
   ·obtain⟨y,rfl⟩:=d;have b:=h.mono q;refine aD<|aJ (aU<|fI 0 _ b rfl rfl) (λ_=>?_) λz=>nomatch z
    refine aV (aP (iE b 0 rfl) rfl ?_) ⟨rfl,q⟩;rw[eq_int];rfl
  |c9 p n g=>
   refine aD<|aJ (qf h 0 rfl rfl (by show(3)<=((4):Int);decide)) (λz=>nomatch z) λ_=>?_
   refine bf ?_;refine aD<|qg h (by show 3<=100;decide) rfl (λr a c _=>?_) λi a d q=>?_
   ·simp only[T7,Ud,Ue] at c;rcases c with rfl|rfl|rfl<;>exact pU
   ·obtain⟨y,rfl⟩:=d;have b:=h.mono q;refine aD<|aJ (aU<|fI 0 _ b rfl rfl) (λz=>nomatch z) λ_=>?_
    refine bf ?_;refine aV ?_ ⟨rfl,q⟩;unfold eZ;rw[fI 0 _ b rfl rfl];simp only[R.bind];refine aP (iE b 0 rfl) rfl ?_;rw[eq_int];rfl
 obtain⟨r,a,e,rfl,p⟩:=f;exact⟨a,e,p⟩
noncomputable def fR(M:Mem)(v:W)(a:List ee):Prop:=∃b,aF M v b/\a_ (λw c=>jg M w c) b a
def fR.mono(h:fR M v fi)(p:M<+:M'):fR M' v fi:=by obtain⟨a,c,b⟩:=h;exact⟨a,c.mono p,b.imp λ_ _ q=>aI.mono q p⟩
def Dq(M)(v)(fi)(h:fR M v fi):∃a,lP (jH cC) [v] M=.ok (.bl af) a/\M<+:a:=by
 have f:∃r a,lP (jH cC) [v] M=.ok r a/\(r=.bl af/\M<+:a):=by
  refine bJ rfl ?_;obtain⟨o,g,l⟩:=h;refine aD<|aJ (c_<|JS g 0 rfl) (λz=>nomatch z) λ_=>?_
  refine bf ?_;refine aD ?_;refine dS rfl g (λj c a=>(∃y,c=[aa v,y])/\M<+:a) ⟨⟨_,rfl⟩,dc _⟩ (λj c a _ ⟨_,p⟩=>g.mono p) ?_ ?_
  ·rintro j x c a i ⟨⟨y,rfl⟩,p⟩;obtain⟨k,_,d⟩:=l.at i;obtain⟨M2,m,n⟩:=Et a x k<|aI.mono d p;refine aJ (c_ (aU (b:=af) (by walk_at "ev";exact m))) (λz=>nomatch z) λ_=>?_
   exact⟨⟨_,rfl⟩,p.trans n⟩
  ·rintro c a ⟨⟨y,rfl⟩,p⟩;dsimp only;exact aV rfl ⟨rfl,p⟩
 obtain⟨r,a,e,rfl,p⟩:=f;exact⟨a,e,p⟩
def xE(M:Mem)(v:W)(a:List Nat)(g n:Int)(h:aI M v [.str a,.int g,.int n])(o:a≠[102,105,101,108,100])(j:a=[103,114,111,117,112]\/a=[116,119,105,99,101]):∃r b,iC cC [v] M=.ok r b/\(r=.bl af/\M<+:b):=by
 refine bJ rfl ?_;show(au _ _ [aa v,ae] M).Sat _;refine aD<|aJ (qf h 0 rfl rfl (by show(2:Int)<=((3:Nat):Int);decide)) (λz=>nomatch z) λ_=>?_
 refine bf ?_;dsimp only;refine aD<|qg (x:=.str a) (rs:=[.int g,.int n]) h (by show 2<=100;decide) rfl (λr b f _=>?_) λm b l q=>?_
 ·simp only[T7,Ud,Ue] at f;rcases f with rfl|rfl<;>exact pU
 ·obtain⟨y,rfl⟩:=l;dsimp only;have d:=h.mono q;have i:=aU<|fI (σ:=[aa v,y]) 0 [102,105,101,108,100] d rfl rfl;rw[Uy o] at i;refine aD<|aJ (c:=ag) i (λz=>nomatch z) λ_=>?_
  refine bf ?_;have k:aR (ak (eC hU)<|ak (eC kW) aq) [aa v,y] b=.ok (.ref b.length) (b++[.lst [hU,kW]]):=by unfold aR ak aq eC;simp only[R.bind];exact bT<|by decide
  have L:=aF.new b [hU,kW];have e:dP (.str a) (.ref b.length) (b++[.lst [hU,kW]])=.ok (.bl af) (b++[.lst [hU,kW]]):=by unfold dP;rw[L.bu];rcases j with rfl|rfl<;>rfl
  refine aV (M1:=b++[.lst [hU,kW]]) ?_ ⟨rfl,q.trans<|pre_app _ _⟩;unfold eZ;rw[aP (cI 0 0 d rfl rfl) k e];simp only[R.bind];refine aP (iE (d.mono<|pre_app _ _) 0 rfl) rfl ?_;rw[eq_int];rfl
def DK(M)(v)(c)(h:ic M v c):∃a,iC cC [v] M=.ok (.bl af) a/\M<+:a:=by
 have b:∃r a,iC cC [v] M=.ok r a/\(r=.bl af/\M<+:a):=by
  cases c with
  |fld p=>
   refine bJ rfl ?_;refine aD<|aJ (qf h 0 rfl rfl (by show(2)<=((2):Int);decide)) (λz=>nomatch z) λ_=>?_
   refine bf ?_;refine aD<|qg h (by show 1<=100;decide) rfl (λr a d _=>?_) λj a i q=>?_
   ·simp only[T7,Ud,Ue] at d;subst d;exact pU
   ·obtain⟨y,rfl⟩:=i;have f:=h.mono q;refine aD<|aJ (aU<|fI 0 _ f rfl rfl) (λ_=>?_) λz=>nomatch z
    refine aV (aP (iE f 0 rfl) rfl ?_) ⟨rfl,q⟩;rw[eq_int];rfl
  |c9 g n=>exact xE M v _ g n h (by decide)<|.inl rfl
  |i2 g n=>exact xE M v _ g n h (by decide)<|.inr rfl
 obtain⟨r,a,e,rfl,p⟩:=b;exact⟨a,e,p⟩
noncomputable def eS(n:Int)(T:List<|List Int)(q:Int):List (List Int):=T.set q.toNat<|(T.getD q.toNat []).filter λm=>!ai (m=n)
noncomputable def d8(p n:Int)(T:List<|List Int)(g:List Int):List (List Int):=if g.any (·==p) then g.foldl (eS n) T else T
noncomputable def j7(G T:List<|List Int)(p n:Int):List (List Int):=G.foldl (d8 p n)<|T.set p.toNat []
def HA(n)(T)(q):(eS n T q).length=T.length:=by simp[eS]
theorem uB(n):∀(a:List Int) (T),(a.foldl (eS n) T).length=T.length
 |[],_=>rfl
 |q::r,T=>by rw[Wf,uB n r,HA]
def FQ(p n)(T)(g):(d8 p n T g).length=T.length:=by
 unfold d8;split
 ·exact uB n g T
 ·rfl
theorem ud(p n):∀(G T:List<|List Int),(G.foldl (d8 p n) T).length=T.length
 |[],_=>rfl
 |g::r,T=>by rw[Wf,ud p n r,FQ]
def qm(T:List α)(q i)(x d):(T.set q x).getD i d=if i=q/\q<T.length then x else T.getD i d:=by
 by_cases h:i=q
 ·subst h;by_cases a:i<T.length
  ·simp[List.getD,a]
  ·simp[List.getD,a]
 ·have:¬q=i:=λe=>h e.symm
  simp[List.getD,List.getElem?_set,this,h]
def FR(n)(T)(q)(i):(eS n T q).getD i []=if i=q.toNat then(T.getD i []).filter (λm=>!ai (m=n)) else T.getD i []:=by
 unfold eS;rw[qm];by_cases h:i=q.toNat
 ·subst h;by_cases a:q.toNat<T.length
  ·simp[a]
  ·have:T.getD q.toNat []=[]:=by simp[List.getD,a]
   simp[a,this]
 ·simp[h]
def xQ(l:List Int)(n):(l.filter λm=>!ai (m=n)).filter (λm=>!ai (m=n))=l.filter λm=>!ai (m=n):=by rw[Xw];congr 1;funext m;simp
theorem yk(n)(i):∀(a:List Int) (T),(a.foldl (eS n) T).getD i []=if(a.any λq=>ai<|i=q.toNat)=af then(T.getD i []).filter (λm=>!ai (m=n)) else T.getD i []
 |[],T=>by simp
 |q::r,T=>by
  rw[Wf,yk n i r,FR,U3];by_cases h:i=q.toNat
  ·simp only[h,V7,VR,Uv];split
   ·exact xQ _ _
   ·rfl
  ·simp only[h,WI,Vs,U2]
noncomputable def iM(G:List<|List Int)(p:Int)(i:Nat):Bool:=G.any λg=>g.any (·==p)&&g.any λq=>ai<|i=q.toNat
theorem tY(p n)(i):∀(G T),(G.foldl (d8 p n) T).getD i []=if iM G p i=af then(T.getD i []).filter (λm=>!ai (m=n)) else T.getD i []
 |[],T=>by simp[iM]
 |g::r,T=>by
  rw[Wf,tY p n i r];have e:(d8 p n T g).getD i []=if(g.any (·==p)&&g.any λq=>ai<|i=q.toNat)=af then(T.getD i []).filter (λm=>!ai (m=n)) else T.getD i []:=by
   unfold d8;by_cases h:g.any (·==p)=af
   ·rw[T5 h,yk,h,Vg]
   ·rw[T6 h];have:g.any (·==p)=ag:=by cases e:g.any (·==p) with|true=>exact absurd e h|false=>rfl
    rw[this,Vi];simp
  rw[e];unfold iM;rw[U3];by_cases b:(g.any (·==p)&&g.any λq=>ai<|i=q.toNat)=af
  ·simp only[b,Uv,VR];split
   ·exact xQ _ _
   ·rfl
  ·have a:(g.any (·==p)&&g.any λq=>ai<|i=q.toNat)=ag:=by cases e:(g.any (·==p)&&g.any λq=>ai<|i=q.toNat) with|true=>exact absurd e b|false=>rfl
   simp only[a,Vs,Vc,U2]
def gc(ss)(p i)(x)(c:0<=p)(a:p<(ss.length:Int))(b:0<=i):aw (ss.set p.toNat x) i=if i=p then x else aw ss i:=by
 unfold aw;rw[qm];by_cases h:i=p
 ·subst h;have:i.toNat<ss.length:=by omega
  simp[this]
 ·have:¬i.toNat=p.toNat:=by omega
  simp[h,this]
def HB(o:0<=p)(k:p<(ss.length:Int))(v:aw ss p=0)(l:∀g∈G,∀i∈g,0<=i/\i<(ss.length:Int))(i:Nat)(u:(i)≠p)(m)(w:1<=m):
 c7 G (ss.set p.toNat n) i m=(c7 G ss i m||(iM G p i&&ai (m=n))):=by
 have j:∀g∈G,fz (ss.set p.toNat n) g i m=(fz ss g i m||((g.any (·==p)&&g.any λq=>ai<|i=q.toNat)&&ai (m=n))):=by
  intro g d;have t:(g.any λq=>ai<|i=q.toNat)=g.any (·==(i)):=by
   rw[UW,Ui,Ui];constructor
   ·rintro⟨q,h,e⟩;have:=l g d q h;refine⟨q,h,?_⟩;have:=UM e;simp;omega
   ·rintro⟨q,h,e⟩;refine⟨q,h,?_⟩;simp at e;subst e;simp
  unfold fz;rw[t,UW];simp only[T',VB,Ui,UB,UZ,UC,U',exists_eq_right];constructor
  ·rintro⟨a,q,h,r,e⟩;have s:=l g d q h;rw[gc ss p q n o k s.1] at e;by_cases c:q=p
   ·subst c;rw[T5 rfl] at e;exact .inr ⟨⟨h,a⟩,e.symm⟩
   ·rw[T6 c] at e;exact .inl ⟨a,q,h,r,e⟩
  ·rintro(⟨a,q,h,r,e⟩|⟨⟨a,b⟩,e⟩)
   ·have s:=l g d q h;refine⟨a,q,h,r,?_⟩;rw[gc ss p q n o k s.1];by_cases c:q=p
    ·subst c;rw[v] at e;omega
    ·rw[T6 c];exact e
   ·refine⟨b,p,a,λz=>u z.symm,?_⟩;rw[gc ss p p n o k o,T5 rfl,e]
 unfold c7 iM;rw[UW];simp only[Ui,VB,T',UC];constructor
 ·rintro⟨g,d,e⟩;rw[j g d] at e;simp only[VB,T',UC,Ui] at e;rcases e with e|⟨e,f⟩
  ·exact .inl ⟨g,d,e⟩
  ·exact .inr ⟨⟨g,d,e⟩,f⟩
 ·rintro(⟨g,d,e⟩|⟨⟨g,d,e⟩,f⟩)
  ·refine⟨g,d,?_⟩;rw[j g d,e,VR]
  ·refine⟨g,d,?_⟩;rw[j g d];simp only[VB,T',UC,Ui];exact .inr ⟨e,f⟩
def mm(h:m∈nums s):1<=m/\m<=(s):=by obtain⟨k,a,rfl⟩:=Um.mp h;rw[UD] at a;omega
def eP(G)(ss)(s i)(a:i<ss.length):(tabOf G ss s).getD i []=rowOf G ss s i:=by unfold tabOf;simp[List.getD,a]
def uX{G:List (List Int)}{ss:List Int}{s:Nat}{p n:Int}(f:0<=p)(a:p<(ss.length:Int))(t:aw ss p=0)(v:n≠0)(e:∀g∈G,∀i∈g,0<=i/\i<(ss.length:Int)):
 j7 G (tabOf G ss s) p n=tabOf G (ss.set p.toNat n) s:=by
 apply List.ext_getElem
 ·unfold j7;rw[ud,Va,gZ,gZ,Va]
 ·intro i j b;have h:i<ss.length:=by rw[gZ,Va] at b;exact b
  have k:(j7 G (tabOf G ss s) p n)[i]=(j7 G (tabOf G ss s) p n).getD i []:=by simp[List.getD,j]
  have r:(tabOf G (ss.set p.toNat n) s)[i]=(tabOf G (ss.set p.toNat n) s).getD i []:=by simp[List.getD,b]
  rw[k,r,eP _ _ _ _ (by rw[Va];exact h)];unfold j7;rw[tY,qm,gZ];by_cases c:(i:Int)=p
  ·have d:i=p.toNat:=by omega
   have:i=p.toNat/\p.toNat<ss.length:=⟨d,by omega⟩;rw[T5 this];have o:rowOf G (ss.set p.toNat n) s i=[]:=by unfold rowOf;rw[Wl];intro m _;rw[gc ss p i n f a<|by omega,T5 c];simp[v]
   rw[o];simp
  ·have d:¬(i=p.toNat/\p.toNat<ss.length):=by omega
   rw[T6 d,eP _ _ _ _ h];have l:∀m∈nums s,(ai (aw (ss.set p.toNat n) i=0)&& !c7 G (ss.set p.toNat n) i m)=((ai (aw ss i=0)&& !c7 G ss i m)&& !(iM G p i&&ai (m=n))):=by intro m u;rw[gc ss p i n f a<|by omega,T6 c,HB f a t e i c m (mm u).1];cases ai (aw ss i=0)<;>cases c7 G ss i m<;>simp
   have q:rowOf G (ss.set p.toNat n) s i=(nums s).filter λm=>(ai (aw ss i=0)&& !c7 G ss i m)&& !(iM G p i&&ai (m=n)):=by unfold rowOf;exact Xv l
   rw[q];unfold rowOf;cases w:iM G p i with
   |true=>simp only[Uv,Vg];rw[Xw];congr 1;funext m;rw[Bool.and_comm]
   |false=>simp
noncomputable def aH(X:List Nat)(M a:Mem):Prop:=M.length<=a.length/\∀c,c<M.length->c∉X->a[c]? =M[c]?
def aH.refl(X)(M):aH X M M:=⟨Uc _,λ_ _ _=>rfl⟩
def aH.trans(h:aH X M M')(h':aH X M' NS):aH X M NS:=⟨Uh h.1 h'.1,λc a b=>(h'.2 c (Up a h.1) b).trans<|h.2 c a b⟩
def aH.ck(p:M<+:M'):aH X M M':=by obtain⟨r,rfl⟩:=p;refine⟨by simp,λc a _=>?_⟩;rw[U6 a]
def aH.mono(h:aH X M M')(d:∀x∈X,x∈Y):aH Y M M':=⟨h.1,λc a e=>h.2 c a λb=>e<|d c b⟩
def aH.set(o)(d:a∈X):aH X M (M.set a o):=by refine⟨by simp,λc e b=>?_⟩;rw[UG];rintro rfl;exact b d
def aH.get(h:aH X M M')(e:M[c]? =aa o)(a:c∉X):M'[c]? =aa o:=by rw[h.2 c (Ub.mp e).1 a];exact e
def aH.base{X:List Nat}{N M a:Mem}(h:aH X M a)(p:N<+:M)(d:∀x∈X,N.length<=x):N<+:a:=by
 rw[List.prefix_iff_eq_take];have g:N.length<=a.length:=by have:=p.length_le;exact Uh this h.1
 apply List.ext_getElem?;intro c;by_cases b:c<N.length
 ·obtain⟨r,rfl⟩:=p;rw[XM b,h.2 c (by rw[Us];omega) (λz=>by have:=d c z;omega),U6 b]
 ·have e:N[c]? =ae:=Xx (by omega);have f:(a.take N.length)[c]? =ae:=Xx (by rw[VH];omega);rw[e,f]
noncomputable def fM(X:List Nat)(M:Mem)(ws:List W)(T:List<|List Int):Prop:=a_ (λw r=>∃c,w=W.ref c/\c∉X/\M[c]? =aa (O.lst<|r.map .int)) ws T
def fM.keep(h:fM X M ws T)(k:aH Y M M')(b:∀y∈Y,y∈X):fM X M' ws T:=h.imp λw r ⟨c,e,a,q⟩=>⟨c,e,a,k.get q λz=>a<|b c z⟩
noncomputable def TabAt(X:List Nat)(M:Mem)(b:Nat)(T:List<|List Int):Prop:=∃a,M[b]? =aa (.lst a)/\fM X M a T
def TabAt.ll(h:TabAt X M b T):LL M (.ref b) T:=by obtain⟨a,d,f⟩:=h;exact⟨a,⟨b,rfl,d⟩,f.imp λw r ⟨c,e,_,q⟩=>⟨c,e,q⟩⟩
theorem a_.vW{R:α->β->Prop}(r:R x y):∀{l:List α} {m:List β} (i),a_ R l m->a_ R (l.set i x) (m.set i y)
 |_,_,_,.nil=>.nil
 |_,_,0,.cons _ t=>.cons r t
 |_,_,i+1,.cons q t=>.cons q<|a_.vW r i t
def JT{X:List Nat}{M:Mem}{σ:St}{b:Nat}{T:List (List Int)}{q n:Int}{e2 e6:EM}{k4:Nat}(K:TabAt X M b T)(C:b∈X)(t:∀x∈X,x<M.length)(D:0<=q)(P:q<(T.length:Int))(F:(T.getD q.toNat []).length<=9)(A:∀a,e2 σ a=.ok (.ref b) a)(B:∀a,e6 σ a=.ok (.int q) a)(v:∀x a,aj 7 ((σ++[ae]).set 7<|aa x) a=.ok x a)(L:∀x a,aj k4 ((σ++[ae]).set 7<|aa x) a=.ok (.int n) a):
 ∃a,aN (bE 1 [] (a9<|ao ax e2 e6) (az 7) (tB<|ao bp (aj 7)<|aj k4)<|aj 7) (eE e2 e6) σ M=.nx σ a/\aH [b] M a/\TabAt X a b (eS n T q):=by
 obtain⟨h,E,r⟩:=K;have u:=r.len;have s:T[q.toNat]? =aa (T.getD q.toNat []):=by
  have:q.toNat<T.length:=by omega
  simp[List.getD,this]
 obtain⟨w,N,c,rfl,Q,f⟩:=r.at' s;generalize T.getD q.toNat []=row at s f F;have p:cA h q=aa (.ref c):=by unfold cA cq;rw[T5 D,T5<|by omega];exact N
 have l:ao ax e2 e6 σ M=.ok (.ref c) M:=aP (A M) (B M)<|by simp only[ax,jK E,p]
 have J:a9 (ao ax e2 e6) σ M=.ok ((row.map W.int).map .val,[(c,.lst<|row.map .int)]) M:=by unfold a9;rw[l];simp only[R.bind,f]
 have d:bE 1 [] (a9<|ao ax e2 e6) (az 7) (tB<|ao bp (aj 7)<|aj k4) (aj 7) σ M=.ok (.ref M.length) (M++[.lst<|(row.filter λm=>!ai (m=n)).map .int]):=by
  unfold bE;rw[J];simp only[R.bind,R.gL,dE,VJ,Vw,VL];rw[gz (σ:=σ++[ae]) (λx=>match x with|.int i=>!ai (i=n)|_=>ag) (λx=>x) _ _ _ (λ_=>rfl) (by simp[bN.ok,f]) ?_]
  ·have G:(row.map W.int).filter (λx=>match x with|.int i=>!ai (i=n)|_=>ag)=(row.filter λm=>!ai (m=n)).map .int:=by rw[Wi];rfl
   rw[G];simp only[UJ,List.map_id'];exact bT (by rw[Ua];exact Uh (Vb _ _)<|by omega)
  ·intro x I;obtain⟨i,_,rfl⟩:=Um.mp I;exact⟨aU<|aP (v _ M) (L _ M) ne_int,λ_=>v _ M⟩
 generalize g:row.filter (λm=>!ai (m=n))=oZ at d;have H:b<M.length:=t b C;have o:(M++[O.lst<|oZ.map .int])[b]? =aa (.lst h):=aB (pre_app _ _) E;have j:cq h.length q=aa q.toNat:=by unfold cq;rw[T5 D,T5<|by omega]
 have k:eE e2 e6 (.ref M.length) σ (M++[O.lst<|oZ.map .int])=.ok σ ((M++[O.lst<|oZ.map .int]).set b<|O.lst<|h.set q.toNat<|.ref M.length):=by unfold eE;simp only[A,B,R.bind,gA o,j]
 have k1:aH [b] M ((M++[O.lst<|oZ.map .int]).set b<|O.lst<|h.set q.toNat<|.ref M.length):=(aH.ck<|pre_app _ _).trans<|aH.set _<|by simp
 refine⟨_,?_,k1,h.set q.toNat<|.ref M.length,?_,?_⟩
 ·unfold aN;rw[d];simp only[R.cz,k]
 ·rw[UH (by rw[Us];omega)]
 ·unfold eS;have e:(T.getD q.toNat []).filter (λm=>!ai (m=n))=oZ:=by rw[<-g,getD_at s]
  rw[e];refine a_.vW ⟨M.length,rfl,λz=>by have:=t _ z;omega,?_⟩ _<|r.keep k1 (by simp only[UN];rintro y rfl;exact C);rw[UG<|by omega];exact b8 _ _
noncomputable def HC(f:CM):Prop:=∀(X) (N M) (e) (a b) (G) (c:List Int) (T) (p n),N<+:M->LL N e G->N.length<=a->N.length<=b->a≠b->a∈X->b∈X->(∀x∈X,x<M.length)->
 M[a]? =aa (.lst<|c.map .int)->TabAt X M b T->T.length=c.length->(∀g∈G,∀i∈g,0<=i/\i<(c.length:Int))->(∀r∈T,r.length<=9)->0<=p->p<(c.length:Int)->
 ∃d,f [e,.ref a,.ref b,.int p,.int n] M=.ok .aA d/\aH [a,b] M d/\d[a]? =aa (.lst<|(c.set p.toNat n).map .int)/\TabAt X d b (j7 G T p n)
def FT(h:∀r∈T,r.length<=9):∀r∈eS n T q,r.length<=9:=by
 intro r a;unfold eS at a;rcases Wg a with z|z
 ·exact h r z
 ·subst z;refine Uh (Vb _ _) ?_;by_cases b:q.toNat<T.length
  ·have:T.getD q.toNat []∈T:=by simp[b]
   exact h _ this
  ·have:T.getD q.toNat []=[]:=by simp[b]
   rw[this];decide
theorem ue:∀(a:List Int) {T:List (List Int)},(∀r∈T,r.length<=9)->∀r∈a.foldl (eS n) T,r.length<=9
 |[],_,h=>h
 |q::r,_,h=>ue r<|FT h
def Eu(h:∀r∈T,r.length<=9):∀r∈d8 p n T g,r.length<=9:=by
 unfold d8;split
 ·exact ue g h
 ·exact h
theorem xR:∀(G:List<|List Int) {T:List (List Int)},(∀r∈T,r.length<=9)->∀r∈G.foldl (d8 p n) T,r.length<=9
 |[],_,h=>h
 |g::r,_,h=>xR r<|Eu h
def zW:HC jO:=by
 intro X N M t a b G l T p n I hG NT Y D J E R ha hT S eM C p0 p1;have key:∃r f,jO [t,.ref a,.ref b,.int p,.int n] M=.ok r f/\(r=.aA/\aH [a,b] M f/\f[a]? =aa (.lst<|(l.set p.toNat n).map .int)/\TabAt X f b (j7 G T p n)):=by
  refine bJ rfl ?_;show(au _ _ [aa t,aa<|.ref a,aa<|.ref b,aa<|.int p,aa<|.int n,ae,ae] M).Sat _;have NU:a<M.length:=R a J;have wy:b<M.length:=R b E;have kX:∀y∈[a,b],y∈X:=by
   intro y hy;simp only[T7,Ud,Ue] at hy;rcases hy with rfl|rfl
   ·exact J
   ·exact E
  have NV:cq (l.map W.int).length p=aa p.toNat:=by unfold cq;rw[T5 p0,Ua,T5 p1]
  refine aD (jN (v:=.int n) (M1:=M) (M2:=M.set a (O.lst ((l.set p.toNat n).map .int))) (bS:=[aa t,aa (.ref a),aa (.ref b),aa (.int p),aa (.int n),ae,ae]) rfl (by unfold eE;walk_at "ev";simp only[gA ha,NV,WJ]) ?_);dsimp only;have k1:aH [a,b] M (M.set a<|O.lst<|(l.set p.toNat n).map .int):=aH.set _<|by simp
  have a1:(M.set a<|O.lst<|(l.set p.toNat n).map .int)[a]? =aa (.lst<|(l.set p.toNat n).map .int):=UH NU;have T1:TabAt X (M.set a<|O.lst<|(l.set p.toNat n).map .int) b T:=by obtain⟨s,h1,h2⟩:=hT;exact⟨s,by rw[UG D];exact h1,h2.keep k1 kX⟩
  generalize BZ:M.set a (O.lst<|(l.set p.toNat n).map .int)=M1 at k1 a1 T1;have l1:M1.length=M.length:=by rw[<-BZ];simp
  obtain⟨s,NW,P⟩:=T1;have m_:=P.len;have g1:(M1++[O.lst []])[b]? =aa (.lst s):=aB (pre_app _ _) NW;have V:cq s.length p=aa p.toNat:=by unfold cq;rw[T5 p0,T5<|by omega]
  refine aD (jN (v:=.ref M1.length) (M1:=M1++[.lst []]) (M2:=(M1++[O.lst []]).set b (O.lst (s.set p.toNat (.ref M1.length)))) (bS:=[aa t,aa (.ref a),aa (.ref b),aa (.int p),aa (.int n),ae,ae]) rfl (by unfold eE;walk_at "ev";simp only[gA g1,V]) ?_);dsimp only;have k2:aH [a,b] M1 ((M1++[O.lst []]).set b<|O.lst<|s.set p.toNat<|.ref M1.length):=(aH.ck<|pre_app _ _).trans<|aH.set _<|by simp
  have a2:((M1++[O.lst []]).set b<|O.lst<|s.set p.toNat<|.ref M1.length)[a]? =aa (.lst<|(l.set p.toNat n).map .int):=by rw[UG D.symm];exact aB (pre_app _ _) a1
  have T2:TabAt X ((M1++[O.lst []]).set b<|O.lst<|s.set p.toNat<|.ref M1.length) b (T.set p.toNat []):=by refine⟨s.set p.toNat<|.ref M1.length,UH (by rw[Us];omega),?_⟩;refine a_.vW ⟨M1.length,rfl,λz=>by have:=R _ z;omega,?_⟩ _<|P.keep k2 kX;rw[UG<|by omega];exact b8 _ _
  generalize (M1++[O.lst []]).set b (O.lst<|s.set p.toNat<|.ref M1.length)=M2 at k2 a2 T2;have K2:=k1.trans k2;have o:∀x∈[a,b],N.length<=x:=by
   intro x F;simp only[T7,Ud,Ue] at F;rcases F with rfl|rfl
   ·exact NT
   ·exact Y
  have B:∀r∈T.set p.toNat [],r.length<=9:=by
   intro r hr;rcases Wg hr with z|z
   ·exact C r z
   ·subst z;decide
  have rN:∀f,aH [a,b] M f->LL f t G:=λf k=>hG.mono<|k.base I o
  obtain⟨gs,K,Q⟩:=hG;have H:=Q.len;refine dS (v:=t) (M1:=M2) (xs:=gs) rfl (K.mono<|K2.base I o) (λj m f=>(∃x y,m=[aa t,aa<|.ref a,aa<|.ref b,aa<|.int p,aa<|.int n,x,y])/\aH [a,b] M f/\f[a]? =aa (.lst<|(l.set p.toNat n).map .int)/\TabAt X f b ((G.take j).foldl (d8 p n)<|T.set p.toNat [])) ⟨⟨_,_,rfl⟩,K2,a2,T2⟩ (λj m f _ h=>K.mono<|h.2.1.base I o) ?_ ?_
  ·rintro j x m f F ⟨⟨y,z,rfl⟩,k,am,tm⟩;obtain⟨g,hg,u⟩:=Q.at F;have pk:=U8 hg;have A:aX f x g:=aF.mono u<|k.base I o;have tk:G.take (j+1)=G.take j++[g]:=by rw[Vy,hg];rfl
   simp only[T_,T9];have tl:((G.take j).foldl (d8 p n)<|T.set p.toNat []).length=l.length:=by rw[ud,Va,S]
   have tr:=xR (p:=p) (n:=n) (G.take j) B;rw[tk,We];show RS.Sat _ {nx:=λm d=>_/\aH [a,b] M d/\_/\TabAt X d b (d8 p n ((G.take j).foldl (d8 p n)<|T.set p.toNat []) g),rt:=_,bk:=_,ct:=λm d=>_/\aH [a,b] M d/\_/\TabAt X d b (d8 p n ((G.take j).foldl (d8 p n)<|T.set p.toNat []) g)};generalize (G.take j).foldl (d8 p n) (T.set p.toNat [])=T3 at tm tl tr;have hi:=oQ p A;refine aJ (c:=g.any (·==p)) (M1:=f) (aU<|aP (x:=.int p) (y:=x) (M1:=f) (M2:=f) rfl rfl hi) (λhc=>?_) λhc=>?_
   ·have U:d8 p n T3 g=g.foldl (eS n) T3:=T5 hc;rw[U];refine dS (v:=x) (M1:=f) (xs:=g.map .int) rfl A (λi m d=>(∃z,m=[aa t,aa<|.ref a,aa<|.ref b,aa<|.int p,aa<|.int n,aa x,z])/\aH [a,b] M d/\d[a]? =aa (.lst<|(l.set p.toNat n).map .int)/\TabAt X d b ((g.take i).foldl (eS n) T3)) ⟨⟨_,rfl⟩,k,am,tm⟩ (λi m d _ h=>aF.mono u<|h.2.1.base I o) ?_ ?_
    ·rintro i w m d hw ⟨⟨z,rfl⟩,k',wz,rO⟩;obtain⟨q,hq,rfl,Z⟩:=fZ hw;obtain⟨b0,b1⟩:=eM g pk q hq;have NX:g.take (i+1)=g.take i++[q]:=by rw[Vy,Z];rfl
     simp only[T_,T9];have Sf:((g.take i).foldl (eS n) T3).length=l.length:=by rw[uB,tl]
     have NY:=ue (n:=n) (g.take i) tr;have L:(((g.take i).foldl (eS n) T3).getD q.toNat []).length<=9:=by
      have:q.toNat<((g.take i).foldl (eS n) T3).length:=by omega
      refine NY _ ?_;simp[this]
     obtain⟨M3,e3,k3,t3⟩:=JT (σ:=[aa t,aa<|.ref a,aa<|.ref b,aa<|.int p,aa<|.int n,aa x,aa<|.int q]) (e2:=aj 2) (e6:=aj 6) (k4:=4) rO E (λx F=>Up (R x F) k'.1) b0 (by omega) L (λ_=>rfl) (λ_=>rfl) (λ_ _=>rfl)<|λ_ _=>rfl
     rw[e3];refine⟨⟨_,rfl⟩,k'.trans<|k3.mono<|by simp,k3.get wz<|by simp[D],?_⟩;rw[NX,We];exact t3
    ·rintro m d ⟨⟨z,rfl⟩,k',wz,rO⟩;rw[Ua,UT] at rO;exact⟨⟨_,_,rfl⟩,k',wz,rO⟩
   ·have U:d8 p n T3 g=T3:=T6 (by rw[hc];decide);rw[U];exact⟨⟨_,_,rfl⟩,k,am,tm⟩
  ·rintro m f ⟨⟨y,z,rfl⟩,k,am,tm⟩;rw[H,UT] at tm;exact⟨rfl,k,am,tm⟩
 obtain⟨r,f,e,rfl,h⟩:=key;exact⟨f,e,h⟩
def gS.keep(h:gS n M v G)(k:aH X M M')(c:∀(b) (ws),M[b]? =aa (.lst ws)->b≠n->b∉X):gS n M' v G:=by obtain⟨ws,⟨b,e,a,q⟩,r⟩:=h;exact⟨ws,⟨b,e,a,k.get q<|c b _ q a⟩,r.imp λw d ⟨b,e,a,q⟩=>⟨b,e,a,k.get q<|c b _ q a⟩⟩
def oT{M:Mem}{n c:Nat}(a:M[c]? =aa (.aG kvs)):∀(b) (ws),M[b]? =aa (.lst ws)->b≠n->b∉[n,c]:=λb ws e d z=>by
 simp only[T7,Ud,Ue] at z;rcases z with z|z
 ·exact d z
 ·rw[z,a] at e;cases e
def vn(h:gS n M v G)(l:0<=i)(m:i<(G.length:Int)):∃b,ax v (.int i) M=.ok (.ref b) M/\b≠n/\M[b]? =aa (.lst<|(G.getD i.toNat []).map .int):=by
 obtain⟨e,⟨a,rfl,p,f⟩,d⟩:=h;have o:=d.len;have g:G[i.toNat]? =aa (G.getD i.toNat []):=by
  have:i.toNat<G.length:=by omega
  simp[this]
 obtain⟨w,j,b,rfl,k,q⟩:=d.at' g;refine⟨b,?_,k,q⟩;have c:cA e i=aa (.ref b):=by unfold cA cq;rw[T5 l,T5<|by omega];exact j
 simp only[ax,jK f,c]
noncomputable def dO(G:List<|List Int)(ss:List Int)(s:Nat)(m:Int)(L:List Int)(q:Int):List Int:=if L.any (·==q) then(rowOf G ss s q).filter (λx=>!ai (x=m)) else rowOf G ss s q
structure jX(kc:List<|Int×W)(M3 M':Mem)(n c:Nat)(G:List<|List Int)(ss gx:List Int)(s:Nat)(m:Int)(L:List Int):Prop where
 nw:∀kvs,M'[c]? =aa (.aG kvs)->∀(q:Int) (k:Nat),aW kvs q=aa (.ref k)->M3.length<=k\/aW kc q=aa (.ref k)
 kp:aH [n,c] M3 M'
 nm:M'[n]? =aa (.lst<|gx.map .int)
 cn:∃kvs,M'[c]? =aa (.aG kvs)/\kvs.length<=ss.length/\(kvs.map (·.1)).Nodup/\∀q:Int,(aW kvs q=ae/\¬cT gx q)\/∃k,aW kvs q=aa (.ref k)/\cT gx q/\n<k/\M'[k]? =aa (.lst<|(dO G ss s m L q).map .int)
def Ew{l:List Int}(h:l.any (·==m)=ag):l.filter (λx=>!ai (x=m))=l:=by
 rw[List.filter_eq_self];intro x a;have:¬x=m:=by rintro rfl;have:l.any (·==x)=af:=Ui.mpr ⟨x,a,by simp⟩;rw[h] at this;cases this
 simp[this]
def Ex(l:List Int)(m):(l.filter<|λx=>!ai (x=m)).filter (λx=>!ai (x=m))=l.filter (λx=>!ai (x=m)):=by rw[Xw];simp
def yl:dO G ss s m (L++[f]) q=if f=q then(dO G ss s m L q).filter (λx=>!ai (x=m)) else dO G ss s m L q:=by
 unfold dO;rw[Wh];by_cases e:f=q
 ·subst e;simp only[U3,Xe,VX,Xf,Bool.or_true,Uv];split
  ·rw[Ex]
  ·rfl
 ·have:(f==q)=ag:=by simpa using e
  simp only[U3,Xe,this,Xf,T6 e]
def Ey{Q:List (Int×W)}{M3 b:Mem}{a n c h w:Nat}{vG:W}{ss s:List Int}{m f:Int}{L:List Int}{r:Option W}(I:jX Q M3 b n c (ar h w) ss s (h*w) m L)(Sg:n<M3.length)(B0:c<M3.length)(s9:h*w<=9)(gv:ss.length<=81)(Z:b[a]? =aa (.ins aY<|jw h w vG (.ref n)<|.ref c)){p:W}: ((aM (tB<|ao dP (aj 2)<|fe fv (aT aY fC<|aj 0) (aj 4)<|aR<|aq) (
  ia (aT aY fC (aj 0)) (aj 4) (bE 1 [] (a9 (ib (aT aY fC (aj 0)) (aj 4))) (az 5) (tB (ao bp (aj 5) (aj 2))) (aj 5))) (
  aO):SM) [aa (.ref a),aa p,aa (.int m),r,aa (.int f)] b).Sat {nx:=λσ N=>σ=[aa (.ref a),aa p,aa (.int m),r,aa (.int f)]/\jX Q M3 N n c (ar h w) ss s (h*w) m (L++[f])/\aH [n,c] b N,rt:=λ_ _=>False}:=by
 obtain⟨d,B,X,C,S⟩:=I.cn;have e1:aT aY fC (aj 0) [aa<|.ref a,aa p,aa<|.int m,r,aa<|.int f] b=.ok (.ref c) b:=cL rfl Z rfl;have J:bb [] b=.ok (.ref b.length) (b++[.lst []]):=bT<|by decide
 have j:=aB (pre_app b [.lst []]) B;have jx:c<b.length:=(Ub.mp B).1;have U:fe fv (aT aY fC<|aj 0) (aj 4) (aR<|aq) [aa<|.ref a,aa p,aa<|.int m,r,aa<|.int f] b=.ok ((aW d f).getD<|.ref b.length) (b++[.lst []]):=by simp only[fe,e1,R.bind,oi B,Uv,aj,Uo,Uj,aR,aq,J,fv,fo j]
 have P:∀T,(b++[O.lst []])[c]? =aa (.aG T)->∀(q:Int) (k:Nat),aW T q=aa (.ref k)->M3.length<=k\/aW Q q=aa (.ref k):=λT e=>by rw[j] at e;cases e;exact I.nw d B
 have g:jX Q M3 (b++[.lst []]) n c (ar h w) ss s (h*w) m L:=⟨P,I.kp.trans<|aH.ck<|pre_app _ _,aB (pre_app _ _) I.nm,d,j,X,C,λq=>by
  rcases S q with z|⟨k,q1,q2,q3,q4⟩
  ·exact .inl z
  ·exact .inr ⟨k,q1,q2,q3,aB (pre_app _ _) q4⟩⟩
 have t:∀(H:∀k,aW d f=aa (.ref k)->(dO (ar h w) ss (h*w) m L f).filter (λx=>!ai (x=m))=dO (ar h w) ss (h*w) m L f),jX Q M3 (b++[.lst []]) n c (ar h w) ss s (h*w) m (L++[f]):=λH=>
  ⟨P,g.kp,g.nm,d,j,X,C,λq=>by
   rcases S q with z|⟨k,q1,q2,q3,q4⟩
   ·exact .inl z
   ·refine .inr ⟨k,q1,q2,q3,?_⟩;rw[yl];by_cases e:f=q
    ·subst e;rw[T5 rfl,H k q1];exact aB (pre_app _ _) q4
    ·rw[T6 e];exact aB (pre_app _ _) q4⟩
 rcases S f with⟨e,hE⟩|⟨k,e,hE,Sh,hL⟩
 ·rw[e] at U;have A:=oQ (M:=b++[.lst []]) (u:=.ref b.length) (fs:=[]) m ⟨_,rfl,b8 _ _⟩;refine aJ (c:=ag) (M1:=b++[O.lst []]) (aU<|aP rfl U A) (λz=>nomatch z) λ_=>?_
  exact⟨rfl,t (λk q=>by rw[e] at q;cases q),aH.ck<|pre_app _ _⟩
 ·rw[e] at U;have D:=aB (pre_app b [.lst []]) hL;have A:=oQ (M:=b++[.lst []]) (u:=.ref k) (fs:=dO (ar h w) ss (h*w) m L f) m ⟨_,rfl,D⟩;refine aJ (c:=(dO (ar h w) ss (h*w) m L f).any (·==m)) (M1:=b++[O.lst []]) (aU<|aP rfl U A) (λhm=>?_) λhm=>?_
  ·generalize Y:b++[O.lst []]=N at*;have V:b<+:N:=by rw[<-Y];exact pre_app _ _
   have G:=aB V Z;have e2:∀x,aT aY fC (aj 0) [aa<|.ref a,aa p,aa<|.int m,r,x] N=.ok (.ref c) N:=λx=>cL rfl G rfl
   have eg:ib (aT aY fC<|aj 0) (aj 4) [aa<|.ref a,aa p,aa<|.int m,r,aa<|.int f] N=.ok (.ref k) N:=by simp only[ib,e2,aj,R.bind,Uo,Uj,mL,fo j,e]
   have hi:a9 (ib (aT aY fC<|aj 0)<|aj 4) [aa<|.ref a,aa p,aa<|.int m,r,aa<|.int f] N=.ok (((dO (ar h w) ss (h*w) m L f).map W.int).map .val,[(k,.lst<|(dO (ar h w) ss (h*w) m L f).map .int)]) N:=by unfold a9;rw[eg];simp only[R.bind,D]
   have cl:(dO (ar h w) ss (h*w) m L f).length<=9:=by
    have:=jJ (ar h w) ss (h*w) f;unfold dO;split
    ·exact Uh (Vb _ _)<|by omega
    ·omega
   have ec:bE 1 [] (a9<|ib (aT aY fC<|aj 0)<|aj 4) (az 5) (tB<|ao bp (aj 5)<|aj 2) (aj 5) [aa<|.ref a,aa p,aa<|.int m,r,aa<|.int f] N=.ok (.ref N.length) (N++[.lst<|((dO (ar h w) ss (h*w) m L f).filter<|λx=>!ai (x=m)).map .int]):=by
    unfold bE;rw[hi];simp only[R.bind,dE,VJ,Vw,VL,VA,UJ];rw[gz (σ:=[aa<|.ref a,aa p,aa<|.int m,r,aa<|.int f,ae]) (λx=>match x with|.int i=>!ai (i=m)|_=>ag) id _ _ _ (λ_=>rfl) (by simp[bN.ok,D]) ?_]
    ·simp only[UJ,Xu];have:List.filter (λx=>match x with|.int i=>!ai (i=m)|_=>ag) ((dO (ar h w) ss (h*w) m L f).map W.int)=((dO (ar h w) ss (h*w) m L f).filter<|λx=>!ai (x=m)).map W.int:=by rw[Wi];rfl
     rw[this];exact bT (by rw[Ua];exact Uh (Vb _ _)<|by omega)
    ·intro z hz;obtain⟨i,_,rfl⟩:=Um.mp hz;exact⟨aU<|aP rfl rfl ne_int,λ_=>rfl⟩
   have nl:N.length=b.length+1:=by rw[<-Y];simp
   have y:(N++[O.lst<|((dO (ar h w) ss (h*w) m L f).filter<|λx=>!ai (x=m)).map .int])[c]? =aa (.aG d):=aB (pre_app _ _) j;refine om (i:=f) (v:=.ref N.length) ec (cL rfl (aB (pre_app _ _) G) rfl) rfl y (by omega) ?_;have o:((N++[O.lst<|((dO (ar h w) ss (h*w) m L f).filter<|λx=>!ai (x=m)).map .int]).set c<|.aG<|dput d f<|.ref N.length)[c]? =aa (.aG<|dput d f<|.ref N.length):=by rw[UH];simp;omega
   refine⟨rfl,⟨λT e q k z=>?_,?_,?_,dput d f<|.ref N.length,?_,?_,xM _ C,λq=>?_⟩,?_⟩
   ·rw[o] at e;cases e;rw[mh] at z;by_cases E:q=f
    ·rw[T5 E] at z;cases z;have:=I.kp.1;exact .inl<|by omega
    ·rw[T6 E] at z;exact I.nw d B q k z
   ·exact g.kp.trans<|(aH.ck<|pre_app _ _).trans<|aH.set _<|by simp
   ·have:n≠c:=by rintro rfl;rw[I.nm] at B;cases B
    rw[UG<|Uz this];exact aB (pre_app _ _) g.nm
   ·exact o
   ·rw[Dd _ e];exact X
   ·have K:∀(F:Nat) (l),(N++[O.lst<|((dO (ar h w) ss (h*w) m L f).filter<|λx=>!ai (x=m)).map .int])[F]? =aa (.lst l)->((N++[O.lst<|((dO (ar h w) ss (h*w) m L f).filter<|λx=>!ai (x=m)).map .int]).set c<|.aG<|dput d f<|.ref N.length)[F]? =aa (.lst l):=λF l z=>by
     have:F≠c:=by rintro rfl;rw[y] at z;cases z
     rw[UG<|Uz this];exact z
    rw[mh,yl];by_cases E:q=f
    ·subst E;rw[T5 rfl,T5 rfl];refine .inr ⟨N.length,rfl,hE,?_,K _ _<|b8 _ _⟩;have:=I.kp.1;omega
    ·rw[T6 E,T6<|λz=>E z.symm];rcases S q with z|⟨F,q1,q2,q3,q4⟩
     ·exact .inl z
     ·exact .inr ⟨F,q1,q2,q3,K _ _<|aB (V.trans<|pre_app _ _) q4⟩
   ·exact(aH.ck<|V.trans<|pre_app _ _).trans<|aH.set _<|by simp
  ·exact⟨rfl,t<|λk _=>Ew hm,aH.ck<|pre_app _ _⟩
def HD{h w:Nat}(k:1<=h/\h<=3)(n:1<=w/\w<=3)(t:p<h*w*(h*w))(i):iM (ar h w) p i=((cu h w p).flatMap λg=>(ar h w).getD g.toNat []).any (·==(i)):=by
 have v:=hJ k n;rw[UW];unfold iM;rw[Ui,Ui];constructor
 ·rintro⟨g,l,e⟩;rw[T',Ui,Ui] at e;obtain⟨⟨x,u,ex⟩,q,z,A⟩:=e;have d:=by simpa using ex
  subst d;obtain⟨j,f,rfl⟩:=VW l;have a:j<3*(h*w):=by rw[<-jb];exact f
  have m:(ar h w).getD j []=(ar h w)[j]:=by simp[f]
  have s:=(oo k n t a).mp (by rw[m];exact u);have o:=((v _ l).2 q z).1;have r:=UM A;refine⟨(i),WO.mpr ⟨(j),Um.mpr ⟨j,s,rfl⟩,?_⟩,by simp⟩;rw[UA,m,r,WN o];exact z
 ·rintro⟨x,u,ex⟩;have d:=by simpa using ex
  subst d;obtain⟨g,l,c⟩:=WO.mp u;obtain⟨j,f,rfl⟩:=Um.mp l;rw[UA] at c;have a:=oR k n t j f;have y:j<(ar h w).length:=by rw[jb];exact a
  have m:(ar h w).getD j []=(ar h w)[j]:=by simp[y]
  have b:=(oo k n t a).mpr f;rw[m] at c b;refine⟨_,VU y,?_⟩;rw[T',Ui,Ui];exact⟨⟨_,b,by simp⟩,_,c,by simp⟩
def zX(f:0<=p)(c:p<(ss.length:Int))(g:m≠0):cT (ss.set p.toNat m) q↔cT ss q/\q≠p:=by
 unfold cT;rw[Va];constructor
 ·rintro⟨b,d,a⟩;rw[gc ss p q m f c b] at a;by_cases e:q=p
  ·rw[T5 e] at a;exact(g a).elim
  ·rw[T6 e] at a;exact⟨⟨b,d,a⟩,e⟩
 ·rintro⟨⟨b,d,a⟩,e⟩;refine⟨b,d,?_⟩;rw[gc ss p q m f c b,T6 e];exact a
def HE(d:1<=h/\h<=3)(j:1<=w/\w<=3){ss:List Int}(e:ss.length=h*w*(h*w))(l:p<ss.length)(r:aw ss p=0)(k:m≠0)(n:cT (ss.set p m) q):
 rowOf (ar h w) (ss.set p m) (h*w) q=dO (ar h w) ss (h*w) m ((cu h w p).flatMap λg=>(ar h w).getD g.toNat []) q:=by
 have t:=(zX (ss:=ss) (p:=(p)) (by omega) (by omega) k).mp (by rw[UA];exact n);obtain⟨⟨v,y,A⟩,u⟩:=t;have c:=hJ d j;obtain⟨i,rfl⟩:=WQ v;have a:i<ss.length:=by omega
 have x:=eP (ar h w) (ss.set p m) (h*w) i (by rw[Va];exact a);have f:=uX (s:=h*w) (by omega) (by omega) r k (λg o i a=>by rw[e];exact(c g o).2 i a);rw[UA] at f;rw[<-x,<-f];unfold j7;rw[tY,qm,gZ,UA];have b:¬(i=p/\p<ss.length):=λz=>u<|by rw[z.1]
 rw[T6 b,eP _ _ _ _ a,HD d j (by rw[<-e];exact l) i];rfl
noncomputable def uY(c:Nat)(M d:Mem):Prop:=∀a,d[c]? =aa (.aG a)->∀(q:Int) (k:Nat),aW a q=aa (.ref k)->M.length<=k\/∃b,M[c]? =aa (.aG b)/\aW b q=aa (.ref k)
noncomputable def q8(f:CM):Prop:=∀(M) (a n c h w) (b) (p m),1<=h/\h<=3->1<=w/\w<=3->b_ M a n c h w b->bo (h*w) b->cT b p->m≠0->
 ∃d,f [.ref a,.int p,.int m] M=.ok .aA d/\b_ d a n c h w (b.set p.toNat m)/\aH [n,c] M d/\uY c M d
def lZ(l:List α)(j)(h:l[j]? =aa x):l.take (j+1)=l.take j++[x]:=by rw[Vy,h];rfl
def uf{f:CM}(hf:uW f):q8 (PB.lW f):=by
 intro M a n c h w s p m hh hw S sh hE hm;obtain⟨s1,s9⟩:=eL hh hw;have sl:=sh.len;have gv:s.length<=81:=by rw[sl];exact UK s9 s9
 obtain⟨X,p1,pz⟩:=hE;obtain⟨d,rfl⟩:=WQ X;have X:(0:Int)<=(d:Int):=X;have p1:(d:Int)<(s.length:Int):=p1;have pz:aw s (d:Int)=0:=pz;show∃o,PB.lW f [.ref a,.int (d:Int),.int m] M=.ok .aA o/\b_ o a n c h w (s.set (d:Int).toNat m)/\aH [n,c] M o/\uY c M o;rw[UA];have T:d<s.length:=by omega
 obtain⟨⟨vG,K,mZ⟩,nm,l,J,c1,c2,c3⟩:=S;have NZ:=hJ hh hw;have G:a∉[n,c]:=λz=>by
  simp only[T7,Ud,Ue] at z;rcases z with z|z
  ·rw[z,nm] at K;cases K
  ·rw[z,J] at K;cases K
 have nc:n≠c:=by rintro rfl;rw[nm] at J;cases J
 have B1:n<M.length:=(Ub.mp nm).1;have N1:c<M.length:=(Ub.mp J).1;have key:∃r o,PB.lW f [.ref a,.int (d:Int),.int m] M=.ok r o/\(r=.aA/\b_ o a n c h w (s.set d m)/\aH [n,c] M o/\uY c M o):=by
  refine bJ rfl ?_;show(au _ _ [aa<|.ref a,aa<|.int (d:Int),aa<|.int m,ae,ae] M).Sat _;generalize B:s.set d m=gx;have N5:(s.map W.int).set d (.int m)=gx.map .int:=by rw[<-B,WJ]
  refine aD<|jN (v:=.int m) (M1:=M) (bS:=[aa<|.ref a,aa<|.int (d:Int),aa<|.int m,ae,ae]) (M2:=M.set n<|.lst<|gx.map .int) rfl ?_ ?_
  ·have e1:aT aY fN (aj 0) [aa<|.ref a,aa<|.int (d:Int),aa<|.int m,ae,ae] M=.ok (.ref n) M:=cL rfl K rfl;have ix:cq ((s.map W.int).length) (d:Int)=aa d:=by unfold cq;rw[T5 X,T5 (by rw[Ua];exact p1),UA]
   simp only[eE,e1,aj,R.bind,Uo,Uj,gA nm,ix,N5]
  generalize E:M.set n (O.lst<|gx.map .int)=M1;have k1:aH [n,c] M M1:=by rw[<-E];exact aH.set _<|by simp
  have N6:M1[n]? =aa (.lst<|gx.map .int):=by rw[<-E];exact UH B1
  have U:M1[c]? =aa (.aG l):=by rw[<-E,UG nc];exact J
  have rP:=k1.get K G;have pv:∃k,aW l (d:Int)=aa (.ref k):=by
   rcases c3 (d:Int) with⟨_,z⟩|⟨k,e,_⟩
   ·exact(z ⟨X,p1,pz⟩).elim
   ·exact⟨k,e⟩
  obtain⟨kp,N7⟩:=pv;refine aD<|df (v:=.ref kp) (M1:=M1.set c<|.aG<|gj l (d:Int)) ?_ ?_
  ·have e1:aT aY fC (aj 0) [aa<|.ref a,aa<|.int (d:Int),aa<|.int m,ae,ae] M1=.ok (.ref c) M1:=cL rfl rP rfl;simp only[wj,e1,R.bind,oi U,Uv,aj,Uo,Uj,mM,fo U,N7]
  generalize D:M1.set c (O.aG<|gj l (d:Int))=M2;have k2:aH [n,c] M M2:=k1.trans (by rw[<-D];exact aH.set _<|by simp);have l2:M2.length=M.length:=by rw[<-D,<-E];simp
  have wA:M2[n]? =aa (.lst<|gx.map .int):=by rw[<-D,UG<|Uz nc];exact N6
  have F:M2[c]? =aa (.aG<|gj l (d:Int)):=by rw[<-D];exact UH (Ub.mp U).1
  have rQ:=k2.get K G;have gI:∀g∈cu h w d,0<=g/\g<((ar h w).length:Int):=λg hg=>by obtain⟨i,hi,rfl⟩:=Um.mp hg;have:=oR hh hw (by rw[<-sl];exact T) i hi;rw[jb];exact⟨Wd _,by omega⟩
  have em:=λq=>zX (ss:=s) (p:=(d:Int)) (q:=q) (m:=m) X p1 hm
  rw[UA,B] at em;have eg:=hf h w d M2 hh hw (by rw[<-sl];exact T);generalize V:M2++[O.lst<|(cu h w d).map .int]=M3 at eg;have t:M2<+:M3:=by rw[<-V];exact pre_app _ _
  have k3:aH [n,c] M M3:=k2.trans<|aH.ck t;have l3:M3.length=M.length+1:=by rw[<-V];simp[l2]
  have B2:M3[M2.length]? =aa (.lst<|(cu h w d).map .int):=by rw[<-V];exact b8 _ _
  have I0:jX l M3 M3 n c (ar h w) s gx (h*w) m []:=⟨λkv e q k z=>by rw[aB t F] at e;cases e;rw[yh] at z;split at z;cases z;exact .inr z,aH.refl _ _,aB t wA,_,aB t F,Uh (Em _ _) c1,Dn _ c2,λq=>by
   rw[yh];by_cases e:q=(d:Int)
   ·rw[T5 e];exact .inl ⟨rfl,λz=>((em q).mp z).2 e⟩
   ·rw[T6 e];rcases c3 q with⟨Z,Y⟩|⟨k,Z,Y,z3,z4⟩
    ·exact .inl ⟨Z,λz=>Y ((em q).mp z).1⟩
    ·refine .inr ⟨k,Z,(em q).mpr ⟨Y,e⟩,z3,?_⟩;refine k3.get z4 λz=>?_
     simp only[T7,Ud,Ue] at z;rcases z with z|z
     ·omega
     ·rw[z,J] at z4;cases z4⟩
  have H:gS n M3 vG (ar h w):=mZ.keep k3<|oT J;have N8:M2.length∉[n,c]:=λz=>by simp only[T7,Ud,Ue] at z;rcases z with z|z<;>omega
  have P:∀{o:Mem} {L:List Int},jX l M3 o n c (ar h w) s gx (h*w) m L->o[a]? =aa (.ins aY<|jw h w vG (.ref n)<|.ref c):=λI=>I.kp.get (k3.get K G) G
  refine dS ?_ ⟨_,rfl,B2⟩ (λj C o=>(∃x y,C=[aa<|.ref a,aa<|.int<|d,aa<|.int m,x,y])/\jX l M3 o n c (ar h w) s gx (h*w) m (((cu h w d).take j).flatMap λg=>(ar h w).getD g.toNat []))
   ⟨⟨_,_,rfl⟩,I0⟩ ?_ ?_ ?_
  ·exact zR rfl rQ rfl rfl rfl eg
  ·rintro j C o hj ⟨_,I⟩;exact⟨_,rfl,I.kp.get B2 N8⟩
  ·rintro j x C o hx ⟨⟨x',y',rfl⟩,I⟩;obtain⟨g,hg,rfl,N9⟩:=fZ hx;obtain⟨g0,g1⟩:=gI g hg;have A:∃kv,M3[c]? =aa (.aG kv):=⟨_,aB t F⟩;obtain⟨Si,A⟩:=A;obtain⟨b,eb,B3,hb⟩:=vn (H.keep I.kp<|oT A) g0 g1;obtain⟨B4,Q,_⟩:=I.cn;have rR:=oT Q b _ hb B3;refine dS (aP (cL rfl (P I) rfl) rfl eb) ⟨_,rfl,hb⟩ (λi C u=>(∃y,C=[aa<|.ref a,aa<|.int<|d,aa<|.int m,aa<|.int g,y])/\jX l M3 u n c (ar h w) s gx (h*w) m ((((cu h w d).take j).flatMap λg=>(ar h w).getD g.toNat [])++((ar h w).getD g.toNat []).take i)/\aH [n,c] o u)
    ⟨⟨_,rfl⟩,by simpa using I,aH.refl _ _⟩ ?_ ?_ ?_
   ·rintro i C u hi ⟨_,I2,k⟩;exact⟨_,rfl,k.get hb rR⟩
   ·rintro i x C u N_ ⟨⟨y,rfl⟩,I2,k⟩;obtain⟨fd,Oa,rfl,Ob⟩:=fZ N_;refine RS.Sat.mono (Ey I2 (by omega) (by omega) s9 gv<|P I2) ?_ ?_ ?_ ?_
    ·rintro C N ⟨rfl,I3,k'⟩;refine⟨⟨_,rfl⟩,?_,k.trans k'⟩;rw[lZ _ _ Ob,<-U9];exact I3
    ·exactλ_ _ z=>z.elim
    ·exactλ_ _ z=>z.elim
    ·exactλ_ _ z=>z.elim
   ·rintro C u ⟨⟨y,rfl⟩,I2,k⟩;refine⟨⟨_,_,rfl⟩,?_⟩;rw[Ua,UT] at I2;rw[lZ _ _ N9,Xb];simpa using I2
  ·rintro C o ⟨⟨x,y,rfl⟩,I⟩;rw[Ua,UT] at I;refine⟨rfl,?_,k3.trans I.kp,λkv e q k z=>?_⟩
   rotate_left
   ·rcases I.nw kv e q k z with z|z
    ·exact .inl<|by omega
    ·exact .inr ⟨l,J,z⟩
   obtain⟨B4,Q,d1,d2,d3⟩:=I.cn;refine⟨⟨vG,P I,H.keep I.kp<|oT<|aB t F⟩,I.nm,B4,Q,by rw[<-B,Va];exact d1,d2,λq=>?_⟩;rcases d3 q with z|⟨k,Z,Y,z3,z4⟩
   ·exact .inl z
   ·refine .inr ⟨k,Z,Y,z3,?_⟩;have:=HE hh hw sl T pz hm (by rw[B];exact Y);rw[B] at this;rw[this];exact z4
 obtain⟨r,o,e,rfl,q⟩:=key;exact⟨o,e,q⟩
def FU{c:bN}{g:GM}{t:TM}{elt:EM}(a7:List Src)(P:Nat->St->Mem->List W->Prop)(q:∀(j:Nat) x σ M a,a7[j]? =aa x->P j σ M a->c.ok M=af/\∃v M1 bS M2 b M3,x.get M=.ok v M1/\g v σ M1=.ok bS M2/\t bS M2=.ok b M3/\(b=af->∃y f,elt bS M3=.ok y f/\P (j+1) bS f (a++[y]))/\(b=ag->P (j+1) bS M3 a))(hd:∀σ M a,P a7.length σ M a->c.ok M=af):∀(j:Nat) (σ:St) (M:Mem) (a:List W),j<=a7.length->P j σ M a->∃i m ys,comp c g t elt (a7.drop j) σ M a=.ok ys m/\P a7.length i m ys:=by
 intro j;generalize A:a7.length-j=k;induction k generalizing j with
 |zero=>
  intro σ M a o h;have e:j=a7.length:=by omega
  subst e;refine⟨σ,M,a,?_,h⟩;rw[WG,comp,T5<|hd σ M a h]
 |succ k l=>
  intro σ M a o h;have d:j<a7.length:=by omega
  obtain⟨n,v,M1,bS,M2,b,M3,u,h3,z,r,w⟩:=q j a7[j] σ M a (by simp[d]) h;rw[V6 d,comp,T5 n];simp only[u,R.bind,h3,z];cases b with
  |true=>obtain⟨y,f,p,s⟩:=r rfl;simp only[Uv,p];exact l (j+1) (by omega) bS f _ (by omega) s
  |false=>simp only[Vc,U2];exact l (j+1) (by omega) bS M3 _ (by omega)<|w rfl
def ym(kk)(s)(c:i σ M=.ok (cS 1 s,[]) M)(p)(e:s<=9)(a:∀n,t ((dE cl<|σ++List.replicate kk ae).set k<|aa<|.int n) M=.ok (p n) M)(b:∀n,aj k ((dE cl<|σ++List.replicate kk ae).set k<|aa<|.int n) M=.ok (.int n) M):
 bE kk cl i (az k) t (aj k) σ M=.ok (.ref M.length) (M++[.lst<|((nums s).filter p).map .int]):=by
 unfold bE;rw[c];simp only[R.bind,l4];rw[gz (λx=>match x with|.int n=>p n|_=>ag) id _ _ _ (λ_=>rfl) rfl ?_]
 ·simp only[UJ,Xu];have:List.filter (λx=>match x with|.int n=>p n|_=>ag) (gJ 1 s)=((nums s).filter p).map W.int:=by rw[xN,Wi];rfl
  rw[this];refine bT ?_;rw[Ua];refine Uh (Vb _ _) ?_;simp[nums];omega
 ·intro z d;obtain⟨j,_,rfl⟩:=Um.mp d;exact⟨a _,λ_=>b _⟩
def yX{h w:Nat}(b:1<=h/\h<=3)(i:1<=w/\w<=3)(d:σ[0]? =aa (aa<|.ref a))(f:M[a]? =aa (.ins aY fs))(k:cP fH fs=aa (.int h))(j:cP fW fs=aa (.int w)):
 dZ (eC<|.int 1) (ao bG (ao bL (aT aY fH<|aj 0)<|aT aY fW<|aj 0)<|eC<|.int 1) σ M=.ok (cS 1<|h*w,[]) M:=by
 obtain⟨m,l⟩:=eL b i;have c:ao bG (ao bL (aT aY fH<|aj 0)<|aT aY fW<|aj 0) (eC<|.int 1) σ M=.ok (.int<|((h*w:Nat):Int)+1) M:=aP (zS b.2 d f k j) rfl rfl;have g:(1:Int).natAbs<bV/\(((h*w:Nat):Int)+1).natAbs<bV:=⟨cU (by omega)<|by omega,cU (by omega)<|by omega⟩;have e:(((h*w:Nat):Int)+1-1).toNat=h*w:=by omega
 simp only[dZ,c,R.bind,eC];rw[T5 g,e]
noncomputable def jy(G:List<|List Int)(ss:List Int)(s:Nat)(g:Int):List Int:=(nums s).filter λm=>ai<|1<(cnt m ((G.getD g.toNat []).map<|aw ss):Int)
noncomputable def uC(L:List (List Int)->List Int->Nat->Int->List Int)(f:CM):Prop:=∀(M) (a n c h w) (b) (g),1<=h/\h<=3->1<=w/\w<=3->b_ M a n c h w b->bo (h*w) b->0<=g->g<((ar h w).length:Int)->
 ∃v d,f [.ref a,.int g] M=.ok v d/\M<+:d/\aX d v (L (ar h w) b (h*w) g)
def C8:uC jy PB.nH:=by
 intro M a n c h w f g j u S E z B;obtain⟨P,I⟩:=eL j u;obtain⟨⟨Q,p,l⟩,J,_⟩:=S;obtain⟨H,s⟩:=hJ j u _<|getD_mem z B;obtain⟨b,K,D,L⟩:=vn l z B;have o:∃r d,PB.nH [.ref a,.int g] M=.ok r d/\(M<+:d/\aX d r (jy (ar h w) f (h*w) g)):=by
  refine bJ rfl ?_;have C:=uU (σ:=[aa<|.ref a,aa<|.int g,ae]) (ao ax (aT aY fG<|aj 0)<|aj 1) (aT aY fN<|aj 0) 3 (aP (cL rfl p rfl) rfl K) ⟨_,rfl,L⟩ ⟨_,rfl,J⟩ (λi G=>by rw[E.len];exact s i G) (by omega) (λx=>cL rfl p rfl) (λx=>rfl)
  refine aD<|bA C ?_;generalize v:M++[O.lst<|(((ar h w).getD g.toNat []).map<|aw f).map .int]=N;have y:M<+:N:=by rw[<-v];exact pre_app _ _
  have A:N[M.length]? =aa (.lst<|(((ar h w).getD g.toNat []).map<|aw f).map .int):=by rw[<-v];exact b8 _ _
  have F:=ym (σ:=[aa<|.ref a,aa<|.int g,aa<|.ref M.length]) (k:=3) (cl:=[]) (t:=tB<|ao fV (bD iH (aj 2)<|ak (aj 3) aq)<|eC<|.int 1) 1 (h*w) (yX j u rfl (aB y p) rfl rfl) (λm=>ai<|1<(cnt m (((ar h w).getD g.toNat []).map<|aw f):Int)) I (λm=>?_)<|λm=>rfl
  ·exact aV F ⟨y.trans<|pre_app _ _,aF.new _ _⟩
  ·have ec:bD iH (aj 2) (ak (aj 3) aq) [aa<|.ref a,aa<|.int g,aa<|.ref M.length,aa<|.int m] N=.ok (.int<|cnt m<|((ar h w).getD g.toNat []).map<|aw f) N:=by simp only[bD,aj,R.bind,Uo,Uj,dQ A,ak,aq,ur m ⟨_,rfl,A⟩]
   exact aU<|aP ec rfl gt_int
 obtain⟨r,d,e,q⟩:=o;exact⟨r,d,e,q⟩
noncomputable def g_(G:List<|List Int)(ss:List Int)(s:Nat)(fs:List Int)(m:Int):Bool:=fs.any λf=>ai (aw ss f=m)||(rowOf G ss s f).any (·==m)
noncomputable def kl(G:List<|List Int)(ss:List Int)(s:Nat)(g:Int):List Int:=(nums s).filter λm=>!g_ G ss s (G.getD g.toNat []) m
def AK{M a:Mem}(p:M<+:a)(h:a[M.length]? =aa o):M<+:a.set M.length o'/\(a.set M.length o')[M.length]? =aa o':=⟨qy p (Uc _) _,UH (Ub.mp h).1⟩
def Dr:uC kl PB.nC:=by
 intro M a n c h w l g hh T S sh g0 g1;obtain⟨s1,s9⟩:=eL hh T;have sl:=sh.len;obtain⟨⟨vG,Q,F⟩,nm,kc,hc,m8,wu,Y⟩:=S;obtain⟨BW,W⟩:=hJ hh T _<|getD_mem g0 g1;obtain⟨b,H,B3,hb⟩:=vn F g0 g1;have key:∃r s,PB.nC [.ref a,.int g] M=.ok r s/\(M<+:s/\aX s r (kl (ar h w) l (h*w) g)):=by
  refine bJ rfl ?_;show(au _ _ [aa<|.ref a,aa<|.int g,ae,ae,ae] M).Sat _;refine aD<|bA (v:=.ref M.length) (M1:=M++[.aG []]) rfl ?_;simp only[T_,T9];refine aD ?_;have Oc:ax vG (.int g) (M++[.aG []])=.ok (.ref b) (M++[.aG []]):=by
   obtain⟨ws,⟨b2,rfl,_,q⟩,r⟩:=F;have q':=aB (pre_app M [.aG []]) q;simp only[ax,jK q,jK q'] at H⊢;cases z:cA ws g with
   |none=>rw[z] at H;cases H
   |some y=>rw[z] at H;cases H;rfl
  generalize V:(ar h w).getD g.toNat []=gr at*;refine dS (v:=.ref b) (xs:=gr.map .int) (M1:=M++[O.aG []]) (aP (cL rfl (aB (pre_app _ _) Q) rfl) rfl Oc) ⟨_,rfl,aB (pre_app _ _) hb⟩ (λj u s=>(∃x y,u=[aa<|.ref a,aa<|.int g,aa<|.ref M.length,x,y])/\M<+:s/\∃d,s[M.length]? =aa (.aG d)/\d.length<=10*j/\∀m,(aW d m).isSome=g_ (ar h w) l (h*w) (gr.take j) m)
   ⟨⟨_,_,rfl⟩,pre_app _ _,[],b8 _ _,by simp,λm=>rfl⟩ ?_ ?_ ?_
  ·rintro j u s hj ⟨_,p,_⟩;exact⟨_,rfl,aB p hb⟩
  ·rintro j x u s hx ⟨⟨x',y',rfl⟩,p,d,hd,hk,hv⟩;obtain⟨f,hf,rfl,K⟩:=fZ hx;obtain⟨f0,f1⟩:=W f hf;have J:f<(l.length:Int):=by rw[sl];exact f1
   have jl:j<gr.length:=(Ub.mp K).1;simp only[T_,T9];refine aD<|om (M1:=s) (M2:=s) (M3:=s) (a:=M.length) (i:=aw l f) (v:=.bl af) (kvs:=d) rfl rfl (aP (cL rfl (aB p Q) rfl) rfl<|er ⟨_,rfl,aB p nm⟩ f0 J) hd (by omega) ?_;obtain⟨C,A⟩:=AK (o':=.aG<|dput d (aw l f)<|.bl af) p hd;generalize BZ:s.set M.length (.aG<|dput d (aw l f)<|.bl af)=M1 at C A;have D:∀m,(aW (dput d (aw l f)<|.bl af) m).isSome=(g_ (ar h w) l (h*w) (gr.take j) m||ai (aw l f=m)):=λm=>by
    rw[mh,<-hv m];by_cases e:m=aw l f
    ·rw[T5 e,UR e.symm];simp
    ·rw[T6 e,Uy<|λz=>e z.symm];simp
   have Sj:(dput d (aw l f)<|.bl af).length<=10*j+1:=by have:=ql d (aw l f)<|.bl af;omega
   have U:=aB C Q;have L:=aB C hc;have E:bb [] M1=.ok (.ref M1.length) (M1++[.lst []]):=bT<|by decide
   have Z:=aB (pre_app M1 [.lst []]) L;have P:fe fv (aT aY fC<|aj 0) (aj 3) (aR<|aq) [aa<|.ref a,aa<|.int g,aa<|.ref M.length,aa<|.int f,y'] M1=.ok ((aW kc f).getD<|.ref M1.length) (M1++[.lst []]):=by have e1:aT aY fC (aj 0) [aa<|.ref a,aa<|.int g,aa<|.ref M.length,aa<|.int f,y'] M1=.ok (.ref c) M1:=cL rfl U rfl;simp only[fe,e1,R.bind,oi L,Uv,aj,Uo,Uj,aR,aq,E,fv,fo Z]
   have G:∀m,g_ (ar h w) l (h*w) (gr.take<|j+1) m=(g_ (ar h w) l (h*w) (gr.take j) m||(ai (aw l f=m)||(rowOf (ar h w) l (h*w) f).any (·==m))):=λm=>by unfold g_;rw[pL _ _ _ K]
   rcases Y f with⟨e,hE⟩|⟨k,e,hE,mY,hL⟩
   ·rw[e] at P;refine zT P ⟨_,rfl,b8 _ _⟩ ⟨⟨_,_,rfl⟩,C.trans<|pre_app _ _,_,aB (pre_app _ _) A,by omega,λm=>?_⟩;have hz:aw l f≠0:=λz=>hE ⟨f0,J,z⟩
    rw[D m,G m,qx hz];simp
   ·rw[e] at P;refine dS P ⟨k,rfl,aB (C.trans<|pre_app _ _) hL⟩ (λi u o=>(∃y,u=[aa<|.ref a,aa<|.int g,aa<|.ref M.length,aa<|.int f,y])/\M<+:o/\∃d,o[M.length]? =aa (.aG d)/\d.length<=10*j+1+i/\∀m,(aW d m).isSome=((g_ (ar h w) l (h*w) (gr.take j) m||ai (aw l f=m))||((rowOf (ar h w) l (h*w) f).take i).any (·==m)))
     ⟨⟨_,rfl⟩,C.trans<|pre_app _ _,_,aB (pre_app _ _) A,by omega,λm=>by rw[D m];simp⟩ ?_ ?_ ?_
    ·rintro i u o hi ⟨_,p2,_⟩;exact⟨k,rfl,aB p2 hL⟩
    ·rintro i x u o X ⟨⟨y,rfl⟩,p2,o3,hd2,m9,iv⟩;obtain⟨B,NR,rfl,I⟩:=fZ X;simp only[T_,T9];have il:i<(rowOf (ar h w) l (h*w) f).length:=(Ub.mp I).1;have rl:=jJ (ar h w) l (h*w) f;refine om (M1:=o) (M2:=o) (M3:=o) (a:=M.length) (i:=B) (v:=.bl af) (kvs:=o3) rfl rfl rfl hd2 (by omega) ?_;obtain⟨p3,Od⟩:=AK (o':=.aG<|dput o3 B<|.bl af) p2 hd2;refine⟨⟨_,rfl⟩,p3,_,Od,?_,λm=>?_⟩
     ·have:=ql o3 B<|.bl af;omega
     ·rw[mh,pL _ _ _ I,<-Xt,<-iv m];by_cases e:m=B
      ·rw[T5 e,e];simp
      ·have:(B==m)=ag:=by simpa usingλz:B=m=>e z.symm
       rw[T6 e,this];simp
    ·rintro u o ⟨⟨y,rfl⟩,p2,o3,hd2,m9,iv⟩;have rl:=jJ (ar h w) l (h*w) f;rw[Ua] at m9;refine⟨⟨_,_,rfl⟩,p2,o3,hd2,by omega,λm=>?_⟩;rw[iv m,Ua,UT,G m,Xt]
  ·rintro u s ⟨⟨x,y,rfl⟩,p,d,hd,hk,hv⟩;dsimp only;have e2:=ym (σ:=[aa<|.ref a,aa<|.int g,aa<|.ref M.length,x,y]) (k:=4) (cl:=[4]) (t:=tB<|mN af (aj 4)<|aj 2) 0 (h*w) (yX hh T rfl (aB p Q) rfl rfl) (λm=>!g_ (ar h w) l (h*w) gr m) s9 (λm=>?_)<|λm=>rfl
   ·have el:kl (ar h w) l (h*w) g=(nums<|h*w).filter (λm=>!g_ (ar h w) l (h*w) gr m):=by unfold kl;rw[V]
    rw[el];exact aV e2 ⟨p.trans<|pre_app _ _,aF.new _ _⟩
   ·have N:=hv m;rw[Ua,UT] at N;show tB (mN af (aj 4)<|aj 2) [aa<|.ref a,aa<|.int g,aa<|.ref M.length,x,aa<|.int m] s=_;simp only[tB,ao,aj,R.bind,Uo,Uj,AH af _ hd,N];simp
 obtain⟨r,s,e,q⟩:=key;exact⟨r,s,e,q⟩
def uZ(h:M[a]? =aa (.ba g kvs)):de [(a,.ba g kvs)] M=aa (M.set a<|.aG kvs):=T5 h
def ou{M N:Mem}(h:M[a]? =aa o)(p:M.set a o'<+:N):M<+:N.set a o:=by
 obtain⟨J,rfl⟩:=p;have b:=(Ub.mp h).1;rw[Xk _ _<|by simpa using b,List.set_set];have:M.set a o=M:=by
  apply List.ext_getElem?;intro i;by_cases e:i=a
  ·subst e;rw[UH b,h]
  ·rw[UG<|Uz e]
 rw[this];exact pre_app _ _
def vo{M:Mem}{a b:Nat}(h:M[a]? =aa (.aG kvs))(c:M[b]? =aa (.lst l)):(M.set a o)[b]? =aa (.lst l):=by
 have:a≠b:=by rintro rfl;rw[h] at c;cases c
 rw[UG this];exact c
def u3{M:Mem}(h:M[a]? =aa o):(M.set a o')[a]? =aa o':=UH (Ub.mp h).1
noncomputable def yn(f:CM):Prop:=∀(M:Mem) (a n c h w:Nat) (b:List Int),1<=h/\h<=3->1<=w/\w<=3->b_ M a n c h w b->bo (h*w) b->
 ∃v d e,f [.ref a] M=.ok v d/\M<+:d/\aX d v e/\∀p,p∈e↔cT b p/\rowOf (ar h w) b (h*w) p=[]
def yY:yn PB.nJ:=by
 intro M a n c h w i U hw S Y;obtain⟨s1,L⟩:=eL U hw;have sl:=Y.len;have Z:i.length<=81:=by rw[sl];exact UK L L
 obtain⟨⟨vG,ob,mZ⟩,nm,d,A,m8,u,s⟩:=S;have hi:jU (aT aY fC<|aj 0) [aa<|.ref a] M=.ok (d.map<|λb=>.pair (.int b.1) b.2,[(c,.ba M.length d)]) (M.set c (.ba M.length d)++[.bZ]):=by have T:aT aY fC (aj 0) [aa<|.ref a] M=.ok (.ref c) M:=cL rfl ob rfl;simp only[jU,T,R.bind,fo A]
 have l:=aB (pre_app _ [O.bZ])<|u3 (o':=.ba M.length d) A;obtain⟨i4,m,V,e,_,F,rfl⟩:=FU (c:=[(c,.ba M.length d)]) (g:=dd [az 1,az 2]) (t:=tB<|ao oEq (aj 2)<|aR<|aq) (elt:=aj 1) (d.map<|λb=>.pair (.int b.1) b.2) (λj I N o=>(∃x y,I=[aa<|.ref a,x,y])/\M.set c (.ba M.length d)++[.bZ]<+:N/\o=(((d.take j).filter λb=>ai<|rowOf (ar h w) i (h*w) b.1=[]).map (·.1)).map .int) (by
   rintro j x I N o v ⟨⟨x',y',rfl⟩,p,rfl⟩;rw[U7] at v;cases q:d[j]? with
   |none=>rw[q] at v;cases v
   |some b=>
    rw[q] at v;have ex:x=.pair (.int b.1) b.2:=(Ug v).symm;subst ex;have hm:(b.1,b.2)∈d:=U8 q;have f:=mj hm u;rcases s b.1 with⟨z,_⟩|⟨k,z,B,hk,hL⟩
    ·rw[z] at f;cases f
    ·rw[z] at f;have X:b.2=.ref k:=(Ug f).symm;refine⟨by simp[bN.ok,aB p l],_,_,_,_,ai<|rowOf (ar h w) i (h*w) b.1=[],N++[.tup [.int b.1,b.2]]++[.lst []],qj _ _ _,q7,?_,λJ=>?_,λJ=>?_⟩
     ·simp only[T_,T9];have H:aR aq [aa<|.ref a,aa<|.int b.1,aa b.2] (N++[.tup [.int b.1,b.2]])=.ok (.ref (N++[O.tup [.int b.1,b.2]]).length) (N++[.tup [.int b.1,b.2]]++[.lst []]):=(show bb [] (N++[O.tup [.int b.1,b.2]])=_ from bT<|by decide);refine aU<|aP rfl H ?_;exact jQ (xs:=rowOf (ar h w) i (h*w) b.1) (ys:=[]) ⟨k,X,aB (p.trans<|(pre_app _ _).trans<|pre_app _ _)<|aB (pre_app _ _)<|vo A hL⟩<|aF.new _ _
     ·refine⟨.int b.1,_,rfl,⟨_,_,rfl⟩,p.trans<|(pre_app _ _).trans<|pre_app _ _,?_⟩;rw[nG _ _ _ q];simp only[J,Uv,VS,Ux,Vo]
     ·refine⟨⟨_,_,rfl⟩,p.trans<|(pre_app _ _).trans<|pre_app _ _,?_⟩;rw[nG _ _ _ q];simp only[J,Vc,U2,UY])
  (by rintro I N o ⟨_,p,_⟩;simp[bN.ok,aB p l]) 0 [aa (.ref a),ae,ae] (M.set c (.ba M.length d)++[.bZ]) [] (UX _) ⟨⟨_,_,rfl⟩,dc _,rfl⟩
 rw[List.drop_zero] at e;rw[Ua,UT] at e;have K:((d.filter λb=>ai<|rowOf (ar h w) i (h*w) b.1=[]).map (·.1)).length<=81:=by rw[Ua];exact Uh (Vb _ _)<|by omega
 have D:(m++[O.lst (((d.filter λb=>ai<|rowOf (ar h w) i (h*w) b.1=[]).map (·.1)).map .int)])[c]? =aa (.ba M.length d):=aB (F.trans<|pre_app _ _) l;have ec:kT 2 [] (aT aY fC<|aj 0) (dd [az 1,az 2]) (tB<|ao oEq (aj 2)<|aR<|aq) (aj 1) [aa<|.ref a] M=.ok (.ref m.length) ((m++[O.lst (((d.filter λb=>ai<|rowOf (ar h w) i (h*w) b.1=[]).map (·.1)).map .int)]).set c<|.aG d):=by unfold kT;rw[hi];have G:bb (((d.filter λb=>ai<|rowOf (ar h w) i (h*w) b.1=[]).map (·.1)).map W.int) m=.ok (.ref m.length) (m++[O.lst (((d.filter λb=>ai<|rowOf (ar h w) i (h*w) b.1=[]).map (·.1)).map .int)]):=bT (by rw[Ua];omega);simp only[R.bind,dE,VJ,Vw,VL,VA,UJ,e,G,uZ D]
 have E:∃r N,PB.nJ [.ref a] M=.ok r N/\(r=.ref m.length/\N=(m++[O.lst (((d.filter λb=>ai<|rowOf (ar h w) i (h*w) b.1=[]).map (·.1)).map .int)]).set c (.aG d)):=bJ rfl<|aV ec ⟨rfl,rfl⟩;obtain⟨r,N,e2,rfl,rfl⟩:=E;have cl:=by have:=(Ub.mp<|aB F l).1;exact this
 refine⟨_,_,_,e2,ou A<|(pre_app _ _).trans<|F.trans<|pre_app _ _,⟨_,rfl,by rw[UG<|by omega];exact b8 _ _⟩,λp=>?_⟩;constructor
 ·intro hp;obtain⟨b,C,rfl⟩:=Um.mp hp;obtain⟨P,h2⟩:=UP.mp C;have f:=mj P u;rcases s b.1 with⟨z,_⟩|⟨k,z,B,_⟩
  ·rw[z] at f;cases f
  ·exact⟨B,UM h2⟩
 ·rintro⟨B,Q⟩;rcases s p with⟨_,z⟩|⟨k,z,_⟩
  ·exact(z B).elim
  ·exact Um.mpr ⟨(p,.ref k),UP.mpr ⟨uc z,UR Q⟩,rfl⟩
def xS(b:1<=h/\h<=3)(g:1<=w/\w<=3)(d:σ[0]? =aa (aa<|.ref a))(e:M[a]? =aa (.ins aY fs))(c:cP fG fs=aa vG)(i:LL M vG<|ar h w):
 cc (av aZ<|ak (aT aY fG<|aj 0) aq) σ M=.ok (cS 0 (ar h w).length,[]) M:=by
 obtain⟨l,k⟩:=eL b g;have f:=cL d e c;have j:((ar h w).length:Int).natAbs<bV:=cU (by omega) (by rw[jb];omega);simp only[cc,av,ak,aq,f,R.bind,qO i];rw[T5 j,UA]
noncomputable abbrev pq:List Nat:=[116,119,105,99,101,95,110,117,109,98,101,114,115]
noncomputable abbrev ng:List Nat:=[104,111,109,101,108,101,115,115,95,110,117,109,98,101,114,115]
noncomputable def nX(x:List Nat)(L:List (List Int)->List Int->Nat->Int->List Int)(f:CM):Prop:=∀(M) (a n c h w fn) (b) (e),1<=h/\h<=3->1<=w/\w<=3->b_ M a n c h w b->bo (h*w) b->M[fn]? =aa (.dr x)->
 ∃v d,f [.ref a,.str e,.ref fn] M=.ok v d/\M<+:d/\((v=.aA/\∀g:Int,0<=g->g<((ar h w).length:Int)->L (ar h w) b (h*w) g=[])\/∃g m:Int,0<=g/\g<((ar h w).length:Int)/\m∈L (ar h w) b (h*w) g/\aI d v [.str e,.int g,.int m])
def AL(h:M[k]? =aa (.lst<|l.map .int))(a:σ[i]? =aa (aa<|.ref k)):tB (ao bp (aj i)<|aR<|aq) σ M=.ok (!ai (l=[])) (M++[.lst []]):=by
 have c:aj i σ M=.ok (.ref k) M:=by simp only[aj,a]
 have b:=(show bb [] M=_ from bT<|by decide);exact aU<|aP c b<|Hr ⟨_,rfl,aB (pre_app _ _) h⟩<|aF.new _ _
def qz(h:M[k]? =aa (.lst<|(m::l).map .int))(a:σ[i]? =aa (aa<|.ref k)):ao ax (aj i) (eC<|.int 0) σ M=.ok (.int m) M:=by
 have b:aj i σ M=.ok (.ref k) M:=by simp only[aj,a]
 exact aP b rfl<|er ⟨_,rfl,h⟩ (by decide) (by show(0)<((l.length+1:Nat):Int);omega)
def yZ(O:∃p,[(pq,ft),(ng,fl)].find? (λp=>ai<|p.1=x)=aa p/\uC L p.2):nX x L (PB.nE fl ft):=by
 intro M a n c h w fn l o F H S N C;obtain⟨Y,f,K⟩:=O;have A:∃v d,PB.nE fl ft [.ref a,.str o,.ref fn] M=.ok v d/\(M<+:d/\((v=.aA/\∀g:Int,0<=g->g<((ar h w).length:Int)->L (ar h w) l (h*w) g=[])\/∃g m:Int,0<=g/\g<((ar h w).length:Int)/\m∈L (ar h w) l (h*w) g/\aI d v [.str o,.int g,.int m])):=by
  refine bJ rfl ?_;refine aD ?_;have P:=S;obtain⟨⟨X,Q,z⟩,_⟩:=P;refine fJ (xS F H rfl Q rfl z.ll) (λj t d=>(∃x y,t=[aa<|.ref a,aa<|.str o,aa<|.ref fn,x,y])/\M<+:d/\∀g:Int,0<=g->g<(j)->L (ar h w) l (h*w) g=[])
   ⟨⟨_,_,rfl⟩,dc _,λg G U=>by omega⟩ ?_ ?_
  ·rintro j t d W ⟨⟨x',y',rfl⟩,p,hz⟩;rw[Int.zero_add];obtain⟨v,M1,J,I,T⟩:=K d a n c h w l (j) F H (S.mono p) N (by omega)<|by omega
   obtain⟨k,rfl,E⟩:=T;have ec:qL [(pq,ft),(ng,fl)] (aj 2) (ak (aj 0)<|ak (aj 3) aq) [aa<|.ref a,aa<|.str o,aa<|.ref fn,aa<|.int<|j,y'] d=.ok (.ref k) M1:=by
    have D:fnOf d (.ref fn)=aa x:=by simp only[fnOf,aB p C]
    simp only[qL,aj,R.bind,Uo,Uj,pick,D,ak,aq,f,VV,J]
   refine aD<|bA ec ?_;refine aJ (AL E rfl) (λs=>?_) λs=>?_
   ·cases B:L (ar h w) l (h*w) (j) with
    |nil=>rw[B] at s;simp at s
    |cons m r=>rw[B] at E;have u:=aB (pre_app M1 [.lst []]) E;have V:=ot (σ:=[aa<|.ref a,aa<|.str o,aa<|.ref fn,aa<|.int<|j,aa<|.ref k]) (a:=aj 1) (b:=aj 3) rfl rfl<|qz (i:=4) u rfl;refine aV V ⟨p.trans<|I.trans<|(pre_app _ _).trans<|pre_app _ _,.inr ⟨(j),m,by omega,by omega,by rw[B];simp,aI.new _ _⟩⟩
   ·refine⟨⟨_,_,rfl⟩,p.trans<|I.trans<|pre_app _ _,λg G U=>?_⟩;by_cases e:g=(j)
    ·subst e;simpa using s
    ·exact hz g G<|by omega
  ·rintro t d ⟨⟨x',y',rfl⟩,p,hz⟩;dsimp only;exact aV rfl ⟨p,.inl ⟨rfl,hz⟩⟩
 obtain⟨v,d,e,q⟩:=A;exact⟨v,d,e,q⟩
def FW(d:0<=g)(e:g<(G.length:Int))(h:m∈jy G ss s g):dM G ss T s (.i2 g m)=af:=by unfold jy at h;obtain⟨a,b⟩:=UP.mp h;have f:=mm a;have c:=UM b;rw[pT];simp only[T',UB,U_,UZ,U4];omega
def zY:(∀g:Int,0<=g->g<(G.length:Int)->jy G ss s g=[])↔bR G ss s=af:=by
 constructor
 ·intro h;unfold bR kj;refine US.mpr λo j=>US.mpr λk a=>UR ?_
  obtain⟨i,e,rfl⟩:=VW j;have b:=h (i) (by omega)<|by omega
  unfold jy at b;rw[Wl] at b;have c:=b ((k)+1)<|Um.mpr ⟨k,a,rfl⟩;have l:G.getD (i:Int).toNat []=G[i]:=by simp[e]
  rw[l] at c;simp only[U4] at c;omega
 ·intro h g d f;unfold jy;rw[Wl];intro m n;obtain⟨k,a,rfl⟩:=Um.mp n;unfold bR kj at h;have:=UM<|US.mp (US.mp h _<|getD_mem d f) k a;simp only[U4];omega
def y0(v:0<=g)(w:g<(G.length:Int))(d:∀i∈G.getD g.toNat [],0<=i/\i<(ss.length:Int)):m∈kl G ss s g↔dM G ss (tabOf G ss s) s (.c9 g m)=af:=by
 rw[pS];have l:bU G (tabOf G ss s) g m=[]↔(G.getD g.toNat []).any (λf=>(rowOf G ss s f).any (·==m))=ag:=by
  unfold bU;rw[Wl,Ve,Ne,Ui];constructor
  ·rintro h ⟨f,a,e⟩;obtain⟨k,p⟩:=d f a;exact h f a (by rw[kU k p];exact e)
  ·intro h f a e;obtain⟨k,p⟩:=d f a;rw[kU k p] at e;exact h ⟨f,a,e⟩
 have n:∀b:Bool,(((G.getD g.toNat []).map<|aw ss).any (·==m))=b↔(G.getD g.toNat []).any (λf=>ai<|aw ss f=m)=b:=λb=>by rw[WH];exact Iff.rfl
 have o:g_ G ss s (G.getD g.toNat []) m=ag↔(G.getD g.toNat []).any (λf=>ai<|aw ss f=m)=ag/\(G.getD g.toNat []).any (λf=>(rowOf G ss s f).any (·==m))=ag:=by
  unfold g_;rw[Ve,Ve,Ve,Ne,Ne,Ne,Ui,Ui,Ui];constructor
  ·intro h;exact⟨λ⟨f,a,e⟩=>h ⟨f,a,by rw[e];simp⟩,λ⟨f,a,e⟩=>h ⟨f,a,by rw[e];simp⟩⟩
  ·rintro⟨j,c⟩ ⟨f,a,e⟩;rw[VB] at e;rcases e with e|e
   ·exact j ⟨f,a,e⟩
   ·exact c ⟨f,a,e⟩
 unfold kl dY;rw[UP,UB,o];simp only[T',UB,U_,UZ,U4,l];rw[n ag];constructor
 ·rintro⟨j,c,h3⟩;have:=mm j;exact⟨⟨⟨by omega,by omega,by omega,by omega⟩,c⟩,h3⟩
 ·rintro⟨⟨⟨u,r,q,t⟩,c⟩,h3⟩;refine⟨?_,c,h3⟩;refine Um.mpr ⟨(m-1).toNat,UD.mpr<|by omega,by omega⟩
noncomputable def yo(f:CM):Prop:=∀(M) (a n c h w) (b),1<=h/\h<=3->1<=w/\w<=3->b_ M a n c h w b->bo (h*w) b->
 ∃v d,f [.ref a] M=.ok v d/\M<+:d/\((v=.aA/\bR (ar h w) b (h*w)=af)\/∃g m,ic d v (.i2 g m)/\dM (ar h w) b (tabOf (ar h w) b<|h*w) (h*w) (.i2 g m)=af/\bR (ar h w) b (h*w)=ag)
def Ez(hf:nX pq jy f):yo (PB.nM f):=by
 intro M a n c h w q d t S i;obtain⟨v,k,e,p,s⟩:=hf (M++[.dr pq]) a n c h w M.length q [116,119,105,99,101] d t (S.mono<|pre_app _ _) i<|b8 _ _;have b:∃r N,PB.nM f [.ref a] M=.ok r N/\(r=v/\N=k):=by refine bJ rfl<|aV ?_ ⟨rfl,rfl⟩;simp only[av];exact e
 obtain⟨r,N,j,rfl,rfl⟩:=b;refine⟨_,_,j,(pre_app _ _).trans p,?_⟩;rcases s with⟨o,l⟩|⟨g,m,g0,g1,hm,ht⟩
 ·exact .inl ⟨o,zY.mp l⟩
 ·refine .inr ⟨g,m,ht,FW g0 g1 hm,?_⟩;rw[Ve];intro z;have:=zY.mpr z g g0 g1;rw[this] at hm;cases hm
noncomputable def qo(f:CM):Prop:=∀(M) (a n c h w) (b),1<=h/\h<=3->1<=w/\w<=3->b_ M a n c h w b->bo (h*w) b->
 ∃v d,f [.ref a] M=.ok v d/\M<+:d/\((v=.aA/\kF (ar h w) b (tabOf (ar h w) b<|h*w) (h*w)=ag)\/∃c,ic d v c/\dM (ar h w) b (tabOf (ar h w) b<|h*w) (h*w) c=af)
def zZ{fs f:CM}(P:yn fs)(N:nX ng kl f):qo (PB.nF fs f):=by
 intro M a n c h w j t F S y;have H:=y.len;obtain⟨X,M1,T,L,G,⟨k,rfl,J⟩,o⟩:=P M a n c h w j t F S y;have A:∃v d,PB.nF fs f [.ref a] M=.ok v d/\(M<+:d/\((v=.aA/\kF (ar h w) j (tabOf (ar h w) j<|h*w) (h*w)=ag)\/∃c,ic d v c/\dM (ar h w) j (tabOf (ar h w) j<|h*w) (h*w) c=af)):=by
  refine bJ rfl ?_;show(au _ _ [aa<|.ref a,ae] M).Sat _;refine aD<|bA (v:=.ref k) (M1:=M1) (by simp only[av,ak,aq,aj,R.bind,Uj,L]) ?_;refine aD<|aJ (AL J rfl) (λC=>?_) λC=>?_
  ·cases T with
   |nil=>simp at C
   |cons p r=>
    have x:=aB (pre_app M1 [.lst []]) J;obtain⟨E,K⟩:=(o p).mp UE;have W:bI (ak (eC<|.str [102,105,101,108,100])<|ak (ao ax (aj 1)<|eC<|.int 0) aq) [aa<|.ref a,aa<|.ref k] (M1++[.lst []])=.ok (.ref (M1++[O.lst []]).length) (M1++[.lst []]++[.tup [oF,.int p]]):=by simp only[bI,ak,aq,qz (i:=1) (σ:=[aa<|.ref a,aa<|.ref k]) x rfl,eC,R.bind];exact gX (by show 2<=16777216;decide)
    refine aV W ⟨G.trans<|(pre_app _ _).trans<|pre_app _ _,.inr ⟨.fld p,aI.new _ _,?_⟩⟩;rw[pR,qd.mpr E,kU E.1 E.2.1,K];rfl
  ·have u:=by simpa using C
   subst u;refine bf ?_;obtain⟨v,d,e,p,V⟩:=N (M1++[.lst []]++[.dr ng]) a n c h w (M1++[O.lst []]).length j [103,114,111,117,112] t F (S.mono<|G.trans<|(pre_app _ _).trans<|pre_app _ _) y<|b8 _ _;refine aV (v:=v) ?_ ⟨G.trans<|((pre_app _ _).trans<|pre_app _ _).trans p,?_⟩
   ·show av f (ak (aj 0)<|ak (eC<|.str [103,114,111,117,112])<|ak (ph ng) aq) [aa<|.ref a,aa<|.ref k] (M1++[.lst []])=_;simp only[av];exact e
   ·have s:=hJ t F;rcases V with⟨U,Q⟩|⟨g,m,g0,g1,hm,ht⟩
    ·refine .inl ⟨U,?_⟩;unfold kF;rw[U_];constructor
     ·rw[Ve,Ne,Ui];rintro⟨p,B,b⟩;have B:=UD.mp B;rw[T',U4,U4,eP _ _ _ _ B] at b;have:=(o<|p).mpr ⟨⟨by omega,by omega,b.1⟩,b.2⟩;cases this
     ·rw[Ve,Ne,Ui];rintro⟨g,I,l⟩;have I:=UD.mp I;rw[Ui] at l;obtain⟨k2,_,z⟩:=l;have:=(y0 (by omega) (by omega) (λi D=>by rw[H];exact(s _<|getD_mem (by omega)<|by omega).2 i D)).mpr z;rw[Q (g) (by omega)<|by omega] at this;cases this
    ·exact .inr ⟨.c9 g m,ht,(y0 g0 g1 (λi D=>by rw[H];exact(s _<|getD_mem g0 g1).2 i D)).mp hm⟩
 obtain⟨v,d,e,q⟩:=A;exact⟨v,d,e,q⟩
noncomputable def xT(f:CM):Prop:=∀(M) (a n c h w) (b),1<=h/\h<=3->1<=w/\w<=3->b_ M a n c h w b->bo (h*w) b->
 ∃v d,f [.ref a] M=.ok v d/\M<+:d/\((v=.aA/\kF (ar h w) b (tabOf (ar h w) b<|h*w) (h*w)=ag/\bR (ar h w) b (h*w)=af)\/∃c,ic d v c/\dM (ar h w) b (tabOf (ar h w) b<|h*w) (h*w) c=af)
def EA(x:yo ft)(t:qo fd):xT (PB.nO ft fd):=by
 intro M a n c h w d o s S r;obtain⟨y,M1,u,l,i⟩:=x M a n c h w d o s S r;have k:∃v f,PB.nO ft fd [.ref a] M=.ok v f/\(M<+:f/\((v=.aA/\kF (ar h w) d (tabOf (ar h w) d<|h*w) (h*w)=ag/\bR (ar h w) d (h*w)=af)\/∃c,ic f v c/\dM (ar h w) d (tabOf (ar h w) d<|h*w) (h*w) c=af)):=by
  refine bJ rfl ?_;show(au _ _ [aa<|.ref a,ae] M).Sat _;refine aD<|bA (v:=y) (M1:=M1) (by simp only[av,ak,aq,aj,R.bind,Uj,u]) ?_;simp only[T9];rcases i with⟨rfl,A⟩|⟨g,m,C,F,_⟩
  ·refine aD (aJ (aU rfl) (λz=>nomatch z) λ_=>?_);refine bf ?_;obtain⟨v,f,e,p,E⟩:=t M1 a n c h w d o s (S.mono l) r;refine aV (v:=v) (by simp only[av,ak,aq,aj,R.bind,Uj,e]) ⟨l.trans p,?_⟩;rcases E with⟨D,B⟩|z
   ·exact .inl ⟨D,B,A⟩
   ·exact .inr z
  ·obtain⟨b,rfl,j⟩:=C;refine aD<|aJ (aU rfl) (λ_=>?_) λz=>nomatch z
   exact aV rfl ⟨l,.inr ⟨.i2 g m,⟨b,rfl,j⟩,F⟩⟩
 obtain⟨v,f,e,q⟩:=k;exact⟨v,f,e,q⟩
def DL{h w:Nat}(q:1<=h/\h<=3)(t:1<=w/\w<=3){ss:List Int}(r:bo (h*w) ss){g m p:Int}(j:0<=g)(k:g<((ar h w).length:Int))(i:bU (ar h w) (tabOf (ar h w) ss<|h*w) g m=[p]):
 jV (ar h w) ss (tabOf (ar h w) ss<|h*w) (h*w) (.c9 p m g)=af:=by
 have o:p∈bU (ar h w) (tabOf (ar h w) ss<|h*w) g m:=by rw[i];simp
 unfold bU at o;obtain⟨c,b⟩:=UP.mp o;obtain⟨_,e⟩:=hJ q t _<|getD_mem j k;obtain⟨n,f⟩:=e p c;have a:p<(ss.length:Int):=by rw[r.len];exact f
 rw[kU n a] at b;obtain⟨y,l,s⟩:=Ui.mp b;have d:y=m:=by simpa using s
 subst d;rw[kE,UR i,FD j k c l,qd.mpr ⟨n,a,(oD l).1⟩];rfl
noncomputable def ug(f:CM):Prop:=∀(M) (a n c h w) (b),1<=h/\h<=3->1<=w/\w<=3->b_ M a n c h w b->bo (h*w) b->
 ∃v d,f [.ref a] M=.ok v d/\M<+:d/\((v=.aA/\eh (ar h w) b (tabOf (ar h w) b<|h*w) (h*w)=ag)\/∃e,jg d v e/\jV (ar h w) b (tabOf (ar h w) b<|h*w) (h*w) e=af)
def yp{kvs:List (Int×W)}{j:Nat}(h:(kvs.map λkv=>Src.pair (.int kv.1) kv.2)[j]? =aa x):∃kv,kvs[j]? =aa kv/\x=.pair (.int kv.1) kv.2:=by
 rw[U7] at h;cases q:kvs[j]? with
 |none=>rw[q] at h;cases h
 |some kv=>rw[q] at h;exact⟨kv,rfl,(Ug h).symm⟩
def BA{l:List Int}(h:M[k]? =aa (.lst<|l.map .int))(a:σ[i]? =aa (aa<|.ref k)):tB (ao oEq (av aZ<|ak (aj i) aq)<|eC<|.int 1) σ M=.ok (ai<|(l.length:Int)=1) M:=by
 have b:aj i σ M=.ok (.ref k) M:=by simp only[aj,a]
 exact aU<|aP (mv b ⟨_,rfl,h⟩) rfl eq_int
def y6(he:e σ M=.ok (.ref a) M1)(s:M1[a]? =aa (.aG kvs))(P:Nat->St->Mem->Prop)(r:P 0 σ<|M1.set a (.ba M1.length kvs)++[.bZ])(o:∀(j) x σ N,(kvs.map λkv=>Src.pair (.int kv.1) kv.2)[j]? =aa x->P j σ N->N[a]? =aa (.ba M1.length kvs)/\∃v l bS m,x.get N=.ok v l/\g v σ l=.ok bS m/\(body bS m).Sat {nx:=P (j+1),ct:=P (j+1),bk:=λσ N=>N[a]? =aa (.ba M1.length kvs)/\q.nx σ (N.set a<|.aG kvs),rt:=λv N=>N[a]? =aa (.ba M1.length kvs)/\q.rt v (N.set a<|.aG kvs)})(hd:∀σ N,P kvs.length σ N->N[a]? =aa (.ba M1.length kvs)/\q.nx σ (N.set a<|.aG kvs)):(mG e g body σ M).Sat q:=by
 have p:jU e σ M=.ok (kvs.map<|λkv=>.pair (.int kv.1) kv.2,[(a,.ba M1.length kvs)]) (M1.set a (.ba M1.length kvs)++[.bZ]):=by unfold jU;rw[he];simp only[R.bind,fo s]
 unfold mG;rw[p];simp only[R.cz];have b:=yS (c:=[(a,.ba M1.length kvs)]) (q:={nx:=λσ N=>N[a]? =aa (.ba M1.length kvs)/\q.nx σ (N.set a<|.aG kvs),rt:=λv N=>N[a]? =aa (.ba M1.length kvs)/\q.rt v (N.set a<|.aG kvs)}) (kvs.map λkv=>Src.pair (.int kv.1) kv.2) P (λj x σ N n k=>by obtain⟨d,f⟩:=o j x σ N n k;exact⟨by simp[bN.ok,d],f⟩)
  (λσ N k=>by rw[Ua] at k;obtain⟨d,f⟩:=hd σ N k;exact⟨by simp[bN.ok,d],d,f⟩) 0 σ (M1.set a (.ba M1.length kvs)++[.bZ]) (UX _) r
 rw[List.drop_zero] at b;cases h:loop [(a,.ba M1.length kvs)] g body (kvs.map λkv=>Src.pair (.int kv.1) kv.2) σ (M1.set a (.ba M1.length kvs)++[.bZ]) with
 |nx i N=>rw[h] at b;obtain⟨d,f⟩:=b;simp only[RS.de,uZ d];exact f
 |rt v N=>rw[h] at b;obtain⟨d,f⟩:=b;simp only[RS.de,uZ d];exact f
 |bk i N=>rw[h] at b;exact b.elim
 |ct i N=>rw[h] at b;exact b.elim
 |ex v N=>rw[h] at b;exact b.elim
 |bad=>rw[h] at b;exact b.elim
def y7(h:aI N v us)(c:N[a]? =aa (.ba g kvs)):aI (N.set a o) v us:=by
 obtain⟨b,e,q⟩:=h;have:a≠b:=by rintro rfl;rw[c] at q;cases q
 exact⟨b,e,by rw[UG this];exact q⟩
def FX{fh:CM}(hH:yi fh):ug (PB.nQ fh):=by
 intro M a n c h w E hh hw S sh;have sl:=sh.len;have NZ:=hJ hh hw;have S0:=S;obtain⟨⟨vG,ob,mZ⟩,nm,V,hc,m8,wu,X⟩:=S0;have key:∃v D,PB.nQ fh [.ref a] M=.ok v D/\(M<+:D/\((v=.aA/\eh (ar h w) E (tabOf (ar h w) E<|h*w) (h*w)=ag)\/∃st,jg D v st/\jV (ar h w) E (tabOf (ar h w) E<|h*w) (h*w) st=af)):=by
  refine bJ rfl ?_;show(au _ _ [aa<|.ref a,ae,ae,ae,ae,ae] M).Sat _;refine aD ?_;have he:aT aY fC (aj 0) [aa<|.ref a,ae,ae,ae,ae,ae] M=.ok (.ref c) M:=cL rfl ob rfl;have H:=aB (pre_app _ [O.bZ])<|u3 (o':=.ba M.length V) hc;refine y6 he hc (λj C N=>(∃x y,C=[aa<|.ref a,x,y,ae,ae,ae])/\M.set c (.ba M.length V)++[.bZ]<+:N/\∀d∈V.take j,(rowOf (ar h w) E (h*w) d.1).length≠1) ⟨⟨_,_,rfl⟩,dc _,by simp⟩ ?_ ?_
  ·rintro j x C N hx ⟨⟨x',y',rfl⟩,p,hz⟩;obtain⟨d,F,rfl⟩:=yp hx;refine⟨aB p H,_,_,_,_,qj _ _ _,q7,?_⟩;simp only[T_,T9];have hm:(d.1,d.2)∈V:=U8 F;have s:=mj hm wu;rcases X d.1 with⟨z,_⟩|⟨k,z,hE,hk,hL⟩
   ·rw[z] at s;cases s
   ·rw[z] at s;have Z:d.2=.ref k:=(Ug s).symm;have B:=aB (p.trans<|pre_app N [.tup [.int d.1,d.2]])<|aB (pre_app _ _)<|vo (o:=.ba M.length V) hc hL;refine aJ (BA (i:=2) B (by rw[Z];rfl)) (λA=>?_) λA=>?_
    ·have l:(rowOf (ar h w) E (h*w) d.1).length=1:=by have:=UM A;omega
     cases K:rowOf (ar h w) E (h*w) d.1 with
     |nil=>rw[K] at l;simp at l
     |cons m r=>
      have P:r=[]:=by rw[K] at l;simpa using l
      subst P;rw[K] at B;have et:=ot (σ:=[aa<|.ref a,aa<|.int d.1,aa d.2,ae,ae,ae]) (M:=N++[.tup [.int d.1,d.2]]) (a:=eC<|.str [102,105,101,108,100]) (b:=aj 1) rfl rfl<|qz (i:=2) B (by rw[Z];rfl);have U:=p.trans<|(pre_app N [O.tup [.int d.1,d.2]]).trans<|pre_app _ [O.tup [W.str [102,105,101,108,100],W.int d.1,W.int m]];refine aV et ⟨aB U H,ou hc<|(pre_app _ _).trans U,.inr ⟨.fld d.1 m,y7 (aI.new _ _)<|aB U H,?_⟩⟩;rw[lY,qd.mpr hE,kU hE.1 hE.2.1,K];simp
    ·refine⟨⟨_,_,rfl⟩,p.trans<|pre_app _ _,λQ t=>?_⟩;rw[lZ _ _ F] at t;rcases U0.mp t with q|q
     ·exact hz Q q
     ·rw[UN.mp q];have:=Vz A;omega
  ·rintro C N0 ⟨⟨x',y',rfl⟩,p0,hz⟩;refine⟨aB p0 H,?_⟩;have p:=ou hc<|(pre_app _ _).trans p0;generalize N0.set c (O.aG V)=N at p;rw[UT] at hz;dsimp only;refine aD ?_;refine fJ (lo:=0) (n:=(ar h w).length) (M1:=N) (xS hh hw rfl (aB p ob) rfl<|mZ.ll.mono p) (λj C D=>(∃x y z u v,C=[aa<|.ref a,x,y,z,u,v])/\M<+:D/\∀g:Int,0<=g->g<(j:Int)->∀m,(bU (ar h w) (tabOf (ar h w) E<|h*w) g m).length≠1)
    ⟨⟨_,_,_,_,_,rfl⟩,p,λg g0 g1=>by omega⟩ ?_ ?_
   ·rintro j C D hj ⟨⟨x,y,z,u,v,rfl⟩,p',pw⟩;simp only[T_,T9];rw[Int.zero_add];obtain⟨M1,G,e1,I,hk⟩:=hH D a n c h w E (j:Int) hh hw (S.mono p') sh (by omega)<|by omega
    have p1:=I.pre;have Oe:av fh (ak (aj 0)<|ak (aj 3) aq) [aa<|.ref a,x,y,aa<|.int (j:Int),u,v] D=.ok (.ref D.length) M1:=by simp only[av,ak,aq,aj,R.bind,Uo,Uj,e1]
    have L:=aB (pre_app _ [O.bZ])<|u3 (o':=.ba M1.length G) I.at_;refine y6 Oe I.at_ (λi C N=>(∃u v,C=[aa<|.ref a,x,y,aa<|.int (j:Int),u,v])/\M1.set D.length (.ba M1.length G)++[.bZ]<+:N/\∀d∈G.take i,(bU (ar h w) (tabOf (ar h w) E<|h*w) (j:Int) d.1).length≠1) ⟨⟨_,_,rfl⟩,dc _,by simp⟩ ?_ ?_
    ·rintro i sx C N hx ⟨⟨x',y',rfl⟩,q,rS⟩;obtain⟨d,F,rfl⟩:=yp hx;refine⟨aB q L,_,_,_,_,qj _ _ _,q7,?_⟩;simp only[T_,T9];have hm:(d.1,d.2)∈G:=U8 F;have s:=mj hm I.nd;rcases I.val d.1 with⟨Y,_⟩|⟨k,Y,rT,m9,hL⟩
     ·rw[Y] at s;cases s
     ·rw[Y] at s;have Z:d.2=.ref k:=(Ug s).symm;have B:=aB (q.trans<|pre_app N [.tup [.int d.1,d.2]])<|aB (pre_app _ _)<|vo (o:=.ba M1.length G) I.at_ hL;refine aJ (BA (i:=5) B (by rw[Z];rfl)) (λA=>?_) λA=>?_
      ·have l:(bU (ar h w) (tabOf (ar h w) E<|h*w) (j:Int) d.1).length=1:=by have:=UM A;omega
       cases K:bU (ar h w) (tabOf (ar h w) E<|h*w) (j:Int) d.1 with
       |nil=>rw[K] at l;simp at l
       |cons f r=>
        have P:r=[]:=by rw[K] at l;simpa using l
        subst P;have Of:(N++[O.tup [.int d.1,d.2]])[k]? =aa (.lst<|[f].map .int):=by rw[K] at B;exact B
        have et:bI (ak (eC<|.str [103,114,111,117,112])<|ak (ao ax (aj 5)<|eC<|.int 0)<|ak (aj 4)<|ak (aj 3) aq) [aa<|.ref a,x,y,aa<|.int (j:Int),aa<|.int d.1,aa d.2] (N++[.tup [.int d.1,d.2]])=.ok (.ref (N++[O.tup [.int d.1,d.2]]).length) (N++[.tup [.int d.1,d.2]]++[.tup [hU,.int f,.int d.1,.int (j:Int)]]):=by simp only[bI,ak,aq,qz (i:=5) (σ:=[aa<|.ref a,x,y,aa<|.int (j:Int),aa<|.int d.1,aa d.2]) Of (by rw[Z];rfl),eC,aj,R.bind,Uo,Uj];exact gX (by show 4<=16777216;decide)
        have U:=q.trans<|(pre_app N [O.tup [.int d.1,d.2]]).trans<|pre_app _ [O.tup [hU,W.int f,W.int d.1,W.int<|j]];refine aV et ⟨aB U L,p'.trans<|p1.trans<|ou I.at_<|(pre_app _ _).trans U,.inr ⟨.c9 f d.1<|j,y7 (aI.new _ _)<|aB U L,DL hh hw sh (by omega) (by omega) K⟩⟩
      ·refine⟨⟨_,_,rfl⟩,q.trans<|pre_app _ _,λQ t=>?_⟩;rw[lZ _ _ F] at t;rcases U0.mp t with qq|qq
       ·exact rS Q qq
       ·rw[UN.mp qq];have:=Vz A;omega
    ·rintro C N ⟨⟨x',y',rfl⟩,q,rS⟩;refine⟨aB q L,⟨_,_,_,_,_,rfl⟩,p'.trans<|p1.trans<|ou I.at_<|(pre_app _ _).trans q,λg g0 g1 m=>?_⟩;rw[UT] at rS;by_cases e:g=(j)
     ·subst e;rcases I.val m with⟨_,z0⟩|⟨k,z0,_⟩
      ·have z0:=z0;rw[z0];simp
      ·exact rS (m,.ref k)<|uc z0
     ·exact pw g g0 (by omega) m
   ·rintro C D ⟨⟨x,y,z,u,v,rfl⟩,p',pw⟩;dsimp only;refine aV rfl ⟨p',.inl ⟨rfl,?_⟩⟩;unfold eh;rw[U_];constructor
    ·rw[Ve,Ne,Ui];rintro⟨q,hq,J⟩;have hq:=UD.mp hq;rw[U4,eP _ _ _ _ hq] at J;rcases X (q) with⟨_,zE⟩|⟨k,zv,_⟩
     ·have:=λY=>zE ⟨by omega,by omega,Y⟩
      rw[qx this] at J;simp at J
     ·exact hz ((q),.ref k) (uc zv) J
    ·rw[Ve,Ne,Ui];rintro⟨g,hg,B5⟩;have hg:=UD.mp hg;rw[Ui] at B5;obtain⟨k2,_,T⟩:=B5;unfold my at T;rw[T',U4] at T;exact pw (g) (by omega) (by omega) _ T.2
 obtain⟨v,D,e,q⟩:=key;exact⟨v,D,e,q⟩
mutual
inductive Tr where
 |mk (fi:List ee) (e:En)
inductive En where
 |full
 |left
 |cls (c:eJ)
 |dF (p:Int) (bs:Bs)
inductive Bs where
 |nil
 |cons (n:Int) (t:Tr) (r:Bs)
end
noncomputable abbrev gm:W:=.str [102,117,108,108]
noncomputable abbrev cO:W:=.str [108,101,102,116]
noncomputable abbrev gE:W:=.str [99,108,97,115,104]
noncomputable abbrev ik:W:=.str [116,114,121]
noncomputable def En.word:En->W
 |.full=>gm
 |.left=>cO
 |.cls _=>gE
 |.dF _ _=>ik
noncomputable def Bs.nums:Bs->List Int
 |.nil=>[]
 |.cons n _ r=>n::r.nums
noncomputable def Bs.list:Bs->List (Int×Tr)
 |.nil=>[]
 |.cons n t r=>(n,t)::r.list
mutual
noncomputable def cQ(M:Mem)(v:W):Tr->Prop
 |.mk c e=>∃a b,aI M v [a,b]/\fR M a c/\cb M b e
noncomputable def cb(M:Mem)(v:W):En->Prop
 |.full=>aI M v [gm]
 |.left=>aI M v [cO]
 |.cls c=>∃u,aI M v [gE,u]/\ic M u c
 |.dF p bs=>∃u a,aI M v [ik,.int p,u]/\aF M u a/\cR M a bs/\a.length<=1000
noncomputable def cR(M:Mem)(ws:List W):Bs->Prop
 |.nil=>ws=[]
 |.cons n t r=>∃w u a,ws=w::a/\aI M w [.int n,u]/\cQ M u t/\cR M a r
end
mutual
theorem cQ.mono{M c:Mem}(p:M<+:c):∀{v:W} {t:Tr},cQ M v t->cQ c v t
 |v,.mk f e,h=>by unfold cQ at h⊢;obtain⟨a,b,d,g,h3⟩:=h;exact⟨a,b,d.mono p,g.mono p,cb.mono p h3⟩
theorem cb.mono{M d:Mem}(p:M<+:d):∀{v:W} {e:En},cb M v e->cb d v e
 |v,.full,h=>by unfold cb at h⊢;exact h.mono p
 |v,.left,h=>by unfold cb at h⊢;exact h.mono p
 |v,.cls c,h=>by unfold cb at h⊢;obtain⟨u,a,b⟩:=h;exact⟨u,a.mono p,aI.mono b p⟩
 |v,.dF q bs,h=>by unfold cb at h⊢;obtain⟨u,f,a,b,h3,g⟩:=h;exact⟨u,f,a.mono p,b.mono p,cR.mono p h3,g⟩
theorem cR.mono{M c:Mem}(p:M<+:c):∀{ws:List W} {b:Bs},cR M ws b->cR c ws b
 |ws,.nil,h=>by unfold cR at h⊢;exact h
 |ws,.cons n t r,h=>by unfold cR at h⊢;obtain⟨w,u,a,e,d,f,h3⟩:=h;exact⟨w,u,a,e,d.mono p,cQ.mono p f,cR.mono p h3⟩
end
theorem cR.pairs{M:Mem}:∀{ws:List W} {a:Bs},cR M ws a->a_ (λw (p:Int×Tr)=>∃u,aI M w [.int p.1,u]/\cQ M u p.2) ws a.list
 |ws,.nil,h=>by unfold cR at h;subst h;exact .nil
 |ws,.cons n t r,h=>by unfold cR at h;obtain⟨w,u,c,e,b,d,h3⟩:=h;subst e;exact .cons ⟨u,b,d⟩<|cR.pairs h3
theorem Bs.qh:∀(a:Bs),a.nums=a.list.map (·.1)
 |.nil=>rfl
 |.cons n t r=>by show n::r.nums=_;rw[Bs.qh r];rfl
def AN(h:cb M v e):∃r,aI M v (e.word::r):=by
 cases e with
 |full=>exact⟨[],by unfold cb at h;exact h⟩
 |left=>exact⟨[],by unfold cb at h;exact h⟩
 |cls c=>unfold cb at h;obtain⟨u,a,_⟩:=h;exact⟨_,a⟩
 |dF p bs=>unfold cb at h;obtain⟨u,b,a,_⟩:=h;exact⟨_,a⟩
def nY(h:a σ M=.ok (.bl af) M1)(c:b σ M1=r):eZ a b σ M=r:=by unfold eZ;rw[h];exact c
def yq(h:aI M v ws)(i)(a:aj i σ=λM=>.ok v M)(n)(b:(ws.length:Int)=n):ao oEq (av aZ<|ak (aj i) aq) (eC<|.int n) σ M=.ok (.bl af) M:=by refine aP (iE h i a) rfl ?_;rw[eq_int,UR b]
def pO{M:Mem}{v:W}(h:aI M v<|.str a::r):
 bg (bB<|tB<|bt [.tuple]<|aj 0) (bg (tB<|ao oEq (aj 0)<|bI aq)<|bB<|tB<|bt [.str]<|ao ax (aj 0)<|eC<|.int 0) [aa v,x1] M=.ok ag (M++[.tup []]):=by
 have d:bI aq [aa v,x1] M=.ok (.ref M.length) (M++[.tup []]):=rfl;have e:oEq v (.ref M.length) (M++[.tup []])=.ok (.bl ag) (M++[.tup []]):=by have c:=h.mono<|pre_app M [.tup []];have g:=aI.new M [];have f:=c.a8;have i:=c.cm;obtain⟨b,rfl,_⟩:=c;unfold oEq dt;rw[T6<|by simp[VM.dh],f,i,g.cm];simp only[vB,List.all_nil,Vj,Vt,or_true,Uv,UO];split<;>simp_all [fQ]
 unfold bg;rw[c_<|is_tup h 0 rfl];simp only[R.bind];rw[aU<|aP rfl d e];simp only[R.bind];rw[c_<|zV (h.mono<|pre_app M [.tup []]) 0 rfl rfl];rfl
def FY(M:Mem)(v:W)(e:En)(h:cb M v e):∃d,lX cC (iC cC) [v] M=.ok (.bl af) d/\M<+:d:=by
 have o:∃r d,lX cC (iC cC) [v] M=.ok r d/\(r=.bl af/\M<+:d):=by
  refine bJ rfl ?_;show(au _ _ [aa v,ae] M).Sat _;have i:∀(a:List Nat),aI M v [.str a]->a≠[99,108,97,115,104]->a≠[116,114,121]->(a=[102,117,108,108]\/a=[108,101,102,116])->∀(d:Mem),M<+:d->((au (aM (tB<|ao oEq (ao ax (aj 0)<|eC<|.int 0)<|eC<|.str [99,108,97,115,104]) (aK<|eZ (ao oEq (av aZ<|ak (aj 0) aq)<|eC<|.int 2)<|av (iC cC)<|ak (ao ax (aj 0)<|eC<|.int 1) aq)<| aO) (au (aM (tB<|ao bp (ao ax (aj 0)<|eC<|.int 0)<|eC<|.str [116,114,121]) (aK<|eZ (ao oEq (av aZ<|ak (aj 0) aq)<|eC<|.int 1)<|ao dP (ao ax (aj 0)<|eC<|.int 0)<|aR<|ak (eC<|.str [102,117,108,108])<|ak (eC<|.str [108,101,102,116]) aq)<| aO)<| au (aM (bg (tB<|ao bp (av aZ<|ak (aj 0) aq)<|eC<|.int 3)<|bg (bB<|tB<|av cC<|ak (ao ax (aj 0)<|eC<|.int 1) aq)<|bB<|tB<|bt [.list]<|ao ax (aj 0)<|eC<|.int 2) (aK<|eC<|.bl ag)<| aO)<| au (bz (a9<|ao ax (aj 0)<|eC<|.int 2) (az 1)<| aM (bg (bB<|tB<|bt [.tuple]<|aj 1)<|bg (tB<|ao bp (av aZ<|ak (aj 1) aq)<|eC<|.int 2)<|bB<|tB<|av cC<|ak (ao ax (aj 1)<|eC<|.int 0) aq) (aK<|eC<|.bl ag)<| aO)<| aK<|eC<|.bl af):SM) [aa v,ae] d).Sat {nx:=λ_ d=>W.aA=.bl af/\M<+:d,rt:=λr d=>r=.bl af/\M<+:d}:=λa C K H I d p=>by
   have g:=C.mono p;have A:=aU<|fI (σ:=[aa v,ae]) 0 [99,108,97,115,104] g rfl rfl;rw[Uy K] at A;refine aD<|aJ (c:=ag) (M1:=d) A (λz=>nomatch z) λ_=>?_
   refine bf ?_;dsimp only;have n:tB (ao bp (ao ax (aj 0)<|eC<|.int 0)<|eC<|.str [116,114,121]) [aa v,ae] d=.ok af d:=by refine aU<|aP (x:=.str a) (y:=.str [116,114,121]) (M1:=d) (M2:=d) (cI 0 0 g rfl rfl) rfl ?_;unfold bp dt;simp[VM.dh,H]
   refine aD<|aJ (c:=af) (M1:=d) n (λ_=>?_) λz=>nomatch z
   have D:aR (ak (eC gm)<|ak (eC cO) aq) [aa v,ae] d=.ok (.ref d.length) (d++[.lst [gm,cO]]):=by unfold aR ak aq eC;simp only[R.bind];exact bT (by show 2<=16777216;decide)
   have L:=aF.new d [gm,cO];have s:dP (.str a) (.ref d.length) (d++[.lst [gm,cO]])=.ok (.bl af) (d++[.lst [gm,cO]]):=by unfold dP;rw[L.bu];rcases I with rfl|rfl<;>rfl
   refine aV (v:=.bl af) (M1:=d++[.lst [gm,cO]]) ?_ ⟨rfl,p.trans<|pre_app _ _⟩;refine nY (yq g 0 rfl 1 rfl) ?_;exact aP (x:=.str a) (M1:=d) (cI 0 0 g rfl rfl) D s
  cases e with
  |full=>
   unfold cb at h;refine aD<|aJ (pO h) (λz=>nomatch z) λ_=>?_
   exact i _ h (by decide) (by decide) (.inl rfl) _<|pre_app _ _
  |left=>
   unfold cb at h;refine aD<|aJ (pO h) (λz=>nomatch z) λ_=>?_
   exact i _ h (by decide) (by decide) (.inr rfl) _<|pre_app _ _
  |cls c=>
   unfold cb at h;obtain⟨u,k,m⟩:=h;refine aD<|aJ (pO k) (λz=>nomatch z) λ_=>?_
   refine bf ?_;dsimp only;have p:=pre_app M [.tup []];generalize M++[O.tup []]=d at p;have g:=k.mono p;refine aD<|aJ (c:=af) (M1:=d) (aU<|fI 0 _ g rfl rfl) (λ_=>?_) λz=>nomatch z
   obtain⟨M2,E,J⟩:=DK d u c<|aI.mono m p;refine aV (v:=.bl af) (M1:=M2) ?_ ⟨rfl,p.trans J⟩;refine nY (yq g 0 rfl 2 rfl) ?_;unfold av ak aq;rw[cI 0 1 g rfl rfl];simp only[R.bind];exact E
  |dF q bs=>
   unfold cb at h;obtain⟨u,G,k,m,h3,T⟩:=h;refine aD<|aJ (pO k) (λz=>nomatch z) λ_=>?_
   refine bf ?_;dsimp only;have p:=pre_app M [.tup []];generalize M++[O.tup []]=d at p;have g:=k.mono p;refine aD<|aJ (c:=ag) (M1:=d) (aU<|fI 0 _ g rfl rfl) (λz=>nomatch z) λ_=>?_
   refine bf ?_;dsimp only;have n:tB (ao bp (ao ax (aj 0)<|eC<|.int 0)<|eC<|.str [116,114,121]) [aa v,ae] d=.ok ag d:=by refine aU<|aP (x:=ik) (y:=.str [116,114,121]) (M1:=d) (M2:=d) (cI 0 0 g rfl rfl) rfl ?_;unfold bp dt;simp[VM.dh]
   refine aD<|aJ (c:=ag) (M1:=d) n (λz=>nomatch z) λ_=>?_
   refine bf ?_;dsimp only;have S:∀(f:St) (N:Mem),aj 0 f=(λM=>.ok v M)->M<+:N->ao ax (aj 0) (eC<|.int 1) f N=.ok (.int q) N:=λf N e p=>cI 0 1 (k.mono p) e rfl
   have t:∀(f:St) (N:Mem),aj 0 f=(λM=>.ok v M)->M<+:N->ao ax (aj 0) (eC<|.int 2) f N=.ok u N:=λf N e p=>cI 0 2 (k.mono p) e rfl
   refine aD<|aJ (c:=ag) (M1:=d) ?_ (λz=>nomatch z) λ_=>?_
   ·unfold bg;rw[aU<|aP (y:=.int 3) (M2:=d) (iE g 0 rfl) rfl ne_int];simp only[R.bind];rw[c_<|aU (b:=af) (by unfold av ak aq;rw[S _ _ rfl p];exact qa q d)];simp only[R.bind];rw[c_ (aU (b:=af) (by unfold bt;rw[t _ _ rfl p];obtain⟨a,rfl,B⟩:=m.mono p;simp only[R.bind,cW,cD,B];rfl))]
    rfl
   refine bf ?_;dsimp only;have F:=cR.pairs h3;refine aD ?_;refine dS (v:=u) (M1:=d) (xs:=G) (t _ _ rfl p) (m.mono p) (λj f N=>(∃y,f=[aa v,y])/\M<+:N) ⟨⟨_,rfl⟩,p⟩ (λj f N _ ⟨_,q⟩=>m.mono q) ?_ ?_
   ·rintro j w f N P ⟨⟨y,rfl⟩,pn⟩;obtain⟨b,_,U,Q,_⟩:=F.at P;have l:=Q.mono pn;simp only[T_,T9];refine aJ (c:=ag) ?_ (λz=>nomatch z) λ_=>⟨⟨_,rfl⟩,pn⟩
    unfold bg;rw[c_<|is_tup l 1 rfl];simp only[R.bind];rw[aU<|aP (iE l 1 rfl) rfl ne_int];simp only[R.bind];rw[c_<|aU (by unfold av ak aq;rw[cI 1 0 l rfl rfl];exact qa b.1 N)];rfl
   ·rintro f N ⟨⟨y,rfl⟩,pn⟩;dsimp only;exact aV rfl ⟨rfl,pn⟩
 obtain⟨r,d,e,rfl,p⟩:=o;exact⟨d,e,p⟩
noncomputable def e_(G:List<|List Int)(ss:List Int)(T:List<|List Int)(s:Nat):En->Bool
 |.full=>!ss.any (·==0)
 |.left=>af
 |.cls c=>dM G ss T s c
 |.dF p bs=>cV ss p&&ai (bs.nums=T.getD p.toNat [])
def kG(h:cV ss p=af):0<=p/\p<(ss.length:Int)/\aw ss p=0:=by unfold cV at h;simp only[UB,U_,UZ,Vd,UC] at h;obtain⟨a,b,h3⟩:=h;exact⟨by omega,by omega,h3⟩
def LL.keep(h:TabAt X M b T)(k:aH Y M M')(e:∀y∈Y,y∈X)(f:b∉Y):TabAt X M' b T:=by obtain⟨a,c,d⟩:=h;exact⟨a,k.get c f,d.keep k e⟩
noncomputable def HF(f:CM):Prop:=∀(X) (N M) (k j) (a b c) (G) (d) (T) (s:Nat) (e) (ws),N<+:M->LL N k G->cb N j e->a∈X->b∈X->c∈X->c≠a->c≠b->N.length<=c->
 M[a]? =aa (.lst<|d.map .int)->TabAt X M b T->M[c]? =aa (.lst ws)->ws.length<16000000->T.length=d.length->(∀g∈G,g.length<=9/\∀i∈g,0<=i/\i<(d.length:Int))->
 ∃h,f [k,.ref a,.ref b,j,.int s,.ref c] M=.ok (.bl<|e_ G d T s e) h/\aH [c] M h/\h[c]? =aa (.lst<|ws++[e.word])
def JU{fc:CM}(Og:yj fc):HF (lQ fc):=by
 intro X N M A B a b d G C T s e F hN hG P B6 rR Oh Oi Z Oj ha hT I m_ Y eM;have key:∃r t,lQ fc [A,.ref a,.ref b,B,.int s,.ref d] M=.ok r t/\(r=.bl (e_ G C T s e)/\aH [d] M t/\t[d]? =aa (.lst<|F++[e.word])):=by
  refine bJ rfl ?_;show(au _ _ [aa A,aa<|.ref a,aa<|.ref b,aa B,aa<|.int s,aa<|.ref d,ae] M).Sat _;obtain⟨r,hr⟩:=AN P;have Q:d<M.length:=(Ub.mp I).1;have a0:=gD (σ:=[aa A,aa<|.ref a,aa<|.ref b,aa B,aa<|.int s,aa<|.ref d,ae]) (o:=aj 5) (arg:=ao ax (aj 3)<|eC<|.int 0) (y:=e.word) rfl I (cI 3 0 (hr.mono hN) rfl rfl) I<|by omega
  refine aD<|df a0 ?_;dsimp only;have k0:aH [d] M (M.set d<|.lst<|F++[e.word]):=aH.set _<|by simp
  have w0:(M.set d<|.lst<|F++[e.word])[d]? =aa (.lst<|F++[e.word]):=UH Q;generalize M.set d (O.lst<|F++[e.word])=M0 at k0 w0;have g:N<+:M0:=k0.base hN (by simp;exact Oj);have a1:aX M0 (.ref a) C:=⟨a,rfl,k0.get ha (by simp;exactλz=>Oi z.symm)⟩;have T1:TabAt X M0 b T:=LL.keep hT k0 (by simp;exact Oh) (by simp;exactλz=>Z z.symm);have k:∀{t:Mem},M0<+:t->aH [d] M t/\t[d]? =aa (.lst<|F++[e.word]):=λp=>⟨k0.trans<|aH.ck p,aB p w0⟩
  have q:∀(U:List Nat) (a':List Nat),e.word=.str a'->tB (ao oEq (ao ax (aj 3)<|eC<|.int 0)<|eC<|.str U) [aa A,aa<|.ref a,aa<|.ref b,aa B,aa<|.int s,aa<|.ref d,ae] M0=.ok (ai<|a'=U) M0:=λU a' e'=>aU<|fI 3 U (hr.mono g) rfl (by rw[e'];rfl)
  cases e with
  |full=>
   refine aD<|aJ (q _ _ rfl) (λ_=>?_) λz=>nomatch z
   refine aV (v:=.bl (!C.any (·==0))) (M1:=M0) (aP (x:=.int 0) (y:=.ref a) (M1:=M0) (M2:=M0) rfl rfl<|yU 0 a1) ⟨rfl,k<|dc _⟩
  |left=>
   refine aD<|aJ (q _ _ rfl) (λz=>nomatch z) λ_=>?_
   refine bf ?_;dsimp only;refine aD<|aJ (q _ _ rfl) (λz=>nomatch z) λ_=>?_
   refine bf ?_;dsimp only;refine aD<|aJ (q _ _ rfl) (λ_=>?_) λz=>nomatch z
   exact aV (v:=.bl af) (M1:=M0) rfl ⟨rfl,k<|dc _⟩
  |cls c=>
   unfold cb at P;obtain⟨u,V,h2⟩:=P;refine aD<|aJ (q _ _ rfl) (λz=>nomatch z) λ_=>?_
   refine bf ?_;dsimp only;refine aD<|aJ (q _ _ rfl) (λ_=>?_) λz=>nomatch z
   obtain⟨M2,e2,p2⟩:=Og M0 A (.ref a) (.ref b) u G C T s c (hG.mono g) a1 T1.ll (aI.mono h2 g) Y eM;exact aV (v:=.bl<|dM G C T s c) (M1:=M2) (mI rfl rfl rfl (cI 3 1 (V.mono g) rfl rfl) rfl e2) ⟨rfl,k p2⟩
  |dF p bs=>
   unfold cb at P;obtain⟨u,H,V,h2,h3,h4⟩:=P;refine aD<|aJ (q _ _ rfl) (λz=>nomatch z) λ_=>?_
   refine bf ?_;dsimp only;refine aD<|aJ (q _ _ rfl) (λz=>nomatch z) λ_=>?_
   refine bf ?_;dsimp only;refine aD<|aJ (q _ _ rfl) (λz=>nomatch z) λ_=>?_
   refine bf ?_;dsimp only;refine aD<|bA (v:=.int p) (M1:=M0) (cI 3 1 (V.mono g) rfl rfl) ?_;simp only[T_,T9];refine aD<|aJ (xP 1 6 a1 rfl rfl) (λE=>?_) λE=>?_
   ·refine aV rfl ⟨?_,k<|dc _⟩;rw[UB] at E;show _=W.bl (cV C p&&ai (bs.nums=T.getD p.toNat []));rw[E,Vi]
   ·refine bf ?_;dsimp only;rw[Vd] at E;obtain⟨p0,p1,_⟩:=kG E;obtain⟨w,BX,RW⟩:=gk T1.ll (i:=p) p0<|by omega
    have hp:=cR.pairs<|cR.mono g h3;obtain⟨ub,rfl,J⟩:=h2.mono g
    let f:W->W:=λw=>match ax w (.int 0) M0 with|.ok v _=>v|_=>.aA
    have hf:∀w∈H,∃n:Int,ax w (.int 0) M0=.ok (.int n) M0:=λw I=>by
     obtain⟨j,hj,e⟩:=VW I;obtain⟨b',_,u',ht,_⟩:=hp.at (i:=j) (x:=w)<|by rw[VN hj,e]
     exact⟨b'.1,dm ht 0 rfl⟩
    have S:H.map f=bs.nums.map .int:=by
     rw[Bs.qh,VT];have:∀{l:List W} {m:List (Int×Tr)},a_ (λw (p:Int×Tr)=>∃u,aI M0 w [.int p.1,u]/\cQ M0 u p.2) l m->l.map f=m.map (λp=>W.int p.1):=by
      intro l m h;induction h with
      |nil=>rfl
      |cons r _ ih=>obtain⟨u',ht,_⟩:=r;rw[Ux,Ux,ih];congr 1;show(match ax _ (.int 0) M0 with|.ok v _=>v|_=>.aA)=_;have:=dm ht 0 rfl;rw[show ax _ (.int 0) M0=_ from this]
     exact this hp
    have D:bE 1 [] (a9<|ao ax (aj 3)<|eC<|.int 2) (az 7) cX (ao ax (aj 7)<|eC<|.int 0) [aa A,aa<|.ref a,aa<|.ref b,aa B,aa<|.int s,aa<|.ref d,aa<|.int p] M0=.ok (.ref M0.length) (M0++[.lst<|bs.nums.map .int]):=by
     unfold bE;have hi:a9 (ao ax (aj 3)<|eC<|.int 2) [aa A,aa<|.ref a,aa<|.ref b,aa B,aa<|.int s,aa<|.ref d,aa<|.int p] M0=.ok (H.map .val,[(ub,.lst H)]) M0:=by unfold a9;rw[cI 3 2 (V.mono g) rfl rfl];simp only[R.bind,J]
     rw[hi];simp only[R.bind,R.gL,dE,VJ,Vw,VL,VA,UJ];rw[gz (σ:=[aa A,aa<|.ref a,aa<|.ref b,aa B,aa<|.int s,aa<|.ref d,aa<|.int p,ae]) (λ_=>af) f _ _ _ (λ_=>rfl) (by simp[bN.ok,J]) ?_]
     ·simp only[filter_tt,UJ,S];have:bs.nums.length=H.length:=by rw[Bs.qh,Ua,hp.len]
      exact bT (by rw[Ua];omega)
     ·intro x hx;obtain⟨n,e⟩:=hf x hx;refine⟨rfl,λ_=>?_⟩;refine aP (x:=x) (y:=.int 0) (M1:=M0) (M2:=M0) rfl rfl ?_;show _=R.ok (match ax x (.int 0) M0 with|.ok v _=>v|_=>.aA) M0;rw[e]
    have L:aX (M0++[.lst<|bs.nums.map .int]) (.ref M0.length) bs.nums:=aF.new _ _;obtain⟨w2,wx,K⟩:=gk (T1.ll.mono<|pre_app M0 [.lst<|bs.nums.map .int]) p0<|by omega
    refine aV (aP D (aP rfl rfl wx)<|jQ L K) ⟨?_,k<|pre_app _ _⟩;show _=W.bl (cV C p&&ai (bs.nums=T.getD p.toNat []));rw[E,Vg]
 obtain⟨r,t,e,rfl,h⟩:=key;exact⟨t,e,h⟩
noncomputable def dw(ss:List Int)(st:ee):List Int:=ss.set st.place.toNat st.num
noncomputable def cw(G:List<|List Int)(s:Nat)(ss:List Int)(st:ee):Bool:=jV G ss (tabOf G ss s) s st
noncomputable def cJ(G:List<|List Int)(s:Nat):List Int->List ee->Option (List Int)
 |ss,[]=>aa ss
 |ss,st::r=>if cw G s ss st then cJ G s (dw ss st) r else ae
structure cB where
 words:List W
 cj:List (List Int)
 dB:Bool
noncomputable def cB.join(a b:cB):cB:=⟨a.words++b.words,a.cj++b.cj,a.dB&&b.dB⟩
mutual
noncomputable def dG(G:List<|List Int)(s:Nat)(ss:List Int):Tr->Option cB
 |.mk b e=>match cJ G s ss b with
  |none=>ae
  |some a=>if e_ G a (tabOf G a s) s e then dH G s a e else ae
noncomputable def dH(G:List<|List Int)(s:Nat)(ss:List Int):En->Option cB
 |.full=>aa ⟨[gm],[ss],af⟩
 |.left=>aa ⟨[cO],[],af⟩
 |.cls _=>aa ⟨[gE],[],af⟩
 |.dF p bs=>(du G s ss p bs).map λw=>⟨ik::w.words,w.cj,!eh G ss (tabOf G ss s) s&&w.dB⟩
noncomputable def du(G:List<|List Int)(s:Nat)(ss:List Int)(p:Int):Bs->Option cB
 |.nil=>aa ⟨[],[],af⟩
 |.cons n t r=>match du G s ss p r,dG G s (ss.set p.toNat n) t with
  |some a,aa b=>aa<|a.join b
  |_,_=>ae
end
noncomputable def eu(G:List<|List Int)(s:Nat):List (List Int×Tr)->Option cB
 |[]=>aa ⟨[],[],af⟩
 |(ss,t)::r=>match dG G s ss t,eu G s r with
  |some a,aa b=>aa<|a.join b
  |_,_=>ae
mutual
noncomputable def dq:Tr->Nat
 |.mk _ e=>1+jn e
noncomputable def jn:En->Nat
 |.dF _ bs=>gP bs
 |_=>0
noncomputable def gP:Bs->Nat
 |.nil=>0
 |.cons _ t r=>dq t+gP r
end
noncomputable def dz:List (List Int×Tr)->Nat
 |[]=>0
 |(_,t)::r=>dq t+dz r
def uD(h:n∈rowOf G ss s p):1<=n/\n<=(s):=mm (UP.mp h).1
def i9(h:cw G s ss st=af):0<=st.place/\st.place<(ss.length:Int)/\aw ss st.place=0/\1<=st.num/\st.num<=(s):=by
 unfold cw at h;cases st with
 |fld p n=>
  rw[lY,T',UC] at h;obtain⟨e,d,c⟩:=kG h.1;have f:n∈rowOf G ss s (p.toNat:Nat):=by rw[<-eP G ss s p.toNat (by omega),h.2];simp
  obtain⟨a,b⟩:=uD f;exact⟨e,d,c,a,b⟩
 |c9 p n g=>rw[kE,T',T'] at h;obtain⟨e,d,c⟩:=kG h.1;obtain⟨_,_,a,b⟩:=oh h.2.1;exact⟨e,d,c,a,b⟩
def nT(a:bo s ss)(h:cw G s ss st=af):bo s (dw ss st):=by obtain⟨_,_,_,c,b⟩:=i9 h;exact a.set _ (by omega) b
theorem uh(G)(s)(st):∀(l) (ss),cJ G s ss (l++[st])=match cJ G s ss l with
  |some s1=>if cw G s s1 st then aa (dw s1 st) else ae
  |none=>ae
 |[],ss=>by rfl
 |x::r,ss=>by
  show(if cw G s ss x then cJ G s (dw ss x) (r++[st]) else ae)=_;rw[uh G s st r];show _=match(if cw G s ss x then cJ G s (dw ss x) r else ae) with|some s1=>_|none=>ae
  by_cases h:cw G s ss x=af
  ·rw[T5 h,T5 h]
  ·rw[T6 h,T6 h]
theorem yr(G)(s):∀(l r) (ss),cJ G s ss l=ae->cJ G s ss (l++r)=ae
 |[],_,_,h=>by cases h
 |x::l,r,ss,h=>by
  show(if cw G s ss x then cJ G s (dw ss x) (l++r) else ae)=ae;have a:(if cw G s ss x then cJ G s (dw ss x) l else ae)=ae:=h;by_cases c:cw G s ss x=af
  ·rw[T5 c] at a⊢;exact yr G s l r _ a
  ·rw[T6 c]
def EB(h:jg M v st)(a:aj 11 σ=λM=>.ok v M):ao ax (aj 11) (eC<|.int 1) σ M=.ok (.int st.place) M/\ao ax (aj 11) (eC<|.int 2) σ M=.ok (.int st.num) M:=by
 cases st with
 |fld p n=>exact⟨cI 11 1 h a rfl,cI 11 2 h a rfl⟩
 |c9 p n g=>exact⟨cI 11 1 h a rfl,cI 11 2 h a rfl⟩
noncomputable def cF(vG f i:W)(s:Nat)(m l:Nat)(a:Bool)(n:Nat)(j k e g d h b c:Option W):St:=[aa vG,aa f,aa i,aa<|.int s,aa<|.ref m,aa<|.ref l,aa<|.bl a,aa<|.ref n,j,k,e,g,d,h,b,c]
noncomputable def uE:SM:=bz (a9<|ao ax (aj 10)<|eC<|.int 0) (az 11) (
 au (
  aM (bB<|tB<|av (kx fk fm)<|ak (aj 0)<|ak (aj 8)<|ak (aj 9)<|ak (aj 11)<|ak (aj 3) aq) (
   aK (eC .aA)) (
   aO)) (
 cg (av jO (ak (aj 0) (ak (aj 8) (ak (aj 9) (ak (ao ax (aj 11) (eC (.int 1))) (ak (ao ax (aj 11) (eC (.int 2))) aq))))))))
def DM{N M:Mem}{vG r t S vb v:W}{s Q P O a b:Nat}{l:Bool}{G:List (List Int)}{ss:List Int}{X:List Nat}{e:List ee}{B u w o p:Option W}{q:ay}(hG:LL N vG G)(eM:∀g∈G,g.length<=9/\∀i∈g,0<=i/\i<(ss.length:Int))(s9:s<=9)(E:N<+:M)(hv:aI N v [S,vb])(U:fR N S e)(K:N.length<=a)(J:N.length<=b)(R:a≠b)(B6:a∈X)(rR:b∈X)(hX:∀x∈X,x<M.length)(ha:M[a]? =aa (.lst<|ss.map .int))(hT:TabAt X M b<|tabOf G ss s)(hs:bo s ss)(hn:∀f B d,aH [a,b] M f->cJ G s ss e=aa d->f[a]? =aa (.lst<|d.map .int)->TabAt X f b (tabOf G d s)->bo s d->q.nx (cF vG r t s Q P l O (aa<|.ref a) (aa<|.ref b) (aa v) B u w o p) f)(hr:∀f,aH [a,b] M f->cJ G s ss e=ae->q.rt .aA f): (uE (cF vG r t s Q P l O (aa<|.ref a) (aa<|.ref b) (aa v) B u w o p) M).Sat q:=by
 have A:∀x∈[a,b],N.length<=x:=by
  intro x D;simp only[T7,Ud,Ue] at D;rcases D with rfl|rfl
  ·exact K
  ·exact J
 obtain⟨ws,hL,hA⟩:=U;have T:=hA.len;unfold uE;refine dS (v:=S) (M1:=M) (xs:=ws) (cI 10 0 (hv.mono E) rfl rfl) (hL.mono E) (λj L f=>(∃y,L=cF vG r t s Q P l O (aa<|.ref a) (aa<|.ref b) (aa v) y u w o p)/\aH [a,b] M f/\∃d,cJ G s ss (e.take j)=aa d/\f[a]? =aa (.lst<|d.map .int)/\TabAt X f b (tabOf G d s)/\bo s d)
  ⟨⟨_,rfl⟩,aH.refl _ _,ss,rfl,ha,hT,hs⟩ (λj L f _ h=>hL.mono<|h.2.1.base E A) ?_ ?_
 ·rintro j x L f D ⟨⟨y,rfl⟩,k,d,h1,h2,h3,h4⟩;obtain⟨n,H,z⟩:=hA.at D;have tk:e.take (j+1)=e.take j++[n]:=by rw[Vy,H];rfl
  have F:=k.base E A;have sl:d.length=ss.length:=by rw[h4.len,hs.len]
  have m:∀g∈G,g.length<=9/\∀i∈g,0<=i/\i<(d.length:Int):=by rw[sl];exact eM
  obtain⟨M2,e2,Z⟩:=Fx f vG (.ref a) (.ref b) x G d (tabOf G d s) s n (hG.mono F) ⟨a,rfl,h2⟩ h3.ll (aI.mono z F) (gZ _ _ _) m;have k2:=k.trans<|aH.ck Z;refine aD<|aJ (c:=!cw G s d n) (c_<|aU<|mI rfl rfl rfl rfl rfl e2) (λC=>?_) λC=>?_
  ·refine aV rfl ?_;refine hr M2 k2 ?_;have V:cJ G s ss (e.take<|j+1)=ae:=by rw[tk,uh,h1];rw[UB] at C;show(if cw G s d n=af then _ else _)=_;rw[C];rfl
   have:=yr G s (e.take<|j+1) (e.drop<|j+1) ss V;rw[List.take_append_drop] at this;exact this
  ·refine bf ?_;rw[Vd] at C;obtain⟨p0,p1,pz,n0,n1⟩:=i9 C;have I:=k2.base E A;obtain⟨r1,r2⟩:=EB (σ:=cF vG r t s Q P l O (aa<|.ref a) (aa<|.ref b) (aa v) (aa x) u w o p) (aI.mono z I:jg M2 x n) rfl;obtain⟨M3,V,k3,a3,t3⟩:=zW X N M2 vG a b G d (tabOf G d s) n.place n.num I hG K J R B6 rR (λx D=>Up (hX x D) k2.1) (aB Z h2) (LL.keep h3 (aH.ck (X:=[]) Z) (by simp)<|by simp) (gZ _ _ _) (λg Y=>(m g Y).2) (uA _ _ _ s9) p0 p1;refine df (mI rfl rfl rfl r1 r2 V) ?_;refine⟨⟨_,rfl⟩,k2.trans k3,dw d n,?_,a3,?_,nT h4 C⟩
   ·rw[tk,uh,h1];show(if cw G s d n=af then _ else _)=_;rw[T5 C]
   ·rw[uX p0 p1 pz (by omega)<|λg Y=>(m g Y).2] at t3;exact t3
 ·rintro L f ⟨⟨y,rfl⟩,k,d,h1,h2,h3,h4⟩;rw[T,UT] at h1;exact hn f y d k h1 h2 h3 h4
def fM.less(h:fM X M ws T)(b:∀x∈X',x∈X):fM X' M ws T:=h.imp λw r ⟨c,e,a,q⟩=>⟨c,e,λz=>a<|b c z,q⟩
def TabAt.less(h:TabAt X M b T)(c:∀x∈X',x∈X):TabAt X' M b T:=by obtain⟨a,e,d⟩:=h;exact⟨a,e,d.less c⟩
def fM.more(h:fM X M ws T)(p:M<+:M')(hz:∀z∈Z,M.length<=z):fM (Z++X) M' ws T:=h.imp λw r ⟨c,e,a,q⟩=>by
 have b:=(Ub.mp q).1;refine⟨c,e,λz=>?_,aB p q⟩;rcases U0.mp z with z|z
 ·have:=hz c z;omega
 ·exact a z
def TabAt.more(h:TabAt X M b T)(p:M<+:M')(hz:∀z∈Z,M.length<=z):TabAt (Z++X) M' b T:=by obtain⟨d,a,c⟩:=h;exact⟨d,aB p a,c.more p hz⟩
def FZ{M:Mem}{σ:St}{b:Nat}{T:List (List Int)}{X:List Nat}(L:TabAt X M b T)(hl:T.length<=81)(K:∀r∈T,r.length<=9)(P:∀a,aj 9 σ a=.ok (.ref b) a)(u:∀x a,aj 16 ((σ++[ae]).set 16<|aa x) a=.ok x a):
 ∃m a,bE 1 [] (a9<|aj 9) (az 16) cX (av gh<|ak (aj 16) aq) σ M=.ok (.ref m) a/\M<+:a/\M.length<=m/\m<a.length/\∃l,a[m]? =aa (.lst l)/\a_ (λw r=>∃c,w=W.ref c/\M.length<=c/\c≠m/\a[c]? =aa (O.lst<|r.map .int)) l T:=by
 obtain⟨h,A,z⟩:=L;have v:=z.len;have J:a9 (aj 9) σ M=.ok (h.map .val,[(b,.lst h)]) M:=by unfold a9;rw[P];simp only[R.bind,A]
 obtain⟨f,a,q,pre,k⟩:=p5 (c:=[(b,.lst h)]) (i:=16) (t:=cX) (elt:=av gh<|ak (aj 16) aq) (σ:=σ++[ae]) (λ_=>af) (λx y M1=>∃c d r,x=.ref d/\M[d]? =aa (.lst r)/\y=.ref c/\M.length<=c/\c<M1.length/\M1[c]? =aa (.lst r)) (λx y M1 M2 p ⟨c,d,r,e,Q,o,s,n,h3⟩=>⟨c,d,r,e,Q,o,s,Up n p.length_le,aB p h3⟩)
  h M (σ++[ae]) [] (λ_=>rfl) (λM1 p=>by simp[bN.ok,aB p A]) (λx H M1 p=>by
   refine⟨M1,rfl,dc _,λ_=>?_⟩;obtain⟨j,E,e⟩:=VW H;obtain⟨r,C,c,rfl,_,q⟩:=z.at (i:=j) (x:=x)<|by rw[VN E,e]
   have Z:r.length<=9:=K r<|U8 C;refine⟨.ref M1.length,M1++[.lst<|r.map .int],?_,pre_app _ _,M1.length,c,r.map .int,rfl,q,rfl,p.length_le,by simp,b8 _ _⟩;unfold av ak aq;rw[u];simp only[R.bind];exact og (M:=M1) ⟨c,rfl,aB p q⟩ (by omega))
 rw[filter_tt] at k;have U:f.length=T.length:=by rw[<-k.len,v]
 refine⟨a.length,a++[.lst f],?_,pre.trans<|pre_app _ _,pre.length_le,by simp,f,b8 _ _,?_⟩
 ·unfold bE;rw[J];simp only[R.bind,R.gL,dE,VJ,Vw,VL];rw[q];simp only[R.bind,UJ];exact bT<|by omega
 ·have g:∀(N:Mem),a<+:N->∀{h f:List W} {T:List (List Int)},a_ (λw r=>∃c,w=W.ref c/\c∉X/\M[c]? =aa (O.lst<|r.map .int)) h T->a_ (λx y=>∃c d r,x=W.ref d/\M[d]? =aa (O.lst r)/\y=.ref c/\M.length<=c/\c<a.length/\a[c]? =aa (.lst r)) h f->a_ (λw r=>∃c,w=W.ref c/\M.length<=c/\c≠a.length/\N[c]? =aa (O.lst<|r.map .int)) f T:=by
   intro N I h f T s;induction s generalizing f with
   |nil=>intro n;cases n;exact .nil
   |cons r1 _ S=>
    intro n;cases n with
    |cons Y t2=>obtain⟨c1,D,_,F⟩:=r1;obtain⟨c,d,r,o,B,rfl,G,l2,V⟩:=Y;rw[D] at o;cases o;rw[F] at B;cases B;exact .cons ⟨c,rfl,G,by omega,aB I V⟩<|S t2
  exact g _ (pre_app _ _) z k
noncomputable abbrev Ent:=Nat×Nat×List Int×Tr
noncomputable def ig(N:Mem)(G:List<|List Int)(s:Nat)(X:List Nat)(M:Mem)(w:W)(q:Ent):Prop:=
 ∃c v,w=.ref c/\c∉X/\M[c]? =aa (.tup [.ref q.1,.ref q.2.1,v])/\cQ N v q.2.2.2/\M[q.1]? =aa (.lst<|q.2.2.1.map .int)/\TabAt X M q.2.1 (tabOf G q.2.2.1 s)/\bo s q.2.2.1
def ig.keep(h:ig N G s X M w q)(k:aH Y M M')(f:∀y∈Y,y∈X)(g:q.1∉Y)(j:q.2.1∉Y):ig N G s X M' w q:=by obtain⟨c,v,e,d,m,t,a,b,i⟩:=h;exact⟨c,v,e,d,k.get m λz=>d<|f c z,t,k.get a g,LL.keep b k f j,i⟩
def ig.more(h:ig N G s X M w q)(p:M<+:M')(hz:∀z∈Z,M.length<=z):ig N G s (Z++X) M' w q:=by
 obtain⟨c,v,e,d,m,t,a,b,f⟩:=h;refine⟨c,v,e,λz=>?_,aB p m,t,aB p a,b.more p hz,f⟩;rcases U0.mp z with z|z
 ·have:=hz c z;have:=(Ub.mp m).1;omega
 ·exact d z
def ig.less(h:ig N G s X M w q)(d:∀x∈X',x∈X):ig N G s X' M w q:=by obtain⟨c,v,e,f,m,t,a,b,g⟩:=h;exact⟨c,v,e,λz=>f<|d c z,m,t,a,b.less d,g⟩
noncomputable def dV(P:List Ent):List Nat:=P.flatMap λq=>[q.1,q.2.1]
structure TW(N:Mem)(G:List<|List Int)(s:Nat)(X:List Nat)(td wd fd:Nat)(P:List Ent)(words:List W)(F:List<|List Int)(M:Mem):Prop where
 base:N<+:M
 big:∀x∈X,N.length<=x/\x<M.length
 eN:∀x∈td::wd::fd::dV P,x∈X
 nd:(td::wd::fd::dV P).Nodup
 todo:∃ws,M[td]? =aa (.lst ws)/\a_ (λw q=>ig N G s X M w q) ws.reverse P
 lC:M[wd]? =aa (.lst words)
 km:∃fw,M[fd]? =aa (.lst fw)/\fM X M fw F
theorem _root_.VM.a_.kP{R S:α->β->Prop}:∀{l:List α} {m:List β},a_ R l m->(∀a b,b∈m->R a b->S a b)->a_ S l m
 |_,_,.nil,_=>.nil
 |_,_,.cons h t,f=>.cons (f _ _ UE h)<|VM.a_.kP t λa b c=>f a b<|Ut _ c
def iF(h:q∈P):q.1∈dV P/\q.2.1∈dV P:=⟨WO.mpr ⟨q,h,by simp⟩,WO.mpr ⟨q,h,by simp⟩⟩
def TW.keep{N:Mem}{G:List (List Int)}{s:Nat}{X:List Nat}{c g f:Nat}{P:List Ent}{a:List W}{F:List (List Int)}{M j:Mem}{Y:List Nat}(h:TW N G s X c g f P a F M)(k:aH Y M j)(i:∀y∈Y,y∈X)(b:∀y∈Y,y∉c::g::f::dV P):TW N G s X c g f P a F j:=by
 have m:c∉Y:=λz=>b _ z<|by simp
 have t:g∉Y:=λz=>b _ z<|by simp
 have p:f∉Y:=λz=>b _ z<|by simp
 obtain⟨o,A,u⟩:=h.todo;obtain⟨n,v,r⟩:=h.km;refine⟨k.base h.base λx d=>(h.big x<|i x d).1,λx d=>⟨(h.big x d).1,Up (h.big x d).2 k.1⟩,h.eN,h.nd,⟨o,k.get A m,u.kP λw q l e=>e.keep k i (λz=>b _ z ?_) λz=>b _ z ?_⟩,k.get h.lC t,n,k.get v p,r.keep k i⟩
 ·have:=(iF l).1;simp[this]
 ·have:=(iF l).2;simp[this]
def TW.grow(h:TW N G s X td wd fd P words F M)(p:M<+:M'):TW N G s X td wd fd P words F M':=h.keep (Y:=[]) (aH.ck p) (by simp)<|by simp
def TW.more(h:TW N G s X td wd fd P words F M)(p:M<+:M')(hz:∀z∈Z,M.length<=z/\z<M'.length):TW N G s (Z++X) td wd fd P words F M':=by
 obtain⟨c,j,g⟩:=h.todo;obtain⟨d,i,f⟩:=h.km;have a:=λz q=>(hz z q).1
 refine⟨h.base.trans p,λx b=>?_,λx b=>Uu _<|h.eN x b,h.nd,⟨c,aB p j,g.imp λw q e=>e.more p a⟩,aB p h.lC,d,aB p i,f.more p a⟩;rcases U0.mp b with q|q
 ·exact⟨Uh h.base.length_le (hz x q).1,(hz x q).2⟩
 ·exact⟨(h.big x q).1,Up (h.big x q).2 p.length_le⟩
def TW.word{N:Mem}{G:List (List Int)}{s:Nat}{X:List Nat}{j c n:Nat}{P:List Ent}{b a:List W}{F:List (List Int)}{M g:Mem}(h:TW N G s X j c n P b F M)(k:aH [c] M g)(v:g[c]? =aa (.lst a)):TW N G s X j c n P a F g:=by
 have o:=h.nd;simp only[UQ,T7,U5] at o;obtain⟨⟨A,J,H⟩,⟨p,m⟩,I,E⟩:=o;have f:c∈X:=h.eN c<|by simp
 have i:∀y∈[c],y∈X:=by simp;exact f
 obtain⟨t,D,B⟩:=h.todo;obtain⟨r,C,u⟩:=h.km;refine⟨k.base h.base λx d=>(h.big x<|i x d).1,λx d=>⟨(h.big x d).1,Up (h.big x d).2 k.1⟩,h.eN,h.nd,⟨t,k.get D (by simp;exact A),B.kP λw q l e=>e.keep k i (λz=>?_) λz=>?_⟩,v,r,k.get C (by simp;exactλz=>p z.symm),u.keep k i⟩
 ·have:=(iF l).1;simp only[UN] at z;rw[z] at this;exact m this
 ·have:=(iF l).2;simp only[UN] at z;rw[z] at this;exact m this
def TW.cj{N:Mem}{G:List (List Int)}{s:Nat}{X:List Nat}{l o b:Nat}{P:List Ent}{c:List W}{F:List (List Int)}{M:Mem}(h:TW N G s X l o b P c F M){a:Nat}{ss:List Int}(A:M[a]? =aa (.lst<|ss.map .int))(u:a∉l::o::b::dV P){g:List W}(H:M[b]? =aa (.lst g))(m:fM X M g F):
 TW N G s (X.filter λx=>!ai (x=a)) l o b P c (F++[ss]) (M.set b<|.lst<|g++[.ref a]):=by
 have t:=h.nd;simp only[UQ,T7,U5] at t;obtain⟨⟨L,C,J⟩,⟨v,K⟩,p,I⟩:=t;have j:b∈X:=h.eN b<|by simp
 have i:b<M.length:=(h.big b j).2;have k:aH [b] M (M.set b<|.lst<|g++[.ref a]):=aH.set _<|by simp
 have n:∀y∈[b],y∈X:=by simp;exact j
 have f:∀x∈X.filter (λx=>!ai (x=a)),x∈X:=λx d=>(UP.mp d).1
 obtain⟨B,E,D⟩:=h.todo;refine⟨k.base h.base λx d=>(h.big x<|n x d).1,λx d=>?_,λx d=>?_,h.nd,⟨B,k.get E (by simp;exact C),D.kP λw q r e=>(e.keep k n (λz=>?_) λz=>?_).less f⟩,k.get h.lC (by simp;exact v),g++[.ref a],UH i,?_⟩
 ·have:=h.big x (f x d);exact⟨this.1,by rw[Va];exact this.2⟩
 ·refine UP.mpr ⟨h.eN x d,?_⟩;have:x≠a:=λz=>u (by rw[<-z];exact d)
  simp[this]
 ·have:=(iF r).1;simp only[UN] at z;rw[z] at this;exact p this
 ·have:=(iF r).2;simp only[UN] at z;rw[z] at this;exact p this
 ·refine a_.app ((m.keep k n).less f) (.cons ⟨a,rfl,λz=>?_,?_⟩ .nil)
  ·have:=(UP.mp z).2;simp at this
  ·refine k.get A ?_;simp only[UN];intro z;exact u (by rw[z];simp)
def JV(h:(td::wd::fd::l).Nodup)(c:a≠b)(d:a∉td::wd::fd::l)(e:b∉td::wd::fd::l):(td::wd::fd::a::b::l).Nodup:=by simp only[UQ,T7,U5] at h d e⊢;obtain⟨⟨v,r,m⟩,⟨g,q⟩,n,i⟩:=h;obtain⟨t,k,o,u⟩:=d;obtain⟨p,j,f,s⟩:=e;exact⟨⟨v,r,λz=>t z.symm,λz=>p z.symm,m⟩,⟨g,λz=>k z.symm,λz=>j z.symm,q⟩,⟨λz=>o z.symm,λz=>f z.symm,n⟩,⟨c,u⟩,s,i⟩
noncomputable def vp:SM:=au (
 aN (av gh (ak (aj 8) aq)) (az 14)) (
 au (
  aN (bE 1 [] (a9 (aj 9)) (az 16) (cX) (av gh (ak (aj 16) aq))) (az 15)) (
 au (
  cg (av jO (ak (aj 0) (ak (aj 14) (ak (aj 15) (ak (ao ax (ao ax (aj 10) (eC (.int 1))) (eC (.int 1))) (ak (aj 12) aq))))))) (
 cg (bD cZ (aj 7) (ak (bI (ak (aj 14) (ak (aj 15) (ak (aj 13) aq)))) aq)))))
def u4(i)(k)(h:aI M v [va,vb])(c:aI M vb ws)(a:aj i σ=λM=>.ok v M)(b:ws[k.toNat]? =aa x)(d:0<=k:=by decide):ao ax (ao ax (aj i)<|eC<|.int 1) (eC<|.int k) σ M=.ok x M:=by refine aP (cI i 1 h a rfl) rfl ?_;have:=dm c k.toNat b;rw[show((k.toNat:Nat):Int)=k by omega] at this;exact this
structure Here(N:Mem)(G:List<|List Int)(s:Nat)(X:List Nat)(td wd fd:Nat)(P:List Ent)(a b:Nat)(ss:List Int)(M:Mem):Prop where
 kn:a∈X
 bin:b∈X
 ab:a≠b
 an:a∉td::wd::fd::dV P
 bn:b∉td::wd::fd::dV P
 am:M[a]? =aa (.lst<|ss.map .int)
 bm:TabAt X M b (tabOf G ss s)
 sh:bo s ss
def F0{N M:Mem}{vG D A va vb ub v u:W}{s B I f a b:Nat}{k:Bool}{G:List (List Int)}{ss:List Int}{X:List Nat}{P:List Ent}{S:List W}{F:List (List Int)}{p n:Int}{t:Tr}{C Ol wC:Option W}(hG:LL N vG G)(eM:∀g∈G,g.length<=9/\∀i∈g,0<=i/\i<(ss.length:Int))(s9:s<=9)(gv:ss.length<=81)(hv:aI N v [va,vb])(Om:aI N vb [ik,.int p,ub])(hu:cQ N u t)(p0:0<=p)(p1:p<(ss.length:Int))(pz:aw ss p=0)(n0:1<=n)(n1:n<=(s:Int))(H:TW N G s X f B I P S F M)(E:Here N G s X f B I P a b ss M)(px:P.length<16000000): (vp (cF vG D A s B I k f (aa<|.ref a) (aa<|.ref b) (aa v) C (aa<|.int n) (aa u) Ol wC) M).Sat {nx:=λσ M'=>∃X' a' d B7 B8,σ=cF vG D A s B I k f (aa<|.ref a) (aa<|.ref b) (aa v) C (aa<|.int n) (aa u) B7 B8/\TW N G s X' f B I ((a',d,ss.set p.toNat n,t)::P) S F M'/\Here N G s X' f B I ((a',d,ss.set p.toNat n,t)::P) a b ss M',rt:=λ_ _=>False}:=by
 unfold vp;have rU:∀x∈f::B::I::dV P,x<M.length:=λx m=>(H.big x<|H.eN x m).2
 refine eW (v:=.ref M.length) (M1:=M++[.lst (ss.map .int)]) (by unfold cF;walk_at "ev";exact og (M:=M) ⟨a,rfl,E.am⟩ (by omega)) ?_;show((au _ _:SM) (cF vG D A s B I k f (aa<|.ref a) (aa<|.ref b) (aa v) C (aa<|.int n) (aa u) (aa<|.ref M.length) wC) _).Sat _;have q1:M<+:M++[.lst<|ss.map .int]:=pre_app _ _;have l1:(M++[O.lst<|ss.map .int]).length=M.length+1:=by simp
 have g1:(M++[O.lst<|ss.map .int])[M.length]? =aa (.lst<|ss.map .int):=b8 _ _;generalize M++[O.lst<|ss.map .int]=M1 at q1 l1 g1;have T1:TabAt X M1 b (tabOf G ss s):=LL.keep E.bm (aH.ck (X:=[]) q1) (by simp)<|by simp
 obtain⟨d,M2,e2,q2,bl,Sk,Oo,Oq,LU⟩:=FZ (σ:=cF vG D A s B I k f (aa<|.ref a) (aa<|.ref b) (aa v) C (aa<|.int n) (aa u) (aa<|.ref M.length) wC) T1 (by rw[gZ];exact gv) (uA _ _ _ s9) (λ_=>rfl)<|λ_ _=>rfl
 refine eW e2 ?_;show((au _ _:SM) (cF vG D A s B I k f (aa<|.ref a) (aa<|.ref b) (aa v) C (aa<|.int n) (aa u) (aa<|.ref M.length)<|aa<|.ref d) _).Sat _;have Q2:=q1.trans q2;have Sl:M1.length<=M2.length:=q2.length_le;have hZ:∀z∈[M.length,d],M.length<=z/\z<M2.length:=by intro z hz;simp only[T7,Ud,Ue] at hz;rcases hz with rfl|rfl<;>omega
 have K:=H.more (Z:=[M.length,d]) Q2 hZ;have B9:TabAt ([M.length,d]++X) M2 b (tabOf G ss s):=E.bm.more Q2 λz hz=>(hZ z hz).1
 have B_:TabAt ([M.length,d]++X) M2 d (tabOf G ss s):=by
  refine⟨Oo,Oq,LU.imp λw r ⟨c,e,Sm,pA,B0⟩=>⟨c,e,λz=>?_,B0⟩⟩;rcases U0.mp z with z|z
  ·simp only[T7,Ud,Ue] at z;rcases z with z|z
   ·omega
   ·exact pA z
  ·have:=(H.big c z).2;omega
 generalize wD:[M.length,d]++X=X2 at K B9 B_;have xa:M.length∈X2:=by rw[<-wD];simp
 have xb:d∈X2:=by rw[<-wD];simp
 have xs:∀x∈X,x∈X2:=λx m=>by rw[<-wD];exact Uu _ m
 have MP:=H.base.length_le;obtain⟨l,e3,k3,a3,t3⟩:=zW X2 N M2 vG M.length d G ss (tabOf G ss s) p n K.base hG MP (by omega) (by omega) xa xb (λx m=>(K.big x m).2) (aB q2 g1) B_ (gZ _ _ _) (λg hg=>(eM g hg).2) (uA _ _ _ s9) p0 p1;rw[uX p0 p1 pz (by omega)<|λg hg=>(eM g hg).2] at t3;refine aD<|df (v:=.aA) (M1:=l) (mI rfl rfl rfl (u4 10 1 (hv.mono K.base) (Om.mono K.base) rfl rfl) rfl e3) ?_;dsimp only;have Ca:∀y∈[M.length,d],y∈X2:=by
  intro y hy;simp only[T7,Ud,Ue] at hy;rcases hy with rfl|rfl
  ·exact xa
  ·exact xb
 have L:∀y∈[M.length,d],y∉f::B::I::dV P:=λy hy z=>by have:=rU y z;have:=(hZ y hy).1;omega
 have Q:=K.keep k3 Ca L;have alt:a<M.length:=(H.big a E.kn).2;have blt:b<M.length:=(H.big b E.bin).2;have V:a∉[M.length,d]:=by simp;omega
 have U:b∉[M.length,d]:=by simp;omega
 have Ot:l[a]? =aa (.lst<|ss.map .int):=k3.get (aB Q2 E.am) V;have Ou:TabAt X2 l b (tabOf G ss s):=LL.keep B9 k3 Ca U;obtain⟨ws,t1,t2⟩:=Q.todo;have m_:ws.length=P.length:=by have:=t2.len;rw[List.length_reverse] at this;exact this
 have T:l<+:l++[.tup [.ref M.length,.ref d,u]]:=pre_app _ _;have tt:bI (ak (aj 14)<|ak (aj 15)<|ak (aj 13) aq) (cF vG D A s B I k f (aa<|.ref a) (aa<|.ref b) (aa v) C (aa<|.int n) (aa u) (aa<|.ref M.length)<|aa<|.ref d) l=.ok (.ref l.length) (l++[.tup [.ref M.length,.ref d,u]]):=ot rfl rfl rfl;have a5:=gD (σ:=cF vG D A s B I k f (aa<|.ref a) (aa<|.ref b) (aa v) C (aa<|.int n) (aa u) (aa<|.ref M.length)<|aa<|.ref d) (o:=aj 7) rfl t1 tt (aB T t1)<|by omega
 refine df a5 ?_;have rV:f∈X2:=Q.eN f<|by simp
 have Ov:f<l.length:=(Q.big f rV).2;have c4:(l++[O.tup [.ref M.length,.ref d,u]])[l.length]? =aa (.tup [.ref M.length,.ref d,u]):=b8 _ _;generalize l++[O.tup [.ref M.length,.ref d,u]]=M4 at T a5 c4;have j:=Q.grow T;have k5:aH [f] M4 (M4.set f<|.lst<|ws++[.ref l.length]):=aH.set _<|by simp
 have R:∀y∈[f],y∈X2:=by simp;exact rV
 have nd:=j.nd;simp only[UQ,T7,U5] at nd;obtain⟨⟨m1,m2,m3⟩,⟨m4,m5⟩,m6,m7⟩:=nd;have MQ:M.length∉[f]:=by simp only[UN];intro z;have:=rU f (by simp);omega
 have MR:d∉[f]:=by simp only[UN];intro z;have:=rU f (by simp);omega
 have MS:f<M4.length:=Up Ov T.length_le;have MT:∀x∈X2,x<l.length:=λx m=>(Q.big x m).2
 have J:dV ((M.length,d,ss.set p.toNat n,t)::P)=M.length::d::dV P:=rfl;have Ow:a∉f::B::I::dV ((M.length,d,ss.set p.toNat n,t)::P):=by rw[J];have:=E.an;simp only[T7,U5] at this V⊢;exact⟨this.1,this.2.1,this.2.2.1,V.1,V.2.1,this.2.2.2⟩
 have Ox:b∉f::B::I::dV ((M.length,d,ss.set p.toNat n,t)::P):=by rw[J];have:=E.bn;simp only[T7,U5] at this U⊢;exact⟨this.1,this.2.1,this.2.2.1,U.1,U.2.1,this.2.2.2⟩
 refine⟨X2,M.length,d,_,_,rfl,⟨k5.base j.base λx m=>(j.big x<|R x m).1,λx m=>⟨(j.big x m).1,Up (j.big x m).2 k5.1⟩,?_,?_,⟨ws++[.ref l.length],UH MS,?_⟩,k5.get j.lC (by simp;exactλz=>m1 z.symm),?_⟩,⟨xs a E.kn,xs b E.bin,E.ab,Ow,Ox,k5.get (aB T Ot) (by have:=E.an;simp only[T7,U5] at this;simp;exact this.1),LL.keep (LL.keep Ou (aH.ck (X:=[]) T) (by simp)<|by simp) k5 R (by have:=E.bn;simp only[T7,U5] at this;simp;exact this.1),E.sh⟩⟩
 ·intro x m;rw[J] at m;simp only[T7] at m;rcases m with h|h|h|h|h|h
  ·subst h;exact j.eN _<|by simp
  ·subst h;exact j.eN _<|by simp
  ·subst h;exact j.eN _<|by simp
  ·subst h;exact xa
  ·subst h;exact xb
  ·exact j.eN x<|by simp[h]
 ·rw[J];exact JV j.nd (by omega) (L _<|by simp)<|L _<|by simp
 ·rw[List.reverse_append];refine .cons ⟨l.length,u,rfl,λz=>by have:=MT _ z;omega,k5.get c4 (by simp;omega),hu,k5.get (aB T a3) MQ,LL.keep (LL.keep t3 (aH.ck (X:=[]) T) (by simp)<|by simp) k5 R MR,E.sh.set _ (by omega) n1⟩ ?_;refine t2.kP λw q hq e=>(e.keep (Y:=[]) (aH.ck T) (by simp) (by simp)<|by simp).keep k5 R (λz=>?_) λz=>?_
  ·have:=(iF hq).1;simp only[UN] at z;rw[z] at this;exact m3 this
  ·have:=(iF hq).2;simp only[UN] at z;rw[z] at this;exact m3 this
 ·obtain⟨fw,f1,f2⟩:=j.km;exact⟨fw,k5.get f1 (by simp;exactλz=>m2 z.symm),f2.keep k5 R⟩
noncomputable abbrev jo:=List<|List Int×Tr
noncomputable def pd(P:List Ent):jo:=P.map λq=>(q.2.2.1,q.2.2.2)
noncomputable def iN(ss:List Int)(p:Int)(l:List<|Int×Tr)(P:jo):jo:=l.foldl (λP b=>(ss.set p.toNat b.1,b.2)::P) P
noncomputable def oj:Option cB->Option cB->Option cB
 |some a,aa b=>aa<|a.join b
 |_,_=>ae
def y8(a b c):oj (oj a b) c=oj a (oj b c):=by
 cases a with
 |none=>cases b<;>cases c<;>rfl
 |some x=>
  cases b with
  |none=>cases c<;>rfl
  |some y=>
   cases c with
   |none=>rfl
   |some z=>show aa ((x.join y).join z)=aa (x.join<|y.join z);unfold cB.join;simp[U9,Bool.and_assoc]
def pV(G)(s)(ss)(t)(P:jo):eu G s ((ss,t)::P)=oj (dG G s ss t) (eu G s P):=by show(match dG G s ss t,eu G s P with|some a,aa b=>aa (a.join b)|_,_=>ae)=_;cases dG G s ss t<;>cases eu G s P<;>rfl
def qp(G)(s)(ss)(p n)(t)(r):du G s ss p (.cons n t r)=oj (du G s ss p r) (dG G s (ss.set p.toNat n) t):=by
 conv=>lhs;rw[du]
 cases du G s ss p r<;>cases dG G s (ss.set p.toNat n) t<;>rfl
def JW(a):oj (aa ⟨[],[],af⟩) a=a:=by
 cases a with
 |none=>rfl
 |some x=>show aa (cB.join _ _)=_;unfold cB.join;simp
def z5(a):oj a (aa ⟨[],[],af⟩)=a:=by
 cases a with
 |none=>rfl
 |some x=>show aa (cB.join _ _)=_;unfold cB.join;simp
theorem xU(G)(s)(ss)(p):∀(a) (P),eu G s (iN ss p a.list P)=oj (du G s ss p a) (eu G s P)
 |.nil,P=>by show eu G s P=_;unfold du;rw[JW]
 |.cons n t r,P=>by show eu G s (iN ss p r.list<|(ss.set p.toNat n,t)::P)=_;rw[xU G s ss p r,pV,qp,y8]
theorem xF(ss)(p):∀(a) (P),dz (iN ss p a.list P)=gP a+dz P
 |.nil,P=>by show dz P=_;unfold gP;omega
 |.cons n t r,P=>by
  show dz (iN ss p r.list<|(ss.set p.toNat n,t)::P)=_;rw[xF ss p r];have e:gP (.cons n t r)=dq t+gP r:=by conv=>lhs;rw[gP]
  rw[e];show gP r+(dq t+dz P)=_;omega
def F1(t):1<=dq t:=by cases t;unfold dq;omega
theorem uF:∀(P:jo),P.length<=dz P
 |[]=>Uc _
 |(ss,t)::r=>by have:=uF r;have:=F1 t;show r.length+1<=dq t+dz r;omega
def AO(P):(pd P).length=P.length:=by simp[pd]
noncomputable def pW:SM:=bz (a9<|ao ax (ao ax (aj 10)<|eC<|.int 1)<|eC<|.int 2) (dd [az 12,az 13]) vp
def EC{N M:Mem}{vG t w va vb ub v:W}{s C B y a b:Nat}{c:Bool}{G:List (List Int)}{ss:List Int}{X:List Nat}{P:List Ent}{f:List W}{F:List (List Int)}{p:Int}{I:Bs}{J:List W}{r U V O S:Option W}{q:ay}(hG:LL N vG G)(eM:∀g∈G,g.length<=9/\∀i∈g,0<=i/\i<(ss.length:Int))(s9:s<=9)(gv:ss.length<=81)(hv:aI N v [va,vb])(L:aI N vb [ik,.int p,ub])(Oy:aF N ub J)(Oz:cR N J I)(Sn:J.length<=1000)(p0:0<=p)(p1:p<(ss.length:Int))(pz:aw ss p=0)(T:∀n∈I.nums,1<=n/\n<=(s))(D:TW N G s X y C B P f F M)(hH:Here N G s X y C B P a b ss M)(px:P.length<=15000000)(hn:∀A H o m l d k,TW N G s H y C B o f F A->pd o=iN ss p I.list (pd P)->q.nx (cF vG t w s C B c y (aa<|.ref a) (aa<|.ref b) (aa v) r m l d k) A): (pW (cF vG t w s C B c y (aa<|.ref a) (aa<|.ref b) (aa v) r U V O S) M).Sat q:=by
 unfold pW;have hp:=cR.pairs Oz;have nh:=hp.len;obtain⟨ua,rfl,E⟩:=Oy;have hi:a9 (ao ax (ao ax (aj 10)<|eC<|.int 1)<|eC<|.int 2) (cF vG t w s C B c y (aa<|.ref a) (aa<|.ref b) (aa v) r U V O S) M=.ok (J.map .val,[(ua,.lst J)]) M:=by unfold a9;rw[u4 10 2 (hv.mono D.base) (L.mono D.base) rfl rfl];simp only[R.bind,aB D.base E]
 refine oB hi (λj Z A=>∃H o m l d k,Z=cF vG t w s C B c y (aa<|.ref a) (aa<|.ref b) (aa v) r m l d k/\TW N G s H y C B o f F A/\Here N G s H y C B o a b ss A/\pd o=iN ss p (I.list.take j) (pd P)/\o.length=P.length+j) ⟨X,P,_,_,_,_,rfl,D,hH,rfl,rfl⟩ ?_ ?_
 ·rintro j x Z A Y ⟨H,o,m,l,d,k,rfl,mQ,Cb,kq,hl⟩;have hj:=by have:=(Ub.mp Y).1;simpa using this
  rw[U7] at Y;have hw:=VN hj;rw[hw] at Y;have ex:=(Ug Y).symm;subst ex;obtain⟨K,Q,u,ht,hu⟩:=hp.at hw;have OA:=ht.mono mQ.base;have OB:K.1∈I.nums:=by rw[Bs.qh];exact Um.mpr ⟨K,U8 Q,rfl⟩
  obtain⟨n0,n1⟩:=T _ OB;have tk:I.list.take (j+1)=I.list.take j++[K]:=by rw[Vy,Q];rfl
  refine⟨by simp[bN.ok,aB mQ.base E],J[j],A,cF vG t w s C B c y (aa<|.ref a) (aa<|.ref b) (aa v) r (aa<|.int K.1) (aa u) d k,A,rfl,?_,?_⟩
  ·simp only[dd,OA.cm,iL,az,R.bind,UO,Vt,Uv,cF,T_,T9]
  ·refine RS.Sat.mono (F0 hG eM s9 gv hv L hu p0 p1 pz n0 n1 mQ Cb<|by omega) (λZ M2 h=>?_) (λ_ _ z=>z.elim) (λ_ _ z=>z.elim) (λ_ _ z=>z.elim);obtain⟨X2,a',b',rW,rX,e,h1,h2⟩:=h;refine⟨X2,_,_,_,_,_,e,h1,h2,?_,?_⟩
   ·rw[tk];unfold iN;rw[We];show(ss.set p.toNat K.1,K.2)::pd o=_;rw[kq];rfl
   ·show o.length+1=_;omega
 ·rintro Z A ⟨H,o,m,l,d,k,rfl,mQ,Cb,kq,hl⟩;refine⟨by simp[bN.ok,aB mQ.base E],?_⟩;refine hn A H o m l d k mQ ?_;rw[kq];congr 1;rw[Ua,nh,UT]
noncomputable abbrev JX:CM:=lU fk fm
noncomputable abbrev JY:CM:=kx fk fm
noncomputable abbrev Bd:CM:=lO fk fm
noncomputable abbrev BB:CM:=lP<|jH cC
noncomputable abbrev AQ:CM:=lX cC<|iC cC
noncomputable abbrev BC:CM:=lQ JX
def xV(h:aF M v ws)(i)(c:aj i σ=λM=>.ok v M):tB (ao bp (aj i)<|aR aq) σ M=.ok (!ai (ws=[])) (M++[.lst []]):=by
 refine aU<|aP (by rw[c]) (rfl) ?_;have b:=(h.mono<|pre_app M [.lst []]).a8;have d:=(aF.new M []).a8;obtain⟨a,rfl,_⟩:=h;unfold bp dt;rw[T6<|by simp[VM.dh],b,d];cases ws with
 |nil=>rfl
 |cons x r=>
  have:iK (x::r) []=aa ag:=by unfold iK;rw[T5<|by simp]
  simp only[this];simp
def TW.pop(h:TW N G s X td wd fd (q::P) words F M):
 ∃ws w,M[td]? =aa (.lst<|ws++[w])/\ig N G s X M w q/\TW N G s X td wd fd P words F (M.set td<|.lst ws)/\Here N G s X td wd fd P q.1 q.2.1 q.2.2.1 (M.set td<|.lst ws):=by
 obtain⟨b,t1,f⟩:=h.todo;have g:=h.eN td<|by simp
 have B:=h.nd;have a:dV (q::P)=q.1::q.2.1::dV P:=rfl;rw[a] at B;simp only[UQ,T7,U5] at B;obtain⟨⟨O,K,I,H,A⟩,⟨V,Q,R,Y⟩,⟨u,o,l⟩,⟨n,p⟩,D,C⟩:=B;have i:∃w r,b.reverse=w::r:=by
  cases e:b.reverse with
  |nil=>rw[e] at f;cases f
  |cons w r=>exact⟨w,r,rfl⟩
 obtain⟨w,r,i⟩:=i;rw[i] at f;have E:b=r.reverse++[w]:=by rw[<-XU b,i];simp
 cases f with
 |cons L f=>
  subst E;have k:aH [td] M (M.set td<|.lst r.reverse):=aH.set _<|by simp
  have j:∀y∈[td],y∈X:=by simp;exact g
  obtain⟨U,f1,Z⟩:=h.km;obtain⟨c,v,ew,hc,m,tr,S,W,T⟩:=id L;have t:∀x∈td::wd::fd::dV P,x∈X:=λx d=>h.eN x (by
   rw[a];simp only[T7] at d⊢;rcases d with z|z|z|z
   ·exact .inl z
   ·exact .inr<|.inl z
   ·exact .inr<|.inr<|.inl z
   ·exact .inr (.inr (.inr (.inr (.inr z)))))
  refine⟨r.reverse,w,t1,L,⟨k.base h.base λx d=>(h.big x<|j x d).1,λx d=>⟨(h.big x d).1,Up (h.big x d).2 k.1⟩,t,?_,⟨r.reverse,UH (h.big td g).2,?_⟩,k.get h.lC (by simp;exactλz=>O z.symm),U,k.get f1 (by simp;exactλz=>K z.symm),Z.keep k j⟩,⟨h.eN _ (by rw[a];simp),h.eN _ (by rw[a];simp),n,?_,?_,k.get S (by simp;exactλz=>I z.symm),LL.keep W k j (by simp;exactλz=>H z.symm),T⟩⟩
  ·simp only[UQ,T7,U5];exact⟨⟨O,K,A⟩,⟨V,Y⟩,l,C⟩
  ·rw[XU];refine f.kP λw q' J e=>e.keep k j (λz=>?_) λz=>?_
   ·have:=(iF J).1;simp only[UN] at z;rw[z] at this;exact A this
   ·have:=(iF J).2;simp only[UN] at z;rw[z] at this;exact A this
  ·simp only[T7,U5];exact⟨λz=>I z.symm,λz=>Q z.symm,λz=>u z.symm,p⟩
  ·simp only[T7,U5];exact⟨λz=>H z.symm,λz=>R z.symm,λz=>o z.symm,D⟩
def Here.keep(h:Here N G s X td wd fd P a b ss M)(k:aH Y M M')(e:∀y∈Y,y∈X)(c:a∉Y)(d:b∉Y):Here N G s X td wd fd P a b ss M':=
 ⟨h.kn,h.bin,h.ab,h.an,h.bn,k.get h.am c,LL.keep h.bm k e d,h.sh⟩
def Here.grow(h:Here N G s X td wd fd P a b ss M)(p:M<+:M'):Here N G s X td wd fd P a b ss M':=h.keep (Y:=[]) (aH.ck p) (by simp) (by simp)<|by simp
noncomputable def wF:TM:=tB<|ao bp (aj 7)<|aR<|aq
noncomputable def wG:SM:=au (
 aM (bB<|tB<|av BC<|ak (aj 0)<|ak (aj 8)<|ak (aj 9)<|ak (ao ax (aj 10)<|eC<|.int 1)<|ak (aj 3)<|ak (aj 4) aq) (
  aK (eC .aA)) (
  aO)) (
 au (
  aM (tB<|ao oEq (ao ax (ao ax (aj 10)<|eC<|.int 1)<|eC<|.int 0)<|eC<|.str [102,117,108,108]) (
   cg (bD cZ (aj 5) (ak (aj 8) aq))) (
   aO)) (
 aM (tB<|ao oEq (ao ax (ao ax (aj 10)<|eC<|.int 1)<|eC<|.int 0)<|eC<|.str [116,114,121]) (
  au (
   aM (tB<|av Bd<|ak (aj 0)<|ak (aj 8)<|ak (aj 9)<|ak (aj 3) aq) (
    aN (eC (.bl ag)) (az 6)) (
    aO)) (
  pW)) (
  aO)))
noncomputable def Cc:SM:=au (
 aN (bD iU (aj 7) (aq)) (dd [az 8,az 9,az 10])) (
 au (
  aM (bg (bB<|tB<|bt [.tuple]<|aj 10)<|bg (tB<|ao bp (av aZ<|ak (aj 10) aq)<|eC<|.int 2)<|bB<|tB<|av BB<|ak (ao ax (aj 10)<|eC<|.int 0) aq) (
   aK (eC .aA)) (
   aO)) (
 au (
  aM (bB<|tB<|av AQ<|ak (ao ax (aj 10)<|eC<|.int 1) aq) (
   aK (eC .aA)) (
   aO)) (
 au uE wG)))
def LW(n:a σ M=.ok x M)(m:b σ M=.ok y M)(i:c σ M=.ok z M)(j:d σ M=.ok u M)(k:e σ M=.ok v M)(l:g σ M=.ok w M)(h:f [x,y,z,u,v,w] M=r):
 av f (ak a<|ak b<|ak c<|ak d<|ak e<|ak g aq) σ M=r:=by
 unfold av ak aq;simp only[n,m,i,j,k,l,R.bind,h]
def Be(b:a σ M=.ok x M1)(h:f [x] M1=r):av f (ak a aq) σ M=r:=by unfold av ak aq;simp only[b,R.bind,h]
def jf(G)(s)(ss)(fi)(e):dG G s ss (.mk fi e)=match cJ G s ss fi with|none=>ae|some a=>if e_ G a (tabOf G a s) s e then dH G s a e else ae:=by
 conv=>lhs;rw[dG]
 all_goals (cases cJ G s ss fi<;>rfl)
noncomputable def eA(G:List<|List Int)(s:Nat)(ss:List Int):En->cB
 |.full=>⟨[gm],[ss],af⟩
 |.left=>⟨[cO],[],af⟩
 |.cls _=>⟨[gE],[],af⟩
 |.dF _ _=>⟨[ik],[],!eh G ss (tabOf G ss s) s⟩
noncomputable def kids(ss:List Int):En->jo->jo
 |.dF p bs,P=>iN ss p bs.list P
 |_,P=>P
def F2(G)(s)(ss)(e)(P:jo):oj (dH G s ss e) (eu G s P)=oj (aa<|eA G s ss e) (eu G s<|kids ss e P):=by
 cases e with
 |full=>
  conv=>lhs;rw[dH]
  rfl
 |left=>
  conv=>lhs;rw[dH]
  rfl
 |cls c=>
  conv=>lhs;rw[dH]
  rfl
 |dF p bs=>
  show _=oj (aa ⟨[ik],[],!eh G ss (tabOf G ss s) s⟩) (eu G s<|iN ss p bs.list P);rw[xU,<-y8];congr 1
  conv=>lhs;rw[dH]
  cases du G s ss p bs with
  |none=>rfl
  |some w=>rfl
def HG(ss)(e)(P):dz (kids ss e P)=jn e+dz P:=by
 cases e with
 |dF p bs=>
  show dz (iN ss p bs.list P)=_;rw[xF];have:jn (.dF p bs)=gP bs:=by conv=>lhs;rw[jn]
  rw[this]
 |full=>show dz P=_;have:jn .full=0:=rfl;rw[this];omega
 |left=>show dz P=_;have:jn .left=0:=rfl;rw[this];omega
 |cls c=>show dz P=_;have:jn (.cls c)=0:=rfl;rw[this];omega
def HH{N M:Mem}{vG C D va vb v:W}{s u K H a b:Nat}{d:Bool}{G:List (List Int)}{ss:List Int}{X:List Nat}{P:List Ent}{j:List W}{F:List (List Int)}{e:En}{y t w k m:Option W}{q:ay}(hG:LL N vG G)(T:∀g∈G,g.length<=9/\∀i∈g,0<=i/\i<(ss.length:Int))(s9:s<=9)(U:ss.length<=81)(wH:G.length<=27)(hv:aI N v [va,vb])(he:cb N vb e)(l:TW N G s X H u K P j F M)(Q:Here N G s X H u K P a b ss M)(px:P.length<=15000000)(m_:j.length<16000000)(wI:F.length<16000000)(L:∀x X' P' S O J R,e_ G ss (tabOf G ss s) s e=af->TW N G s X' H u K P' (j++(eA G s ss e).words) (F++(eA G s ss e).cj) x->pd P'=kids ss e (pd P)->q.nx (cF vG C D s u K (d&&(eA G s ss e).dB) H (aa<|.ref a) (aa<|.ref b) (aa v) y S O J R) x)(hr:∀x,N<+:x->e_ G ss (tabOf G ss s) s e=ag->q.rt .aA x): (wG (cF vG C D s u K d H (aa<|.ref a) (aa<|.ref b) (aa v) y t w k m) M).Sat q:=by
 unfold wG;have I:u∈X:=l.eN u<|by simp
 have Y:u≠a:=λz=>Q.an (by rw[<-z];simp)
 have V:u≠b:=λz=>Q.bn (by rw[<-z];simp)
 obtain⟨M1,e1,k1,w1⟩:=JU FN X N M vG vb a b u G ss (tabOf G ss s) s e j l.base hG he Q.kn Q.bin I Y V (l.big u I).1 Q.am Q.bm l.lC m_ (gZ _ _ _) T;have f:=l.word k1 w1;have Z:=Q.keep k1 (by simp;exact I) (by simp;exactλz=>Y z.symm) (by simp;exactλz=>V z.symm);refine aD<|aJ (c:=!e_ G ss (tabOf G ss s) s e) (c_<|aU<|LW rfl rfl rfl (cI 10 1 (hv.mono l.base) rfl rfl) rfl rfl e1) (λA=>?_) λA=>?_
 ·rw[UB] at A;exact aV rfl<|hr M1 f.base A
 refine bf ?_;rw[Vd] at A;obtain⟨r,OC⟩:=AN he;have wt:∀(h:Bool) (σ) (cs a') (x),aj 10 σ=(λM=>.ok v M)->e.word=.str a'->N<+:x->tB (ao oEq (ao ax (ao ax (aj 10)<|eC<|.int 1)<|eC<|.int 0)<|eC<|.str cs) σ x=.ok (ai<|a'=cs) x:=λh σ cs a' x wJ ew p=>aU<|aP (u4 10 0 (hv.mono p) (OC.mono p) wJ (by rw[ew];rfl)) rfl<|eq_str a' cs
 cases e with
 |full=>
  obtain⟨fw,f1,f2⟩:=f.km;have a5:=gD (σ:=cF vG C D s u K d H (aa<|.ref a) (aa<|.ref b) (aa v) y t w k m) (o:=aj 5) (arg:=aj 8) rfl f1 (rfl) f1 (by rw[f2.len];omega);have B:=f.cj Z.am Z.an f1 f2;refine aD<|aJ (wt d _ _ _ M1 rfl rfl f.base) (λ_=>?_) λz=>nomatch z
  refine df a5 ?_;refine aJ (wt d _ _ _ _ rfl rfl B.base) (λz=>nomatch z) λ_=>?_
  refine bf ?_;have:=L _ _ P t w k m A B rfl;rw[show(d&&(eA G s ss En.full).dB)=d from Vj _] at this;exact this
 |left=>
  refine aD<|aJ (wt d _ _ _ M1 rfl rfl f.base) (λz=>nomatch z) λ_=>?_
  refine bf ?_;refine aJ (wt d _ _ _ _ rfl rfl f.base) (λz=>nomatch z) λ_=>?_
  refine bf ?_;have:=L M1 X P t w k m A (by rw[show F++(eA G s ss En.left).cj=F from UY _];exact f) rfl;rw[show(d&&(eA G s ss En.left).dB)=d from Vj _] at this;exact this
 |cls c=>
  refine aD<|aJ (wt d _ _ _ M1 rfl rfl f.base) (λz=>nomatch z) λ_=>?_
  refine bf ?_;refine aJ (wt d _ _ _ _ rfl rfl f.base) (λz=>nomatch z) λ_=>?_
  refine bf ?_;have:=L M1 X P t w k m A (by rw[show F++(eA G s ss<|En.cls c).cj=F from UY _];exact f) rfl;rw[show(d&&(eA G s ss<|En.cls c).dB)=d from Vj _] at this;exact this
 |dF p bs=>
  refine aD<|aJ (wt d _ _ _ M1 rfl rfl f.base) (λz=>nomatch z) λ_=>?_
  refine bf ?_;refine aJ (wt d _ _ _ _ rfl rfl f.base) (λ_=>?_) λz=>nomatch z
  unfold cb at he;obtain⟨ub,wb,h1,h2,h3,h4⟩:=he;have E:(cV ss p&&ai (bs.nums=(tabOf G ss s).getD p.toNat []))=af:=A;rw[T',UC] at E;obtain⟨p0,p1,pz⟩:=kG E.1;have MU:∀n∈bs.nums,1<=n/\n<=(s):=by intro n L;rw[E.2,eP G ss s p.toNat<|by omega] at L;exact uD L
  obtain⟨M2,e2,q2⟩:=Dp M1 vG (.ref a) (.ref b) G ss (tabOf G ss s) s (hG.mono f.base) ⟨a,rfl,Z.am⟩ Z.bm.ll (gZ _ _ _) T U wH s9;have B:=f.grow q2;have H2:=Z.grow q2;have go:∀h:Bool,h=(d&& !eh G ss (tabOf G ss s) s)->(pW (cF vG C D s u K h H (aa<|.ref a) (aa<|.ref b) (aa v) y t w k m) M2).Sat q:=by
   rintro h rfl;refine EC hG T s9 U hv h1 h2 h3 h4 p0 p1 pz MU B H2 px<|λx X' P' S O J R tw kq=>?_
   exact L x X' P' S O J R A (by rw[show F++(eA G s ss<|En.dF p bs).cj=F from UY _];exact tw) kq
  refine aD<|aJ (aU<|mJ rfl rfl rfl rfl e2) (λhs=>?_) λhs=>?_
  ·refine bA rfl ?_;exact go ag (by rw[hs];simp)
  ·refine bf ?_;exact go d (by rw[hs];simp)
noncomputable def JZ(N:Mem)(G:List<|List Int)(vG h i:W)(s n m p:Nat)(c:Bool)(P:jo)(a:List W)(F:List<|List Int):ay where
 nx:=λt b=>∃w r o d f j k e g,eu G s P=aa w/\t=cF vG h i s n m (c&&w.dB) p r o d f j k e g/\N<+:b/\b[n]? =aa (.lst<|a++w.words)/\∃l q,b[m]? =aa (.lst l)/\fM q b l (F++w.cj)
 rt:=λv b=>v=.aA/\eu G s P=ae/\N<+:b
def HI{N:Mem}{vG E D:W}{s H K C n:Nat}{G:List (List Int)}(hG:LL N vG G)(eM:∀g∈G,g.length<=9/\∀i∈g,0<=i/\i<(n:Int))(Cd:n=s*s)(s9:s<=9)(gv:n<=81)(wH:G.length<=27):
 ∀(m k:Nat) (P:List Ent) (l:List W) (F:List<|List Int) (d:Bool) (X:List Nat) (M:Mem) (T S B o p A r u:Option W),dz (pd P)<=m->m<k->l.length+dz (pd P)<=15000000->F.length+dz (pd P)<=15000000->TW N G s X C H K P l F M->
 (dW wF Cc k (cF vG E D s H K d C T S B o p A r u) M).Sat (JZ N G vG E D s H K C d (pd P) l F):=by
 intro m;induction m with
 |zero=>
  intro k P l F d X M T S B o p A r u hm hk hw hf h;obtain⟨k,rfl⟩:∃j,k=j+1:=⟨k-1,by omega⟩;have hP:P=[]:=by have:=uF<|pd P;rw[AO] at this;exact Xy.mp<|by omega
  subst hP;obtain⟨Y,t1,t2⟩:=h.todo;have OD:Y=[]:=by have:=t2.len;simpa using this
  subst OD;have t:wF (cF vG E D s H K d C T S B o p A r u) M=.ok ag (M++[.lst []]):=xV (ws:=[]) ⟨C,rfl,t1⟩ 7 rfl;refine nL t ?_;obtain⟨fw,f1,f2⟩:=h.km;have h':=h.grow<|pre_app M [.lst []];refine⟨⟨[],[],af⟩,T,S,B,o,p,A,r,u,rfl,by rw[Vj],h'.base,by rw[UY];exact h'.lC,?_⟩;obtain⟨fw,f1,f2⟩:=h'.km;exact⟨fw,X,f1,by rw[UY];exact f2⟩
 |succ m ih=>
  intro k P l F d X M T S B o p A r u hm hk hw hf h;obtain⟨k,rfl⟩:∃j,k=j+1:=⟨k-1,by omega⟩;cases P with
  |nil=>exact RS.Sat.mono (ih (k+1) [] l F d X M T S B o p A r u (UX _) (by omega) hw hf h) (λ_ _ z=>z) (λ_ _ z=>z) (λ_ _ z=>z)<|λ_ _ z=>z
  |cons q P=>
   obtain⟨a,b,ss,tr⟩:=q;have hsz:dz (pd<|(a,b,ss,tr)::P)=dq tr+dz (pd P):=rfl;rw[hsz] at hm hw hf;obtain⟨L,e⟩:=tr;have MV:dq (.mk L e)=1+jn e:=by conv=>lhs;rw[dq]
   rw[MV] at hm hw hf;have h1:=h.grow<|pre_app M [.lst []];have t:wF (cF vG E D s H K d C T S B o p A r u) M=.ok af (M++[.lst []]):=by
    obtain⟨Y,t1,t2⟩:=h.todo;have:=xV (σ:=cF vG E D s H K d C T S B o p A r u) ⟨C,rfl,t1⟩ 7 rfl;have rT:Y≠[]:=by rintro rfl;cases t2
    rw[Uy rT] at this;exact this
   refine pK t ?_;generalize M++[O.lst []]=M1 at h1;obtain⟨Y,w,m1,ent,h2,hH⟩:=h1.pop;obtain⟨c,v,rfl,hc,mc,wK,_,_,sh⟩:=ent;dsimp only at wK hH sh mc;unfold cQ at wK;obtain⟨va,vb,hv,fX,he⟩:=wK;have rV:=h1.eN C<|by simp
   have k2:aH [C] M1 (M1.set C<|.lst Y):=aH.set _<|by simp
   have Ce:(M1.set C<|.lst Y)[c]? =aa (.tup [.ref a,.ref b,v]):=k2.get mc (by simp;rintro rfl;exact hc rV);generalize OE:M1.set C (.lst Y)=M2 at h2 hH Ce;have V:=vm m1;rw[OE] at V;have sl:ss.length=n:=by rw[sh.len,Cd]
   unfold Cc;refine aD<|jN (v:=.ref c) (M1:=M2) (M2:=M2) (bS:=cF vG E D s H K d C (aa<|.ref a) (aa<|.ref b) (aa v) o p A r u) ?_ ?_ ?_
   ·unfold bD;rw[show aj 7 (cF vG E D s H K d C T S B o p A r u) M1=.ok (.ref C) M1 from rfl];simp only[R.bind,dQ m1,aq];exact V
   ·have tc:aI M2 (.ref c) [.ref a,.ref b,v]:=⟨c,rfl,Ce⟩;simp only[dd,tc.cm,iL,az,R.bind,UO,Vt,Uv,cF,T_,T9]
   dsimp only;have iv:=hv.mono h2.base;obtain⟨M3,e3,p3⟩:=Dq M2 va L<|fX.mono h2.base;refine aD<|aJ (c:=ag) (M1:=M3) ?_ (λz=>nomatch z) λ_=>?_
   ·unfold bg;rw[c_<|is_tup iv 10 rfl];simp only[R.bind];rw[aU<|aP (y:=.int 2) (M2:=M2) (iE iv 10 rfl) rfl ne_int];simp only[R.bind];rw[c_<|aU<|Be (cI 10 0 iv rfl rfl) e3];rfl
   refine bf ?_;dsimp only;have h3:=h2.grow p3;have OF:=hH.grow p3;obtain⟨M4,e4,p4⟩:=FY M3 vb e<|cb.mono h3.base he;refine aD<|aJ (c:=ag) (M1:=M4) (c_<|aU<|Be (cI 10 1 (hv.mono h3.base) rfl rfl) e4) (λz=>nomatch z) λ_=>?_
   refine bf ?_;dsimp only;have Z:=h3.grow p4;have f:=OF.grow p4;have MW:∀g∈G,g.length<=9/\∀i∈g,0<=i/\i<(ss.length:Int):=by rw[sl];exact eM
   have Q:eu G s (pd<|(a,b,ss,.mk L e)::P)=oj (dG G s ss<|.mk L e) (eu G s<|pd P):=pV G s ss (.mk L e)<|pd P;rw[jf] at Q;refine aD ?_;have Cf:∀y∈[a,b],y∈X:=by
    intro y hy;simp only[T7,Ud,Ue] at hy;rcases hy with rfl|rfl
    ·exact f.kn
    ·exact f.bin
   have OG:∀y∈[a,b],y∉C::H::K::dV P:=by
    intro y hy;simp only[T7,Ud,Ue] at hy;rcases hy with rfl|rfl
    ·exact f.an
    ·exact f.bn
   refine DM hG MW s9 Z.base hv fX (Z.big a f.kn).1 (Z.big b f.bin).1 f.ab f.kn f.bin (λx hx=>(Z.big x hx).2) f.am f.bm f.sh (λM5 So U k5 J a5 b5 Cg=>?_) λM5 k5 J=>?_
   ·have h5:=Z.keep k5 Cf OG;have OH:Here N G s X C H K P a b U M5:=⟨f.kn,f.bin,f.ab,f.an,f.bn,a5,b5,Cg⟩;have OI:U.length=n:=by rw[Cg.len,Cd]
    rw[J] at Q;dsimp only at Q;have px:P.length<=15000000:=by have:=uF<|pd P;rw[AO] at this;omega
    refine HH hG (by rw[OI];exact eM) s9 (by omega) wH hv he h5 OH px (by omega) (by omega) (λM6 X6 P6 Sq Sr B7 B8 I h6 kq=>?_) λM6 p6 I=>?_
    ·rw[T5 I,F2,<-kq] at Q;have Ss:dz (pd P6)=jn e+dz (pd P):=by rw[kq,HG]
     have Su:(eA G s U e).words.length=1:=by cases e<;>rfl
     have Oa:(eA G s U e).cj.length<=1:=by cases e<;>simp[eA]
     refine RS.Sat.mono (ih k P6 _ _ (d&&(eA G s U e).dB) X6 M6 _ _ _ _ _ _ _ _ (by omega) (by omega) (by rw[Us];omega) (by rw[Us];omega) h6) (λσ M7 z=>?_) (λv7 M7 z=>?_) (λ_ _ z=>z.elim)<|λ_ _ z=>z.elim
     ·obtain⟨w7,z8,z9,wL,wM,wN,wO,rW,rX,e7,rfl,b7,d7,fw,X7,f7,r7⟩:=z;refine⟨(eA G s U e).join w7,z8,z9,wL,wM,wN,wO,rW,rX,by rw[Q,e7];rfl,?_,b7,?_,fw,X7,f7,?_⟩
      ·show _=cF vG E D s H K (d&&((eA G s U e).dB&&w7.dB)) C z8 z9 wL wM wN wO rW rX;rw[Bool.and_assoc]
      ·show _=aa (O.lst<|l++((eA G s U e).words++w7.words));rw[<-U9];exact d7
      ·show fM X7 M7 fw (F++((eA G s U e).cj++w7.cj));rw[<-U9];exact r7
     ·obtain⟨rfl,e7,b7⟩:=z;exact⟨rfl,by rw[Q,e7];rfl,b7⟩
    ·rw[T6 (by rw[I];decide)] at Q;exact⟨rfl,Q,p6⟩
   ·rw[J] at Q;refine⟨rfl,Q,k5.base Z.base λx hx=>(Z.big x<|Cf x hx).1⟩
noncomputable def uG(f:CM):Prop:=∀(M) (j h c) (s n) (G) (b) (t),LL M j G->aX M h b->cQ M c t->bo s b->n=s*s->(∀g∈G,g.length<=9/\∀i∈g,0<=i/\i<(n))->s<=9->G.length<=27->dq t<=15000000->
 ∃r a,f [j,h,c,.int s] M=.ok r a/\(M<+:a/\match dG G s b t with
  |none=>r=.aA
  |some w=>∃d e,aI a r [d,e,.bl w.dB]/\aF a d w.words/\LL a e w.cj)
def HJ:uG (pJ (lS jI) jO JY Bd BB AQ BC):=by
 intro M N J h s n G b t U hs ht m E o D L hsz;have sl:b.length=n:=by rw[m.len,E]
 have P:n<=81:=by rw[E];exact Uh (UK D D)<|by decide
 refine bJ rfl ?_;show(au _ _ [aa N,aa J,aa h,aa<|.int s,ae,ae,ae,ae,ae,ae,ae,ae,ae,ae,ae,ae] M).Sat _;refine eW (v:=.ref M.length) (M1:=M++[.lst []]) rfl ?_;refine eW (v:=.ref (M++[O.lst []]).length) (M1:=M++[.lst []]++[.lst []]) rfl ?_;refine eW (v:=.bl af) (M1:=M++[.lst []]++[.lst []]) rfl ?_;have H:M<+:M++[.lst []]++[.lst []]:=(pre_app _ _).trans<|pre_app _ _;have Z:(M++[O.lst []]++[.lst []])[M.length]? =aa (.lst []):=aB (pre_app _ _)<|b8 _ _;have T:(M++[O.lst []]++[.lst []])[M.length+1]? =aa (.lst []):=by have:=b8 (M++[O.lst []])<|.lst [];simpa using this
 have lf:(M++[O.lst []]).length=M.length+1:=by simp
 rw[lf];have l2:(M++[O.lst []]++[O.lst []]).length=M.length+2:=by simp
 generalize M++[O.lst []]++[O.lst []]=M2 at H Z T l2;have n3:=og (aF.mono hs H)<|by omega
 have A:M2<+:M2++[.lst<|b.map .int]:=pre_app _ _;have g3:(M2++[O.lst<|b.map .int])[M2.length]? =aa (.lst<|b.map .int):=b8 _ _;have l3:(M2++[O.lst<|b.map .int]).length=M.length+3:=by simp;omega
 generalize M2++[O.lst<|b.map .int]=M3 at n3 A g3 l3;have S:=H.trans A;obtain⟨l,p,e4,hT⟩:=JN M3 N J G b s (U.mono S) (aF.mono hs S) (λg hg=>by rw[sl];exact(o g hg).2) (by omega) D;have X:M3<+:M3++.lst l::p:=jP _ _ _;have V:(M3++.lst l::p)[M3.length]? =aa (.lst l):=f_ _ _ _;have f:∀{w:W} {r:List Int},(∃k,w=W.ref (M3.length+1+k)/\p[k]? =aa (O.lst<|r.map .int))->∃c,w=W.ref c/\M3.length<c/\(M3++.lst l::p)[c]? =aa (O.lst<|r.map .int):=by rintro w r ⟨k,e,q⟩;exact⟨_,e,by omega,by rw[Fw];exact q⟩
 generalize I:M3++O.lst l::p=a at e4 X V f;have B:a<+:a++[.tup [.ref M2.length,.ref M3.length,h]]:=pre_app _ _;have g5:(a++[O.tup [.ref M2.length,.ref M3.length,h]])[a.length]? =aa (.tup [.ref M2.length,.ref M3.length,h]):=b8 _ _;have n5:gN [.ref M2.length,.ref M3.length,h] a=.ok (.ref a.length) (a++[.tup [.ref M2.length,.ref M3.length,h]]):=gX (by show 3<=16777216;decide);have l5:(a++[O.tup [.ref M2.length,.ref M3.length,h]]).length=a.length+1:=by simp
 generalize a++[O.tup [.ref M2.length,.ref M3.length,h]]=d at B g5 n5 l5;have y:d<+:d++[.lst [.ref a.length]]:=pre_app _ _;have Y:(d++[O.lst [.ref a.length]])[d.length]? =aa (.lst [.ref a.length]):=b8 _ _;have n6:bb [.ref a.length] d=.ok (.ref d.length) (d++[.lst [.ref a.length]]):=bT (by show 1<=16777216;decide);have l6:(d++[O.lst [.ref a.length]]).length=d.length+1:=by simp
 generalize d++[O.lst [.ref a.length]]=M6 at y Y n6 l6;have Sv:M3.length<a.length:=by rw[<-I];simp
 refine eW (v:=.ref d.length) (M1:=M6) ?_ ?_
 ·walk_at "ev"
  simp only[n3,e4,n5,n6]
 show((au _ _:SM) (cF N J h s M.length (M.length+1) af d.length ae ae ae ae ae ae ae ae) M6).Sat _;have i:=X.trans<|B.trans y;have Q:TW M G s [d.length,M.length,M.length+1,M2.length,M3.length] d.length M.length (M.length+1) [(M2.length,M3.length,b,t)] [] [] M6:=by
  refine⟨S.trans i,?_,?_,?_,⟨[.ref a.length],Y,.cons ⟨a.length,h,rfl,?_,aB y g5,ht,aB i g3,⟨l,aB (B.trans y) V,hT.imp λw r hr=>?_⟩,m⟩ .nil⟩,aB (A.trans i) Z,[],aB (A.trans i) T,.nil⟩
  ·intro x C;simp only[T7,Ud,Ue] at C;rcases C with rfl|rfl|rfl|rfl|rfl<;>constructor<;>omega
  ·intro x C;simpa[dV] using C
  ·simp only[dV,List.flatMap_cons,List.flatMap_nil,UY,UQ,T7,Ud,Ue,U5,not_false_eq_true,List.nodup_nil,and_true];omega
  ·simp only[T7,Ud,Ue,U5];omega
  ·obtain⟨c,e,hc,q⟩:=f hr;refine⟨c,e,?_,aB (B.trans y) q⟩;have jx:c<a.length:=(Ub.mp q).1;simp only[T7,Ud,Ue,U5];omega
 have j:dz (pd [(M2.length,M3.length,b,t)])=dq t:=by show dq t+0=_;omega
 refine aD<|RS.Sat.mono (HI (n:=n) U o E D P L (dq t) 1000000000 [(M2.length,M3.length,b,t)] [] [] af _ M6 ae ae ae ae ae ae ae ae (by rw[j];exact Uc _) (by omega) (by rw[j];simp;omega) (by rw[j];simp;omega) Q) (λσ M' z=>?_) (λv M' z=>?_) (λ_ _ z=>z.elim)<|λ_ _ z=>z.elim
 ·obtain⟨w,z8,z9,wL,wM,wN,wO,rW,rX,u,rfl,K,d7,fw,X7,f7,r7⟩:=z;have F:dG G s b t=aa w:=by have:eu G s (pd [(M2.length,M3.length,b,t)])=oj (dG G s b t) (aa ⟨[],[],af⟩):=pV G s b t [];rw[this,z5] at u;exact u
  rw[F];dsimp only;refine aV (ot rfl rfl (by show R.ok (W.bl<|af&&w.dB) M'=_;rw[Vg])) ⟨K.trans<|pre_app _ _,.ref M.length,.ref<|M.length+1,aI.new _ _,⟨_,rfl,aB (pre_app _ _) d7⟩,?_⟩;refine⟨fw,⟨_,rfl,aB (pre_app _ _) f7⟩,r7.imp λw' r ⟨c,e,_,q⟩=>⟨c,e,aB (pre_app _ _) q⟩⟩
 ·obtain⟨rfl,u,K⟩:=z;have F:=by have:eu G s (pd [(M2.length,M3.length,b,t)])=oj (dG G s b t) (aa ⟨[],[],af⟩):=pV G s b t [];rw[this,z5] at u;exact u
  rw[F];exact⟨K,rfl⟩
structure fE(G:List<|List Int)(s:Nat):Prop where
 len:∀g∈G,g.length=s
 nd:∀g∈G,g.Nodup
 iw:∀g∈G,∀i∈g,0<=i/\i<((s*s:Nat):Int)
structure eH(G:List<|List Int)(s:Nat)(ss f:List Int):Prop where
 sh:bo s f
 nz:∀i:Int,0<=i->i<((s*s:Nat):Int)->aw f i≠0
 kp:∀i:Int,0<=i->i<((s*s:Nat):Int)->aw ss i=0\/aw ss i=aw f i
 nt:bR G f s=af
def kQ(h:bo s f)(c:0<=i)(b:i<((s*s:Nat):Int)):0<=aw f i/\aw f i<=(s):=by have a:=qv c (by rw[h.len];exact b);exact⟨h.lo _ a,h.hi _ a⟩
def u5{g ss:List Int}(h:p∈g)(e:q∈g)(c:p≠q)(d:aw ss p=n)(f:aw ss q=n):2<=cnt n (g.map<|aw ss):=by
 induction g with
 |nil=>simp at h
 |cons x r i=>
  rw[Ux,cnt_cons];rcases T7.mp h with b|b
  ·rcases T7.mp e with a|a
   ·exact absurd (b.trans a.symm) c
   ·subst b;have:=(kK _ _).mpr<|Um.mpr ⟨q,a,f⟩;rw[T5 d];omega
  ·rcases T7.mp e with a|a
   ·subst a;have:=(kK _ _).mpr<|Um.mpr ⟨p,b,d⟩;rw[T5 f];omega
   ·have:=i b a;omega
def AR{g ss:List Int}(b:g.Nodup)(h:1<cnt n (g.map<|aw ss)):∃p∈g,∃q∈g,p≠q/\aw ss p=n/\aw ss q=n:=by
 induction g with
 |nil=>simp[cnt] at h
 |cons x r i=>
  rw[Ux,cnt_cons] at h;obtain⟨d,c⟩:=UQ.mp b;by_cases e:aw ss x=n
  ·rw[T5 e] at h;have:0<cnt n (r.map<|aw ss):=by omega
   obtain⟨q,a,f⟩:=Um.mp<|(kK _ _).mp this;exact⟨x,UE,q,Ut _ a,λz=>d (by rw[z];exact a),e,f⟩
  ·rw[T6 e] at h;obtain⟨p,j,q,a,z⟩:=i c<|by omega
   exact⟨p,Ut _ j,q,Ut _ a,z⟩
def ov(h:bR G f s=af)(c:g∈G){k:Int}(k0:1<=k)(k1:k<=(s)):cnt k (g.map<|aw f)<=1:=by
 have a:=US.mp h g c;have b:=US.mp a (k-1).toNat<|UD.mpr<|by omega
 have h3:=UM b;rw[show(((k-1).toNat:Nat):Int)+1=k by omega] at h3;exact h3
def HK{s:Nat}(h:∀g∈G,∀k:Int,1<=k->k<=(s)->cnt k (g.map<|aw f)<=1):bR G f s=af:=by unfold bR kj;rw[US];intro g a;rw[US];intro k b;rw[UD] at b;exact UR<|h g a _ (by omega)<|by omega
def qr{G:List (List Int)}{s:Nat}{ss f:List Int}(o:fE G s)(h:eH G s ss f){p:Int}(e:0<=p)(d:p<((s*s:Nat):Int))(m:aw ss p=0):aw f p∈rowOf G ss s p:=by
 obtain⟨u,r⟩:=kQ h.sh e d;have l:=h.nz p e d;refine UP.mpr ⟨?_,?_⟩
 ·refine Um.mpr ⟨(aw f p-1).toNat,UD.mpr<|by omega,by omega⟩
 ·rw[T',UC];refine⟨m,?_⟩;rw[UB];cases a:c7 G ss p (aw f p) with
  |false=>rfl
  |true=>
   exfalso;unfold c7 at a;rw[Ui] at a;obtain⟨g,c,a⟩:=a;unfold fz at a;rw[T',any_eq,Ui] at a;obtain⟨t,q,b,a⟩:=a;rw[T',UB,UZ,UC] at a;obtain⟨n,i⟩:=o.iw g c q b;have j:aw f q=aw f p:=by
    rcases h.kp q n i with z|z
    ·rw[z] at a;exact absurd a.2.symm l
    ·rw[<-z];exact a.2
   have:=u5 t b (λz=>a.1 z.symm) rfl j;have:=ov h.nt c (k:=aw f p) (by omega) r;omega
theorem uH:∀{l m:List Int},l.Nodup->(∀x∈l,x∈m)->l.length<=m.length
 |[],_,_,_=>UX _
 |x::r,m,f,a=>by
  obtain⟨e,d⟩:=UQ.mp f;have c:=a x UE;have:=uH (m:=m.erase x) d λy b=>(XW<|λz=>e (by rw[<-z];exact b)).mpr<|a y<|Ut _ b
  rw[XX c] at this;have:=List.length_pos_of_mem c;simp only[UO];omega
def y9(s):(nums s).length=s:=by simp[nums]
def tV:m∈nums s↔1<=m/\m<=(s):=by refine⟨mm,λh=>?_⟩;exact Um.mpr ⟨(m-1).toNat,UD.mpr<|by omega,by omega⟩
def J7{l:List Int}(g:l.length=s)(f:l.Nodup)(b:∀x∈l,1<=x/\x<=(s)){n:Int}(c:1<=n)(d:n<=(s)):n∈l:=by
 apply Xz;intro h;have e:=tV.mpr ⟨c,d⟩;have:=uH (m:=(nums s).erase n) f λx a=>(XW<|λz=>h (by rw[<-z];exact a)).mpr<|tV.mpr<|b x a
 rw[XX e,y9] at this;omega
def DN(j:fE G s)(h:eH G s ss f)(b:g∈G):(g.map<|aw f).Nodup:=by
 rw[yb];intro k;by_cases d:0<cnt k (g.map<|aw f)
 ·obtain⟨i,e,rfl⟩:=Um.mp ((kK _ _).mp d);obtain⟨a,c⟩:=j.iw g b i e;obtain⟨m,l⟩:=kQ h.sh a c;have:=h.nz i a c;exact ov h.nt b (by omega) l
 ·omega
def yt{G:List (List Int)}{s:Nat}{ss f:List Int}(a:fE G s)(r:bo s ss)(h:eH G s ss f){g n:Int}(b:dY G ss g n s=af):∃q,q∈bU G (tabOf G ss s) g n/\aw f q=n:=by
 obtain⟨y,A,o,B⟩:=oh b;have c:=mem_getD y A;have w:n∈(G.getD g.toNat []).map (aw f):=by refine J7 (by rw[Ua];exact a.len _ c) (DN a h c) (λx t=>?_) o B;obtain⟨i,u,rfl⟩:=Um.mp t;obtain⟨k,l⟩:=a.iw _ c i u;obtain⟨C,D⟩:=kQ h.sh k l;have:=h.nz i k l;omega
 obtain⟨q,d,e⟩:=Um.mp w;obtain⟨m,j⟩:=a.iw _ c q d;refine⟨q,UP.mpr ⟨d,?_⟩,e⟩;have p:aw ss q=0:=by
  rcases h.kp q m j with z|z
  ·exact z
  ·exfalso;unfold dY at b;rw[T'] at b;have:=b.2;rw[UB] at this;have v:((G.getD g.toNat []).map<|aw ss).any (·==n)=af:=(any_eq _ _).mpr<|Um.mpr ⟨q,d,by rw[z];exact e⟩;rw[v] at this;cases this
 rw[any_eq,eP G ss s q.toNat (by rw[r.len];omega)];have:=qr a h m j p;rw[e] at this;rw[show((q.toNat:Nat):Int)=q by omega];exact this
def ED{G:List (List Int)}{s:Nat}{ss f:List Int}(k:fE G s)(d:bo s ss)(h:eH G s ss f){st:ee}(a:cw G s ss st=af):aw f st.place=st.num:=by
 obtain⟨l,t,o,u,v⟩:=i9 a;have b:st.place<((s*s:Nat):Int):=by rw[<-d.len];exact t
 have m:=qr k h l b o;unfold cw at a;cases st with
 |fld p n=>rw[lY,T',UC] at a;have r:0<=p:=l;have j:p<((s*s:Nat):Int):=b;have e:=a.2;rw[eP G ss s p.toNat (by rw[d.len];omega),show((p.toNat:Nat):Int)=p by omega] at e;have c:aw f p∈rowOf G ss s p:=m;rw[e] at c;show aw f p=n;simpa using c
 |c9 p n g=>
  rw[kE,T',T',UC] at a;obtain⟨q,i,e⟩:=yt k d h a.2.1;rw[a.2.2] at i;have:q=p:=by simpa using i
  subst this;exact e
def y_(d:bo s ss)(h:eH G s ss f)(g:0<=p)(b:p<((s*s:Nat):Int)):eH G s (ss.set p.toNat<|aw f p) f:=by
 refine⟨h.sh,h.nz,λi a e=>?_,h.nt⟩;rw[gc ss p i _ g (by rw[d.len];exact b) a];by_cases c:i=p
 ·subst c;rw[T5 rfl];exact .inr rfl
 ·rw[T6 c];exact h.kp i a e
def De(b:fE G s)(r:bo s ss)(h:eH G s ss f)(c):dM G ss (tabOf G ss s) s c=ag:=by
 cases a:dM G ss (tabOf G ss s) s c with
 |false=>rfl
 |true=>
  exfalso;cases c with
  |fld p=>
   rw[pR,T',UC] at a;obtain⟨i,l,B⟩:=kG a.1;have o:p<((s*s:Nat):Int):=by rw[<-r.len];exact l
   have:=qr b h i o B;have e:=a.2;rw[eP G ss s p.toNat<|by omega,show((p.toNat:Nat):Int)=p by omega] at e;rw[e] at this;simp at this
  |c9 g n=>rw[pS,T',UC] at a;obtain⟨q,d,_⟩:=yt b r h a.1;rw[a.2] at d;simp at d
  |i2 g n=>
   rw[pT,T',UC] at a;obtain⟨u,y⟩:=a;simp only[UB,U_,UZ] at u;have j:=mem_getD (G:=G) (g:=g) (by omega)<|by omega
   obtain⟨p,t,q,d,m,v,x⟩:=AR (b.nd _ j) y;obtain⟨i,l⟩:=b.iw _ j p t;obtain⟨C,w⟩:=b.iw _ j q d;have D:aw f p=n:=by
    rcases h.kp p i l with z|z
    ·omega
    ·rw[<-z];exact v
   have A:aw f q=n:=by
    rcases h.kp q C w with z|z
    ·omega
    ·rw[<-z];exact x
   have:=u5 t d m D A;obtain⟨E,F⟩:=kQ h.sh i l;have:=ov h.nt j (k:=n) (by omega)<|by omega
   omega
theorem za(j:fE G s):∀(g) (ss a),bo s ss->eH G s ss f->cJ G s ss g=aa a->bo s a/\eH G s a f
 |[],ss,a,b,h,e=>by
  have:=by simpa[cJ] using e
  subst this;exact⟨b,h⟩
 |st::r,ss,a,b,h,e=>by
  have d:(if cw G s ss st then cJ G s (dw ss st) r else ae)=aa a:=e;by_cases c:cw G s ss st=af
  ·rw[T5 c] at d;obtain⟨l,k,n,m,o⟩:=i9 c;have i:st.place<((s*s:Nat):Int):=by rw[<-b.len];exact k
   refine za j r (dw ss st) a (nT b c) ?_ d;have:=y_ b h l i;rw[ED j b h c] at this;exact this
  ·rw[T6 c] at d;cases d
def EE(d:bo s a)(f:bo s b)(h:∀i:Int,0<=i->i<((s*s:Nat):Int)->aw a i=aw b i):a=b:=by
 apply List.ext_getElem (by rw[d.len,f.len]);intro i c e;have g:i<s*s:=by rw[<-d.len];exact c
 have:=h (i) (by omega)<|by omega
 rw[gY c,gY e] at this;exact this
def z6(c:bo s ss)(h:(!ss.any (·==0))=af)(b:0<=i)(d:i<((s*s:Nat):Int)):aw ss i≠0:=by intro e;have a:=qv b (by rw[c.len];exact d);rw[e] at a;rw[(any_eq ss 0).mpr a] at h;cases h
def z7(h:oj a b=aa w):∃x y,a=aa x/\b=aa y/\w=x.join y:=by
 cases a with
 |none=>cases b<;>cases h
 |some x=>
  cases b with
  |none=>cases h
  |some y=>exact⟨x,y,rfl,rfl,(Ug h).symm⟩
mutual
theorem AS{G:List (List Int)}{s:Nat}{f:List Int}(i:fE G s):∀(t:Tr) (ss:List Int) (w:cB),bo s ss->eH G s ss f->dG G s ss t=aa w->cO∉w.words->f∈w.cj
 |.mk b e,ss,w,k,h,hw,j=>by
  rw[jf] at hw;cases c:cJ G s ss b with
  |none=>rw[c] at hw;cases hw
  |some a=>
   rw[c] at hw;dsimp only at hw;obtain⟨g,l⟩:=za i b ss a k h c;by_cases d:e_ G a (tabOf G a s) s e=af
   ·rw[T5 d] at hw;exact J8 i e a w g l d hw j
   ·rw[T6 d] at hw;cases hw
theorem J8{G:List (List Int)}{s:Nat}{f:List Int}(k:fE G s):∀(e:En) (ss:List Int) (w:cB),bo s ss->eH G s ss f->e_ G ss (tabOf G ss s) s e=af->dH G s ss e=aa w->cO∉w.words->f∈w.cj
 |.full,ss,w,a,h,he,hw,d=>by
  rw[dH] at hw;cases hw;have:f=ss:=EE h.sh a λi l m=>by
   rcases h.kp i l m with z|z
   ·exact absurd z<|z6 a he l m
   ·exact z.symm
  simp[this]
 |.left,ss,w,a,h,he,hw,d=>by rw[dH] at hw;cases hw;exact absurd (by simp) d
 |.cls c,ss,w,a,h,he,hw,d=>by have:dM G ss (tabOf G ss s) s c=af:=he;rw[De k a h c] at this;cases this
 |.dF p bs,ss,w,a,h,he,hw,d=>by
  rw[dH] at hw;have b:(cV ss p&&ai (bs.nums=(tabOf G ss s).getD p.toNat []))=af:=he;rw[T',UC] at b;obtain⟨n,t,q⟩:=kG b.1;have g:p<((s*s:Nat):Int):=by rw[<-a.len];exact t
  cases j:du G s ss p bs with
  |none=>rw[j] at hw;cases hw
  |some o=>
   rw[j] at hw;cases hw;have r:aw f p∈bs.nums:=by rw[b.2,eP G ss s p.toNat<|by omega,show((p.toNat:Nat):Int)=p by omega];exact qr k h n g q
   exact AU k bs p ss o a h n g r j λz=>d<|Ut _ z
theorem AU{G:List (List Int)}{s:Nat}{f:List Int}(k:fE G s):∀(j:Bs) (p:Int) (ss:List Int) (w:cB),bo s ss->eH G s ss f->0<=p->p<((s*s:Nat):Int)->aw f p∈j.nums->du G s ss p j=aa w->cO∉w.words->f∈w.cj
 |.nil,p,ss,w,c,h,d,b,hm,hw,e=>by simp[Bs.nums] at hm
 |.cons n t r,p,ss,w,c,h,d,b,hm,hw,e=>by
  rw[qp] at hw;obtain⟨x,y,l,o,rfl⟩:=z7 hw;have g:cO∉x.words:=λz=>e<|Ws _ z
  have i:cO∉y.words:=λz=>e<|Uu _ z
  have a:aw f p=n\/aw f p∈r.nums:=T7.mp hm;rcases a with rfl|a
  ·refine Uu _ (AS k t _ y ?_ (y_ c h d b) o i);obtain⟨m,q⟩:=kQ h.sh d b;exact c.set _ m q
  ·exact Ws _<|AU k r p ss x c h d b a l g
end
noncomputable def Over(s:Nat)(ss f:List Int):Prop:=∀i:Int,0<=i->i<((s*s:Nat):Int)->aw ss i=0\/aw ss i=aw f i
def Over.refl(s)(ss):Over s ss ss:=λ_ _ _=>.inr rfl
def Over.trans(h:Over s a b)(h':Over s b c):Over s a c:=λi d e=>by
 rcases h i d e with z|z
 ·exact .inl z
 ·rcases h' i d e with y|y
  ·exact .inl (by rw[z];exact y)
  ·exact .inr (by rw[z];exact y)
def zb(d:bo s ss)(f:0<=p)(b:p<((s*s:Nat):Int))(e:aw ss p=0):Over s ss (ss.set p.toNat n):=λi a g=>by
 rw[gc ss p i n f (by rw[d.len];exact b) a];by_cases c:i=p
 ·subst c;exact .inl e
 ·rw[T6 c];exact .inr rfl
def uI{G:List (List Int)}{s:Nat}{ss:List Int}(w:fE G s)(C:bo s ss)(h:bR G ss s=af){p n:Int}(y:0<=p)(I:p<((s*s:Nat):Int))(H:n∈rowOf G ss s p):bR G (ss.set p.toNat n) s=af:=by
 have l:p<(ss.length:Int):=by rw[C.len];exact I
 have c:=UP.mp H;rw[T',UC,UB] at c;obtain⟨x,N,d⟩:=c;obtain⟨J,O⟩:=mm x;refine HK λg m k k0 k1=>?_
 apply Xz;intro L;obtain⟨a,r,b,t,f,j,i⟩:=AR (w.nd g m) (by omega:1<cnt k (g.map<|aw<|ss.set p.toNat n));obtain⟨B,M⟩:=w.iw g m a r;obtain⟨D,K⟩:=w.iw g m b t;rw[gc ss p a n y l B] at j;rw[gc ss p b n y l D] at i;have o:∀q∈g,q≠p->aw ss q=n->p∈g->False:=λq F u e E=>by
  have:c7 G ss p n=af:=by unfold c7;rw[Ui];refine⟨g,m,?_⟩;unfold fz;rw[T',any_eq,Ui];exact⟨E,q,F,by rw[T',UB,UZ,UC];exact⟨u,e⟩⟩
  rw[this] at d;cases d
 by_cases v:a=p
 ·subst v;rw[T5 rfl] at j;rw[T6<|λz=>f z.symm] at i;exact o b t (λz=>f z.symm) (by rw[i,j]) r
 ·rw[T6 v] at j;by_cases A:b=p
  ·subst A;rw[T5 rfl] at i;exact o a r v (by rw[j,i]) t
  ·rw[T6 A] at i;have:=u5 r t f j i;have:=ov h m k0 k1;omega
def EF(j:bo s ss)(h:cw G s ss st=af):st.num∈rowOf G ss s st.place:=by
 obtain⟨d,c,k,i,l⟩:=i9 h;unfold cw at h;cases st with
 |fld p n=>rw[lY,T',UC] at h;have a:0<=p:=d;have b:p<(ss.length:Int):=c;have e:=h.2;rw[eP G ss s p.toNat<|by omega,show((p.toNat:Nat):Int)=p by omega] at e;show n∈rowOf G ss s p;rw[e];simp
 |c9 p n g=>
  rw[kE,T',T',UC] at h;have a:0<=p:=d;have b:p<(ss.length:Int):=c;have f:p∈bU G (tabOf G ss s) g n:=by rw[h.2.2];simp
  have:=(UP.mp f).2;rw[any_eq,eP G ss s p.toNat<|by omega,show((p.toNat:Nat):Int)=p by omega] at this;exact this
theorem uJ(m:fE G s):∀(k) (ss d),bo s ss->bR G ss s=af->cJ G s ss k=aa d->bo s d/\bR G d s=af/\Over s ss d
 |[],ss,d,f,h,e=>by
  have:=by simpa[cJ] using e
  subst this;exact⟨f,h,Over.refl _ _⟩
 |st::r,ss,d,f,h,e=>by
  have j:(if cw G s ss st then cJ G s (dw ss st) r else ae)=aa d:=e;by_cases g:cw G s ss st=af
  ·rw[T5 g] at j;obtain⟨l,o,n,p,q⟩:=i9 g;have i:st.place<((s*s:Nat):Int):=by rw[<-f.len];exact o
   obtain⟨a,b,c⟩:=uJ m r (dw ss st) d (nT f g) (uI m f h l i<|EF f g) j;exact⟨a,b,(zb f l i n).trans c⟩
  ·rw[T6 g] at j;cases j
mutual
theorem z_{G:List (List Int)}{s:Nat}(l:fE G s):∀(t:Tr) (ss:List Int) (w:cB),bo s ss->bR G ss s=af->dG G s ss t=aa w->(∀f∈w.cj,eH G s ss f)/\w.cj.Nodup
 |.mk d e,ss,w,m,h,hw=>by
  rw[jf] at hw;cases i:cJ G s ss d with
  |none=>rw[i] at hw;cases hw
  |some c=>
   rw[i] at hw;dsimp only at hw;obtain⟨k,n,o⟩:=uJ l d ss c m h i;by_cases j:e_ G c (tabOf G c s) s e=af
   ·rw[T5 j] at hw;obtain⟨a,b⟩:=HL l e c w k n j hw;exact⟨λf g=>⟨(a f g).sh,(a f g).nz,o.trans (a f g).kp,(a f g).nt⟩,b⟩
   ·rw[T6 j] at hw;cases hw
theorem HL{G:List (List Int)}{s:Nat}(u:fE G s):∀(e:En) (ss:List Int) (w:cB),bo s ss->bR G ss s=af->e_ G ss (tabOf G ss s) s e=af->dH G s ss e=aa w->(∀f∈w.cj,eH G s ss f)/\w.cj.Nodup
 |.full,ss,w,g,h,he,hw=>by
  rw[dH] at hw;cases hw;refine⟨λf j=>?_,by simp⟩;have:f=ss:=by simpa using j
  subst this;exact⟨g,λi v y=>z6 g he v y,Over.refl _ _,h⟩
 |.left,ss,w,g,h,he,hw=>by rw[dH] at hw;cases hw;exact⟨λf j=>by simp at j,by simp⟩
 |.cls c,ss,w,g,h,he,hw=>by rw[dH] at hw;cases hw;exact⟨λf j=>by simp at j,by simp⟩
 |.dF p bs,ss,w,g,h,he,hw=>by
  rw[dH] at hw;have d:(cV ss p&&ai (bs.nums=(tabOf G ss s).getD p.toNat []))=af:=he;rw[T',UC] at d;obtain⟨t,A,x⟩:=kG d.1;have l:p<((s*s:Nat):Int):=by rw[<-g.len];exact A
  cases o:du G s ss p bs with
  |none=>rw[o] at hw;cases hw
  |some r=>
   rw[o] at hw;cases hw;have k:∀n∈bs.nums,n∈rowOf G ss s p:=by intro n q;rw[d.2,eP G ss s p.toNat<|by omega,show((p.toNat:Nat):Int)=p by omega] at q;exact q
   have m:bs.nums.Nodup:=by rw[d.2,eP G ss s p.toNat<|by omega];unfold rowOf;refine Xq Xr ?_;unfold nums;rw[WM];rw[List.pairwise_map];exact List.Pairwise.imp (λ{a b} Sw z=>by omega)<|WM.mp List.nodup_range
   obtain⟨a,b,_⟩:=Aa u bs p ss r g h t l x k m o;exact⟨a,b⟩
theorem Aa{G:List (List Int)}{s:Nat}(u:fE G s):∀(l:Bs) (p:Int) (ss:List Int) (w:cB),bo s ss->bR G ss s=af->0<=p->p<((s*s:Nat):Int)->aw ss p=0->(∀n∈l.nums,n∈rowOf G ss s p)->l.nums.Nodup->du G s ss p l=aa w->(∀f∈w.cj,eH G s ss f)/\w.cj.Nodup/\∀f∈w.cj,aw f p∈l.nums
 |.nil,p,ss,w,d,h,c,e,v,o,k,hw=>by rw[du] at hw;cases hw;exact⟨λf a=>by simp at a,by simp,λf a=>by simp at a⟩
 |.cons n t r,p,ss,w,d,h,c,e,v,o,k,hw=>by
  rw[qp] at hw;obtain⟨x,y,C,F,rfl⟩:=z7 hw;have b:n∉r.nums/\r.nums.Nodup:=UQ.mp k;obtain⟨I,E,A⟩:=Aa u r p ss x d h c e v (λm K=>o m<|Ut _ K) b.2 C;have B:=o n UE;obtain⟨L,J⟩:=uD B;obtain⟨i,D⟩:=z_ u t (ss.set p.toNat n) y (d.set _ (by omega) J) (uI u d h c e B) F;have j:∀f∈y.cj,aw f p=n:=λf a=>by
   have:=(i f a).kp p c e;rw[gc ss p p n c (by rw[d.len];exact e) c,T5 rfl] at this;rcases this with z|z
   ·omega
   ·exact z.symm
  refine⟨λf a=>?_,?_,λf a=>?_⟩
  ·rcases U0.mp a with q|q
   ·exact I f q
   ·exact⟨(i f q).sh,(i f q).nz,(zb d c e v).trans (i f q).kp,(i f q).nt⟩
  ·show(x.cj++y.cj).Nodup;rw[Xn];refine⟨E,D,λf a g H z=>?_⟩;subst z;have:=A f a;rw[j f H] at this;exact b.1 this
  ·rcases U0.mp a with q|q
   ·exact Ut _<|A f q
   ·rw[j f q];exact UE
end
noncomputable def nz(ss:List Int):Nat:=ss.countP λx=>ai<|x=0
theorem AV:∀(ss) (p) (m),ss[p]? =aa 0->m≠0->nz (ss.set p m)+1=nz ss
 |[],p,m,h,_=>by simp at h
 |x::r,0,m,h,hm=>by simp at h;subst h;show nz (m::r)+1=nz (0::r);unfold nz;rw[XY<|by simpa using hm,XZ<|by simp]
 |x::r,p+1,m,h,hm=>by have a:=AV r p m (by simpa using h) hm;show nz (x::r.set p m)+1=nz (x::r);unfold nz at a⊢;rw[Vx,Vx];omega
def qQ(b:cT ss p)(d:m≠0):nz (ss.set p.toNat m)+1=nz ss:=by
 obtain⟨f,e,c⟩:=b;refine AV ss p.toNat m ?_ d;have a:p.toNat<ss.length:=by omega
 have:aw ss p=ss[p.toNat]:=by unfold aw;simp[a]
 rw[VN a,<-this,c]
def Bf(ss):nz ss<=ss.length:=List.countP_le_length
noncomputable def gp(G:List<|List Int)(s:Nat)(ss:List Int):Bool:=!kF G ss (tabOf G ss s) s
noncomputable def runK(G:List<|List Int)(s:Nat):List Int->List ee->Option (List Int)
 |ss,[]=>aa ss
 |ss,st::r=>if cw G s ss st&&gp G s ss then runK G s (dw ss st) r else ae
theorem yu(G)(s)(st):∀(l) (ss a),runK G s ss l=aa a->cw G s a st=af->gp G s a=af->runK G s ss (l++[st])=aa (dw a st)
 |[],ss,a,h,c,d=>by have e:=Ug h;subst e;show(if _ then _ else _)=_;rw[c,d];rfl
 |x::r,ss,a,h,c,d=>by
  have b:(if cw G s ss x&&gp G s ss then runK G s (dw ss x) r else ae)=aa a:=h;show(if cw G s ss x&&gp G s ss then runK G s (dw ss x) (r++[st]) else ae)=_;by_cases f:(cw G s ss x&&gp G s ss)=af
  ·rw[T5 f] at b⊢;exact yu G s st r _ a b c d
  ·rw[T6 f] at b;cases b
theorem yw(G)(s):∀(l) (ss a),runK G s ss l=aa a->cJ G s ss l=aa a
 |[],ss,a,h=>h
 |x::r,ss,a,h=>by
  have c:(if cw G s ss x&&gp G s ss then runK G s (dw ss x) r else ae)=aa a:=h;show(if cw G s ss x then cJ G s (dw ss x) r else ae)=_;by_cases b:(cw G s ss x&&gp G s ss)=af
  ·rw[T5 b] at c;rw[T'] at b;rw[T5 b.1];exact yw G s r _ a c
  ·rw[T6 b] at c;cases c
def aI.keep(h:aI M v ws)(k:aH X M M')(a:∀x∈X,∀c,M[x]? ≠aa (.tup c)):aI M' v ws:=by obtain⟨b,e,q⟩:=h;exact⟨b,e,k.get q λz=>a b z ws q⟩
def b_.ij(S:b_ M a n c h w ss):∀x∈[n,c],∀d,M[x]? ≠aa (.tup d):=λx b d e=>by
 simp only[T7,Ud,Ue] at b;obtain⟨_,i,g,f,_⟩:=S;rcases b with rfl|rfl
 ·rw[i] at e;cases e
 ·rw[f] at e;cases e
def b_.other{M f:Mem}{a n c h w b:Nat}{ss:List Int}(S:b_ M a n c h w ss)(k:aH [b] M f)(t:a≠b)(m:n≠b)(j:c≠b)(i:∀kvs,M[c]? =aa (.aG kvs)->∀(q:Int) (k:Nat),aW kvs q=aa (.ref k)->k≠b)(o:∀vG,M[a]? =aa (.ins aY<|jw h w vG (.ref n)<|.ref c)->gS n M vG (ar h w)->gS n f vG (ar h w)):b_ f a n c h w ss:=by
 obtain⟨⟨vG,g,e⟩,p,kvs,d,s,r,l⟩:=S;refine⟨⟨vG,k.get g<|by simpa using t,o vG g e⟩,k.get p<|by simpa using m,kvs,k.get d<|by simpa using j,s,r,λq=>?_⟩;rcases l q with z|⟨k',z1,z2,z3,z4⟩
 ·exact .inl z
 ·exact .inr ⟨k',z1,z2,z3,k.get z4<|by simpa using i kvs d q k' z1⟩
noncomputable def uK(f:CM):Prop:=∀(M) (a n c h w) (g),1<=h/\h<=3->1<=w/\w<=3->b_ M a n c h w g->bo (h*w) g->
 ∃v i k j e d,f [.ref a] M=.ok v i/\aI i v [k,j]/\fR i k e/\b_ i a n c h w d/\bo (h*w) d/\aH [n,c] M i/\runK (ar h w) (h*w) g e=aa d/\nz d<=nz g/\ ((j=.aA/\gp (ar h w) (h*w) d=af/\eh (ar h w) d (tabOf (ar h w) d<|h*w) (h*w)=ag/\bR (ar h w) g (h*w)=af)\/∃l,ic i j l/\dM (ar h w) d (tabOf (ar h w) d<|h*w) (h*w) l=af)/\ (bR (ar h w) g (h*w)=ag->e=[])/\(∃b,k=.ref b/\M.length<=b)
noncomputable def OJ:TM:=tB<|jk<|aj 2
noncomputable def OK(c a b:CM):SM:=
 au (
  aN (av b (ak (aj 0) aq)) (az 3)) (
 au (
  aM (tB<|jk<|aj 3) (
   wm) (
   aO)) (
 au (
  cg (fu [83,116,97,116,101] [112,117,116] c (aj 0) (ak (ao ax (aj 3) (eC (.int 1))) (ak (ao ax (aj 3) (eC (.int 2))) aq)))) (
 au (
  cg (bD cZ (aj 1) (ak (aj 3) aq))) (
 aN (av a (ak (aj 0) aq)) (az 2)))))
structure vC(M N:Mem)(a n c h w:Nat)(ss cur:List Int)(fi:List ee)(vc:W):Prop where
 st:b_ N a n c h w cur
 sh:bo (h*w) cur
 kp:aH [n,c] M N
 ls:∃ws,N[M.length]? =aa (.lst ws)/\a_ (λw st=>jg N w st) ws fi
 rk:runK (ar h w) (h*w) ss fi=aa cur
 nw:∀kvs,N[c]? =aa (.aG kvs)->∀(q:Int) (k:Nat),aW kvs q=aa (.ref k)->k≠M.length
 nl:fi.length+nz cur<=nz ss
 cl:(vc=.aA/\gp (ar h w) (h*w) cur=af)\/∃cl,ic N vc cl/\dM (ar h w) cur (tabOf (ar h w) cur<|h*w) (h*w) cl=af
def nZ{c b:Nat}{N d:Mem}(h:∀kvs,N[c]? =aa (.aG kvs)->∀(q) (k),aW kvs q=aa (.ref k)->k≠b)(f:N[c]? =aa (.aG kvs))(a:d[c]? =aa (.aG kvs)):
 ∀kvs,d[c]? =aa (.aG kvs)->∀(q) (k),aW kvs q=aa (.ref k)->k≠b:=λg e q k z=>by
 rw[a] at e;cases e;exact h kvs f q k z
def EG{fp fd fs:CM}(hp:q8 fp)(hd:qo fd)(hs:ug fs){M:Mem}{a n c h w:Nat}{ss:List Int}(hh:1<=h/\h<=3)(hw:1<=w/\w<=3)(V:b_ M a n c h w ss)(gv:nz ss<=81):
 ∀(z:Nat) (k:Nat) (N:Mem) (d:List Int) (u:List ee) (vc:W) (x:Option W),nz d<=z->z<k->vC M N a n c h w ss d u vc-> (dW OJ (OK fp fd fs) k [aa<|.ref a,aa<|.ref M.length,aa vc,x] N).Sat {nx:=λσ N'=>∃X A MX x',σ=[aa<|.ref a,aa<|.ref M.length,aa X,x']/\vC M N' a n c h w ss A MX X/\(X=.aA->eh (ar h w) A (tabOf (ar h w) A<|h*w) (h*w)=ag),rt:=λ_ _=>False}:=by
 have B1:n<M.length:=(Ub.mp V.nm).1;have N1:c<M.length:=by obtain⟨kv,e,_⟩:=V.cn;exact(Ub.mp e).1
 have alt:a<M.length:=by obtain⟨vG,e,_⟩:=V.ob;exact(Ub.mp e).1
 intro z;induction z with
 |zero=>
  intro k N d u vc x hz hk I;obtain⟨k,rfl⟩:∃k',k=k'+1:=⟨k-1,by omega⟩;rcases I.cl with⟨rfl,F⟩|⟨cl,hc,Z⟩
  ·refine pK (M1:=N) (aU rfl) ?_;obtain⟨v1,r,e1,i,P⟩:=hs N a n c h w d hh hw I.st I.sh;refine aD<|bA (v:=v1) (M1:=r) (by simp only[av,ak,aq,aj,R.bind,Uj,e1]) ?_;simp only[T_,T9];rcases P with⟨rfl,y⟩|⟨st,fX,hr⟩
   ·refine aD (aJ (c:=af) (M1:=r) (aU rfl) (λ_=>?_) λz=>nomatch z);obtain⟨Y,l1,l2⟩:=I.ls;obtain⟨kv,j,_⟩:=I.st.cn;exact⟨_,_,_,_,rfl,⟨I.st.mono i,I.sh,I.kp.trans<|aH.ck i,⟨Y,aB i l1,l2.imp λ_ _ t=>aI.mono t i⟩,I.rk,nZ I.nw j<|aB i j,I.nl,.inl ⟨rfl,F⟩⟩,λ_=>y⟩
   ·exfalso;have S:=i9 (G:=ar h w) (s:=h*w) (ss:=d) (st:=st) hr;have:=qQ (ss:=d) (p:=st.place) (m:=st.num) ⟨S.1,S.2.1,S.2.2.1⟩<|by omega
    omega
  ·obtain⟨b,rfl,T⟩:=hc;refine nL (M1:=N) (aU rfl) ?_;exact⟨_,_,_,_,rfl,⟨I.st,I.sh,I.kp,I.ls,I.rk,I.nw,I.nl,.inr ⟨cl,⟨b,rfl,T⟩,Z⟩⟩,λz=>by cases z⟩
 |succ z ih=>
  intro k N d u vc x hz hk I;obtain⟨k,rfl⟩:∃k',k=k'+1:=⟨k-1,by omega⟩;rcases I.cl with⟨rfl,F⟩|⟨cl,hc,Z⟩
  ·refine pK (M1:=N) (aU rfl) ?_;obtain⟨v1,r,e1,i,P⟩:=hs N a n c h w d hh hw I.st I.sh;refine aD<|bA (v:=v1) (M1:=r) (by simp only[av,ak,aq,aj,R.bind,Uj,e1]) ?_;simp only[T_,T9];obtain⟨Y,l1,l2⟩:=I.ls;obtain⟨kv,j,_⟩:=I.st.cn;rcases P with⟨rfl,y⟩|⟨st,fX,hr⟩
   ·refine aD (aJ (c:=af) (M1:=r) (aU rfl) (λ_=>?_) λz=>nomatch z);exact⟨_,_,_,_,rfl,⟨I.st.mono i,I.sh,I.kp.trans<|aH.ck i,⟨Y,aB i l1,l2.imp λ_ _ t=>aI.mono t i⟩,I.rk,nZ I.nw j<|aB i j,I.nl,.inl ⟨rfl,F⟩⟩,λ_=>y⟩
   ·have U:cw (ar h w) (h*w) d st=af:=hr;obtain⟨q0,q1,q2,n0,n1⟩:=i9 U;have hE:cT d st.place:=⟨q0,q1,q2⟩;obtain⟨L,OL,RX⟩:=id fX;subst OL;refine aD<|aJ (c:=ag) (M1:=r) (aU rfl) (λz=>nomatch z) λ_=>?_
    refine bf ?_;dsimp only;have S1:=I.st.mono i;obtain⟨C,e2,S2,k2,OM⟩:=hp r a n c h w d st.place st.num hh hw S1 I.sh hE<|by omega
    have ip:ao ax (aj 3) (eC<|.int 1) [aa<|.ref a,aa<|.ref M.length,aa .aA,aa<|.ref L] r=.ok (.int st.place) r:=by
     cases st with
     |fld p m=>exact aP rfl rfl<|dm fX 1 rfl
     |c9 p m g=>exact aP rfl rfl<|dm fX 1 rfl
    have im:ao ax (aj 3) (eC<|.int 2) [aa<|.ref a,aa<|.ref M.length,aa .aA,aa<|.ref L] r=.ok (.int st.num) r:=by
     cases st with
     |fld p m=>exact aP rfl rfl<|dm fX 2 rfl
     |c9 p m g=>exact aP rfl rfl<|dm fX 2 rfl
    have em:fu [83,116,97,116,101] [112,117,116] fp (aj 0) (ak (ao ax (aj 3)<|eC<|.int 1)<|ak (ao ax (aj 3)<|eC<|.int 2) aq) [aa<|.ref a,aa<|.ref M.length,aa .aA,aa<|.ref L] r=.ok .aA C:=by obtain⟨vG,ob,_⟩:=S1.ob;simp only[fu,aj,R.bind,Uo,Uj,kZ,ml ob,ak,aq,ip,im];exact e2
    refine aD<|df em ?_;have bX:M.length∉[n,c]:=λl=>by simp only[T7,Ud,Ue] at l;rcases l with l|l<;>omega
    have H:C[M.length]? =aa (.lst Y):=k2.get (aB i l1) bX;have MY:jg C (.ref L) st:=aI.keep fX k2 S1.ij;have Sx:Y.length=u.length:=l2.len;have ea:=gD (σ:=[aa<|.ref a,aa<|.ref M.length,aa .aA,aa<|.ref L]) (M:=C) (o:=aj 1) (arg:=aj 3) rfl H (show _=R.ok (.ref L) _ from rfl) H (by have:=I.nl;omega);refine aD<|df ea ?_;generalize pC:C.set M.length (.lst<|Y++[.ref L])=N3;have k3:aH [M.length] C N3:=by rw[<-pC];exact aH.set _<|by simp
    have ON:N3[M.length]? =aa (.lst<|Y++[.ref L]):=by rw[<-pC];exact UH (Ub.mp H).1
    have D:aH [n,c] M C:=I.kp.trans<|(aH.ck i).trans k2;have Ci:aH [n,c] M N3:=⟨Uh D.1 k3.1,λb Z hx=>by rw[k3.2 b (Up Z D.1) (by simp;omega)];exact D.2 b Z hx⟩
    have RY:M.length<r.length:=(Ub.mp<|aB i l1).1;have f:∀E,C[c]? =aa (.aG E)->∀(q:Int) (k:Nat),aW E q=aa (.ref k)->k≠M.length:=λE e q k' l=>by
     rcases OM E e q k' l with z1|⟨OO,z1,z2⟩
     ·omega
     ·exact nZ I.nw j (aB i j) OO z1 q k' z2
    obtain⟨Sy,J,_⟩:=id S2.cn;have S3:b_ N3 a n c h w (d.set st.place.toNat st.num):=S2.other k3 (by omega) (by omega) (by omega) f λvG rQ _=>by
     obtain⟨OP,B,OQ⟩:=V.ob;have MZ:=D.get B (λl=>by
      simp only[T7,Ud,Ue] at l;rcases l with l|l
      ·rw[l,V.nm] at B;cases B
      ·obtain⟨Cj,e0,_⟩:=V.cn;rw[l,e0] at B;cases B)
     rw[MZ] at rQ;have ev:vG=OP:=by have:=Ug rQ;simp only[O.ins.injEq,jw,List.cons.injEq,Prod.mk.injEq] at this;exact this.2.2.2.1.2.symm
     subst ev;obtain⟨Cj,e0,_⟩:=V.cn;exact OQ.keep Ci<|oT e0
    have Q:=k3.get J (by simp;omega);have Ck:=nT I.sh U;have l3:=by
     have K:∀{w:W} {us:List W},aI C w us->aI N3 w us:=λt=>aI.keep t k3 λx hx us e=>by simp only[T7,Ud,Ue] at hx;rw[hx,H] at e;cases e
     exact a_.app (l2.imp λ_ _ t=>K<|aI.keep (aI.mono t i) k2 S1.ij)<|.cons (K MY) .nil
    have OR:=yu (ar h w) (h*w) st u ss d I.rk U F;have Sz:=qQ hE<|show st.num≠0 by omega
    obtain⟨v4,N4,e4,p4,OS⟩:=hd N3 a n c h w (d.set st.place.toNat st.num) hh hw S3 Ck;refine bA (v:=v4) (M1:=N4) (by simp only[av,ak,aq,aj,R.bind,Uj,e4]) ?_;refine ih k N4 (d.set st.place.toNat st.num) (u++[st]) v4 _ (by omega) (by omega) ⟨S3.mono p4,Ck,Ci.trans<|aH.ck p4,⟨_,aB p4 ON,l3.imp λ_ _ t=>aI.mono t p4⟩,OR,nZ (nZ f J Q) Q<|aB p4 Q,?_,?_⟩
    ·have:=I.nl;rw[Us];simp only[UO,Vt];omega
    ·rcases OS with⟨z1,z2⟩|l
     ·exact .inl ⟨z1,by unfold gp;rw[z2];rfl⟩
     ·exact .inr l
  ·obtain⟨b,rfl,T⟩:=hc;refine nL (aU rfl) ?_;exact⟨_,_,_,_,rfl,⟨I.st,I.sh,I.kp,I.ls,I.rk,I.nw,I.nl,.inr ⟨cl,⟨b,rfl,T⟩,Z⟩⟩,λz=>by cases z⟩
def HM(hp:q8 fp)(U:qo fd)(Y:ug fs)(hc:xT fc):uK (PB.nR fp fd fs fc):=by
 intro M a n c h w g B G S A;obtain⟨s1,O⟩:=eL B G;have r:nz g<=81:=by refine Uh (Bf g) ?_;rw[A.len];exact UK O O
 have E:∃v l,PB.nR fp fd fs fc [.ref a] M=.ok v l/\∃u j f d,(aI l v [u,j]/\fR l u f/\b_ l a n c h w d/\bo (h*w) d/\aH [n,c] M l/\runK (ar h w) (h*w) g f=aa d/\nz d<=nz g/\ ((j=.aA/\gp (ar h w) (h*w) d=af/\eh (ar h w) d (tabOf (ar h w) d<|h*w) (h*w)=ag/\bR (ar h w) g (h*w)=af)\/∃m,ic l j m/\dM (ar h w) d (tabOf (ar h w) d<|h*w) (h*w) m=af)/\ (bR (ar h w) g (h*w)=ag->f=[])/\(∃b,u=.ref b/\M.length<=b)):=by
  refine bJ rfl ?_;show(au _ _ [aa<|.ref a,ae,ae,ae] M).Sat _;refine aD<|bA rfl ?_;simp only[T9];have K:=S.mono<|pre_app M [.lst []];obtain⟨C,M1,V,H,p⟩:=hc (M++[.lst []]) a n c h w g B G K A;refine aD<|bA (v:=C) (M1:=M1) (by simp only[av,ak,aq,aj,R.bind,Uj,V]) ?_;have T:=K.mono H;have Q:=aB H<|b8 _ _;have F:=(pre_app _ _).trans H;have X:vC M M1 a n c h w g g [] C:=⟨T,A,aH.ck F,⟨[],Q,.nil⟩,rfl,λW e q k z=>by
   obtain⟨Cj,e0,_,_,Z⟩:=S.cn;rw[aB F e0] at e;cases e;rcases Z q with⟨y,_⟩|⟨k0,y,_,_,y4⟩
   ·rw[y] at z;cases z
   ·rw[y] at z;cases z;have:=(Ub.mp y4).1;omega,by simp,by
   rcases p with⟨o,s,L⟩|zz
   ·exact .inl ⟨o,by unfold gp;rw[s];rfl⟩
   ·exact .inr zz⟩
  refine aD ?_;by_cases i:bR (ar h w) g (h*w)=af
  ·refine RS.Sat.mono (EG hp U Y B G S r 81 1000000000 M1 g [] C ae r (by decide) X) ?_ (λ_ _ z=>z.elim) (λ_ _ z=>z.elim) (λ_ _ z=>z.elim);rintro σ N ⟨j,cur,f,x,rfl,I,LX⟩;dsimp only;have J:=(show gN [.ref M.length,j] N=_ from gX (by show 2<=16777216;decide));obtain⟨ws,l1,l2⟩:=I.ls;refine aV J ⟨.ref M.length,j,f,cur,aI.new _ _,⟨ws,⟨_,rfl,aB (pre_app _ _) l1⟩,l2.imp λ_ _ t=>aI.mono t<|pre_app _ _⟩,I.st.mono<|pre_app _ _,I.sh,I.kp.trans<|aH.ck<|pre_app _ _,I.rk,by have:=I.nl;omega,?_,(λz=>by rw[i] at z;cases z),M.length,rfl,Uc _⟩;rcases I.cl with⟨o,s⟩|⟨m,o,s⟩
   ·exact .inl ⟨o,s,LX o,i⟩
   ·exact .inr ⟨m,aI.mono o<|pre_app _ _,s⟩
  ·have P:=by simpa using i
   rcases p with⟨_,_,L⟩|⟨m,jx,hb⟩
   ·exact(i L).elim
   ·obtain⟨b,rfl,D⟩:=jx;refine nL (aU rfl) ?_;dsimp only;have J:=(show gN [.ref M.length,.ref b] M1=_ from gX (by show 2<=16777216;decide));exact aV J ⟨.ref M.length,.ref b,[],g,aI.new _ _,⟨[],⟨_,rfl,aB (pre_app _ _) Q⟩,.nil⟩,T.mono<|pre_app _ _,A,(aH.ck F).trans<|aH.ck<|pre_app _ _,rfl,Uc _,.inr ⟨m,aI.mono ⟨b,rfl,D⟩<|pre_app _ _,hb⟩,λ_=>rfl,M.length,rfl,Uc _⟩
 obtain⟨v,l,e,u,j,f,d,q⟩:=E;exact⟨v,l,u,j,f,d,e,q⟩
noncomputable def BD(h w:Nat):Bool:=(ar h w).all λg=>ai (g.length=h*w)&&(decide g.Nodup&&g.all λi=>ai (0<=i)&&ai (i<((h*w*(h*w):Nat):Int)))
def i6(c:1<=h/\h<=3)(d:1<=w/\w<=3):fE (ar h w) (h*w):=by
 have e:BD h w=af:=by rcases h3 c with rfl|rfl|rfl<;>rcases h3 d with rfl|rfl|rfl<;>decide+kernel
 unfold BD at e;have a:∀g∈ar h w,g.length=h*w/\g.Nodup/\∀i∈g,0<=i/\i<((h*w*(h*w):Nat):Int):=λg b=>by have:=US.mp e g b;simp only[T',U4,US] at this;exact⟨this.1,this.2.1,this.2.2⟩
 exact⟨λg b=>(a g b).1,λg b=>(a g b).2.1,λg b=>(a g b).2.2⟩
noncomputable def lr(h w c:Nat):List Int:=(ar h w).getD (h*w+c) []
noncomputable def ec(h w:Nat)(ss:List Int)(c:Nat):Nat:=(lr h w c).countP λi=>ai<|aw ss i=0
noncomputable def i7:Nat->Nat
 |0=>1
 |n+1=>(n+1)*i7 n
theorem Ab:∀n,1<=i7 n
 |0=>Uc _
 |n+1=>by exact V8 (Wm n)<|Ab n
noncomputable def jz(h w:Nat)(ss:List Int):Nat->Nat
 |0=>1
 |c+1=>jz h w ss c*i7 (ec h w ss c)
noncomputable def wt(h w:Nat)(ss:List Int):Nat:=jz h w ss<|h*w
theorem qA(h w)(ss):∀c,1<=jz h w ss c
 |0=>Uc _
 |c+1=>V8 (qA h w ss c)<|Ab _
def qB{h w:Nat}(b:1<=h/\h<=3)(d:1<=w/\w<=3)(a:p<h*w*(h*w))(f:c<h*w):(p:Int)∈lr h w c↔c=p % (h*w):=by
 unfold lr;rw[oo b d a<|by omega];have g:=Xh a;simp only[cf,T7,Ud,Ue];constructor
 ·rintro(e|e|e)
  ·omega
  ·omega
  ·generalize p / (h*w) / h*h+p % (h*w) / w=X at e;omega
 ·intro e;exact .inr<|.inl<|by omega
def qR(a:c<h*w):lr h w c∈ar h w:=by
 have:h*w+c<(ar h w).length:=by rw[jb];omega
 unfold lr;simp[List.getD,this]
theorem xW:∀{l:List Int} {f g:Int->Bool} {p:Int},l.Nodup->p∈l->f p=af->g p=ag->(∀x∈l,x≠p->f x=g x)->l.countP f=l.countP g+1
 |x::r,f,g,p,c,hm,d,h,h3=>by
  rw[UQ] at c;by_cases e:x=p
  ·subst e;rw[XZ d,XY (by rw[h];simp)];congr 1;refine WR λy a=>?_
   rw[h3 y (Ut _ a)<|λz=>c.1<|z▸a]
  ·have i:=xW c.2 ((T7.mp hm).resolve_left λz=>e z.symm) d h λy a b=>h3 y (Ut _ a) b
   rw[Vx,Vx,h3 x UE e];omega
def vq(f:1<=h/\h<=3)(g:1<=w/\w<=3)(l:ss.length=h*w*(h*w)){p:Nat}(n:cT ss<|p)(s:m≠0)(d:c<h*w):
 ec h w ss c=ec h w (ss.set p m) c+if c=p % (h*w) then 1 else 0:=by
 obtain⟨t,r,o⟩:=n;have k:p<h*w*(h*w):=by rw[<-l];omega
 have q:=(i6 f g).nd _<|qR d;have i:=(i6 f g).iw _<|qR d;have j:=λx b=>by have:=gc ss (p) x m t r (i x b).1;rw[UA] at this;exact this
 unfold ec;by_cases e:c=p % (h*w)
 ·rw[T5 e];refine xW q ((qB f g k d).mpr e) (UR o) ?_ λx b a=>?_
  ·rw[j _<|(qB f g k d).mpr e,T5 rfl];exact Uy s
  ·rw[j x b,T6 a]
 ·rw[T6 e,Nat.add_zero];refine WR λx b=>?_
  have a:x≠(p):=by rintro rfl;exact e<|(qB f g k d).mp b
  rw[j x b,T6 a]
theorem Ac(i:1<=h/\h<=3)(j:1<=w/\w<=3)(f:ss.length=h*w*(h*w)){p:Nat}(g:cT ss<|p)(k:m≠0):
 ∀n,n<=h*w->jz h w ss n=jz h w (ss.set p m) n*if p % (h*w)<n then ec h w ss (p % (h*w)) else 1
 |0,_=>by simp[jz]
 |n+1,l=>by
  have d:=Ac i j f g k n<|by omega
  have e:=vq i j f g k (c:=n)<|by omega
  show jz h w ss n*i7 (ec h w ss n)=jz h w (ss.set p m) n*i7 (ec h w (ss.set p m) n)*_;by_cases b:n=p % (h*w)
  ·rw[T5 b] at e;rw[T6<|by omega,WS] at d;rw[T5<|by omega,d,<-b,e];show _*((ec h w (ss.set p m) n+1)*i7 (ec h w (ss.set p m) n))=_;rw[WT,Nat.mul_comm<|i7 _]
  ·rw[T6 b,Nat.add_zero] at e;rw[d,e];by_cases a:p % (h*w)<n
   ·rw[T5 a,T5<|by omega,WT,Nat.mul_comm<|ec h w ss _,<-WT]
   ·rw[T6 a,T6<|by omega,WS,WS]
def qT(a:1<=h/\h<=3)(b:1<=w/\w<=3)(c:ss.length=h*w*(h*w)){p:Nat}(d:cT ss<|p)(e:m≠0):wt h w ss=wt h w (ss.set p m)*ec h w ss (p % (h*w)):=by obtain⟨f,_⟩:=eL a b;have:=Ac a b c d e (h*w)<|Uc _;rw[T5<|V9 _<|by omega] at this;exact this
def DO(k)(l)(f):cnt k (l.filter f)<=cnt k l:=by unfold cnt;rw[List.countP_filter];exact X0 λx _ h=>(T' _ _▸h).1
def J9{h w:Nat}(r:1<=h/\h<=3)(u:1<=w/\w<=3){ss:List Int}(E:bo (h*w) ss)(L:bR (ar h w) ss (h*w)=af){p:Nat}(M:p<h*w*(h*w)):(rowOf (ar h w) ss (h*w) p).length<=ec h w ss (p % (h*w)):=by
 obtain⟨S,R⟩:=eL r u;by_cases F:aw ss (p:Int)=0
 ·have G:p % (h*w)<h*w:=V9 _ (by omega);have c:=qR (h:=h) (w:=w) G;have n:=(qB r u M G).mpr rfl;have d:=(i6 r u).iw _ c;generalize v:lr h w (p % (h*w))=g at c n d;have q:=(i6 r u).len g c;have P:((g.map<|aw ss).filter λx=>!ai (x=0)).length+ec h w ss (p % (h*w))=h*w:=by
   unfold ec;rw[v,<-List.countP_eq_length_filter,List.countP_map,<-q];have:g.countP (λi=>ai<|aw ss i=0)=g.countP (λi=>!((λx=>!ai (x=0))∘aw ss) i):=WR λx _=>by simp
   rw[this,Nat.add_comm];rw[List.length_eq_countP_add_countP ((λx=>!ai (x=0))∘aw ss) (l:=g)];rw[Nat.add_comm];congr 1;refine WR λx _=>?_
   simp
  have B:((g.map<|aw ss).filter λx=>!ai (x=0)).Nodup:=by
   rw[yb];intro k;by_cases I:1<=k/\k<=((h*w:Nat):Int)
   ·exact Uh (DO _ _ _)<|ov L c I.1 I.2
   ·have:cnt k ((g.map<|aw ss).filter λx=>!ai (x=0))=0:=by
     refine Nat.eq_zero_of_not_pos λz=>?_
     rw[kK] at z;obtain⟨t,s⟩:=UP.mp z;obtain⟨i,j,rfl⟩:=Um.mp t;have J:=kQ E (d i j).1 (d i j).2;simp only[UB,UZ] at s;omega
    omega
  have m:∀x∈rowOf (ar h w) ss (h*w) p,x∉(g.map<|aw ss).filter λx=>!ai (x=0):=λx f D=>by
   obtain⟨Q,t,s,N⟩:=oD f;obtain⟨y,H⟩:=UP.mp D;obtain⟨i,j,e⟩:=Um.mp y;have C:i≠(p:Int):=by rintro rfl;rw[F] at e;omega
   have:c7 (ar h w) ss p x=af:=by unfold c7 fz;refine Ui.mpr ⟨g,c,?_⟩;rw[T',Ui,Ui];exact⟨⟨_,n,by simp⟩,i,j,by simp[C,e]⟩
   rw[N] at this;cases this
  have A:(rowOf (ar h w) ss (h*w) p++(g.map<|aw ss).filter λx=>!ai (x=0)).Nodup:=Xn.mpr ⟨xD _ _ _ _,B,λa K b O e=>m a K<|e▸O⟩;have o:∀x∈rowOf (ar h w) ss (h*w) p++(g.map<|aw ss).filter (λx=>!ai (x=0)),x∈nums (h*w):=λx f=>by
   rw[tV];rcases U0.mp f with f|f
   ·obtain⟨_,t,s,_⟩:=oD f;exact⟨t,s⟩
   ·obtain⟨y,H⟩:=UP.mp f;obtain⟨i,j,rfl⟩:=Um.mp y;have J:=kQ E (d i j).1 (d i j).2;simp only[UB,UZ] at H;omega
  have:=uH A o;rw[Us,y9] at this;omega
 ·rw[qx F];simp
structure Le(M M':Mem):Prop where
 t:∀(b:Nat) (us:List W),M[b]? =aa (.tup us)->M'[b]? =aa (.tup us)
 l:∀(b:Nat) (ws:List W),M[b]? =aa (.lst ws)->M'[b]? =aa (.lst ws)
def Le.tup(p:Le M M')(h:aI M v us):aI M' v us:=by obtain⟨b,e,q⟩:=h;exact⟨b,e,p.t b us q⟩
def Le.lst(p:Le M M')(h:aF M v us):aF M' v us:=by obtain⟨b,e,q⟩:=h;exact⟨b,e,p.l b us q⟩
def Le.M_(p:Le M M')(h:fR M v fi):fR M' v fi:=by obtain⟨a,c,b⟩:=h;exact⟨a,p.lst c,b.imp λ_ _ t=>p.tup t⟩
mutual
theorem cQ.le{M c:Mem}(p:Le M c):∀{v:W} {t:Tr},cQ M v t->cQ c v t
 |v,.mk f e,h=>by unfold cQ at h⊢;obtain⟨a,b,d,g,h3⟩:=h;exact⟨a,b,p.tup d,p.M_ g,cb.le p h3⟩
theorem cb.le{M d:Mem}(p:Le M d):∀{v:W} {e:En},cb M v e->cb d v e
 |v,.full,h=>by unfold cb at h⊢;exact p.tup h
 |v,.left,h=>by unfold cb at h⊢;exact p.tup h
 |v,.cls c,h=>by unfold cb at h⊢;obtain⟨u,a,b⟩:=h;exact⟨u,p.tup a,p.tup b⟩
 |v,.dF q bs,h=>by unfold cb at h⊢;obtain⟨u,f,a,b,h3,g⟩:=h;exact⟨u,f,p.tup a,p.lst b,cR.le p h3,g⟩
theorem cR.le{M c:Mem}(p:Le M c):∀{ws:List W} {b:Bs},cR M ws b->cR c ws b
 |ws,.nil,h=>by unfold cR at h⊢;exact h
 |ws,.cons n t r,h=>by unfold cR at h⊢;obtain⟨w,u,a,e,d,f,h3⟩:=h;exact⟨w,u,a,e,p.tup d,cQ.le p f,cR.le p h3⟩
end
noncomputable def mR(L i:Nat):O->O
 |.lst ws=>if i<L then .dr [] else .lst ws
 |o=>o
noncomputable def eU(L:Nat)(M:Mem):Mem:=M.mapIdx λi o=>mR L i o
def Ad(L)(M)(b):(eU L M)[b]? =(M[b]?).map (mR L b):=by unfold eU;rw[List.getElem?_mapIdx]
def jR{b:Nat}:(eU L M)[b]? =aa (.tup us)↔M[b]? =aa (.tup us):=by
 rw[Ad];cases e:M[b]? with
 |none=>simp
 |some o=>
  cases o with
  |lst ws=>simp only[VV,mR];split<;>simp
  |_=>simp[mR]
def jc:(eU L M)[b]? =aa (.lst ws)↔L<=b/\M[b]? =aa (.lst ws):=by
 rw[Ad];cases e:M[b]? with
 |none=>simp
 |some o=>
  cases o with
  |lst us=>
   simp only[VV,mR];by_cases h:b<L
   ·rw[T5 h];constructor
    ·intro z;cases z
    ·intro z;omega
   ·rw[T6 h];constructor
    ·intro z;exact⟨by omega,z⟩
    ·intro z;exact z.2
  |_=>simp[mR]
def J_(L)(M):Le (eU L M) M:=⟨λ_ _ h=>jR.mp h,λ_ _ h=>(jc.mp h).2⟩
def F3(k:aH X M M')(g:L'<=L)(c:∀x∈X,x<L/\∀a,M[x]? ≠aa (.tup a)):Le (eU L M) (eU L' M'):=by
 refine⟨λb a h=>?_,λb e h=>?_⟩
 ·have h:=jR.mp h;exact jR.mpr<|k.get h λz=>(c b z).2 a h
 ·obtain⟨f,d⟩:=jc.mp h;exact jc.mpr ⟨by omega,k.get d λz=>by have:=(c b z).1;omega⟩
def gW(h:aI M v us):aI (eU L M) v us:=by obtain⟨b,e,q⟩:=h;exact⟨b,e,jR.mpr q⟩
def qt(h:fR M (.ref b) fi)(d:L<=b):fR (eU L M) (.ref b) fi:=by obtain⟨a,⟨f,e,q⟩,c⟩:=h;cases e;exact⟨a,⟨b,rfl,jc.mpr ⟨d,q⟩⟩,c.imp λ_ _ t=>gW t⟩
noncomputable def tZ(f:CM):Prop:=∀(M) (a n c h w) (b) (p m),1<=h/\h<=3->1<=w/\w<=3->b_ M a n c h w b->bo (h*w) b->cT b p->m≠0->
 ∃d g e,f [.ref a,.int p,.int m] M=.ok (.ref M.length) d/\M<+:d/\b_ d M.length g e h w (b.set p.toNat m)/\M.length<g/\M.length<e
def yx(z:q8 fp)(u:qe fs):tZ (PB.nI fp fs):=by
 intro M a n c h w q p m g s S k H J;have C:=S;obtain⟨⟨P,f,_⟩,E,_⟩:=C;obtain⟨M1,j,i,t,L,l,G,B⟩:=u h w M (.ref n) q g s ⟨_,rfl,E⟩ k;obtain⟨M2,y,K,k2,_⟩:=z M1 M.length j i h w q p m g s l k H J;have A:=k2.base L λx o=>by simp only[T7,Ud,Ue] at o;rcases o with rfl|rfl<;>omega
 have b:∃r N,PB.nI fp fs [.ref a,.int p,.int m] M=.ok r N/\(r=.ref M.length/\N=M2):=by
  refine bJ rfl ?_;show(au _ _ [aa<|.ref a,aa<|.int p,aa<|.int m,ae] M).Sat _;refine aD<|bA (v:=.ref M.length) (M1:=M1) ?_ ?_
  ·have O:aT aY fH (aj 0) [aa<|.ref a,aa<|.int p,aa<|.int m,ae] M=.ok (.int h) M:=cL rfl f rfl;have F:aT aY fW (aj 0) [aa<|.ref a,aa<|.int p,aa<|.int m,ae] M=.ok (.int w) M:=cL rfl f rfl;have I:aT aY fN (aj 0) [aa<|.ref a,aa<|.int p,aa<|.int m,ae] M=.ok (.ref n) M:=cL rfl f rfl;simp only[av,ak,aq,O,F,I,R.bind,t]
  simp only[T_,T9];obtain⟨D,d,_⟩:=l.ob;refine aD<|df (v:=.aA) (M1:=M2) ?_ ?_
  ·simp only[fu,aj,R.bind,Uo,Uj,kZ,ml d,ak,aq];exact y
  dsimp only;exact aV rfl ⟨rfl,rfl⟩
 obtain⟨r,N,e,rfl,rfl⟩:=b;exact⟨N,j,i,e,A,K,G,B⟩
theorem ui(M):∀(kvs) (k) (n),(∀kv∈kvs,∃xs,a8 M kv.2=aa xs)->∃r,gH M k n kvs=aa r/\(r=k\/r∈kvs.map (·.1))
 |[],k,n,_=>⟨k,rfl,.inl rfl⟩
 |(i,v)::r,k,n,h=>by
  obtain⟨xs,f⟩:=h (i,v) UE;have d:=λkv b=>h kv<|Ut _ b
  show∃q,(match a8 M v with|some xs=>if xs.length<n then gH M i xs.length r else gH M k n r|none=>ae)=aa q/\_;rw[f];by_cases c:xs.length<n
  ·obtain⟨q,e,a⟩:=ui M r i xs.length d;refine⟨q,by simp only[T5 c];exact e,.inr ?_⟩;rcases a with rfl|a
   ·exact UE
   ·exact Ut _ a
  ·obtain⟨q,e,a⟩:=ui M r k n d;refine⟨q,by simp only[T6 c];exact e,?_⟩;rcases a with rfl|a
   ·exact .inl rfl
   ·exact .inr<|Ut _ a
def minD_mem(M)(c:kvs≠[])(h:∀kv∈kvs,∃xs,a8 M kv.2=aa xs):∃r,minD M kvs=aa r/\r∈kvs.map (·.1):=by
 cases kvs with
 |nil=>exact(c rfl).elim
 |cons p r=>
  obtain⟨i,v⟩:=p;obtain⟨xs,d⟩:=h (i,v) UE;obtain⟨q,e,a⟩:=ui M r i xs.length λkv b=>h kv<|Ut _ b
  refine⟨q,?_,?_⟩
  ·show(match a8 M v with|some xs=>gH M i xs.length r|none=>ae)=_;rw[d];exact e
  ·rcases a with rfl|a
   ·exact UE
   ·exact Ut _ a
def uL(h:Bb M n G ss s kvs)(d:kv∈kvs):∃k,kv.2=.ref k/\cT ss kv.1/\n<k/\M[k]? =aa (.lst<|(rowOf G ss s kv.1).map .int):=by
 obtain⟨_,b,c⟩:=h;have a:=mj d b;rcases c kv.1 with⟨z,_⟩|⟨k,z,h1,h2,h3⟩
 ·rw[z] at a;cases a
 ·rw[z] at a;exact⟨k,(Ug a).symm,h1,h2,h3⟩
noncomputable def yz(f:CM):Prop:=∀(M) (a n c h w) (b),1<=h/\h<=3->1<=w/\w<=3->b_ M a n c h w b->(∃q,cT b q)->
 ∃p d,f [.ref a] M=.ok (.int p) d/\M<+:d/\cT b p
def zc:yz PB.nK:=by
 intro M a n c h w D B E S A;obtain⟨⟨F,v,_⟩,C,d,s,j⟩:=S;have i:d≠[]:=by
  rintro rfl;obtain⟨q,t⟩:=A;rcases j.2.2 q with⟨_,z⟩|⟨k,z,_⟩
  ·exact z t
  ·cases z
 obtain⟨p,m,o⟩:=minD_mem M i λf b=>by obtain⟨k,e,_,_,y⟩:=uL j b;exact⟨_,by rw[e];exact dQ y⟩
 obtain⟨f,b,rfl⟩:=Um.mp o;obtain⟨k,e,x,_⟩:=uL j b;have g:∃r N,PB.nK [.ref a] M=.ok r N/\(r=.int f.1/\N=M++[.lst<|d.map λf=>.int f.1]):=by refine bJ rfl<|aV ?_ ⟨rfl,rfl⟩;have l:aT aY fC (aj 0) [aa<|.ref a] M=.ok (.ref c) M:=cL rfl v rfl;show oN (aT aY fC<|aj 0) [aa<|.ref a] M=_;simp only[oN,l,R.bind,fo s,m]
 obtain⟨r,N,u,rfl,rfl⟩:=g;exact⟨f.1,_,u,pre_app _ _,x⟩
noncomputable def fx(B:Nat)(M:Mem)(a:List W)(F:List<|List Int):Prop:=a_ (λw f=>∃k,w=W.ref k/\k<B/\M[k]? =aa (.lst<|f.map .int)/\1<=f.length) a F
def fx.keep(h:fx B M fw F)(k:aH X M M')(g:B<=B')(c:∀x∈X,B<=x\/∀f:List Int,1<=f.length->M[x]? ≠aa (.lst<|f.map .int)):fx B' M' fw F:=
 h.imp λw f ⟨b,e,d,q,a⟩=>⟨b,e,by omega,k.get q λz=>by
  rcases c b z with y|y
  ·omega
  ·exact y f a q,a⟩
theorem fx.refs:∀{a:List W} {F:List (List Int)},fx B M a F->∀f:List Int,1<=f.length->a≠f.map .int
 |_,_,.nil,f,hf,e=>by
  cases f with
  |nil=>simp at hf
  |cons x r=>cases e
 |_,_,.cons h _,f,hf,e=>by
  obtain⟨k,rfl,_⟩:=h;cases f with
  |nil=>simp at hf
  |cons x r=>cases e
def fx.len(h:fx B M fw F):fw.length=F.length:=a_.len h
def b_.found(l:1<=h/\h<=3)(p:1<=w/\w<=3)(S:b_ M a n c h w ss)(k:aH [f0] M M')(g:M[f0]? =aa (.lst fw))(m:fx B M fw F)(E:F.length<=2)(G:f0<a)(I:a<n):b_ M' a n c h w ss:=by
 obtain⟨A,H⟩:=eL l p;obtain⟨D,x,_⟩:=S.ob;obtain⟨s,f,C⟩:=S.cn;refine S.other k (by omega) (by omega) (by rintro rfl;rw[g] at f;cases f) (λJ e q K z=>?_) λD x u=>?_
 ·rw[f] at e;cases e;rcases C.2.2 q with⟨y,_⟩|⟨k0,y,_,y3,_⟩
  ·rw[y] at z;cases z
  ·rw[y] at z;cases z;omega
 ·obtain⟨v,⟨b,e,i,q⟩,r⟩:=u;refine⟨v,⟨b,e,i,k.get q λz=>?_⟩,?_⟩
  ·simp only[T7,Ud,Ue] at z;subst z;rw[g] at q;have d:=by have:=Ug q;injection this
   have t:=r.len;rw[<-d,m.len,jb] at t;omega
  ·refine VM.a_.kP r λw o j ⟨b,e,i,q⟩=>⟨b,e,i,k.get q λz=>?_⟩
   simp only[T7,Ud,Ue] at z;subst z;rw[g] at q;have d:=by have:=Ug q;injection this
   exact m.refs o (by rw[(i6 l p).len o j];exact A) d
noncomputable def Bs.fj:List (Int×Tr×cB)->Bs
 |[]=>.nil
 |x::r=>.cons x.1 x.2.1<|Bs.fj r
theorem Bs.zd:∀l:List (Int×Tr×cB),(Bs.fj l).nums=l.map (·.1)
 |[]=>rfl
 |x::r=>by show x.1::(Bs.fj r).nums=_;rw[Bs.zd r];rfl
theorem Bg:∀{ws:List W} {l:List (Int×Tr×cB)},a_ (λw x=>∃u,aI M w [.int x.1,u]/\cQ M u x.2.1) ws l->cR M ws (Bs.fj l)
 |_,_,.nil=>by unfold Bs.fj cR;rfl
 |_,_,.cons ⟨u,a,b⟩ r=>by unfold Bs.fj cR;exact⟨_,u,_,rfl,a,b,Bg r⟩
noncomputable def gy:List (Int×Tr×cB)->Nat
 |[]=>0
 |x::r=>dq x.2.1+1+gy r
theorem Ae:∀(l m),gy (l++m)=gy l+gy m
 |[],m=>by simp[gy]
 |x::r,m=>by show dq x.2.1+1+gy (r++m)=dq x.2.1+1+gy r+gy m;rw[Ae r m];omega
theorem ze:∀l:List (Int×Tr×cB),gP (Bs.fj l)+l.length=gy l
 |[]=>rfl
 |x::r=>by have a:=ze r;show dq x.2.1+gP (Bs.fj r)+(r.length+1)=dq x.2.1+1+gy r;omega
theorem Af:∀l:List (Int×Tr×cB),(∀x∈l,dG G s (ss.set p.toNat x.1) x.2.1=aa x.2.2)->∃w,du G s ss p (Bs.fj l)=aa w/\w.cj.Perm (l.flatMap λx=>x.2.2.cj)/\((∀x∈l,x.2.2.dB=af)->w.dB=af)/\(cO∈w.words->∃x∈l,cO∈x.2.2.words)
 |[],_=>⟨⟨[],[],af⟩,by unfold Bs.fj du;rfl,.refl _,λ_=>rfl,λh=>by cases h⟩
 |x::r,h=>by
  obtain⟨w,e,i,d,g⟩:=Af r λy a=>h y<|Ut _ a
  have f:=h x UE;refine⟨w.join x.2.2,?_,?_,λc=>?_,λb=>?_⟩
  ·show du G s ss p (.cons x.1 x.2.1<|Bs.fj r)=_;rw[qp,e,f];rfl
  ·show(w.cj++x.2.2.cj).Perm _;rw[List.flatMap_cons];exact List.perm_append_comm.trans<|i.append_left _
  ·show(w.dB&&x.2.2.dB)=af;rw[d λy a=>c y<|Ut _ a,c x UE];rfl
  ·have b:=b;rcases U0.mp b with q|q
   ·obtain⟨y,a,q⟩:=g q;exact⟨y,Ut _ a,q⟩
   ·exact⟨x,UE,q⟩
structure AW(M M':Mem)(n c h w f0:Nat)(ss:List Int)(F:List<|List Int)(v:W)(t:Tr)(Cm:List W)(new:List<|List Int)(wk:cB):Prop where
 tr:cQ (eU M.length M') v t
 kp:aH [n,c,f0] M M'
 fd:M'[f0]? =aa (.lst Cm)
 fs:fx M'.length M' Cm (F++new)
 le:(F++new).length<=2
 Cn:dG (ar h w) (h*w) ss t=aa wk
 pm:wk.cj.Perm new
 lt:wk.dB=af
 lf:cO∈wk.words->(F++new).length=2
 sz:bR (ar h w) ss (h*w)=af->dq t+1<=2*wt h w ss
 tw:bR (ar h w) ss (h*w)=ag->F.length<2->∃cl,t=.mk [] (.cls cl)
noncomputable def ow(z:Nat)(f:CM):Prop:=∀(M) (a n c h w d) (b) (i) (F),1<=h/\h<=3->1<=w/\w<=3->b_ M a n c h w b->bo (h*w) b->nz b<=z->M[d]? =aa (.lst i)->d<a->a<n->a<c->fx a M i F->F.length<=2->
 ∃v j t g e k,f [.ref a,.ref d] M=.ok v j/\AW M j n c h w d b F v t g e k
def kH(d:a σ M=.ok x M1)(c:b σ M1=.ok y M2):bI (ak a<|ak b aq) σ M=.ok (.ref M2.length) (M2++[.tup [x,y]]):=by simp only[bI,ak,d,c,R.bind];exact gX (by show 2<=16777216;decide)
def zf(b:a σ M=.ok x M1):bI (ak a aq) σ M=.ok (.ref M1.length) (M1++[.tup [x]]):=by simp only[bI,ak,b];exact gX (by show 1<=16777216;decide)
def HN(h:∀q,¬cT ss q):(!ss.any (·==0))=af:=by
 rw[UB,Ve];intro z;obtain⟨x,a,e⟩:=Ui.mp z;have c:=by simpa using e
 subst c;obtain⟨i,b,a⟩:=VW a;refine h (i) ⟨by omega,by omega,?_⟩;rw[gY b];exact a
theorem AX(f:1<=h/\h<=3)(i:1<=w/\w<=3):∀(l) (ss a),bo (h*w) ss->cJ (ar h w) (h*w) ss l=aa a->wt h w a<=wt h w ss
 |[],ss,a,_,e=>by have:=Ug e;subst this;exact Uc _
 |st::r,ss,a,k,e=>by
  have g:(if cw (ar h w) (h*w) ss st then cJ (ar h w) (h*w) (dw ss st) r else ae)=aa a:=e;by_cases d:cw (ar h w) (h*w) ss st=af
  ·rw[T5 d] at g;have s:=AX f i r (dw ss st) a (nT k d) g;obtain⟨n,u,t,v,z⟩:=i9 d;obtain⟨b,c⟩:=WQ n;have o:cT ss (b):=by rw[<-c];exact⟨n,u,t⟩
   have x:=qT f i k.len o (m:=st.num)<|by omega
   have p:dw ss st=ss.set b st.num:=by unfold dw;rw[c,UA]
   rw[p] at s;have j:1<=ec h w ss (b % (h*w)):=by
    obtain⟨y,_⟩:=eL f i;have q:b % (h*w)<h*w:=V9 _<|by omega
    have:=vq f i k.len o (m:=st.num) (by omega) q;rw[T5 rfl] at this;omega
   have:wt h w (ss.set b st.num)*1<=wt h w (ss.set b st.num)*ec h w ss (b % (h*w)):=Nat.mul_le_mul_left _ j;omega
  ·rw[T6 d] at g;cases g
noncomputable def F4(a b:CM):SM:=bz (a9<|ib (aT aY fC<|aj 0)<|aj 4) (az 6) (
 cg (bD cZ (aj 5) (ak (bI (ak (aj 6) (ak (av b (ak (fu [83,116,97,116,101] [98,101,104,105,110,100] a (aj 0) (ak (aj 4) (ak (aj 6) aq))) (ak (aj 1) aq))) aq))) aq)))
structure Bh(B N:Mem)(h w f0:Nat)(ss:List Int)(p:Nat)(F:List<|List Int)(ns:List Int)(W0:Nat)(new:List<|List Int)(l:List<|Int×Tr×cB):Prop where
 kp:aH [f0] B N
 br:∃bw,N[B.length]? =aa (.lst bw)/\a_ (λw x=>∃u,aI N w [.int x.1,u]/\cQ (eU (B.length+1) N) u x.2.1) bw l
 nl:l.map (·.1)=ns
 fd:∃fw,N[f0]? =aa (.lst fw)/\fx N.length N fw (F++new)
 le:(F++new).length<=2
 wk:∀x∈l,dG (ar h w) (h*w) (ss.set p x.1) x.2.1=aa x.2.2/\x.2.2.dB=af/\(cO∈x.2.2.words->(F++new).length=2)
 pm:(l.flatMap λx=>x.2.2.cj).Perm new
 sz:gy l<=2*W0*ns.length
def EH{fb fg:CM}{z:Nat}(V:tZ fb)(hg:ow z fg){B:Mem}{a n c h w i p:Nat}{ss:List Int}{fw:List W}{F:List (List Int)}{vs L:W}{W0:Nat}{q:ay}(hh:1<=h/\h<=3)(hw:1<=w/\w<=3)(S:b_ B a n c h w ss)(sh:bo (h*w) ss)(OT:nz ss<=z+1)(h0:B[i]? =aa (.lst fw))(fa:i<a)(an:a<n)(hF:fx B.length B fw F)(hl:F.length<=2)(hE:cT ss (p:Int))(ht:bR (ar h w) ss (h*w)=af)(hW:∀m:Int,m≠0->wt h w (ss.set p m)=W0)(hq:∀N d l x,Bh B N h w i ss p F (rowOf (ar h w) ss (h*w) p) W0 d l->q.nx [aa<|.ref a,aa<|.ref i,aa vs,aa L,aa<|.int (p:Int),aa<|.ref B.length,x] N): (F4 fb fg [aa<|.ref a,aa<|.ref i,aa vs,aa L,aa<|.int (p:Int),aa<|.ref B.length,ae]<|B++[.lst []]).Sat q:=by
 obtain⟨s1,s9⟩:=eL hh hw;obtain⟨vG,ob,_⟩:=S.ob;obtain⟨kvs,hc,hC⟩:=S.cn;have Na:∃k,aW kvs (p:Int)=aa (.ref k)/\n<k/\B[k]? =aa (.lst<|(rowOf (ar h w) ss (h*w) p).map .int):=by
  rcases hC.2.2 (p:Int) with⟨_,y⟩|⟨k,y1,_,y3,y4⟩
  ·exact(y hE).elim
  ·exact⟨k,y1,y3,y4⟩
 obtain⟨k,ek,nk,hk⟩:=Na;have OU:i<B.length:=(Ub.mp h0).1;have al:a<B.length:=(Ub.mp ob).1;have kB:aH [i] B (B++[.lst []]):=aH.ck<|pre_app _ _;have eg:ib (aT aY fC<|aj 0) (aj 4) [aa<|.ref a,aa<|.ref i,aa vs,aa L,aa<|.int (p:Int),aa<|.ref B.length,ae] (B++[.lst []])=.ok (.ref k) (B++[.lst []]):=by have e1:aT aY fC (aj 0) [aa<|.ref a,aa<|.ref i,aa vs,aa L,aa<|.int (p:Int),aa<|.ref B.length,ae] (B++[.lst []])=.ok (.ref c) (B++[.lst []]):=cL rfl (aB (pre_app _ _) ob) rfl;simp only[ib,e1,aj,R.bind,Uo,Uj,mL,fo<|aB (pre_app B [.lst []]) hc,ek]
 refine dS eg ⟨k,rfl,aB (pre_app _ _) hk⟩ (λj σ N=>(∃x,σ=[aa<|.ref a,aa<|.ref i,aa vs,aa L,aa<|.int (p:Int),aa<|.ref B.length,x])/\∃d l,Bh B N h w i ss p F ((rowOf (ar h w) ss (h*w) p).take j) W0 d l)
  ⟨⟨_,rfl⟩,[],[],kB,⟨[],b8 _ _,.nil⟩,rfl,⟨fw,aB (pre_app _ _) h0,by rw[UY];exact hF.keep kB (by simp) (by intro x s;simp only[T7,Ud,Ue] at s;subst s;exact .inr λf hf e=>hF.refs f hf (by rw[h0] at e;have:=Ug e;injection this))⟩,by simpa using hl,by simp,.refl _,by simp[gy]⟩ ?_ ?_ ?_
 ·rintro j σ N hj ⟨_,d,l,I⟩;exact⟨k,rfl,I.kp.get hk (by simp;omega)⟩
 ·rintro j x σ N s ⟨⟨x',rfl⟩,d,l,I⟩;obtain⟨m,hm,rfl,T⟩:=fZ s;simp only[T_,T9];obtain⟨_,m1,m2,_⟩:=oD hm;obtain⟨bw,U,J⟩:=I.br;obtain⟨Co,Cp,ni⟩:=I.fd;have NB:B.length<N.length:=(Ub.mp U).1;have SN:b_ N a n c h w ss:=S.found hh hw I.kp h0 hF hl fa an;obtain⟨Y,n',c',e1,p1,S1,v5,pD⟩:=V N a n c h w ss (p:Int) m hh hw SN sh hE<|by omega
  rw[UA] at S1;have OV:bo (h*w) (ss.set p m):=sh.set _ (by omega) m2;have OW:=qQ (ss:=ss) (p:=(p:Int)) (m:=m) hE<|by omega
  rw[UA] at OW;have RZ:N.length<=Y.length:=p1.length_le;have Nb:fx N.length Y Co (F++d):=ni.imp λw f ⟨b,e,V,q,hl⟩=>⟨b,e,V,aB p1 q,hl⟩
  obtain⟨vt,G,t,OX,Nc,wk,e2,E⟩:=hg Y N.length n' c' h w i (ss.set p m) Co (F++d) hh hw S1 OV (by omega) (aB p1 Cp) (by omega) v5 pD Nb I.le;have R0:N.length<Y.length:=(Ub.mp S1.ob.choose_spec.1).1;have D:aH [i] N G:=⟨Uh p1.length_le E.kp.1,λb V s=>by
   have nr:b<Y.length:=by omega
   rw[E.kp.2 b nr (λH=>by
    simp only[T7,Ud,Ue] at H s;rcases H with H|H|H
    ·omega
    ·omega
    ·exact s H)]
   obtain⟨r,rfl⟩:=p1;rw[U6 V]⟩
  have bX:B.length∉[i]:=by simp;omega
  have K:G[B.length]? =aa (.lst bw):=D.get U bX;have Cq:fu [83,116,97,116,101] [98,101,104,105,110,100] fb (aj 0) (ak (aj 4)<|ak (aj 6) aq) [aa<|.ref a,aa<|.ref i,aa vs,aa L,aa<|.int (p:Int),aa<|.ref B.length,aa<|.int m] N=.ok (.ref N.length) Y:=by obtain⟨SD,OY,_⟩:=SN.ob;simp only[fu,aj,R.bind,Uo,Uj,kZ,ml OY,ak,aq];exact e1
  have OZ:av fg (ak (fu [83,116,97,116,101] [98,101,104,105,110,100] fb (aj 0)<|ak (aj 4)<|ak (aj 6) aq)<|ak (aj 1) aq) [aa<|.ref a,aa<|.ref i,aa vs,aa L,aa<|.int (p:Int),aa<|.ref B.length,aa<|.int m] N=.ok vt G:=by simp only[av,ak,aq] at Cq⊢;rw[Cq];simp only[R.bind,aj,Uo,Uj,e2]
  have et:=kH (a:=aj 6) (σ:=[aa<|.ref a,aa<|.ref i,aa vs,aa L,aa<|.int (p:Int),aa<|.ref B.length,aa<|.int m]) (M:=N) rfl OZ;have C:=aB (pre_app G [.tup [.int m,vt]]) K;have Cr:bw.length<=j:=by have l1:=J.len;have l2:=U1 List.length I.nl;rw[Ua,VH] at l2;omega
  have jl:j<(rowOf (ar h w) ss (h*w) p).length:=(Ub.mp T).1;have rl:=jJ (ar h w) ss (h*w) p;have ea:=gD (o:=aj 5) rfl U et C<|by omega
  refine df ea ?_;generalize Z:G++[O.tup [.int m,vt]]=N3 at C ea⊢;have g:G<+:N3:=by rw[<-Z];exact pre_app _ _
  generalize wQ:N3.set B.length (O.lst<|bw++[.ref G.length])=N4;have jA:aH [B.length] N3 N4:=by rw[<-wQ];exact aH.set _<|by simp
  have O0:∀v,N3[B.length]? ≠aa (.tup v):=λv e=>by rw[C] at e;cases e
  have O1:aI N3 (.ref G.length) [.int m,vt]:=by rw[<-Z];exact aI.new _ _
  have O2:∀v,N[i]? ≠aa (.tup v):=λv e=>by rw[Cp] at e;cases e
  have A:∀{w:W} {v:List W},aI N3 w v->aI N4 w v:=λtt=>aI.keep tt jA λx s v=>by simp only[T7,Ud,Ue] at s;subst s;exact O0 v
  have P:∀{w:W} {v:List W},aI N w v->aI N4 w v:=λtt=>A (aI.mono (aI.keep tt D λx s v=>by simp only[T7,Ud,Ue] at s;subst s;exact O2 v) g)
  have O3:Le (eU (B.length+1) N) (eU (B.length+1) N4):=by
   refine⟨λb v e=>jR.mpr ?_,λb ws e=>?_⟩
   ·have:=P (w:=.ref b) ⟨b,rfl,jR.mp e⟩;obtain⟨b',eb,Q⟩:=this;cases eb;exact Q
   ·obtain⟨g1,g2⟩:=jc.mp e;refine jc.mpr ⟨g1,jA.get (aB g<|D.get g2 (by simp;omega)) (by simp;omega)⟩
  have O4:Le (eU Y.length G) (eU (B.length+1) N4):=by
   refine⟨λb v e=>jR.mpr ?_,λb ws e=>?_⟩
   ·have:=A (w:=.ref b) ⟨b,rfl,aB g<|jR.mp e⟩;obtain⟨b',eb,Q⟩:=this;cases eb;exact Q
   ·obtain⟨g1,g2⟩:=jc.mp e;exact jc.mpr ⟨by omega,jA.get (aB g g2) (by simp;omega)⟩
  have Nd:i≠B.length:=by omega
  have Nf:N3.length=N4.length:=by rw[<-wQ];simp
  refine⟨⟨_,rfl⟩,d++Nc,l++[(m,t,wk)],?_,⟨bw++[.ref G.length],?_,?_⟩,?_,⟨OX,jA.get (aB g E.fd)<|by simpa using Nd,?_⟩,?_,λy hy=>?_,?_,?_⟩
  ·refine⟨Uh I.kp.1<|Uh D.1<|Uh g.length_le jA.1,λb V s=>?_⟩;have b1:b<N.length:=by omega
   have b2:b<G.length:=Up b1 D.1;rw[jA.2 b (Up b2 g.length_le) (by simp;omega)];obtain⟨r,hr⟩:=g;rw[<-hr,U6 b2,D.2 b b1 s,I.kp.2 b V s]
  ·rw[<-wQ];exact UH (Ub.mp C).1
  ·refine a_.app (J.imp λw x ⟨u,h1,h2⟩=>⟨u,P h1,cQ.le O3 h2⟩)<|.cons ⟨vt,A O1,cQ.le O4 E.tr⟩ .nil
  ·rw[VS,I.nl,lZ _ _ T];rfl
  ·rw[<-U9];refine E.fs.keep (X:=[B.length]) ((aH.ck g).trans jA) (by rw[<-Nf,<-Z];simp) λx s=>?_
   simp only[T7,Ud,Ue] at s;subst s;refine .inr λf hf e=>?_
   rw[K] at e;have e1:bw=f.map .int:=by have:=Ug e;injection this
   rw[e1] at J;cases f with
   |nil=>simp at hf
   |cons y r=>
    cases J with
    |cons hd _=>obtain⟨u,⟨b',eb,_⟩,_⟩:=hd;cases eb
  ·rw[<-U9];exact E.le
  ·rcases U0.mp hy with hy|hy
   ·obtain⟨w1,w2,w3⟩:=I.wk y hy;refine⟨w1,w2,λH=>?_⟩;have g1:=w3 H;have g2:=E.le;rw[Us] at g2;rw[<-U9,Us];omega
   ·rw[UN.mp hy];refine⟨E.Cn,E.lt,λH=>?_⟩;rw[<-U9];exact E.lf H
  ·rw[Xb];refine I.pm.append ?_;simpa using E.pm
  ·have O5:bR (ar h w) (ss.set p m) (h*w)=af:=by have:=uI (i6 hh hw) sh ht (by omega) (by have:=hE.2.1;rw[sh.len] at this;exact this) hm;rw[UA] at this;exact this
   have g1:=E.sz O5;rw[hW m<|by omega] at g1;have g2:=I.sz;rw[lZ _ _ T,Us,Ae];show gy l+(dq t+1+0)<=_;have:2*W0*(((rowOf (ar h w) ss (h*w) p).take j).length+[m].length)=2*W0*((rowOf (ar h w) ss (h*w) p).take j).length+2*W0:=by rw[WB,Nat.mul_add,WS]
   omega
 ·rintro σ N ⟨⟨x,rfl⟩,d,l,I⟩;rw[Ua,UT] at I;exact hq N d l x I
def Ag{fb ft fp fg:CM}{z:Nat}(hb:tZ fb)(ht:uK ft)(hp:yz fp)(hg:∀z',z'<z->ow z' fg):ow z (PB.nS fb ft fp fg):=by
 intro M a n c h w i ss T F hh V S sh OT h0 fa an ac hF Q;obtain⟨s1,s9⟩:=eL hh V;have OU:i<M.length:=(Ub.mp h0).1;have al:a<M.length:=by obtain⟨vG,e,_⟩:=S.ob;exact(Ub.mp e).1
 have nl:n<M.length:=(Ub.mp S.nm).1;have cl:c<M.length:=by obtain⟨kv,e,_⟩:=S.cn;exact(Ub.mp e).1
 have O6:i∉[n,c]:=by simp;omega
 have key:∃v M',PB.nS fb ft fp fg [.ref a,.ref i] M=.ok v M'/\∃t U new wk,AW M M' n c h w i ss F v t U new wk:=by
  refine bJ rfl ?_;show(au _ _ [aa<|.ref a,aa<|.ref i,ae,ae,ae,ae,ae] M).Sat _;have hlen:T.length=F.length:=hF.len;have e1:tB (ao oEq (av aZ<|ak (aj 1) aq)<|eC<|.int 2) [aa<|.ref a,aa<|.ref i,ae,ae,ae,ae,ae] M=.ok (ai<|(T.length:Int)=2) M:=by
   have ef:av aZ (ak (aj 1) aq) [aa<|.ref a,aa<|.ref i,ae,ae,ae,ae,ae] M=.ok (.int T.length) M:=by simp only[av,ak,aq,aj,R.bind,Uo,Uj,aZ,jK h0]
   exact aU<|aP ef rfl eq_int
  refine aD<|aJ e1 (λhc=>?_) λhc=>?_
  ·
   have Cs:F.length=2:=by have:=UM hc;omega
   have el:aR aq [aa<|.ref a,aa<|.ref i,ae,ae,ae,ae,ae] M=.ok (.ref M.length) (M++[.lst []]):=(show bb [] M=_ from bT<|by decide);have et:=kH el<|zf (a:=eC<|.str [108,101,102,116]) (σ:=[aa<|.ref a,aa<|.ref i,ae,ae,ae,ae,ae]) (M:=M++[.lst []]) rfl;refine aV et ⟨.mk [] .left,T,[],⟨[cO],[],af⟩,?_⟩;generalize hN:M++[O.lst []]++[O.tup [W.str [108,101,102,116]]]=N;have pN:M<+:N:=by rw[<-hN];exact(pre_app _ _).trans<|pre_app _ _
   have tl:aI N (.ref (M++[O.lst []]).length) [cO]:=by rw[<-hN];exact aI.new _ _
   have ll:N[M.length]? =aa (.lst []):=by rw[<-hN];exact aB (pre_app _ _)<|b8 _ _
   have pM:=pN.trans<|pre_app N [O.tup [W.ref M.length,W.ref (M++[O.lst []]).length]];have kX:∀x∈[i],a<=x\/∀f:List Int,1<=f.length->M[x]? ≠aa (.lst<|f.map .int):=λx B=>by simp only[T7,Ud,Ue] at B;subst B;exact .inr λf hf e=>hF.refs f hf (by rw[h0] at e;have:=Ug e;injection this)
   refine⟨?_,aH.ck pM,aB pM h0,?_,by simpa using Q,?_,.refl _,rfl,λ_=>by simpa using Cs,λ_=>?_,λ_ nu=>by omega⟩
   ·unfold cQ;refine⟨.ref M.length,.ref (M++[O.lst []]).length,gW<|aI.new _ _,qt ⟨[],⟨_,rfl,aB (pre_app _ _) ll⟩,.nil⟩<|Uc _,?_⟩;unfold cb;exact gW<|tl.mono<|pre_app _ _
   ·rw[UY];refine hF.imp λw f ⟨b,e,hb,q,Q⟩=>⟨b,e,?_,aB pM q,Q⟩
    have:=pM.length_le;omega
   ·rw[jf];rfl
   ·show 1+0+1<=_;have:=qA h w ss<|h*w;unfold wt;omega
  ·refine bf ?_;dsimp only;have Cs:F.length<2:=by have:=Vz hc;omega
   obtain⟨v1,M1,vs,vc,L,d,e2,tv,fX,S1,C,k1,rk,SF,jx,O7,⟨b,rfl,nr⟩⟩:=ht M a n c h w ss hh V S sh;have rs:=yw _ _ _ _ _ rk;have rY:M1[i]? =aa (.lst T):=k1.get h0 O6;have ni:fx a M1 T F:=hF.keep k1 (Uc _) λx B=>by
    simp only[T7,Ud,Ue] at B;rcases B with rfl|rfl
    ·exact .inl<|by omega
    ·exact .inl<|by omega
   have BE:i≠b:=by omega
   have eT:av ft (ak (aj 0) aq) [aa<|.ref a,aa<|.ref i,ae,ae,ae,ae,ae] M=.ok v1 M1:=by simp only[av,ak,aq,aj,R.bind,Uj,e2]
   have gT:dd [az 2,az 3] v1 [aa<|.ref a,aa<|.ref i,ae,ae,ae,ae,ae] M1=.ok [aa<|.ref a,aa<|.ref i,aa<|.ref b,aa vc,ae,ae,ae] M1:=by simp only[dd,tv.cm,UO,Vt,Uv,iL,az,R.bind,T9,T_]
   refine aD<|jN eT gT ?_;have SH:M.length<=M1.length:=k1.1;rcases jx with⟨rfl,wR,D,Z⟩|⟨rZ,O8,O9⟩
   ·refine aD (aJ (c:=ag) (M1:=M1) (aU rfl) (λz=>nomatch z) λ_=>?_);refine bf ?_;dsimp only;obtain⟨_,Y,_⟩:=uJ (i6 hh V) L ss d sh Z rs;obtain⟨SJ,rP,_⟩:=S1.ob;obtain⟨wU,Ng,m8⟩:=S1.cn;have eD:tB (oM<|aT aY fC<|aj 0) [aa<|.ref a,aa<|.ref i,aa<|.ref b,aa .aA,ae,ae,ae] M1=.ok wU.isEmpty (M1++[.aG []]):=by have e3:aT aY fC (aj 0) [aa<|.ref a,aa<|.ref i,aa<|.ref b,aa .aA,ae,ae,ae] M1=.ok (.ref c) M1:=cL rfl rP rfl;refine aU ?_;simp only[oM,e3,R.bind,fo Ng]
    refine aD<|aJ eD (λP=>?_) λP=>?_
    ·
     have Nh:wU=[]:=by simpa using P
     have O_:∀q,¬cT d q:=λq hq=>by
      rcases m8.2.2 q with⟨_,y⟩|⟨k,y,_⟩
      ·exact y hq
      ·rw[Nh] at y;cases y
     have p2:=pre_app M1 [O.aG []];have K:=aB p2 rY;have wA:=aB p2 S1.nm;have ea:bD cZ (aj 1) (ak (aT aY fN<|aj 0) aq) [aa<|.ref a,aa<|.ref i,aa<|.ref b,aa .aA,ae,ae,ae] (M1++[.aG []])=.ok .aA ((M1++[O.aG []]).set i<|O.lst<|T++[W.ref n]):=
      gD (o:=aj 1) rfl K (cL rfl (aB p2 rP) rfl) K (by omega)
     refine aD<|df ea ?_;dsimp only;generalize hN:(M1++[O.aG []]).set i (O.lst<|T++[.ref n])=N;have kN:aH [i] (M1++[O.aG []]) N:=by rw[<-hN];exact aH.set _<|by simp
     have O':N[i]? =aa (.lst<|T++[.ref n]):=by rw[<-hN];exact UH (Ub.mp K).1
     have et:=kH (a:=aj 2) (σ:=[aa<|.ref a,aa<|.ref i,aa<|.ref b,aa .aA,ae,ae,ae]) (M:=N) rfl<|zf (a:=eC<|.str [102,117,108,108]) (σ:=[aa<|.ref a,aa<|.ref i,aa<|.ref b,aa .aA,ae,ae,ae]) (M:=N) rfl;refine aV et ⟨.mk L .full,T++[.ref n],[d],⟨[gm],[d],af⟩,?_⟩;generalize E:N++[O.tup [W.str [102,117,108,108]]]=N2;have pE:N<+:N2:=by rw[<-E];exact pre_app _ _
     have tf:aI N2 (.ref N.length) [gm]:=by rw[<-E];exact aI.new _ _
     have g:=pE.trans<|pre_app N2 [O.tup [W.ref b,W.ref N.length]];have kM:aH [n,c,i] M N:=(k1.mono λx B=>by
      simp only[T7,Ud,Ue] at B⊢;rcases B with q|q
      ·exact .inl q
      ·exact .inr (.inl q)).trans ((aH.ck p2).trans (kN.mono λx B=>by simp only[T7,Ud,Ue] at B⊢;exact .inr (.inr B)))
     have stN:fR N (.ref b) L:=by obtain⟨ws,⟨b',e,q⟩,h2⟩:=fX;cases e;exact⟨ws,⟨b,rfl,kN.get (aB p2 q)<|by simpa using Uz BE⟩,h2.imp λw st tt=>aI.keep (aI.mono tt p2) kN λx B us e=>by simp only[T7,Ud,Ue] at B;subst B;rw[K] at e;cases e⟩
     have Pa:n≠i:=by omega
     have Pb:1<=d.length:=by rw[C.len];exact UK s1 s1
     refine⟨?_,kM.trans<|aH.ck g,aB g O',?_,by rw[Us];simp;omega,?_,.refl _,rfl,λj=>?_,λ_=>?_,λj=>by rw[Z] at j;cases j⟩
     ·unfold cQ;refine⟨.ref b,.ref N.length,gW<|aI.new _ _,qt (stN.mono g) nr,?_⟩;unfold cb;exact gW<|tf.mono<|pre_app _ _
     ·have hle:=g.length_le;have rU:(M1++[O.aG []]).length<=N.length:=kN.1;have R6:(M1++[O.aG []]).length=M1.length+1:=by simp
      refine a_.app (ni.imp λw f ⟨k,e,hk,q,Q⟩=>⟨k,e,by omega,aB g<|kN.get (aB p2 q) λj=>?_,Q⟩)<|.cons ⟨n,rfl,by omega,aB g<|kN.get wA<|by simpa using Pa,Pb⟩ .nil;simp only[T7,Ud,Ue] at j;subst j;rw[rY] at q;exact ni.refs f Q (by have:=Ug q;injection this)
     ·rw[jf,rs];show(if e_ (ar h w) d (tabOf (ar h w) d<|h*w) (h*w) .full then _ else _)=_;rw[T5<|show e_ (ar h w) d (tabOf (ar h w) d<|h*w) (h*w) .full=af from HN O_];rfl
     ·have j:cO∈[gm]:=j;rw[UN] at j;exact absurd j<|by decide
     ·show 1+0+1<=_;have:=qA h w ss<|h*w;unfold wt;omega
    ·
     refine bf ?_;dsimp only;have p2:=pre_app M1 [O.aG []];have hex:∃q,cT d q:=by
      cases hk:wU with
      |nil=>rw[hk] at P;simp at P
      |cons x r=>obtain⟨k,_,H,_⟩:=uL m8 (kv:=x) (by rw[hk];exact UE);exact⟨x.1,H⟩
     obtain⟨p,M2,e3,p3,H⟩:=hp (M1++[.aG []]) a n c h w d hh V (S1.mono p2) hex;obtain⟨A,rfl⟩:=WQ H.1;have H:cT d (A:Int):=H;refine aD<|bA (v:=.int (A:Int)) (M1:=M2) (by simp only[av,ak,aq,aj,R.bind,Uj];exact e3) ?_;simp only[T_,T9];refine aD<|bA (v:=.ref M2.length) (M1:=M2++[.lst []]) (show bb [] M2=_ from bT<|by decide) ?_;simp only[T_,T9];have J:M1<+:M2:=p2.trans p3;have S2:=S1.mono J;have SK:M1.length<=M2.length:=J.length_le;have K:=aB J rY;have Ni:fx M2.length M2 T F:=ni.imp λw f ⟨k,e,hk,q,Q⟩=>⟨k,e,by omega,aB J q,Q⟩
     have nh:A<h*w*(h*w):=by have:=H.2.1;rw[C.len] at this;omega
     have R8:1<=nz d:=by have:=qQ H (m:=1) (by decide);omega
     have Nj:∃W0,∀m:Int,m≠0->wt h w (d.set A m)=W0:=by
      refine⟨wt h w<|d.set A 1,λm hm=>?_⟩;have w1:=qT hh V C.len H (m:=m) hm;have w2:=qT hh V C.len H (m:=1)<|by decide
      have Pc:0<ec h w d (A % (h*w)):=by
       have:=vq hh V C.len H (m:=1) (by decide) (c:=A % (h*w))<|V9 _<|by omega
       rw[T5 rfl] at this;omega
      exact Nat.eq_of_mul_eq_mul_right Pc<|w1.symm.trans w2
     obtain⟨W0,hW⟩:=Nj;refine aD<|EH (z:=z-1) hb (hg (z-1)<|by omega) hh V S2 C (by omega) K fa an Ni Q H Y hW ?_;intro N new l x I;dsimp only;have et:=kH (a:=aj 2) (σ:=[aa<|.ref a,aa<|.ref i,aa<|.ref b,aa .aA,aa<|.int (A:Int),aa<|.ref M2.length,x]) (M:=N) rfl<|ot (a:=eC<|.str [116,114,121]) (b:=aj 4) (c:=aj 5) (σ:=[aa<|.ref a,aa<|.ref i,aa<|.ref b,aa .aA,aa<|.int (A:Int),aa<|.ref M2.length,x]) (M:=N) rfl rfl rfl;obtain⟨U,Pd,Pe⟩:=I.fd;obtain⟨wB,eB,pB,lB,fB⟩:=Af (G:=ar h w) (s:=h*w) (ss:=d) (p:=(A:Int)) l λy hy=>by rw[UA];exact(I.wk y hy).1
     refine aV et ⟨.mk L<|.dF (A:Int)<|Bs.fj l,U,new,⟨ik::wB.words,wB.cj,!eh (ar h w) d (tabOf (ar h w) d<|h*w) (h*w)&&wB.dB⟩,?_⟩;generalize E:N++[O.tup [W.str [116,114,121],W.int (A:Int),W.ref M2.length]]=N2;have pE:N<+:N2:=by rw[<-E];exact pre_app _ _
     have tf:aI N2 (.ref N.length) [ik,.int (A:Int),.ref M2.length]:=by rw[<-E];exact aI.new _ _
     have g:=pE.trans<|pre_app N2 [O.tup [W.ref b,W.ref N.length]];have kM:aH [n,c,i] M N:=(k1.mono λx B=>by
      simp only[T7,Ud,Ue] at B⊢;rcases B with q|q
      ·exact .inl q
      ·exact .inr (.inl q)).trans ((aH.ck J).trans (I.kp.mono λx B=>by simp only[T7,Ud,Ue] at B⊢;exact .inr (.inr B)))
     have stN:fR N (.ref b) L:=by obtain⟨ws,⟨b',e,q⟩,h2⟩:=fX;cases e;exact⟨ws,⟨b,rfl,I.kp.get (aB J q)<|by simpa using Uz BE⟩,h2.imp λw st tt=>aI.keep (aI.mono tt J) I.kp λx B us e=>by simp only[T7,Ud,Ue] at B;subst B;rw[K] at e;cases e⟩
     obtain⟨bw,Ct,wy⟩:=I.br;have NB:M2.length<N.length:=(Ub.mp Ct).1;have R9:bw.length<=9:=by have l1:=wy.len;have l2:=U1 List.length I.nl;rw[Ua] at l2;have:=jJ (ar h w) d (h*w) A;omega
     generalize pC:N2++[O.tup [W.ref b,W.ref N.length]]=N3 at g;have Pf:N2<+:N3:=by rw[<-pC];exact pre_app _ _
     have Pg:Le (eU (M2.length+1) N) (eU M.length N3):=F3 (X:=[]) (aH.ck g) (by omega)<|by simp
     have RI:2<=(rowOf (ar h w) d (h*w) A).length:=by
      have hT:=eP (ar h w) d (h*w) A (by rw[C.len];exact nh);have h1:(rowOf (ar h w) d (h*w) A).length≠1:=λj=>by unfold eh at D;rw[U_] at D;have:=D.1;rw[Ve,Ne,Ui] at this;exact this ⟨A,UD.mpr (by rw[C.len];exact nh),by rw[hT];exact UR j⟩
      have h2:rowOf (ar h w) d (h*w) A≠[]:=λj=>by unfold gp kF at wR;rw[UB,U_] at wR;have:=wR.1;rw[Ve,Ne,Ui] at this;exact this ⟨A,UD.mpr (by rw[C.len];exact nh),by rw[hT,j,UR H.2.2];rfl⟩
      have h3:0<(rowOf (ar h w) d (h*w) A).length:=List.length_pos_iff.mpr h2;omega
     refine⟨?_,kM.trans<|aH.ck g,aB g Pd,?_,I.le,?_,pB.trans I.pm,?_,λj=>?_,λ_=>?_,λj=>by rw[Z] at j;cases j⟩
     ·unfold cQ;refine⟨.ref b,.ref N.length,gW (by rw[<-pC];exact aI.new _ _),qt (stN.mono g) nr,?_⟩;unfold cb;refine⟨.ref M2.length,bw,gW<|tf.mono Pf,⟨_,rfl,jc.mpr ⟨by omega,aB g Ct⟩⟩,?_,by omega⟩;exact Bg<|wy.imp λw y ⟨u,t1,t2⟩=>⟨u,gW<|t1.mono g,cQ.le Pg t2⟩
     ·refine Pe.imp λw f ⟨k,e,hk,q,Q⟩=>⟨k,e,?_,aB g q,Q⟩
      have:=g.length_le;omega
     ·rw[jf,rs];have he:e_ (ar h w) d (tabOf (ar h w) d<|h*w) (h*w) (.dF (A:Int)<|Bs.fj l)=af:=by show(cV d (A:Int)&&ai ((Bs.fj l).nums=(tabOf (ar h w) d<|h*w).getD (A:Int).toNat []))=af;rw[qd.mpr H,Bs.zd,I.nl,kU H.1 H.2.1];simp
      show(if _ then _ else _)=_;rw[T5 he];show(du (ar h w) (h*w) d (A:Int)<|Bs.fj l).map _=_;rw[eB];rfl
     ·show(!eh (ar h w) d (tabOf (ar h w) d<|h*w) (h*w)&&wB.dB)=af;rw[D,lB λy hy=>(I.wk y hy).2.1];rfl
     ·have j:cO∈ik::wB.words:=j;rcases T7.mp j with q|q
      ·exact absurd q<|by decide
      ·obtain⟨y,hy,q⟩:=fB q;exact(I.wk y hy).2.2 q
     ·show 1+gP (Bs.fj l)+1<=_;have g1:=ze l;have g2:=I.sz;have g3:=U1 List.length I.nl;rw[Ua] at g3;have g4:=J9 hh V C Y nh;have g5:=qT hh V C.len H (m:=1)<|by decide
      rw[hW 1<|by decide] at g5;have g6:=AX hh V L ss d sh rs;have g7:2*W0*(rowOf (ar h w) d (h*w) A).length<=2*(W0*ec h w d (A % (h*w))):=by rw[<-WT];exact Nat.mul_le_mul_left _ g4
      omega
   ·
    obtain⟨bc,rfl,Ph⟩:=O8;dsimp only;refine aD<|aJ (c:=af) (M1:=M1) (aU rfl) (λ_=>?_) λz=>nomatch z
    have et:=kH (a:=aj 2) (σ:=[aa<|.ref a,aa<|.ref i,aa<|.ref b,aa<|.ref bc,ae,ae,ae]) (M:=M1) rfl<|kH (a:=eC<|.str [99,108,97,115,104]) (b:=aj 3) (σ:=[aa<|.ref a,aa<|.ref i,aa<|.ref b,aa<|.ref bc,ae,ae,ae]) (M:=M1) rfl rfl;refine aV et ⟨.mk L<|.cls rZ,T,[],⟨[gE],[],af⟩,?_⟩;generalize E:M1++[O.tup [W.str [99,108,97,115,104],W.ref bc]]=N2;have pE:M1<+:N2:=by rw[<-E];exact pre_app _ _
    have tf:aI N2 (.ref M1.length) [gE,.ref bc]:=by rw[<-E];exact aI.new _ _
    have g:=pE.trans<|pre_app N2 [O.tup [W.ref b,W.ref M1.length]];refine⟨?_,(k1.mono λx B=>by
     simp only[T7,Ud,Ue] at B⊢;rcases B with q|q
     ·exact .inl q
     ·exact .inr (.inl q)).trans (aH.ck g),aB g rY,?_,by simpa using Q,?_,.refl _,rfl,λj=>?_,λ_=>?_,λj _=>⟨rZ,by rw[O7 j]⟩⟩
    ·unfold cQ;refine⟨.ref b,.ref M1.length,gW<|aI.new _ _,qt (fX.mono g) nr,?_⟩;unfold cb;exact⟨.ref bc,gW<|tf.mono<|pre_app _ _,gW<|aI.mono ⟨bc,rfl,Ph⟩ g⟩
    ·rw[UY];refine ni.imp λw f ⟨k,e,hk,q,Q⟩=>⟨k,e,?_,aB g q,Q⟩
     have:=g.length_le;omega
    ·rw[jf,rs];show(if e_ (ar h w) d (tabOf (ar h w) d<|h*w) (h*w) (.cls rZ) then _ else _)=_;rw[T5<|show e_ (ar h w) d (tabOf (ar h w) d<|h*w) (h*w) (.cls rZ)=af from O9];rfl
    ·have j:=j;rw[UN] at j;exact absurd j<|by decide
    ·show 1+0+1<=_;have:=qA h w ss<|h*w;unfold wt;omega
 obtain⟨v,M',e,t,U,new,wk,q⟩:=key;exact⟨v,M',t,U,new,wk,e,q⟩
noncomputable def t4(f:CM):Prop:=∀(h w) (M) (g) (a),1<=h/\h<=3->1<=w/\w<=3->aX M g a->bo (h*w) a->
 ∃v b e d t F c,f [.int h,.int w,g] M=.ok v b/\M<+:b/\aI b v [e,d]/\cQ b d t/\LL b e F/\F.length<=2/\dG (ar h w) (h*w) a t=aa c/\c.cj.Perm F/\c.dB=af/\(cO∈c.words->F.length=2)/\ (bR (ar h w) a (h*w)=af->dq t+1<=2*wt h w a)/\(bR (ar h w) a (h*w)=ag->∃i,t=.mk [] (.cls i))
def EI(C:qe fs)(K:ow 81 fg):t4 (PB.n_ fs fg):=by
 intro h w M o b d r Q i;obtain⟨S,y⟩:=eL d r;have j:nz b<=81:=by refine Uh (Bf b) ?_;rw[i.len];exact UK y y
 obtain⟨M1,n,c,B,A,D,P,J⟩:=C h w (M++[.lst []]) o b d r (aF.mono Q<|pre_app _ _) i;have L:=aB A<|b8 _ _;have N:(M++[O.lst []]).length=M.length+1:=by simp
 obtain⟨a,M2,t,E,p,F,H,G⟩:=K M1 (M++[O.lst []]).length n c h w M.length b [] [] d r D i j L (by omega) P J .nil<|by decide
 have I:=G.kp.base ((pre_app M [O.lst []]).trans A) λx u=>by simp only[T7,Ud,Ue] at u;rcases u with rfl|rfl|rfl<;>omega
 have m:∃v l,PB.n_ fs fg [.int h,.int w,o] M=.ok v l/\(v=.ref M2.length/\l=M2++[.tup [.ref M.length,a]]):=by
  refine bJ rfl ?_;show(au _ _ [aa<|.int h,aa<|.int w,aa o,ae,ae] M).Sat _;refine aD<|bA (show bb [] M=_ from bT<|by decide) ?_;simp only[T_,T9];refine aD<|bA (v:=a) (M1:=M2) ?_ ?_
  ·simp only[av,ak,aq,aj,R.bind,Uo,Uj,B,H]
  simp only[T_];exact aV (kH rfl rfl) ⟨rfl,rfl⟩
 obtain⟨v,l,e,rfl,rfl⟩:=m;have q:=pre_app M2 [O.tup [W.ref M.length,a]];refine⟨_,_,.ref M.length,a,t,p,F,e,I.trans q,aI.new _ _,(cQ.le (J_ _ _) G.tr).mono q,?_,by simpa using G.le,G.Cn,G.pm,G.lt,λz=>by simpa using G.lf z,G.sz,λz=>G.tw z<|by decide⟩;have s:=G.fs;rw[UJ] at s;exact⟨E,⟨_,rfl,aB q G.fd⟩,s.imp λw f ⟨k,e,_,g,_⟩=>⟨k,e,aB q g⟩⟩
end LV
namespace K5
open VM
noncomputable abbrev kC:=PB.kC
noncomputable abbrev ku:=PB.ku
noncomputable abbrev kD:=PB.kD
noncomputable abbrev nU:=PB.nU
noncomputable abbrev lK:=PB.lK
noncomputable abbrev lV:=PB.lV
noncomputable abbrev lT:=PB.lT
noncomputable abbrev lI:=PB.lI
noncomputable abbrev lW:=PB.lW
noncomputable abbrev nI:=PB.nI
noncomputable def uT(a:CM):CM:=mW [83,116,97,116,101] a
noncomputable abbrev nV:=PB.nV
noncomputable abbrev nJ:=PB.nJ
noncomputable abbrev nC:=PB.nC
noncomputable abbrev nH:=PB.nH
noncomputable abbrev nE:=PB.nE
noncomputable abbrev nM:=PB.nM
noncomputable abbrev nF:=PB.nF
noncomputable abbrev nQ:=PB.nQ
noncomputable abbrev nO:=PB.nO
noncomputable abbrev nR:=PB.nR
noncomputable abbrev nK:=PB.nK
noncomputable abbrev nS:=PB.nS
noncomputable abbrev n_:=PB.n_
noncomputable abbrev cC:=LV.cC
noncomputable abbrev iI:=LV.iI
noncomputable abbrev jL:=LV.jL
noncomputable abbrev lR:=LV.lR
noncomputable abbrev lM:=LV.lM
noncomputable abbrev lN:=LV.lN
noncomputable abbrev ky:=LV.ky
noncomputable abbrev jI:=LV.jI
noncomputable abbrev lS:=LV.lS
noncomputable abbrev jO:=LV.jO
noncomputable abbrev fk:=LV.fk
noncomputable abbrev fm:=LV.fm
noncomputable abbrev kx:=LV.kx
noncomputable abbrev lU:=LV.lU
noncomputable abbrev lO:=LV.lO
noncomputable abbrev jH:=LV.jH
noncomputable abbrev lP:=LV.lP
noncomputable abbrev iC:=LV.iC
noncomputable abbrev i8:=LV.i8
noncomputable abbrev lL:=LV.lL
noncomputable abbrev lX:=LV.lX
noncomputable abbrev lQ:=LV.lQ
noncomputable abbrev pJ:=LV.pJ
noncomputable def tR(b a:CM):CM:=fn 1 1 (
 au (
  aM (tB<|ao fV (av aZ<|ak (aj 0) aq)<|eC<|.int 63) (
   aK (ao ax (aR (ak (bI (ak (eC (.int 2)) (ak (eC (.int 3)) aq))) (ak (bI (ak (eC (.int 3)) (ak (eC (.int 2)) aq))) (ak (bI (ak (eC (.int 3)) (ak (eC (.int 3)) aq))) (ak (bI (ak (eC (.int 2)) (ak (eC (.int 2)) aq))) aq))))) (ao oMod (av b (ak (aj 0) (ak (eC (.int 0)) aq))) (eC (.int 4))))) (
   aO)) (
 au (
  aM (tB<|ao oEq (ao oMod (av rn<|ak (iu (aj 0) j3<|gg<|eC<|.int 1) aq)<|eC<|.int 32)<|eC<|.int 9) (
   aK (ao ax (aR (ak (bI (ak (eC (.int 2)) (ak (eC (.int 3)) aq))) (ak (bI (ak (eC (.int 3)) (ak (eC (.int 2)) aq))) aq))) (ao oMod (ao oDiv (av b (ak (aj 0) (ak (eC (.int 0)) aq))) (eC (.int 32))) (eC (.int 2))))) (
   aO)) (
 aK (av a (ak (av b (ak (aj 0) (ak (eC (.int 0)) aq))) aq)))))
noncomputable abbrev pP:=LV.pP
noncomputable def Bi(k b i e d h g a c f j:CM):CM:=fn 1 14 (
 au (
  aN (av f (ak (aj 0) aq)) (dd [az 1,az 2])) (
 au (
  aN (ao bL (aj 1) (aj 2)) (az 3)) (
 au (
  aN (av e (ak (aj 1) (ak (aj 2) aq))) (az 4)) (
 au (
  aN (av d (ak (aj 1) (ak (aj 2) (ak (av b (ak (aj 0) (ak (eC (.int 1)) aq))) aq)))) (az 5)) (
 au (
  aN (ao oMod (av b (ak (aj 0) (ak (eC (.int 2)) aq))) (ao ax (aR (ak (eC (.int 7)) (ak (eC (.int 4)) (ak (eC (.int 3)) aq)))) (ao bG (av iT (ak (ao fV (aj 3) (eC (.int 3))) aq)) (av iT (ak (ao fV (aj 3) (eC (.int 4))) aq))))) (az 6)) (
 au (
  aN (av h (ak (aj 5) (ak (iu (aj 0) (gg (eC (.int 3))) (gg (eC (.int 19)))) (ak (aj 6) aq)))) (az 7)) (
 au (
  aM (fP (tB<|ao oEq (aj 3)<|eC<|.int 9)<|tB<|ao oEq (ao oMod (ao oDiv (av b<|ak (aj 0)<|ak (eC<|.int 2) aq)<|eC<|.int 3)<|eC<|.int 2)<|eC<|.int 1) (
   aN (av j (ak (aj 7) (ak (ao oDiv (av b (ak (aj 0) (ak (eC (.int 2)) aq))) (eC (.int 6))) aq))) (az 7)) (
   aO)) (
 au (
  aN (av b (ak (aj 0) (ak (eC (.int 19)) aq))) (az 8)) (
 au (
  aN (ao oMod (ao oDiv (aj 8) (eC (.int 5))) (av aZ (ak (aj 7) aq))) (az 9)) (
 au (
  aM (fP (tB<|ao oLt (ao oMod (aj 8)<|eC<|.int 5)<|eC<|.int 2)<|tB<|ao oEq (ao ax (aj 7)<|aj 9)<|eC<|.int 0) (
   aN (ao bG (eC (.int 1)) (ao oMod (av b (ak (aj 0) (ak (eC (.int 21)) aq))) (aj 3))) (eE (aj 7) (aj 9))) (
   aO)) (
 au (
  aN (av gh (ak (aj 7) aq)) (az 10)) (
 au (
  aN (av k (ak (aj 1) (ak (aj 2) (ak (aj 10) aq)))) (az 11)) (
 au (
  aM (bg (bB<|tB<|av i<|ak (aj 10)<|ak (aj 7) aq)<|bg (bB<|tB<|bt [.tuple]<|aj 11)<|tB<|ao bp (av aZ<|ak (aj 11) aq)<|eC<|.int 2) (
   aK (eC (.bl ag))) (
   aO)) (
 au (
  aM (bg (bB<|tB<|bt [.list]<|ao ax (aj 11)<|eC<|.int 0)<|tB<|ao fV (av aZ<|ak (ao ax (aj 11)<|eC<|.int 0) aq)<|eC<|.int 2) (
   aK (eC (.bl ag))) (
   aO)) (
 au (
  aN (av c (ak (aj 4) (ak (aj 7) (ak (ao ax (aj 11) (eC (.int 1))) (ak (aj 3) aq))))) (az 12)) (
 au (
  aM (bg (tB<|jk<|aj 12)<|bB<|tB<|ao ax (aj 12)<|eC<|.int 2) (
   aK (eC (.bl ag))) (
   aO)) (
 au (
  aM (bB<|tB<|av g<|ak (aj 4)<|ak (aj 7)<|ak (aj 3) aq) (
   aK (eZ (ao oEq (ao ax (aj 11) (eC (.int 0))) (aR (aq))) (eZ (ao oEq (ao ax (aj 12) (eC (.int 0))) (aR (ak (eC (.str [99,108,97,115,104])) aq))) (ao oEq (ao ax (ao ax (aj 11) (eC (.int 1))) (eC (.int 0))) (aR (aq)))))) (
   aO)) (
 au (
  aM (bB<|tB<|av i<|ak (av mr<|ak (ao ax (aj 11)<|eC<|.int 0) aq)<|ak (av mr<|ak (ao ax (aj 12)<|eC<|.int 1) aq) aq) (
   aK (eC (.bl ag))) (
   aO)) (
 au (
  bz (a9<|ao ax (aj 11)<|eC<|.int 0) (az 13) (
   aM (bg (tB<|ao bp (av aZ<|ak (aj 13) aq)<|av aZ<|ak (aj 7) aq)<|bB<|tB<|av a<|ak (aj 4)<|ak (aj 7)<|ak (aj 13)<|ak (aj 3) aq) (
    aK (eC (.bl ag))) (
    aO))) (
 au (
  aM (fP (tB<|ao dP (eC<|.str [108,101,102,116])<|ao ax (aj 12)<|eC<|.int 0)<|tB<|ao oLt (av aZ<|ak (ao ax (aj 11)<|eC<|.int 0) aq)<|eC<|.int 2) (
   aK (eC (.bl ag))) (
   aO)) (
 au (
  aM (fP (tB<|ao oEq (av aZ<|ak (ao ax (aj 11)<|eC<|.int 0) aq)<|eC<|.int 2)<|tB<|ao oEq (ao ax (ao ax (aj 11)<|eC<|.int 0)<|eC<|.int 0)<|ao ax (ao ax (aj 11)<|eC<|.int 0)<|eC<|.int 1) (
   aK (eC (.bl ag))) (
   aO)) (
 au (
  aM (bB<|tB<|av a<|ak (aj 4)<|ak (aj 7)<|ak (aj 5)<|ak (aj 3) aq) (
   aK (eC (.bl af))) (
   aO)) (
 aK (eZ (ao bp (ao ax (aj 11) (eC (.int 0))) (aR (aq))) (rL (ao oEq (av aZ (ak (ao ax (aj 11) (eC (.int 0))) aq)) (eC (.int 2))) (ao oEq (ao ax (ao ax (aj 11) (eC (.int 0))) (eC (.int 0))) (aj 5)))))))))))))))))))))))))))
noncomputable def tab(c:CE):CE
 |0=>kC
 |1=>ku
 |2=>kD
 |3=>nU (c 0) (c 1)<|c 2
 |4=>lK
 |5=>lV
 |6=>lT (c 3) (c 4)<|c 7
 |7=>lI<|c 5
 |8=>lW<|c 5
 |9=>nI (c 8)<|c 10
 |10=>uT<|c 6
 |11=>nV
 |12=>nJ
 |13=>nC
 |14=>nH
 |15=>nE (c 13)<|c 14
 |16=>nM<|c 15
 |17=>nF (c 12)<|c 15
 |18=>nQ<|c 11
 |19=>nO (c 16)<|c 17
 |20=>nR (c 8) (c 17) (c 18)<|c 19
 |21=>nK
 |22=>nS (c 9) (c 20) (c 21)<|c 22
 |23=>n_ (c 10)<|c 22
 |24=>cC
 |25=>iI
 |26=>jL<|c 24
 |27=>lR
 |28=>lM
 |29=>lN
 |30=>ky
 |31=>jI
 |32=>lS<|c 31
 |33=>jO
 |34=>fk
 |35=>fm
 |36=>kx (c 34)<|c 35
 |37=>lU (c 34)<|c 35
 |38=>lO (c 34)<|c 35
 |39=>jH<|c 24
 |40=>lP<|c 39
 |41=>iC<|c 24
 |42=>i8
 |43=>lL<|c 42
 |44=>lX (c 24)<|c 41
 |45=>lQ<|c 37
 |46=>pJ (c 32) (c 33) (c 36) (c 38) (c 40) (c 44)<|c 45
 |47=>tR (c 25)<|c 27
 |48=>pP
 |49=>Bi (c 23) (c 25) (c 26) (c 28) (c 29) (c 30) (c 42) (c 43) (c 46) (c 47)<|c 48
 |_=>λ_ _=>.bad
end K5
namespace LV
open VM
def F5(h:m<=n):i7 m<=i7 n:=by
 induction h with
 |refl=>exact Uc _
 |step _ a=>exact Uh a<|Nat.le_mul_of_pos_left _<|Wm _
noncomputable def rp(i:Int):Bool:=ai (i<16)||ai (i % 7<2)
noncomputable def wV(h w:Nat):Nat->Nat
 |0=>1
 |c+1=>wV h w c*i7 ((lr h w c).countP rp)
def LY(b:1<=h/\h<=3)(f:1<=w/\w<=3)(l:h*w<=6)(g:∀j:Nat,j<h*w*(h*w)->aw ss j=0->rp j=af):2*wt h w ss<=15000000:=by
 have a:∀c,c<=h*w->jz h w ss c<=wV h w c:=by
  intro c;induction c with
  |zero=>intro _;exact Uc _
  |succ c m=>
   intro n;refine UK (m<|by omega)<|F5<|X0 λi k z=>?_
   obtain⟨d,o⟩:=(i6 b f).iw _ (qR<|by omega) i k;have:=g i.toNat (by omega) (by rw[WN d];exact UM z)
   rwa [WN d] at this
 have e:wV h w (h*w)<=7500000:=by rcases h3 b with rfl|rfl|rfl<;>rcases h3 f with rfl|rfl|rfl<;>first|(exfalso;revert l;decide)|decide+kernel
 have:=a _<|Uc _;unfold wt;omega
mutual
theorem Ah{G:List (List Int)}{s:Nat}:∀(t:Tr) (ss:List Int) (w:cB),dG G s ss t=aa w->w.words.all VM.flat=af
 |.mk a e,ss,w,hw=>by
  rw[jf] at hw;cases c:cJ G s ss a with
  |none=>rw[c] at hw;cases hw
  |some b=>
   rw[c] at hw;dsimp only at hw;split at hw
   ·exact HQ e b w hw
   ·cases hw
theorem HQ{G:List (List Int)}{s:Nat}:∀(e:En) (ss:List Int) (w:cB),dH G s ss e=aa w->w.words.all VM.flat=af
 |.full,ss,w,hw=>by unfold dH at hw;cases hw;rfl
 |.left,ss,w,hw=>by unfold dH at hw;cases hw;rfl
 |.cls _,ss,w,hw=>by unfold dH at hw;cases hw;rfl
 |.dF p bs,ss,w,hw=>by
  unfold dH at hw;cases a:du G s ss p bs with
  |none=>rw[a] at hw;cases hw
  |some u=>rw[a] at hw;cases hw;exact Ai bs ss p u a
theorem Ai{G:List (List Int)}{s:Nat}:∀(b:Bs) (ss:List Int) (p:Int) (w:cB),du G s ss p b=aa w->w.words.all VM.flat=af
 |.nil,ss,p,w,hw=>by unfold du at hw;cases hw;rfl
 |.cons n t r,ss,p,w,hw=>by
  unfold du at hw;cases c:du G s ss p r with
  |none=>rw[c] at hw;cases hw
  |some a=>
   cases d:dG G s (ss.set p.toNat n) t with
   |none=>rw[c,d] at hw;cases hw
   |some b=>rw[c,d] at hw;cases hw;show(a.words++b.words).all VM.flat=af;rw[Xc,Ai r ss p a c,Ah t _ b d];rfl
end
theorem zg:∀{a b:List Int},ltI a b=af->ltI b a=ag
 |[],_::_,_=>rfl
 |x::xs,y::c,h=>by
  unfold ltI at h⊢;by_cases e:x=y
  ·rw[T5 e] at h;rw[T5 e.symm];exact zg h
  ·rw[T6 e] at h;rw[T6<|Uz e];have:=UM h;exact Uy<|by omega
theorem Aj:∀{a b:List Int},ltI a b=ag->ltI b a=ag->a=b
 |[],[],_,_=>rfl
 |x::xs,y::d,h,c=>by
  unfold ltI at h c;by_cases e:x=y
  ·rw[T5 e] at h;rw[T5 e.symm] at c;rw[e,Aj h c]
  ·rw[T6 e] at h;rw[T6<|Uz e] at c;have:=Vz h;have:=Vz c;omega
noncomputable def jB:List (List Int)->List (List Int)
 |[a,b]=>if ltI b a then[b,a] else[a,b]
 |l=>l
def HR(a b):jB [a,b]=jB [b,a]:=by
 show(if ltI b a then[b,a] else[a,b])=if ltI a b then[a,b] else[b,a]
 cases h:ltI b a with
 |true=>rw[zg h];rfl
 |false=>
  cases c:ltI a b with
  |true=>rfl
  |false=>rw[Aj h c]
def F6(h:l.Perm m)(g:m.length<=2):jB l=jB m:=by
 have e:=h.length_eq;match m,g with
 |[],_=>rw[h.eq_nil]
 |[a],_=>rw[h.eq_singleton]
 |[a,b],_=>
  match l,e with
  |[c,d],_=>
   have f:c∈[a,b]:=h.subset<|by simp
   simp only[T7,Ud,Ue] at f;rcases f with rfl|rfl
   ·rw[(List.perm_cons _).mp h |>.eq_singleton]
   ·have i:=h.trans (List.Perm.swap _ _ _);rw[(List.perm_cons _).mp i |>.eq_singleton];exact HR _ _
def HS(h:l.length<=2):(jB l).length<=2/\∀x∈jB l,x∈l:=by
 match l,h with
 |[],_=>exact⟨by decide,λx h=>h⟩
 |[a],_=>exact⟨by simp[jB],λx h=>h⟩
 |[a,b],_=>
  show(if ltI b a then[b,a] else[a,b]).length<=2/\∀x∈(if ltI b a then[b,a] else[a,b]),x∈[a,b];split
  ·exact⟨by simp,λx h=>by simp at h⊢;exact h.symm⟩
  ·exact⟨by simp,λx h=>h⟩
def Ak(h:aX M v xs):gO M v=aa xs:=by unfold gO;rw[aF.a8 h];exact xJ xs
def yA(h:LL M v F)(k:F.length<=2):∃r b,mr [v] M=.ok r b/\M<+:b/\LL b r (jB F):=by
 obtain⟨n,⟨a,rfl,m⟩,c⟩:=h;have i:=gA m;unfold mr;have mk:∀{d:List W} {X:List (List Int)},d.length<=100->a_ (λw l=>aX M w l) d X->∃r b,bb d M=.ok r b/\M<+:b/\LL b r X:=λ{d X} hu hX=>⟨_,_,bT<|by omega,pre_app _ _,d,aF.new _ _,a_.imp (λx y z=>aF.mono z<|pre_app _ _) hX⟩
 cases c with
 |nil=>simp only[i];exact mk (by decide) .nil
 |cons e c=>
  cases c with
  |nil=>simp only[i];exact mk (by simp)<|.cons e .nil
  |cons j c=>
   cases c with
   |nil=>
    rename_i _ f _ g
    simp only[i,Ak e,Ak j];show∃r b,bb (if ltI g f then _ else _) M=.ok r b/\M<+:b/\LL b r (if ltI g f then[g,f] else[f,g]);split
    ·exact mk (by simp)<|.cons j<|.cons e .nil
    ·exact mk (by simp)<|.cons e<|.cons j .nil
   |cons _ _=>simp at k
def Wk.ll:∀{F:List (List Int)} {xs ys:List W},a_ (λw c=>aX M w c) xs F->a_ (λw c=>aX M w c) ys F->(∀f∈F,f.length<=81)->∀{ls rs:List W} {n:Nat},Wk M ls rs n->∃m,m<=n+82*F.length/\Wk M (ls++xs) (rs++ys) m:=by
 intro F;induction F with
 |nil=>intro xs ys a b _ ls rs n h;cases a;cases b;exact⟨n,by simp,by simpa using h⟩
 |cons f F o=>
  intro xs ys a b d ls rs n h;cases a with
  |cons e a=>
   cases b with
   |cons j b=>obtain⟨p,rfl,k⟩:=e;obtain⟨q,rfl,g⟩:=j;obtain⟨m,r,l⟩:=o a b (λf i=>d f<|Ut _ i)<|Wk.seq k g rfl<|Wk.A_ h _<|l7 f;refine⟨m,?_,by simpa using l⟩;have:=d f<|UE ..;rw[Ua] at r;rw[UO];omega
def HU(M)(a b)(F)(k:LL M a F)(j:LL M b F)(n:F.length<=100)(c:∀f∈F,f.length<=81):∃g,jL cC [a,b] M=.ok (.bl af) g/\M<+:g:=by obtain⟨r,⟨p,rfl,l⟩,e⟩:=k;obtain⟨o,⟨q,rfl,h⟩,d⟩:=j;obtain⟨m,s,i⟩:=Wk.ll e d c Wk.nil;exact zP M _ _ (m+1) (Wk.seq l h (e.len.trans d.len.symm) i)<|by omega
def EJ:yd 6 (K5.tR iI lR):=by
 intro M b n t;refine bJ rfl ?_;show(au _ _ [aa<|.ref 0] M).Sat _;refine aD<|aJ (c:=ag) (M1:=M) ?_ (λz=>nomatch z) λ_=>?_
 ·walk_at "ev"
  have e:ai ((63:Int)<(b.length:Int))=ag:=Uy<|by omega
  simp only[n.len,gt_int,e]
 refine bf ?_;dsimp only;have l:=n.cut t ae<|aa 1;have L:=aF.new M<|(VM.cut b ae<|aa 1).map .int;generalize D:M++[O.lst<|(VM.cut b ae<|aa 1).map .int]=N at l L;have m:M<+:N:=by rw[<-D];exact pre_app _ _
 refine aD<|aJ (c:=ai<|(VM.cut b ae<|aa 1).sum % 32=9) (M1:=N) ?_ (λl=>?_) λl=>?_
 ·have F:=dX (M:=N) (i:=(VM.cut b ae<|aa 1).sum) (j:=32) (by decide);have f:rn [.ref M.length] N=.ok (.int (VM.cut b ae<|aa 1).sum) N:=by unfold rn;simp only[L.a8,Option.bind,xJ]
  walk_at "ev"
  simp only[iu,j3,gg,R.bind,l,f,F,eq_int,aj,eC,Uj]
 ·obtain⟨d,M1,p,o,a⟩:=vk [aa<|.ref 0] [(2,3),(3,2)] N;have g:=a.len;have B:bb d M1=.ok (.ref M1.length) (M1++[.lst d]):=bT (by simp at g;omega);have A:=aF.new M1 d;generalize q:M1++[O.lst d]=M2 at B A;have k:M1<+:M2:=by rw[<-q];exact pre_app _ _
  obtain⟨c,s,J,u⟩:=mH b M2 0 (n.mono<|m.trans<|o.trans k) t;have H:=fL (M:=s) (i:=c) (j:=32) (by decide)<|by decide
  have C:=dX (M:=s) (i:=c / 32) (j:=2)<|by decide
  have Q:0<=c / 32 % 2/\c / 32 % 2<2:=by omega
  generalize c / 32 % 2=i at C Q;obtain⟨x,y,rfl⟩:∃x y,d=[x,y]:=by
   match d,g with
   |[x,y],_=>exact⟨x,y,rfl⟩
  cases a with
  |cons G a=>
   cases a with
   |cons T _=>
    have P:i=0\/i=1:=by omega
    have K:∃v,cA [x,y] i=aa v/\∃h w:Nat,aI M1 v [.int h,.int w]/\(1<=h/\h<=3)/\(1<=w/\w<=3)/\h*w<=6:=by
     rcases P with rfl|rfl
     ·exact⟨x,rfl,2,3,G,by decide,by decide,by decide⟩
     ·exact⟨y,rfl,3,2,T,by decide,by decide,by decide⟩
    obtain⟨v,S,h,w,E,r⟩:=K;refine aV ?_ ⟨m.trans<|o.trans<|k.trans u,h,w,E.mono<|k.trans u,r⟩;show ao ax (aR<|pj [(2,3),(3,2)]) _ [aa<|.ref 0] N=_;refine aP (y:=.int i) (M2:=s) (by unfold aR;rw[p];exact B) ?_ ?_
    ·simp only[ao,R.bind,av,ak,aq,aj,eC,Uj,Ux,Vo,VA,J,H,C]
    ·simp only[ax,(A.mono u).bu,S]
 ·refine bf ?_;obtain⟨c,M1,p,o⟩:=mH b N 0 (n.mono m) t;obtain⟨v,M2,I,k,r⟩:=Dl c M1;refine aV ?_ ⟨m.trans<|o.trans k,r⟩
  walk_at "ev"
  simp only[p,I]
def iJ(i)(h:aI M v [a,b])(c:aj i σ=λM=>.ok v M):ao ax (aj i) (eC<|.int 0) σ M=.ok a M/\ao ax (aj i) (eC<|.int 1) σ M=.ok b M:=
 ⟨aP (by rw[c]) rfl<|dm h 0 rfl,aP (by rw[c]) rfl<|dm h 1 rfl⟩
def Bj(e:a σ M=.ok x M)(g:b σ M=.ok y M)(d:c σ M=.ok z M)(h:f [x,y,z] M=r):av f (ak a<|ak b<|ak c aq) σ M=r:=by simp only[av,ak,aq,R.bind,e,g,d,h]
def vr(b:a σ M=.ok x M)(h:f [x] M=r):av f (ak a aq) σ M=r:=by simp only[av,ak,aq,R.bind,b,h]
def call2(d:a σ M=.ok x M)(c:b σ M=.ok y M)(h:f [x,y] M=r):av f (ak a<|ak b aq) σ M=r:=by simp only[av,ak,aq,R.bind,d,c,h]
def oG(d:a σ M=.ok ag M1)(c:b σ M1=r):bg a b σ M=r:=by unfold bg;rw[d];exact c
def HV(he:e σ M=.ok v M1)(h:aF M1 v ws):tB (bt [.list] e) σ M=.ok af M1:=by obtain⟨a,rfl,b⟩:=h;refine aU ?_;unfold bt;rw[he];simp only[R.bind,cW,cD,b];rfl
def zh(he:e σ M=.ok v M1)(h:aF M1 v ws):av aZ (ak e aq) σ M=.ok (.int ws.length) M1:=by simp only[av,ak,aq,R.bind,he,aZ,h.bu]
def eq_nil(he:e σ M=.ok v M1)(h:aF M1 v ws):∃M2,M1<+:M2/\ao oEq e (aR aq) σ M=.ok (.bl<|ai<|ws.length=0) M2/\ao bp e (aR aq) σ M=.ok (.bl<|!ai (ws.length=0)) M2:=by
 have n:aR aq σ M1=.ok (.ref M1.length) (M1++[.lst []]):=rfl;have b:dt (M1++[.lst []]) v (.ref M1.length)=aa (ai<|ws.length=0):=by
  obtain⟨a,rfl,c⟩:=h;unfold dt;rw[T6<|by simp[VM.dh],dQ<|aB (pre_app _ _) c,dQ<|b8 _ _];unfold iK;cases ws with
  |nil=>rfl
  |cons x r=>rfl
 refine⟨M1++[.lst []],pre_app _ _,aP he n ?_,aP he n ?_⟩
 ·unfold oEq;rw[b]
 ·unfold bp;rw[b]
def HW(n:1<=h/\h<=3)(o:1<=w/\w<=3)(m:fs.length=h*w*(h*w))(g:Good (h*w) fs)(j:bo (h*w) ss)(f:(jv ss fs ss.length&&bR (ar h w) fs (h*w))=af):eH (ar h w) (h*w) ss fs:=by
 rw[T'] at f;obtain⟨e,k⟩:=f;have a:∀i:Int,0<=i->i<((h*w*(h*w):Nat):Int)->aw fs i≠0/\(aw ss i=0\/aw ss i=aw fs i):=λi b c=>by
  unfold jv at e;have:=US.mp e i.toNat<|UD.mpr (by rw[j.len];omega);have l:((i.toNat:Nat):Int)=i:=by omega
  rw[l] at this;simpa using this
 exact⟨⟨m,λx d=>by have:=(g x d).1;omega,λx d=>(g x d).2⟩,λi b c=>(a i b c).1,λi b c=>(a i b c).2,k⟩
def HX(d:bo (h*w) ss)(a:eH (ar h w) (h*w) ss fs):(jv ss fs ss.length&&bR (ar h w) fs (h*w))=af:=by
 rw[T'];refine⟨US.mpr λj c=>?_,a.nt⟩;have b:=UD.mp c;rw[d.len] at b;have e:=a.nz (j) (by omega)<|by omega
 have f:=a.kp (j) (by omega)<|by omega
 simp only[T',UB,UZ,VB,U4];exact⟨e,f⟩
def Ka(h:aF M v ws)(i:Nat)(b:ws[i]? =aa x):ax v (.int i) M=.ok x M:=by
 have a:cA ws (i)=aa x:=by unfold cA cq;have c:=(Ub.mp b).1;rw[T5<|by omega,T5<|by omega];exact b
 simp only[ax,h.bu,a]
def Kb(d:a σ M=.ok x M1)(c:b σ M1=.ok y M2)(h:f [x,y] M2=r):av f (ak a<|ak b aq) σ M=r:=by simp only[av,ak,aq,R.bind,d,c,h]
def HY(h:aF M v ws)(d:ws.all VM.flat=af):∃b,dP cO v M=.ok (.bl b) M/\(b=af->cO∈ws):=by
 refine⟨i0 cO ws,?_,λz=>?_⟩
 ·unfold dP;rw[h.bu];simp only[d];rfl
 ·obtain⟨y,c,e⟩:=Ui.mp z;cases y with
  |str a=>
   have:=by simpa[eK] using e
   rw[this] at c;exact c
  |_=>simp[eK] at e
noncomputable def di(h w:Nat)(vG vf g vs:W)(e f b c a d:Option W):St:=[aa<|.ref 0,aa<|.int h,aa<|.int w,aa<|.int (h*w:Nat),aa vG,aa vf,aa g,aa vs,e,f,b,c,a,d]
structure Hand(h w:Nat)(ss:List Int):Prop where
 sh:bo (h*w) ss
 ju:∀j:Nat,j<h*w*(h*w)->aw ss j=0->rp j=af
def Hand.set(H:Hand h w ss)(i){x:Int}(d:1<=x)(c:x<=(h*w:Nat)):Hand h w (ss.set i x):=by
 refine⟨H.sh.set i (by omega) c,λj b z=>?_⟩;have a:j<ss.length:=by rw[H.sh.len];exact b
 rw[gY (by rw[Va];exact a),List.getElem_set] at z;split at z
 ·omega
 ·exact H.ju j b (by rw[gY a];exact z)
def F7{R:α->β->Prop}{l:List α}{m:List β}(A:a_ R l m)(e:m.length=2):∃x y a b,l=[x,y]/\m=[a,b]/\R x a/\R y b:=by
 cases A with
 |nil=>simp at e
 |cons h t=>
  cases t with
  |nil=>simp at e
  |cons k u=>
   cases u with
   |nil=>exact⟨_,_,_,_,rfl,rfl,h,k⟩
   |cons=>simp at e
def F8{R:α->β->Prop}{l:List α}{a:β}(A:a_ R l [a]):∃x,l=[x]/\R x a:=by
 cases A with
 |cons h t=>cases t;exact⟨_,rfl,h⟩
def HZ{F:List α}{x:α}(h:F.length<=2)(m:x∈F):F.length=2\/F=[x]:=by
 rcases F with _|⟨a,_|⟨b,r⟩⟩
 ·simp at m
 ·exact .inr<|by rw[UN.mp m]
 ·exact .inl (by simp at h⊢;omega)
def H8{f Cu:CM}(Pj:t4 f)(Pk:uG Cu)(L:List Int)(hl:L.length<=63)(M0:Mem)(wW:d_ M0 L):
 ∃v M,K5.Bi f iI (jL cC) lM lN ky i8 (lL i8) Cu (K5.tR iI lR) pP [.ref 0] M0=.ok v M/\v=.bl af:=by
 refine bJ rfl ?_;refine Hw EJ (List.replicate 8 ae) M0 L wW hl λh w n s fs M S h6=>?_
 obtain⟨s9,s1,gv⟩:=BY S.hh S.hw;have hh:=S.hh;have hw:=S.hw;obtain⟨A,M1,e1,p1,z3⟩:=FH M L (wW.mono S.pre) hl (aa<|.int h) (aa<|.int w) ((h*w:Nat):Int)<|aa n::aa s::List.replicate 8 ae;refine eW e1 ?_;have S1:=wW.mono<|S.pre.trans p1;obtain⟨N,d,e2,p2,wX,z0⟩:=Er M1 L S1 hl (aF.mono S.F p1) S.fl gv S.fg (aa<|.int h) (aa<|.int w) (aa<|.int (h*w:Nat)) (aa n) A<|List.replicate 7 ae;have H0:Hand h w d:=⟨wX,λj hj z=>by
  unfold rp;rw[VB,U4,U4];by_cases q:h*w<=4
  ·have:=UK q q;exact .inl<|by omega
  ·have:=z3 (by omega);rcases z0 j hj z with a|a
   ·exact .inl<|by omega
   ·exact .inr (by omega)⟩
 refine eW e2 ?_;show(au _ _ (di h w n s (.int A) (.ref N.length) ae ae ae ae ae ae) _).Sat _;have SN:d_ N L:=S1.mono p2;have sl:d.length=h*w*(h*w):=wX.len;have BF:0<d.length:=by rw[sl];exact V8 s1 s1
 have e9:ai (((h*w:Nat):Int)=9)=ag:=Uy<|by omega
 refine aD<|aJ (c:=ag) (M1:=N++.lst (d.map .int)::[]) ?_ (λz=>nomatch z) λ_=>bf ?_
 ·unfold fP;rw[aU (b:=ag)<|aP (x:=.int (h*w:Nat)) (y:=.int 9) rfl rfl<|by rw[eq_int,e9]];rfl
 dsimp only;obtain⟨c,M3,e3,p3⟩:=mH L (N++.lst (d.map .int)::[]) 19 (SN.mono<|jP _ _ _) hl;obtain⟨J,rfl⟩:=xO p3;refine eW (v:=.int c) (M1:=N++.lst (d.map .int)::J) (by unfold di;walk_at "ev";exact e3) ?_;show(au _ _ (di h w n s (.int A) (.ref N.length) (aa<|.int c) ae ae ae ae ae) _).Sat _;have LS:aX (N++.lst (d.map .int)::J) (.ref N.length) d:=⟨_,rfl,f_ _ _ _⟩;have d4:=fL (M:=N++.lst (d.map .int)::J) (i:=c) (j:=5) (by decide)<|by decide
 have m4:=dX (M:=N++.lst (d.map .int)::J) (i:=c / 5) (j:=(d.length:Int))<|by omega
 refine eW (v:=.int (c / 5 % (d.length:Int))) (M1:=N++.lst (d.map .int)::J) (by unfold di;walk_at "ev";simp only[d4,je LS,m4]) ?_;obtain⟨Y,r0⟩:=zU (c / 5) BF;generalize c / 5 % (d.length:Int)=fA at Y r0;show(au _ _ (di h w n s (.int A) (.ref N.length) (aa<|.int c) (aa<|.int fA) ae ae ae ae) _).Sat _;refine aD<|RS.Sat.mono (q:={nx:=λσ C=>∃ts J',σ=di h w n s (.int A) (.ref N.length) (aa<|.int c) (aa<|.int fA) ae ae ae ae/\C=N++.lst (ts.map .int)::J'/\Hand h w ts,rt:=λ_ _=>False}) ?_ (λσ C hI=>?_) (λ_ _ z=>z.elim) (λ_ _ z=>z.elim)<|λ_ _ z=>z.elim
 ·have m5:=dX (M:=N++.lst (d.map .int)::J) (i:=c) (j:=5) (by decide);have i5:=er LS Y r0;refine aJ (c:=ai (c % 5<2)&&ai (aw d fA=0)) (M1:=N++.lst (d.map .int)::J) ?_ (λ_=>?_) λ_=>⟨d,J,rfl,rfl,H0⟩
  ·unfold di
   walk_at "ev"
   simp only[m5,i5,eq_int,lt_int];cases ai (c % 5<2)<;>simp
  ·obtain⟨c6,M6,e6,p6⟩:=mH L (N++.lst (d.map .int)::J) 21 (SN.mono<|jP _ _ _) hl;obtain⟨J6,rfl⟩:=xO p6;have m6:=dX (M:=N++.lst (d.map .int)::J6) (i:=c6) (j:=((h*w:Nat):Int))<|by omega
   obtain⟨k0,k1⟩:=zU c6 s1;refine jN (v:=.int (1+c6 % ((h*w:Nat):Int))) (M1:=N++.lst (d.map .int)::J6) (by unfold di;walk_at "ev";simp only[e6,m6]) (JR rfl rfl Y r0) ?_;exact⟨_,J6,rfl,rfl,H0.set _ (by omega)<|by omega⟩
 obtain⟨l,J1,rfl,rfl,H⟩:=hI;dsimp only;have R:=H.sh;have f6:aX (N++.lst (l.map .int)::J1) (.ref N.length) l:=⟨_,rfl,f_ _ _ _⟩;have P6:M<+:N++.lst (l.map .int)::J1:=p1.trans<|p2.trans<|jP _ _ _;clear e1 e2 e3 p1 p2 p3 LS sl BF Y r0 SN S1 H0 wX z0 d4 m4;generalize N++O.lst (l.map .int)::J1=M6 at P6 f6;generalize W.ref N.length=vs at f6;have hG:=S.G.mono P6;have hF:=aF.mono S.F P6;have Pl:l.length<=81:=by rw[R.len];exact gv
 have eM:∀g∈ar h w,g.length<=9/\∀i∈g,0<=i/\i<(l.length:Int):=by rw[R.len];exact hJ hh hw
 have Pm:(ar h w).length<=27:=by rw[FJ];omega
 have n7:=og f6<|by omega
 refine eW (v:=.ref M6.length) (M1:=M6++[.lst<|l.map .int]) (vr rfl n7) ?_;have f7:aX (M6++[.lst<|l.map .int]) (.ref M6.length) l:=aF.new _ _;have p7:M6<+:M6++[.lst<|l.map .int]:=pre_app _ _;generalize M6++[O.lst<|l.map .int]=M7 at f7 p7;generalize W.ref M6.length=vh at f7;obtain⟨P,M8,vF,vt,t,F,wk,e8,p8,t8,Cv,l8,V,X,K,Pn,Cw,Po,Cy⟩:=Pj h w M7 vh l hh hw f7 R;show(au _ _ (di h w n s (.int A) vs (aa<|.int c) (aa<|.int fA) (aa vh) ae ae ae) M7).Sat _;refine eW (v:=P) (M1:=M8) (Bj rfl rfl rfl e8) ?_;show(au _ _ (di h w n s (.int A) vs (aa<|.int c) (aa<|.int fA) (aa vh) (aa P) ae ae) M8).Sat _;have P8:=p7.trans p8;obtain⟨M9,Pp,p9⟩:=same_ints M8 vh vs l (aF.mono f7 p8) (aF.mono f6 P8) Pl;have t9:=t8.mono p9;refine aD<|aJ (c:=ag) (M1:=M9) (oG (c_<|aU (b:=af)<|call2 rfl rfl Pp)<|oG (c_<|is_tup t9 11 rfl)<|aU (b:=ag) ?_) (λz=>nomatch z) λ_=>bf ?_
 ·exact aP (iE t9 11 rfl) rfl ne_int
 dsimp only;have F9:=l8.mono p9;obtain⟨ws,Lw,hA⟩:=id F9;have wl:ws.length=F.length:=hA.len;refine aD<|aJ (c:=ag) (M1:=M9) (oG (c_<|HV (iJ 11 t9 rfl).1 Lw)<|aU<|aP (zh (iJ 11 t9 rfl).1 Lw) rfl<|by rw[gt_int,Uy<|by omega]) (λz=>nomatch z) λ_=>bf ?_
 dsimp only;have P9:=P8.trans p9;have hsz:dq t<=15000000:=by
  cases hn:bR (ar h w) l (h*w) with
  |true=>have a:=Po hn;have b:=LY hh hw h6 H.ju;omega
  |false=>obtain⟨cl,rfl⟩:=Cy hn;show 1+0<=15000000;decide
 obtain⟨r,r4,wJ,E,Cz⟩:=Pk M9 n vs vt (h*w) (h*w*(h*w)) (ar h w) l t (hG.mono P9) (aF.mono f6 P9) (Cv.mono p9) R rfl (by rw[<-R.len];exact eM) s9 Pm hsz;rw[X] at Cz;obtain⟨vw,vl,Z,BG,Nk⟩:=Cz;refine eW (v:=r) (M1:=r4) (mJ rfl rfl (iJ 11 t9 rfl).2 rfl wJ) ?_;show(au _ _ (di h w n s (.int A) vs (aa<|.int c) (aa<|.int fA) (aa vh) (aa P) (aa r) ae) r4).Sat _;rw[Pn] at Z;refine aD<|aJ (c:=ag) (M1:=r4) (oG (aU (b:=ag) ?_)<|c_<|aU (b:=af)<|aP (x:=r) (y:=.int 2) rfl rfl<|dm Z 2 rfl) (λz=>nomatch z) λ_=>bf ?_
 ·obtain⟨a,rfl,ha⟩:=Z;rfl
 dsimp only;have wY:=P9.trans E;obtain⟨Pq,Pr,B⟩:=zM r4 n vs (ar h w) l (h*w) (hG.mono wY) (aF.mono f6 wY) eM s9;have r6:=t9.mono<|E.trans B;have wZ:=Z.mono B;have Pu:=aF.mono Lw<|E.trans B;refine aD<|aJ (c:=!bR (ar h w) l (h*w)) (M1:=Pq) (c_<|aU<|Bj rfl rfl rfl Pr) (λhc=>?_) λhc=>bf ?_
 ·
  rw[UB] at hc;obtain⟨cl,rfl⟩:=Cy hc;have ew:wk=⟨[gE],[],af⟩:=by
   rw[jf] at X;have hr:cJ (ar h w) (h*w) l []=aa l:=by unfold cJ;rfl
   rw[hr] at X;dsimp only at X;split at X
   ·unfold dH at X;cases X;rfl
   ·cases X
  subst ew;have eF:ws.length=0:=by rw[wl,<-K.length_eq];rfl
  obtain⟨sa,sb,ta,⟨us,La,hu⟩,_⟩:=Cv.mono<|p9.trans<|E.trans B;cases hu;obtain⟨o,m,CA,_⟩:=eq_nil (iJ (σ:=di h w n s (.int A) vs (aa<|.int c) (aa<|.int fA) (aa vh) (aa P) (aa r) ae) 11 r6 rfl).1 Pu;rw[eF] at CA;have Pw:aR (ak (eC gE) aq) (di h w n s (.int A) vs (aa<|.int c) (aa<|.int fA) (aa vh) (aa P) (aa r) ae) o=.ok (.ref o.length) (o++[.lst [gE]]):=rfl;have Px:oEq vw (.ref o.length) (o++[.lst [gE]])=.ok (.bl af) (o++[.lst [gE]]):=by obtain⟨a,rfl,ha⟩:=aF.mono BG<|B.trans m;unfold oEq dt;rw[T6<|by simp[VM.dh],dQ<|aB (pre_app _ _) ha,dQ<|b8 _ _];rfl
  have u:o<+:o++[.lst [gE]]:=pre_app _ _;obtain⟨T,r8,r9,_⟩:=eq_nil (aP (iJ (σ:=di h w n s (.int A) vs (aa<|.int c) (aa<|.int fA) (aa vh) (aa P) (aa r) ae) 11 (r6.mono<|m.trans u) rfl).2 (b:=eC<|.int 0) (y:=.int 0) rfl<|dm (ta.mono<|m.trans u) 0 rfl)<|La.mono<|m.trans u;exact aV (v:=.bl af) (M1:=T) (nY CA<|nY (aP (aP (x:=r) (y:=.int 0) rfl rfl<|dm (wZ.mono m) 0 rfl) Pw Px) r9) rfl
 rw[Vd] at hc;dsimp only;obtain⟨good,Py⟩:=z_ (i6 hh hw) t l wk R hc X;have U:∀f∈F,eH (ar h w) (h*w) l f:=λf hf=>good f<|K.mem_iff.mpr hf
 have CB:F.Nodup:=K.nodup_iff.mp Py;have Pz:∀f∈F,f.length<=81:=λf hf=>by rw[(U f hf).sh.len];exact gv
 obtain⟨u1,o,CC,m,CD⟩:=yA (l8.mono<|p9.trans<|E.trans B) V;obtain⟨u2,PD,CF,u,w4⟩:=yA (Nk.mono<|B.trans m) (by rw[K.length_eq];exact V);rw[F6 K V] at w4;obtain⟨SQ,CG⟩:=HS V;obtain⟨T,CH,r8⟩:=HU PD u1 u2 (jB F) (CD.mono u) w4 (by omega) λf hf=>Pz f<|CG f hf
 refine aD<|aJ (c:=ag) (M1:=T) (c_<|aU (b:=af)<|Kb (vr (iJ 11 r6 rfl).1 CC) (vr (aP (x:=r) (y:=.int 1) rfl rfl<|dm (wZ.mono m) 1 rfl) CF) CH) (λz=>nomatch z) λ_=>bf ?_
 dsimp only;have I:=B.trans<|m.trans<|u.trans r8;have w5:=r6.mono<|m.trans<|u.trans r8;have CI:=wZ.mono<|m.trans<|u.trans r8;have Q:=wY.trans I;have w6:a_ (λw L=>aX T w L) ws F:=a_.imp (λ_ _ z=>aF.mono z<|E.trans I) hA;have r_:=aF.mono Lw<|E.trans I;have CJ:=aF.mono BG I;refine aD<|dS (k:=13) (iJ 11 w5 rfl).1 r_ (λ_ σ C=>(∃x,σ=di h w n s (.int A) vs (aa<|.int c) (aa<|.int fA) (aa vh) (aa P) (aa r) x)/\T<+:C) ⟨⟨_,rfl⟩,dc _⟩ (λ_ _ _ _ h=>aF.mono r_ h.2) ?_ ?_
 ·rintro j x σ C hx ⟨⟨x0,rfl⟩,pM⟩;obtain⟨g,hg,hi⟩:=w6.at hx;have PF:g∈F:=U8 hg;have ff:=U g PF;have gl:g.length=l.length:=by rw[ff.sh.len,R.len]
  have CL:=aF.mono hi pM;obtain⟨PH,CN,PJ⟩:=yc C n vs x (ar h w) l g (h*w) (hG.mono<|Q.trans pM) (aF.mono f6<|Q.trans pM) CL gl.symm (by omega) (by rw[gl];exact eM) s9;rw[HX R ff] at CN;show((aM _ _ _) (di h w n s (.int A) vs (aa<|.int c) (aa<|.int fA) (aa vh) (aa P) (aa r)<|aa x) C).Sat _;refine aJ (c:=ag) (M1:=PH) (oG (aU (b:=ag)<|aP (mv (e:=aj 13) rfl CL) (mv (e:=aj 7) rfl<|aF.mono f6<|Q.trans pM) ?_)<|c_<|aU (b:=af)<|mJ rfl rfl rfl rfl CN) (λz=>nomatch z) λ_=>bf ⟨⟨_,rfl⟩,pM.trans PJ⟩
  rw[ne_int,gl];simp
 rintro σ C ⟨⟨x0,rfl⟩,pM⟩;dsimp only;have w8:=w5.mono pM;have PK:=CI.mono pM;have w9:=aF.mono r_ pM;have CO:a_ (λw L=>aX C w L) ws F:=a_.imp (λ_ _ z=>aF.mono z pM) w6;have w_:=Q.trans pM;have PL:=aF.mono CJ pM;clear w6 r_ w5 CI CJ pM Q CH CF CC CD w4;have BH:∀M2,av aZ (ak (ao ax (aj 11)<|eC<|.int 0) aq) (di h w n s (.int A) vs (aa<|.int c) (aa<|.int fA) (aa vh) (aa P) (aa r) x0) (C++M2)=.ok (.int F.length) (C++M2):=λM2=>by rw[zh (iJ 11 (w8.mono<|pre_app _ _) rfl).1<|aF.mono w9<|pre_app _ _,wl]
 have D:=BH [];rw[UY] at D;obtain⟨b,PN,qb⟩:=HY PL<|Ah t l wk X;refine aD<|aJ (c:=ag) (M1:=C) ?_ (λz=>nomatch z) λ_=>bf ?_
 ·unfold fP;rw[aU<|aP (a:=eC cO) rfl (aP (x:=r) (y:=.int 0) rfl rfl<|dm PK 0 rfl) PN];cases b with
  |false=>rfl
  |true=>exact aU<|aP D rfl<|by rw[lt_int,Uy (by have:=Cw<|qb rfl;omega)]
 dsimp only;have xc:∀(i:Nat) {x:W} {M2:Mem},C<+:M2->ws[i]? =aa x->ao ax (ao ax (aj 11)<|eC<|.int 0) (eC<|.int i) (di h w n s (.int A) vs (aa<|.int c) (aa<|.int fA) (aa vh) (aa P) (aa r) x0) M2=.ok x M2:=λi x M2 p hx=>aP (iJ 11 (w8.mono p) rfl).1 rfl<|Ka (aF.mono w9 p) i hx
 refine aD<|aJ (c:=ag) (M1:=C) ?_ (λz=>nomatch z) λ_=>bf ?_
 ·unfold fP;rw[aU<|aP D rfl eq_int];by_cases h2:F.length=2
  ·have e2:ai ((F.length:Int)=2)=af:=UR (by omega);rw[e2];obtain⟨x,y,a,b,ew,eF,a0,a1⟩:=F7 CO h2;refine aU<|aP (xc 0 (dc _) (by rw[ew];rfl)) (xc 1 (dc _) (by rw[ew];rfl)) ?_;rw[jQ a0 a1,Uy];intro z;rw[eF,z] at CB;simp at CB
  ·have e2:ai ((F.length:Int)=2)=ag:=Uy (by omega);rw[e2];rfl
 dsimp only;have wI:l.length=fs.length:=by rw[R.len,S.fl]
 have BI:=aF.mono hF w_;obtain⟨CP,PQ,xf⟩:=yc C n vs s (ar h w) l fs (h*w) (hG.mono w_) (aF.mono f6 w_) BI wI (by omega) (by rw[<-wI];exact eM) s9;refine aD<|aJ (c:=!(jv l fs l.length&&bR (ar h w) fs (h*w))) (M1:=CP) (c_<|aU<|mJ rfl rfl rfl rfl PQ) (λ_=>aV (v:=.bl af) (M1:=CP) rfl rfl) λhb=>bf ?_
 dsimp only;rw[Vd] at hb;have fill:=HW hh hw S.fl S.fg R hb;obtain⟨xg,PR,_,CQ⟩:=eq_nil (iJ (σ:=di h w n s (.int A) vs (aa<|.int c) (aa<|.int fA) (aa vh) (aa P) (aa r) x0) 11 (w8.mono xf) rfl).1<|aF.mono w9 xf;have key:F.length=2\/F=[fs]:=by
  by_cases hL:cO∈wk.words
  ·exact .inl<|Cw hL
  ·have hm:=K.mem_iff.mp (AS (i6 hh hw) t l wk R fill X hL);exact HZ V hm
 have rT:ai (ws.length=0)=ag:=Uy (by rw[wl];rcases key with z|z<;>rw[z]<;>simp);rw[rT] at CQ;have sd:=xf.trans PR;have Kc:av aZ (ak (ao ax (aj 11)<|eC<|.int 0) aq) (di h w n s (.int A) vs (aa<|.int c) (aa<|.int fA) (aa vh) (aa P) (aa r) x0) xg=.ok (.int F.length) xg:=by obtain⟨M2,rfl⟩:=sd;exact BH M2
 refine aV (v:=.bl af) (M1:=xg) (nY CQ ?_) rfl;unfold rL;rw[aP Kc rfl eq_int];rcases key with z|z
 ·rw[z];rfl
 ·obtain⟨x,ew,a0⟩:=F8 (z▸CO);have:=aP (xc 0 sd (by rw[ew];rfl)) (b:=aj 5) rfl<|jQ (aF.mono a0 sd)<|aF.mono BI sd;simp only[V7] at this;rw[z];exact this
end LV
namespace K5
open VM LV
def F_(k:Nat):nX pq jy (bj tab (k+2) 15):=yZ ⟨_,rfl,C8⟩
def zi(k:Nat):nX ng kl (bj tab (k+2) 15):=yZ ⟨_,rfl,Dr⟩
def zj(k:Nat):uK (bj tab (k+6) 20):=HM (uf qP) (zZ yY<|zi<|k+2) (FX FC)<|EA (Ez<|F_<|k+1)<|zZ yY<|zi<|k+1
def uj(k:Nat):qe (bj tab (k+5) 10):=FE FG
def F':∀(z k:Nat),ow z (bj tab (k+7+z) 22):=by
 intro z;induction z using Nat.strongRecOn with
 |_ z d=>
  intro k;rcases z with _|z
  ·exact Ag (yx (uf qP)<|uj k) (zj k) zc λa b=>absurd b<|Nat.not_lt_zero _
  ·have e:bj tab (k+7+(z+1))=bj tab (k+z+7+1):=U1 (bj tab) (by omega);rw[e];refine Ag (yx (uf qP)<|uj<|k+z+1) (zj<|k+z+1) zc λa b=>?_
   have:=d a b<|k+(z-a);have c:k+(z-a)+7+a=k+z+7:=by omega
   rw[c] at this;exact this
def math(ns:List Int)(a:ns.length<=63):∃M,bj tab 110 49 [.ref 0] [.a6<|ns.map .int]=.ok (.bl af) M:=by have b:t4 (bj tab 109 23):=EI (uj 103)<|F' 81 20;have c:uG (bj tab 109 46):=HJ;obtain⟨v,M,e,rfl⟩:=H8 b c ns a [.a6<|ns.map .int] rfl;exact⟨M,e⟩
end K5
open VM(a9 aK aM aN aO aR aT aW aZ aj ak ao aq au av ax bD bE bG bI bL bV bb bj bp bt bz cD cP cW cX cZ cg d9 dE dP dW dt eX eZ fV fe fu fv gG gH gN gO gR gg gh gj i0 iH iL iT iU ib iu j' j2 j3 jU jd jk kJ kT kZ mE mF mG mL mM mO mW mr oK oM oN oO oY ph qL qM qY rL rj rn vB vQ vS vU wj wm)
namespace SV
open PySem L2
noncomputable abbrev Fg:=PySem.W.Frag
noncomputable def txt(x:List Nat):Str:=⟨x.toArray⟩
def qC(h:txt x=txt y):x=y:=by have e:x.toArray=y.toArray:=U1 Str.cps h;simpa using e
noncomputable def RV(c:List Addr):VM.W->V->Prop
 |.aA,v=>v=.aA
 |.bl b,v=>v=.bl b
 |.int i,v=>v=.int i
 |.str x,v=>v=.str (txt x)
 |.ref a,v=>∃p,c[a]? =aa p/\v=.ref p
noncomputable abbrev bq(a:List Addr):List VM.W->List V->Prop:=Paired<|RV a
noncomputable def nv(a:List Addr):Option VM.W->Option V->Prop
 |none,_=>True
 |some w,q=>∃v,q=aa v/\RV a w v
noncomputable abbrev bM(a:List Addr):VM.St->L2.St->Prop:=Paired<|nv a
noncomputable def se(K:Fg)(H:Hp)(p:Addr)(vs:List V):Prop:=
 (∃o,H p=aa (.a6 o<|.lst vs))\/
  ∃(o:Obj) (a:Array ah) (n:Nat),K.lookup p=aa o/\o.cls=.type "list"/\o.dict=ae/\o.data=.seq a n/\a.size<=sizeLine/\Vals vs a.toList
def se.sq(h:se K H p vs):bH K H p vs:=by
 rcases h with⟨o,h⟩|h
 ·exact .inl<|.inr ⟨o,h⟩
 ·exact .inr h
noncomputable abbrev dI(a:List Addr):List (Int×VM.W)->List (Key×V)->Prop:=Paired λp q=>q.1=Sum.inl p.1/\RV a p.2 q.2
noncomputable abbrev iy(a:List Addr):List (List Nat×VM.W)->List (Str×V)->Prop:=Paired λp q=>q.1=txt p.1/\RV a p.2 q.2
noncomputable def excAt(p C:Addr)(h:Heap):Prop:=∃o a,h.get? p=aa o/\o.cls=.ref C/\o.data=.fields a
noncomputable def RO(K:Fg)(d:List Addr)(H:Hp)(p:Addr):VM.O->Prop
 |.lst xs=>∃a,H p=aa (.lst a)/\bq d xs a
 |.tup xs=>∃a,H p=aa (.tup a)/\bq d xs a
 |.a6 xs=>∃a,se K H p a/\bq d xs a
 |.aG b=>∃e,H p=aa (.dK e)/\dI d b e
 |.ins c k=>∃C j h,PySem.W.nsIn K mainGlobals (txt c)=aa (aa<|.ref C)/\H p=aa (.ins C j h)/\iy d k h
 |.dr x=>PySem.W.nsIn K mainGlobals (txt x)=aa (aa<|.ref p)
 |.ba g b=>∃o i e f,d[g]? =aa f/\H p=aa (.a6 o<|.dK e)/\o.data=.dict i f/\dI d b e
 |.bZ=>True
 |.eR c=>∃C,PySem.W.nsIn K mainGlobals (txt c)=aa (aa<|.ref C)/\H p=aa (.ext<|excAt p C)
noncomputable def live:VM.O->Bool
 |.lst _=>af
 |.tup _=>af
 |.a6 _=>ag
 |.aG _=>af
 |.ins _ _=>af
 |.dr _=>ag
 |.ba _ _=>af
 |.bZ=>ag
 |.eR _=>af
noncomputable abbrev gF:Str:="place_to_try"
noncomputable abbrev dC:Str:="place_to_try.<locals>.<lambda>"
noncomputable def jq(H:Hp)(c:Array ah):Prop:=TriplesOk c.toList/\∀b f,codeAmong b c.toList=aa f->∃a d e t,f=.ref a/\H a=aa (.a6 d<|.own a)/\d.data=.fields e/\e[1]? =aa (.str dC t)
noncomputable def Tb(K:Fg)(H:Hp):Prop:=∀c P,PySem.W.tabIn K gF=aa (c,P)->∃a,H P=aa (.c8 a)/\jq H a
def jq.upd(h:jq H ps)(i:∀a c,H p≠aa (.a6 a<|.own c)):jq (upd H p u) ps:=
 ⟨h.1,λb m e=>by obtain⟨d,a,l,t,g,f,j,k⟩:=h.2 b m e;exact⟨d,a,l,t,g,by rw[aS (λz=>i a d (by rw[<-z];exact f))];exact f,j,k⟩⟩
def Tb.upd(h:Tb K H)(i:∀a,H p≠aa (.c8 a))(d:∀f c,H p≠aa (.a6 f<|.own c)):Tb K (upd H p u):=λc P e=>by obtain⟨a,b,g⟩:=h c P e;exact⟨a,by rw[aS<|λz=>i a (by rw[<-z];exact b)];exact b,g.upd d⟩
def Tb.new(h:Tb K H)(a:H p=ae):Tb K (L2.upd H p u):=h.upd (λb e=>by rw[a] at e;cases e) λd c e=>by rw[a] at e;cases e
structure Rel(K:Fg)(ι:List Addr)(M:VM.Mem)(H:Hp):Prop where
 len:ι.length=M.length
 obj:∀(a:Nat) (p:Addr) (o:VM.O),ι[a]? =aa p->M[a]? =aa o->RO K ι H p o
 inj:∀(a b:Nat) (p:Addr) (oa ob:VM.O),ι[a]? =aa p->ι[b]? =aa p->M[a]? =aa oa->M[b]? =aa ob->live oa=af->live ob=af->a=b
 tb:Tb K H
section
variable{ι cK:List Addr}
def fK(h:ι<+:cK){a:Nat}(e:ι[a]? =aa p):cK[a]? =aa p:=by obtain⟨r,rfl⟩:=h;have b:=(Ub.mp e).1;rw[U6 b];exact e
def RV.mono(h:ι<+:cK)(r:RV ι w v):RV cK w v:=by
 cases w with
 |ref a=>obtain⟨p,e,q⟩:=r;exact⟨p,fK h e,q⟩
 |aA=>exact r
 |bl _=>exact r
 |int _=>exact r
 |str _=>exact r
theorem Paired.mS{F G:α->β->Prop}(f:∀a b,F a b->G a b):∀{l:List α} {m:List β},Paired F l m->Paired G l m
 |_,_,.nil=>.nil
 |_,_,.cons r t=>.cons (f _ _ r)<|Paired.mS f t
def bq.mono(h:ι<+:cK)(r:bq ι ws vs):bq cK ws vs:=Paired.mS (λ_ _ q=>RV.mono h q) r
def dI.mono(h:ι<+:cK)(r:dI ι ws vs):dI cK ws vs:=Paired.mS (λ_ _ q=>⟨q.1,RV.mono h q.2⟩) r
def iy.mono(h:ι<+:cK)(r:iy ι ws vs):iy cK ws vs:=Paired.mS (λ_ _ q=>⟨q.1,RV.mono h q.2⟩) r
def nv.mono(h:ι<+:cK)(r:nv ι o q):nv cK o q:=by
 cases o with
 |none=>exact r
 |some w=>obtain⟨v,e,q⟩:=r;exact⟨v,e,q.mono h⟩
def bM.mono(h:ι<+:cK)(r:bM ι σ τ):bM cK σ τ:=Paired.mS (λ_ _ q=>nv.mono h q) r
def dR:ι<+:ι:=List.prefix_refl _
end
theorem Paired.len{F:α->β->Prop}:∀{l:List α} {m:List β},Paired F l m->l.length=m.length
 |_,_,.nil=>rfl
 |_,_,.cons _ t=>by simp[Paired.len t]
theorem Paired.at{F:α->β->Prop}:∀{l:List α} {m:List β} {i:Nat} {x:α},Paired F l m->l[i]? =aa x->∃y,m[i]? =aa y/\F x y
 |_,_,_,_,.nil,e=>by simp at e
 |_,_,0,_,.cons r _,e=>by simp at e;subst e;exact⟨_,rfl,r⟩
 |_,_,i+1,x,.cons _ t,e=>by
  obtain⟨y,a,b⟩:=Paired.at t<|by simpa using e
  exact⟨y,by simpa using a,b⟩
theorem Paired.mT{F:α->β->Prop}{x:α}{y:β}(r:F x y):∀{l:List α} {m:List β} (i),Paired F l m->Paired F (l.set i x) (m.set i y)
 |_,_,_,.nil=>.nil
 |_,_,0,.cons _ t=>.cons r t
 |_,_,i+1,.cons q t=>.cons q<|Paired.mT r i t
theorem Paired.app{F:α->β->Prop}:∀{l a:List α} {m b:List β},Paired F l m->Paired F a b->Paired F (l++a) (m++b)
 |_,_,_,_,.nil,s=>s
 |_,_,_,_,.cons r t,s=>.cons r<|Paired.app t s
theorem Paired.vD{F:α->β->Prop}:∀{l:List α} {m:List β} (n),Paired F l m->Paired F (l.take n) (m.take n)
 |_,_,0,_=>.nil
 |_,_,_+1,.nil=>.nil
 |_,_,n+1,.cons r t=>.cons r<|Paired.vD n t
theorem Paired.Bk{F:α->β->Prop}:∀{l:List α} {m:List β} (n),Paired F l m->Paired F (l.drop n) (m.drop n)
 |_,_,0,r=>r
 |_,_,_+1,.nil=>.nil
 |_,_,n+1,.cons _ t=>Paired.Bk n t
def Paired.EK{F:α->β->Prop}{l:List α}{m:List β}(h:Paired F l m):Paired F l.dropLast m.dropLast:=by rw[X1,X1,<-Paired.len h];exact Paired.vD _ h
section
variable{K:Fg}{ι:List Addr}{M:VM.Mem}{H:Hp}
def RO.mono(h:ι<+:cK)(r:RO K ι H p o):RO K cK H p o:=by
 cases o with
 |lst xs=>obtain⟨a,e,q⟩:=r;exact⟨a,e,bq.mono h q⟩
 |tup xs=>obtain⟨a,e,q⟩:=r;exact⟨a,e,bq.mono h q⟩
 |a6 xs=>obtain⟨a,e,q⟩:=r;exact⟨a,e,bq.mono h q⟩
 |aG xs=>obtain⟨a,e,q⟩:=r;exact⟨a,e,dI.mono h q⟩
 |ins c xs=>obtain⟨C,i,k,n,e,q⟩:=r;exact⟨C,i,k,n,e,iy.mono h q⟩
 |dr x=>exact r
 |ba g xs=>obtain⟨o,f,a,d,j,e,b,q⟩:=r;exact⟨o,f,a,d,fK h j,e,b,dI.mono h q⟩
 |bZ=>exact r
 |eR c=>exact r
def RO.other(r:RO K ι H p o)(h:live o=af->p≠q)(i:∀a vs,H q≠aa (.a6 a<|.lst vs)):RO K ι (upd H q u) p o:=by
 cases o with
 |lst xs=>obtain⟨vs,e,z⟩:=r;exact⟨vs,by rw[aS<|h rfl];exact e,z⟩
 |tup xs=>obtain⟨vs,e,z⟩:=r;exact⟨vs,by rw[aS<|h rfl];exact e,z⟩
 |a6 xs=>
  obtain⟨vs,e,z⟩:=r;refine⟨vs,?_,z⟩;rcases e with⟨a,e⟩|e
  ·refine .inl ⟨a,?_⟩;have m:p≠q:=by rintro rfl;exact i _ _ e
   rw[aS m];exact e
  ·exact .inr e
 |aG xs=>obtain⟨vs,e,z⟩:=r;exact⟨vs,by rw[aS<|h rfl];exact e,z⟩
 |ins c xs=>obtain⟨C,j,l,n,e,z⟩:=r;exact⟨C,j,l,n,by rw[aS<|h rfl];exact e,z⟩
 |dr x=>exact r
 |ba g xs=>obtain⟨o,f,vs,d,k,e,b,z⟩:=r;exact⟨o,f,vs,d,k,by rw[aS<|h rfl];exact e,b,z⟩
 |bZ=>exact r
 |eR c=>obtain⟨C,n,e⟩:=r;exact⟨C,n,by rw[aS<|h rfl];exact e⟩
def RO.none(r:RO K ι H p o)(b:live o=af)(a:H p=ae):False:=by
 cases o with
 |lst xs=>obtain⟨d,e,_⟩:=r;rw[a] at e;cases e
 |tup xs=>obtain⟨d,e,_⟩:=r;rw[a] at e;cases e
 |a6 xs=>cases b
 |aG xs=>obtain⟨d,e,_⟩:=r;rw[a] at e;cases e
 |ins c xs=>obtain⟨_,_,_,_,e,_⟩:=r;rw[a] at e;cases e
 |dr x=>cases b
 |ba g xs=>obtain⟨o,h,d,f,_,e,_⟩:=r;rw[a] at e;cases e
 |bZ=>cases b
 |eR c=>obtain⟨C,_,e⟩:=r;rw[a] at e;cases e
def RO.LZ(r:RO K ι H p o)(b:live o=af)(ob)(vs)(a:H p=aa (.a6 ob<|.lst vs)):False:=by
 cases o with
 |lst xs=>obtain⟨vs,e,_⟩:=r;rw[a] at e;cases e
 |tup xs=>obtain⟨vs,e,_⟩:=r;rw[a] at e;cases e
 |a6 xs=>cases b
 |aG xs=>obtain⟨vs,e,_⟩:=r;rw[a] at e;cases e
 |ins c xs=>obtain⟨_,_,_,_,e,_⟩:=r;rw[a] at e;cases e
 |dr x=>cases b
 |ba g xs=>obtain⟨o,f,vs,d,_,e,_⟩:=r;rw[a] at e;cases e
 |bZ=>cases b
 |eR c=>obtain⟨C,_,e⟩:=r;rw[a] at e;cases e
def RO.apart(r:RO K ι H p o)(a:live o=af):(∀d,H p≠aa (.c8 d))/\∀f c,H p≠aa (.a6 f<|.own c):=by
 cases o with
 |lst xs=>obtain⟨b,e,_⟩:=r;exact⟨λ_ z=>(by rw[e] at z;cases z),λ_ _ z=>(by rw[e] at z;cases z)⟩
 |tup xs=>obtain⟨b,e,_⟩:=r;exact⟨λ_ z=>(by rw[e] at z;cases z),λ_ _ z=>(by rw[e] at z;cases z)⟩
 |a6 xs=>cases a
 |aG xs=>obtain⟨b,e,_⟩:=r;exact⟨λ_ z=>(by rw[e] at z;cases z),λ_ _ z=>(by rw[e] at z;cases z)⟩
 |ins c xs=>obtain⟨_,_,_,_,e,_⟩:=r;exact⟨λ_ z=>(by rw[e] at z;cases z),λ_ _ z=>(by rw[e] at z;cases z)⟩
 |dr x=>cases a
 |ba g xs=>obtain⟨o,i,b,h,_,e,_⟩:=r;exact⟨λ_ z=>(by rw[e] at z;cases z),λ_ _ z=>(by rw[e] at z;cases z)⟩
 |bZ=>cases a
 |eR c=>obtain⟨C,_,e⟩:=r;exact⟨λ_ z=>(by rw[e] at z;cases z),λ_ _ z=>(by rw[e] at z;cases z)⟩
def Rel.new(R:Rel K ι M H){p:Addr}(n:H p=ae){o:VM.O}{u:HO}(C:∀l,ι<+:l->RO K l (upd H p u) p o):Rel K (ι++[p]) (M++[o]) (upd H p u):=by
 have pre:ι<+:ι++[p]:=⟨[p],rfl⟩;have v:∀a q x,ι[a]? =aa q->M[a]? =aa x->RO K (ι++[p]) (upd H p u) q x:=λa q x f g=>by
  have r:=R.obj a q x f g;refine RO.mono pre<|RO.other r (λw=>?_) λE F e=>?_
  ·rintro rfl;exact r.none w n
  ·rw[n] at e;cases e
 have i:∀a x,ι[a]? =aa p->M[a]? =aa x->live x=af->False:=λa x f g w=>by exact(R.obj a p x f g).none w n
 have split:∀a q,(ι++[p])[a]? =aa q->(a<ι.length/\ι[a]? =aa q)\/(a=ι.length/\q=p):=λa q h=>by
  by_cases d:a<ι.length
  ·rw[U6 d] at h;exact .inl ⟨d,h⟩
  ·rw[Vn<|V4 d] at h;have:a-ι.length=0:=by
    cases D:a-ι.length with
    |zero=>rfl
    |succ k=>rw[D] at h;simp at h
   rw[this] at h;simp at h;exact .inr ⟨by omega,h.symm⟩
 have c:∀a x,(M++[o])[a]? =aa x->(a<ι.length->M[a]? =aa x)/\(a=ι.length->x=o):=λa x h=>by
  refine⟨λd=>?_,λd=>?_⟩
  ·rw[U6 (by rw[<-R.len];exact d)] at h;exact h
  ·subst d;rw[R.len] at h;simp at h;exact h.symm
 refine⟨by simp[R.len],λa q x f g=>?_,λa b q m t f g h3 A z B=>?_,R.tb.new n⟩
 ·rcases split a q f with⟨d,f⟩|⟨d,rfl⟩
  ·exact v a q x f<|(c a x g).1 d
  ·rw[(c a x g).2 d];exact C _ pre
 ·rcases split a q f with⟨d,y⟩|⟨d,eq1⟩
  ·rcases split b q g with⟨j,s⟩|⟨j,eq2⟩
   ·exact R.inj a b q m t y s ((c a m h3).1 d) ((c b t A).1 j) z B
   ·rw[eq2] at y;exact(i a m y ((c a m h3).1 d) z).elim
  ·rcases split b q g with⟨j,s⟩|⟨j,_⟩
   ·rw[eq1] at s;exact(i b t s ((c b t A).1 j) B).elim
   ·rw[d,j]
def Rel.lu(R:Rel K ι M H){a:Nat}{p:Addr}{o o':VM.O}{u:HO}(n:ι[a]? =aa p)(k:M[a]? =aa o)(l:live o=af)(P:live o'=af)(v:RO K ι (upd H p u) p o'):Rel K ι (M.set a o') (upd H p u):=by
 have m:a<M.length:=(Ub.mp k).1;have s:=R.obj a p _ n k;have f:∀b x,(M.set a o')[b]? =aa x->(b=a/\x=o')\/(b≠a/\M[b]? =aa x):=λb x h=>by
  by_cases j:b=a
  ·subst j;rw[UH m] at h;exact .inl ⟨rfl,(Ug h).symm⟩
  ·rw[UG<|Uz j] at h;exact .inr ⟨j,h⟩
 have d:∀b x,(M.set a o')[b]? =aa x->live x=af->∃y,M[b]? =aa y/\live y=af:=λb x h A=>by
  rcases f b x h with⟨rfl,rfl⟩|⟨_,h⟩
  ·exact⟨_,k,l⟩
  ·exact⟨x,h,A⟩
 refine⟨by simp[R.len],λb q x g i=>?_,λb c q E I g i h3 G w N=>?_,R.tb.upd (s.apart l).1 (s.apart l).2⟩
 ·rcases f b x i with⟨rfl,rfl⟩|⟨j,i⟩
  ·rw[n] at g;cases g;exact v
  ·refine RO.other (R.obj b q x g i) (λC=>?_) λF r e=>s.LZ l F r e
   rintro rfl;exact j<|R.inj b a q x _ g n i k C l
 ·obtain⟨J,t,D⟩:=d b E h3 w;obtain⟨L,z,B⟩:=d c I G N;exact R.inj b c q J L g i t z D B
def Rel.set(R:Rel K ι M H){a:Nat}{p:Addr}{xs ys:List VM.W}{b:List V}(e:ι[a]? =aa p)(d:M[a]? =aa (.lst xs))(c:bq ι ys b):Rel K ι (M.set a<|.lst ys) (upd H p<|.lst b):=
 R.lu e d rfl rfl ⟨b,cG,c⟩
def Rel.a8(R:Rel K ι M H)(e:VM.a8 M w=aa xs)(r:RV ι w v):∃p vs,v=.ref p/\bH K H p vs/\bq ι xs vs:=by
 cases w with
 |ref a=>
  obtain⟨p,j,rfl⟩:=r;simp only[VM.a8] at e;cases h:M[a]? with
  |none=>rw[h] at e;cases e
  |some o=>
   rw[h] at e;have i:=R.obj a p o j h;cases o with
   |lst b=>cases e;obtain⟨vs,d,f⟩:=i;exact⟨p,vs,rfl,bH.of d,f⟩
   |a6 b=>cases e;obtain⟨vs,d,f⟩:=i;exact⟨p,vs,rfl,d.sq,f⟩
   |tup b=>cases e
   |aG b=>cases e
   |ins c b=>cases e
   |dr x=>cases e
   |ba g x=>cases e
   |bZ=>cases e
   |eR c=>cases e
 |aA=>cases e
 |bl _=>cases e
 |int _=>cases e
 |str _=>cases e
def Rel.cm(R:Rel K ι M H)(e:VM.cm M w=aa xs)(r:RV ι w v):∃p vs,v=.ref p/\H p=aa (.tup vs)/\bq ι xs vs:=by
 cases w with
 |ref a=>
  obtain⟨p,j,rfl⟩:=r;simp only[VM.cm] at e;cases d:M[a]? with
  |none=>rw[d] at e;cases e
  |some o=>
   rw[d] at e;have i:=R.obj a p o j d;cases o with
   |tup b=>cases e;obtain⟨vs,f,h⟩:=i;exact⟨p,vs,rfl,f,h⟩
   |a6 b=>cases e
   |lst b=>cases e
   |aG b=>cases e
   |ins c b=>cases e
   |dr x=>cases e
   |ba g x=>cases e
   |bZ=>cases e
   |eR c=>cases e
 |aA=>cases e
 |bl _=>cases e
 |int _=>cases e
 |str _=>cases e
def Rel.bu(R:Rel K ι M H)(e:VM.bu M w=aa xs)(r:RV ι w v):∃p vs,v=.ref p/\(bH K H p vs\/dD K H p vs)/\bq ι xs vs:=by
 unfold VM.bu at e;cases h:VM.a8 M w with
 |some d=>rw[h] at e;cases e;obtain⟨p,vs,a,b,c⟩:=R.a8 h r;exact⟨p,vs,a,.inl b,c⟩
 |none=>rw[h] at e;obtain⟨p,vs,a,b,c⟩:=R.cm e r;exact⟨p,vs,a,.inr<|dD.of b,c⟩
def Rel.bQ(R:Rel K ι M H)(e:VM.bQ M w=aa (a,xs))(r:RV ι w v):∃p vs,w=.ref a/\ι[a]? =aa p/\M[a]? =aa (.lst xs)/\v=.ref p/\H p=aa (.lst vs)/\bq ι xs vs:=by
 cases w with
 |ref b=>
  obtain⟨p,h,rfl⟩:=r;simp only[VM.bQ] at e;cases f:M[b]? with
  |none=>rw[f] at e;cases e
  |some o=>
   rw[f] at e;have k:=R.obj b p o h f;cases o with
   |lst d=>cases e;obtain⟨vs,i,j⟩:=k;exact⟨p,vs,rfl,h,f,rfl,i,j⟩
   |a6 d=>cases e
   |tup d=>cases e
   |aG d=>cases e
   |ins c d=>cases e
   |dr x=>cases e
   |ba g x=>cases e
   |bZ=>cases e
   |eR c=>cases e
 |aA=>cases e
 |bl _=>cases e
 |int _=>cases e
 |str _=>cases e
end
noncomputable def ay(rel:List Addr->α->β->Prop)(K:Fg)(e:List Addr)(r:VM.R α)(Q:β->Hp->Prop):Prop:=match r with
 |.ok a f=>∀c d b,e<+:c->Rel K c f d->rel c a b->Q b d
 |.ex _ _=>False
 |.bad=>False
def ay.seq{p:List Addr->α->β->Prop}{n:List Addr->γ->δ->Prop}{r:VM.R α}{f:α->VM.Mem->VM.R γ}{Q:δ->Hp->Prop}{o:β->Hp->Prop}(h:ay n K ι (r.bind f) Q)(k:∀g l a j b,ι<+:g->Rel K g j l->p g a b->ay n K g (f a j) Q->o b l):ay p K ι r o:=by
 cases r with
 |ok a j=>
  intro g l b q R s;refine k g l a j b q R s ?_;have i:ay n K ι (f a j) Q:=h;cases e:f a j with
  |ok c M2=>rw[e] at i;exactλm t d v R2 u=>i m t d (Vk q v) R2 u
  |ex _ _=>rw[e] at i;exact i.elim
  |bad=>rw[e] at i;exact i.elim
 |ex _ _=>exact(h).elim
 |bad=>exact(h).elim
def ay.up{c:List Addr->α->β->Prop}{r:VM.R α}{Q:β->Hp->Prop}(p:ι<+:cK)(h:ay c K ι r Q):ay c K cK r Q:=by
 cases r with
 |ok a M=>exactλd e b g R2 f=>h d e b (Vk p g) R2 f
 |ex _ _=>exact h
 |bad=>exact h
def ay.ok{c:List Addr->α->β->Prop}{a:α}{Q:β->Hp->Prop}{b:β}(h:ay c K ι (.ok a M) Q)(R:Rel K ι M H)(r:c ι a b):Q b H:=h ι H b dR R r
noncomputable def bx(K:Fg)(f:List Addr)(r:VM.RS)(D:Ends):Prop:=match r with
 |.nx d e=>∀a c b,f<+:a->Rel K a e c->bM a d b->D.nx b c
 |.rt w e=>∀a c v,f<+:a->Rel K a e c->RV a w v->D.rt v c
 |.bk d e=>∀a c b,f<+:a->Rel K a e c->bM a d b->D.bk b c
 |.ct d e=>∀a c b,f<+:a->Rel K a e c->bM a d b->D.ct b c
 |.ex _ _=>False
 |.bad=>False
def bx.mono(p:ι<+:cK)(h:bx K ι r D):bx K cK r D:=by
 cases r with
 |nx σ M=>exactλa b t d R2 c=>h a b t (Vk p d) R2 c
 |rt w M=>exactλa b t d R2 c=>h a b t (Vk p d) R2 c
 |bk σ M=>exactλa b t d R2 c=>h a b t (Vk p d) R2 c
 |ct σ M=>exactλa b t d R2 c=>h a b t (Vk p d) R2 c
 |ex _ _=>exact h
 |bad=>exact h
def bx.seq{i:List Addr->α->β->Prop}{r:VM.R α}{f:α->VM.Mem->VM.RS}{g:β->Hp->Prop}(h:bx K ι (r.cz f) D)(k:∀c d a e b,ι<+:c->Rel K c e d->i c a b->bx K c (f a e) D->g b d):ay i K ι r g:=by
 cases r with
 |ok a e=>exactλc d b j R l=>k c d a e b j R l<|bx.mono j h
 |ex _ _=>exact(h).elim
 |bad=>exact(h).elim
noncomputable def SE(X:Cx)(e:Expr)(m:VM.EM):Prop:=∃d,PE X e d/\∀a M H c b Q,Rel X.K a M H->bM a c b->ay RV X.K a (m c M) Q->d b H Q
noncomputable abbrev rB:List Addr->Bool->Bool->Prop:=λ_ a b=>a=b
noncomputable def fF(X:Cx)(e:Expr)(m:VM.TM):Prop:=∃d,PT X e d/\∀a M H c b Q,Rel X.K a M H->bM a c b->ay rB X.K a (m c M) Q->d b H Q
noncomputable def SW(X:Cx)(e:Expr)(m:VM.TM):Prop:=∃d,PW X e d/\∀a M H c b Q,Rel X.K a M H->bM a c b->ay rB X.K a (m c M) Q->d b H Q
noncomputable def SA(X:Cx)(e:List Expr)(m:VM.AM):Prop:=∃d,PA X e d/\∀a M H c b Q,Rel X.K a M H->bM a c b->ay bq X.K a (m c M) Q->d b H Q
noncomputable def SG(X:Cx)(d:Expr)(m:VM.GM):Prop:=∃g,PG X d g/\∀a M H c b w v Q,Rel X.K a M H->bM a c b->RV a w v->ay bM X.K a (m w c M) Q->g v b H Q
noncomputable def sf(X:Cx)(d:List Expr)(e:List VM.GM):Prop:=d.length=e.length/\∃g,o9 X d g/\∀a M H h c b f Q,Rel X.K a M H->bM a h c->bq a b f->ay bM X.K a (iL e b h M) Q->g f c H Q
noncomputable def SS(X:Cx)(st:Stmt)(m:VM.SM):Prop:=∃t,PS X st t/\∀a M H c b D,Rel X.K a M H->bM a c b->bx X.K a (m c M) D->t D b H
noncomputable def fY(X:Cx)(st:List Stmt)(m:VM.SM):Prop:=∃t,fU X st t/\∀a M H c b D,Rel X.K a M H->bM a c b->bx X.K a (m c M) D->t D b H
noncomputable def eO(X:Cx)(f:ah->ah->Sem ah)(m:d9):Prop:=∃r,b9 X f r/\∀a M H x y v u Q,Rel X.K a M H->RV a x v->RV a y u->ay RV X.K a (m x y M) Q->r v u H Q
noncomputable def SC(X:Cx)(f:ah)(m:VM.CM):Prop:=∃r,hV X f r/\∀a M H b c Q,Rel X.K a M H->bq a b c->ay RV X.K a (m b M) Q->r c H Q
section
variable{X:Cx}
def Ke(i)(d:X.N[i]? =aa x:=by rfl)(f:o7 X.env.scope x:=by first|exact Or.inl rfl|exact Or.inr (Or.inl rfl)|exact Or.inr<|Or.inr rfl)(b:(x==("__debug__":Str))=ag:=by decide+kernel)(a:(x==("__classdict__":Str))=ag:=by decide+kernel):SE X (.Name x pos) (aj i):=by
 refine⟨vK i,mx d f b a,λl M H j k Q R S h=>?_⟩;unfold aj at h;cases e:j[i]? with
 |none=>rw[e] at h;exact(h).elim
 |some o=>
  cases o with
  |none=>rw[e] at h;exact(h).elim
  |some w=>rw[e] at h;obtain⟨q,c,v,rfl,g⟩:=Paired.at S e;exact⟨v,c,ay.ok h R g⟩
def Kf{j pos}:SE X (.Constant (.int i) j pos) (VM.eC<|.int i):=⟨_,I9,λb M H c a Q R S h=>ay.ok h R rfl⟩
def L0{j pos}:SE X (.Constant (.bool b) j pos) (VM.eC<|.bl b):=⟨_,Li,λc M H d a Q R S h=>ay.ok h R rfl⟩
def Kg{j pos}:SE X (.Constant .none j pos) (VM.eC .aA):=⟨_,I_,λb M H c a Q R S h=>ay.ok h R rfl⟩
def Kh(cs){j pos}(a:x=txt cs:=by first|rfl|decide+kernel):SE X (.Constant (.str x) j pos) (VM.eC<|.str cs):=by subst a;exact⟨_,Ja,λc M H d b Q R S h=>ay.ok h R rfl⟩
def Ki:SA X [] aq:=⟨_,iG,λb M H c a Q R S h=>ay.ok h R .nil⟩
def H9(k:SE X e m)(f:SA X es n)(l:starEach (e::es) X.env=(ag,eval e X.env)::starEach es X.env:=by rfl):SA X (e::es) (ak m n):=by
 obtain⟨A,j,i⟩:=k;obtain⟨D,q,w⟩:=f;refine⟨_,f9 j q l,λv M H c b Q R S h=>?_⟩;refine i v M H c b _ R S<|ay.seq h λa o x M1 u y g z d=>?_
 refine w a M1 o c b _ g (S.mono y)<|ay.seq d λs E C M2 B r R2 t p=>?_
 exact ay.ok p R2<|.cons (z.mono r) t
def i_(R:Rel K ι M H)(r:bq ι ws vs)(h:ay RV K ι (bb ws M) Q):
 vs.length<=sizeLine/\∀p,H p=ae->Q (.ref p) (upd H p<|.lst vs):=by
 unfold bb at h;by_cases a:ws.length<=VM.lim
 ·rw[T5 a] at h;refine⟨by rw[<-Paired.len r];exact a,λp c=>?_⟩;refine h (ι++[p]) _ _ ⟨[p],rfl⟩ (R.new c λb pre=>⟨vs,cG,r.mono pre⟩) ⟨p,?_,rfl⟩;rw[<-R.len];simp
 ·rw[T6 a] at h;exact(h).elim
def yB(R:Rel K ι M H)(r:bq ι ws vs)(h:ay RV K ι (gN ws M) Q):
 vs.length<=sizeLine/\∀p,H p=ae->Q (.ref p) (upd H p<|.tup vs):=by
 unfold gN at h;by_cases a:ws.length<=VM.lim
 ·rw[T5 a] at h;refine⟨by rw[<-Paired.len r];exact a,λp c=>?_⟩;refine h (ι++[p]) _ _ ⟨[p],rfl⟩ (R.new c λb pre=>⟨vs,cG,r.mono pre⟩) ⟨p,?_,rfl⟩;rw[<-R.len];simp
 ·rw[T6 a] at h;exact(h).elim
def Kj{pos}(d:SA X es n):SE X (.List es pos) (aR n):=by obtain⟨l,g,j⟩:=d;refine⟨_,Jx g,λi M H f e Q R S h=>?_⟩;exact j i M H f e _ R S<|ay.seq h λb m x M1 u o c k a=>i_ c k a
def Kk{x1 pos}(d:SA X es n):SE X (.Tuple es x1 pos) (bI n):=by obtain⟨l,g,j⟩:=d;refine⟨_,AA g,λi M H f e Q R S h=>?_⟩;exact j i M H f e _ R S<|ay.seq h λb m x M1 u o c k a=>yB c k a
def L1{pos}(q:eO X (binaryOp op) f)(k:SE X a m)(D:SE X b n):SE X (.BinOp a op b pos) (ao f m n):=by
 obtain⟨r,o,E⟩:=q;obtain⟨J,t,F⟩:=k;obtain⟨K,l,z⟩:=D;refine⟨_,Lu o t l,λC M H g e Q R S h=>?_⟩;refine F C M H g e _ R S<|ay.seq h λc p x M1 u G j I i=>?_
 refine z c M1 p g e _ j (S.mono G)<|ay.seq i λd A y M2 v w R2 B s=>?_
 exact E d M2 A x y u v Q R2 (I.mono w) B s
def Kl{pos}(q:eO X (compareOp op) f)(k:SE X a m)(D:SE X b n)(E:behindInMarks op b=ag):SE X (.Compare a [op] [b] pos) (ao f m n):=by
 obtain⟨r,o,F⟩:=q;obtain⟨K,t,G⟩:=k;obtain⟨L,l,z⟩:=D;refine⟨_,G5 o t l E,λC M H g e Q R S h=>?_⟩;refine G C M H g e _ R S<|ay.seq h λc p x M1 u I j J i=>?_
 refine z c M1 p g e _ j (S.mono I)<|ay.seq i λd A y M2 v w R2 B s=>?_
 exact F d M2 A x y u v Q R2 (J.mono w) B s
def Km{pos}(B:eO X (compareOp op) f)(p:SE X a m)(N:SE X b n)(O:behindInMarks op b=ag):fF X (.Compare a [op] [b] pos) (VM.tB<|ao f m n):=by
 obtain⟨r,s,P⟩:=B;obtain⟨W,E,T⟩:=p;obtain⟨Z,q,G⟩:=N;refine⟨_,zG s E q O,λd M H c j Q R S h=>?_⟩;have D:ay rB X.K d ((m c M).bind λx M1=>(n c M1).bind λy M2=>(f x y M2).bind λz i=>match z with|.bl b=>.ok b i|_=>.bad) Q:=by
  unfold VM.tB ao at h;revert h;cases m c M with
  |ok x M1=>
   show ay rB X.K d (((n c M1).bind λy M2=>f x y M2).bind _) Q->ay rB X.K d ((n c M1).bind _) Q;cases n c M1 with
   |ok y M2=>exactλh=>h
   |ex _ _=>exactλh=>h
   |bad=>exactλh=>h
  |ex _ _=>exactλh=>h
  |bad=>exactλh=>h
 refine T d M H c j _ R S<|ay.seq D λe w x M1 u U o V k=>?_
 refine G e M1 w c j _ o (S.mono U)<|ay.seq k λg J y M2 v F R2 L C=>?_
 refine P g M2 J x y u v _ R2 (V.mono F) L<|ay.seq C λI H3 z i t Y l A h3=>?_
 cases z with
 |bl b=>cases A;exact⟨b,rfl,ay.ok h3 l rfl⟩
 |aA=>exact(h3).elim
 |int _=>exact(h3).elim
 |str _=>exact(h3).elim
 |ref _=>exact(h3).elim
end
section
variable{X:Cx}
def qU{g:Int->Int->V}{m:d9}{gw:Int->Int->VM.W}(h:b9 X f<|j9 g)(b:∀a i j,RV a (gw i j)<|g i j)(k:∀x y M,(∃i j,x=VM.W.int i/\y=VM.W.int j/\m x y M=.ok (gw i j) M)\/m x y M=.bad):eO X f m:=by
 refine⟨_,h,λa M H x y v u Q R c d q=>?_⟩;rcases k x y M with⟨i,j,rfl,rfl,e⟩|e
 ·rw[e] at q;exact⟨i,j,c,d,ay.ok q R<|b a i j⟩
 ·rw[e] at q;exact(q).elim
def Kn:eO X (binaryOp .Sub) rj:=qU Jt (gw:=λi j=>.int<|i-j) (λ_ _ _=>rfl) λx y M=>by cases x<;>cases y<;>first|exact .inl ⟨_,_,rfl,rfl,rfl⟩|exact .inr rfl
def L3:eO X (compareOp .Lt) VM.oLt:=qU Ly (gw:=λi j=>.bl<|ai<|i<j) (λ_ _ _=>rfl) λx y M=>by cases x<;>cases y<;>first|exact .inl ⟨_,_,rfl,rfl,rfl⟩|exact .inr rfl
def L4:eO X (compareOp .Gt) fV:=qU Lz (gw:=λi j=>.bl<|ai<|j<i) (λ_ _ _=>rfl) λx y M=>by cases x<;>cases y<;>first|exact .inl ⟨_,_,rfl,rfl,rfl⟩|exact .inr rfl
def L5:eO X (compareOp .GtE) gR:=qU LA (gw:=λi j=>.bl<|ai<|j<=i) (λ_ _ _=>rfl) λx y M=>by cases x<;>cases y<;>first|exact .inl ⟨_,_,rfl,rfl,rfl⟩|exact .inr rfl
def u6{C:Int->Int->Prop}{g:Int->Int->V}{m:d9}{gw:Int->Int->VM.W}(h:b9 X f<|rI C g)(b:∀a i j,RV a (gw i j)<|g i j)(l:∀x y M,(∃i j,x=VM.W.int i/\y=VM.W.int j/\C i j/\m x y M=.ok (gw i j) M)\/m x y M=.bad):eO X f m:=by
 refine⟨_,h,λa M H x y v u Q R d k q=>?_⟩;rcases l x y M with⟨i,j,rfl,rfl,c,e⟩|e
 ·rw[e] at q;exact⟨i,j,d,k,c,ay.ok q R<|b a i j⟩
 ·rw[e] at q;exact(q).elim
def Ko:eO X (binaryOp .Mult) bL:=u6 Ju (gw:=λi j=>.int<|i*j) (λ_ _ _=>rfl) λx y M=>by
 cases x<;>cases y<;>first
  |exact .inr rfl
  |(rename_i i j
    by_cases c:i.natAbs<j2\/j.natAbs<j2
    ·exact .inl ⟨i,j,rfl,rfl,by unfold rh;unfold j2 at c;omega,T5 c⟩
    ·exact .inr (T6 c))
def Kp:eO X (binaryOp .FloorDiv) VM.oDiv:=u6 G4 (gw:=λi j=>.int<|i / j) (λ_ _ _=>rfl) λx y M=>by
 cases x<;>cases y<;>first
  |exact .inr rfl
  |(rename_i i j
    by_cases c:0<j/\j.natAbs<1073741824
    ·exact .inl ⟨i,j,rfl,rfl,by unfold Bu;omega,T5 c⟩
    ·exact .inr (T6 c))
def Kq:eO X (binaryOp .Mod) VM.oMod:=u6 Jv (gw:=λi j=>.int<|i % j) (λ_ _ _=>rfl) λx y M=>by
 cases x<;>cases y<;>first
  |exact .inr rfl
  |(rename_i i j
    by_cases c:0<j
    ·exact .inl ⟨i,j,rfl,rfl,c,T5 c⟩
    ·exact .inr (T6 c))
def Kr:eO X (binaryOp .Add) bG:=by
 refine⟨_,b9.or Js JE,λC M H x y v u Q R g l q=>?_⟩;cases x with
 |int i=>
  cases y with
  |int j=>cases g;cases l;exact .inl ⟨i,j,rfl,rfl,ay.ok q R rfl⟩
  |_=>exact(q).elim
 |ref a=>
  cases y with
  |ref b=>
   have c:ay RV X.K C (match VM.bQ M (.ref a),VM.bQ M (.ref b) with|some (_,h),aa (_,f)=>bb (h++f) M|_,_=>.bad) Q:=q;cases d:VM.bQ M (.ref a) with
   |none=>rw[d] at c;exact(c).elim
   |some A=>
    cases e:VM.bQ M (.ref b) with
    |none=>rw[d,e] at c;exact(c).elim
    |some n=>obtain⟨E,h⟩:=A;obtain⟨F,f⟩:=n;rw[d,e] at c;obtain⟨p,t,_,_,_,rfl,m,D⟩:=R.bQ d g;obtain⟨w,o,_,_,_,rfl,s,B⟩:=R.bQ e l;have r:=Paired.app D B;obtain⟨z,k⟩:=i_ R r c;exact .inr ⟨p,w,t,o,rfl,rfl,m,s,by rw[Us] at z;exact z,k⟩
  |_=>exact(q).elim
 |_=>exact(q).elim
def RV.dh{x y:VM.W}{v u:V}(c:RV ι x v)(b:RV ι y u)(h:VM.dh x y=af):L2.dh v u=af/\ai (v=u)=ai (x=y):=by
 cases x with
 |ref a=>cases y<;>exact absurd h Uq
 |aA=>
  cases c;cases y with
  |ref a=>exact absurd h Uq
  |aA=>cases b;exact⟨rfl,rfl⟩
  |bl j=>cases b;exact⟨rfl,rfl⟩
  |int j=>cases b;exact⟨rfl,rfl⟩
  |str j=>cases b;exact⟨rfl,rfl⟩
 |bl i=>
  cases c;cases y with
  |ref a=>exact absurd h Uq
  |aA=>cases b;exact⟨rfl,rfl⟩
  |bl j=>cases b;exact⟨rfl,by simp⟩
  |int j=>exact absurd h Uq
  |str j=>cases b;exact⟨rfl,rfl⟩
 |int i=>
  cases c;cases y with
  |ref a=>exact absurd h Uq
  |aA=>cases b;exact⟨rfl,rfl⟩
  |bl j=>exact absurd h Uq
  |int j=>cases b;exact⟨rfl,by simp⟩
  |str j=>cases b;exact⟨rfl,rfl⟩
 |str i=>
  cases c;cases y with
  |ref a=>exact absurd h Uq
  |aA=>cases b;exact⟨rfl,rfl⟩
  |bl j=>cases b;exact⟨rfl,rfl⟩
  |int j=>cases b;exact⟨rfl,rfl⟩
  |str j=>
   cases b;refine⟨rfl,?_⟩;by_cases e:i=j
   ·subst e;simp
   ·have d:¬(V.str (txt i)=V.str (txt j)):=λz=>e (qC<|by injection z)
    have f:¬(VM.W.str i=VM.W.str j):=λz=>e<|by injection z
    rw[Uy d,Uy f]
def RV.flat{x:VM.W}{v:V}(r:RV ι x v)(h:VM.flat x=af):dN v=af:=by cases x<;>first|exact absurd h Uq|(cases r;rfl)
def H_(i j):(txt i==txt j)=(i==j):=by
 by_cases e:i=j
 ·subst e;simp
 ·have h:=λz=>e (qC z)
  rw[Vm.mpr h,Vm.mpr e]
def RV.eK{x y:VM.W}{v u:V}(b:RV ι x v)(d:RV ι y u)(a:VM.flat x=af)(c:VM.flat y=af):dj v u=VM.eK x y:=by
 cases x<;>cases y<;>first
  |exact absurd a Uq
  |exact absurd c Uq
  |(cases b;cases d;first|rfl|exact H_ _ _)
theorem bq.flat:∀{xs:List VM.W} {vs:List V},bq ι xs vs->xs.all VM.flat=af->vs.all dN=af
 |_,_,.nil,_=>rfl
 |_,_,.cons r t,h=>by rw[Vp,T'] at h⊢;exact⟨r.flat h.1,bq.flat t h.2⟩
noncomputable def gq:List V->List V->Bool
 |[],[]=>af
 |x::xs,y::a=>dj x y&&gq xs a
 |_,_=>ag
theorem bq.fQ:∀{xs ys:List VM.W} {vs b:List V},bq ι xs vs->bq ι ys b->xs.all VM.flat=af->ys.all VM.flat=af->gq vs b=VM.fQ xs ys
 |_,_,_,_,.nil,.nil,_,_=>rfl
 |_,_,_,_,.nil,.cons _ _,_,_=>rfl
 |_,_,_,_,.cons _ _,.nil,_,_=>rfl
 |_,_,_,_,.cons r t,.cons d c,h,a=>by rw[Vp,T'] at h a;show(dj _ _&&gq _ _)=(VM.eK _ _&&VM.fQ _ _);rw[RV.eK r d h.1 a.1,bq.fQ t c h.2 a.2]
theorem pX:∀{vs a:List V},vs.length=a.length->((List.range vs.length).all λj=>dj (vs.getD j .aA)<|a.getD j .aA)=gq vs a
 |[],[],_=>rfl
 |[],_::_,h=>by simp at h
 |_::_,[],h=>by simp at h
 |x::xs,y::b,h=>by
  have c:=@pX xs b<|by simpa using h
  rw[UO,XT,Vp,List.all_map];show(dj x y&&_)=(dj x y&&gq xs b);rw[<-c];rfl
noncomputable def vX(K:Fg)(neg:Bool):R2:=λx y H Q=>∃p q b a,x=.ref p/\y=.ref q/\bH K H p b/\bH K H q a/\ ((b.length≠a.length/\Q (.bl<|if neg then af else ag) H)\/(b.length=a.length/\b.all dN=af/\a.all dN=af/\Q (.bl<|if neg then !gq b a else gq b a) H))
def l'{a:List ah}(r:Vals xs a){j:Nat}(h):RelV (xs.getD j .aA) a[j]:=by
 have b:j<xs.length:=by rw[r.length];exact h
 obtain⟨u,c,f⟩:=r.get (i:=j) (x:=xs[j])<|by simp[b]
 have d:=by rw[VN h] at c;exact Ug c
 have e:xs.getD j .aA=xs[j]:=by simp[b]
 rw[d,e];exact f
def mn{xs:List V}{j:Nat}(h:xs.all dN=af)(a:j<xs.length):dN (xs.getD j .aA)=af:=by
 have b:xs.getD j .aA=xs[j]:=by simp[a]
 rw[b];exact US.mp h _<|VU a
def DP(l:X.A.units<cLine):b9 X (compareOp .Eq) (vX X.K ag):=by
 intro o s L H x y v u Q I B G h;obtain⟨p,q,m,k,rfl,rfl,d,g,F⟩:=h;cases B;cases G;obtain⟨b,r,t,J⟩:=I.list d;obtain⟨a,w,c,E⟩:=I.list g;have C:=r.length;have M:=w.length;rcases F with⟨n,q⟩|⟨n,f1,f2,q⟩
 ·exact SeqAt.eq_list_lengthsAt t.isList c.isList (by simp only[Ul,bne_iff_ne];omega) l ⟨.bl ag,H,I,rfl,q⟩
 ·refine SeqAt.eq_listAt (e:=λj=>dj (m.getD j .aA)<|k.getD j .aA) t.isList c.isList (by simp only[Ul];omega) l (λj d g=>?_) ⟨.bl<|gq m k,H,I,?_,q⟩
  ·have i:=by simpa using d
   have f:=by simpa using g
   have z:b.toArray[j]=b[j]:=by simp
   have D:a.toArray[j]=a[j]:=by simp
   rw[z,D];exact qH (l' r i) (l' w f) (mn f1<|by omega)<|mn f2<|by omega
  ·show Value.bool _=Value.bool _;rw[Ul,<-C,pX n]
def DQ(l:X.A.units<cLine):b9 X (compareOp .NotEq) (vX X.K af):=by
 intro o s L H x y v u Q I B G h;obtain⟨p,q,m,k,rfl,rfl,d,g,F⟩:=h;cases B;cases G;obtain⟨b,r,t,J⟩:=I.list d;obtain⟨a,w,c,E⟩:=I.list g;have C:=r.length;have M:=w.length;rcases F with⟨n,q⟩|⟨n,f1,f2,q⟩
 ·exact SeqAt.RcNeAt.lists_lengths t.isList c.isList (by simp only[Ul,bne_iff_ne];omega) l _ _ _ _ ⟨.bl af,H,I,rfl,q⟩
 ·refine SeqAt.RcNeAt.lists (e:=λj=>dj (m.getD j .aA)<|k.getD j .aA) t.isList c.isList (by simp only[Ul];omega) l (λj d g=>?_) _ _ _ _ ⟨.bl<|!gq m k,H,I,?_,q⟩
  ·have i:=by simpa using d
   have f:=by simpa using g
   have z:b.toArray[j]=b[j]:=by simp
   have D:a.toArray[j]=a[j]:=by simp
   rw[z,D];exact qH (l' r i) (l' w f) (mn f1<|by omega)<|mn f2<|by omega
  ·show Value.bool _=Value.bool _;rw[Ul,<-C,pX n]
theorem zk:∀{vs a:List V},vs.length≠a.length->gq vs a=ag
 |[],[],h=>absurd rfl h
 |[],_::_,_=>rfl
 |_::_,[],_=>rfl
 |x::xs,y::b,h=>by show(dj x y&&gq xs b)=ag;rw[zk<|by simpa using h,VQ]
noncomputable def ry(K:Fg)(neg:Bool):R2:=λx y H Q=>∃p q c a b,x=.ref p/\y=.ref q/\H p=aa (.tup c)/\H q=aa (.tup a)/\ ((c.all dN=af/\a.all dN=af/\b=gq c a)\/((c.length=0\/a.length=0)/\b=ai (c.length=a.length)))/\Q (.bl<|if neg then !b else b) H
def Inv.tupI{σ:L2.St}{H:Hp}{s:Shared}{p:Addr}{xs:List V}(I:Inv X pins σ H s)(h:H p=aa (.tup xs)):∃a:List ah,Vals xs a/\s.heap.IsTuple p a.toArray:=by obtain⟨_,a,r,o,b,c,h3⟩:=I.aL p _ h;exact⟨a,r,o,b,c,h3⟩
def zl{pins:List (Addr×Obj)}{σ:L2.St}{H:Hp}{s:Shared}{A:Around}{xs ys:List V}{c a:List ah}{b:Bool}(r:Vals xs c)(i:Vals ys a)(h:(xs.all dN=af/\ys.all dN=af/\b=gq xs ys)\/((xs.length=0\/ys.length=0)/\b=ai (xs.length=ys.length))): (∀j (g) (k:j<a.toArray.size),SeqAt.EqAt A s c.toArray[j] a.toArray[j]<|dj (xs.getD j .aA)<|ys.getD j .aA)/\ ((List.range<|min c.toArray.size a.toArray.size).all (λj=>dj (xs.getD j .aA)<|ys.getD j .aA)&&c.toArray.size==a.toArray.size)=b:=by
 have p:=r.length;have u:=i.length;refine⟨λj g k=>?_,?_⟩
 ·have e:=by simpa using g
  have f:=by simpa using k
  have n:c.toArray[j]=c[j]:=by simp
  have t:a.toArray[j]=a[j]:=by simp
  rw[n,t];rcases h with⟨m,l,q⟩|⟨d,q⟩
  ·exact qH (l' r e) (l' i f) (mn m<|by omega)<|mn l<|by omega
  ·omega
 ·rw[Ul,Ul,<-p,<-u];rcases h with⟨m,l,q⟩|⟨d,q⟩
  ·by_cases d:xs.length=ys.length
   ·rw[<-d,Nat.min_self,pX d,VX,Vj,q]
   ·rw[Vm.mpr d,VQ,q,zk d]
  ·have o:min xs.length ys.length=0:=by omega
   rw[o,q];show(af&&_)=_;rw[Vg];by_cases d:xs.length=ys.length
   ·rw[UR d,d,VX]
   ·rw[Uy d,Vm.mpr d]
def EL(j:X.A.units<cLine):b9 X (compareOp .Eq) (ry X.K ag):=by intro a s e H x y v u Q I k t h;obtain⟨p,q,B,z,b,rfl,rfl,f,n,m,q⟩:=h;cases k;cases t;obtain⟨l,r,o⟩:=Inv.tupI I f;obtain⟨d,w,c⟩:=Inv.tupI I n;obtain⟨i,g⟩:=zl (pins:=a) (σ:=e) (H:=H) r w m;refine SeqAt.eq_tupleAt o c j i ?_;rw[g];exact⟨.bl b,H,I,rfl,q⟩
def EN(j:X.A.units<cLine):b9 X (compareOp .NotEq) (ry X.K af):=by intro a s e H x y v u Q I k t h;obtain⟨p,q,B,z,b,rfl,rfl,f,n,m,q⟩:=h;cases k;cases t;obtain⟨l,r,o⟩:=Inv.tupI I f;obtain⟨d,w,c⟩:=Inv.tupI I n;obtain⟨i,g⟩:=zl (pins:=a) (σ:=e) (H:=H) r w m;refine SeqAt.RcNeAt.tuples o c j i _ _ _ _ ?_;rw[g];exact⟨.bl<|!b,H,I,rfl,q⟩
def zm{M:VM.Mem}{H:Hp}{x y:VM.W}{v u:V}{b:Bool}{neg:Bool}{Q:VK}(R:Rel X.K ι M H)(s:RV ι x v)(w:RV ι y u)(e:dt M x y=aa b)(q:Q (.bl<|if neg then !b else b) H): ((if neg then L2.BR v u H Q else L2.BQ v u H Q)\/vX X.K neg v u H Q)\/ry X.K neg v u H Q:=by
 unfold dt at e;by_cases t:VM.dh x y=af
 ·rw[T5 t] at e;obtain⟨D,A⟩:=RV.dh s w t;have a:=Ug e;refine .inl<|.inl ?_;cases neg with
  |true=>exact⟨D,by rw[A,a];exact q⟩
  |false=>exact⟨D,by rw[A,a];exact q⟩
 ·rw[T6 t] at e;have c:(match VM.cm M x,VM.cm M y with|some xs,aa f=>vB xs f|_,_=>ae)=aa b->ry X.K neg v u H Q:=λe=>by
   cases g:VM.cm M x with
   |none=>rw[g] at e;cases e
   |some xs=>
    cases i:VM.cm M y with
    |none=>rw[g,i] at e;cases e
    |some f=>
     rw[g,i] at e;obtain⟨p,o,rfl,l,k⟩:=R.cm g s;obtain⟨r,m,rfl,n,j⟩:=R.cm i w;have z:=Paired.len k;have E:=Paired.len j;have a:(if(xs.all VM.flat&&f.all VM.flat)=af then aa (VM.fQ xs f) else if xs.length=0\/f.length=0 then aa (ai<|xs.length=f.length) else ae)=aa b:=e;refine⟨p,r,o,m,b,rfl,rfl,l,n,?_,q⟩;by_cases d:(xs.all VM.flat&&f.all VM.flat)=af
     ·rw[T5 d] at a;rw[T'] at d;have h:=Ug a;exact .inl ⟨bq.flat k d.1,bq.flat j d.2,by rw[bq.fQ k j d.1 d.2,h]⟩
     ·rw[T6 d] at a;by_cases B:xs.length=0\/f.length=0
      ·rw[T5 B] at a;have h:=Ug a;exact .inr ⟨by omega,by rw[<-h,z,E]⟩
      ·rw[T6 B] at a;cases a
  cases g:VM.a8 M x with
  |none=>rw[g] at e;exact .inr<|c e
  |some xs=>
   cases i:VM.a8 M y with
   |none=>rw[g,i] at e;exact .inr<|c e
   |some f=>
    refine .inl<|.inr ?_;rw[g,i] at e;obtain⟨p,o,rfl,l,k⟩:=R.a8 g s;obtain⟨r,m,rfl,n,j⟩:=R.a8 i w;have z:=Paired.len k;have E:=Paired.len j;have a:(if xs.length≠f.length then aa ag else if(xs.all VM.flat&&f.all VM.flat)=af then aa (VM.fQ xs f) else ae)=aa b:=e;by_cases C:xs.length≠f.length
    ·rw[T5 C] at a;have h:=Ug a;subst h;refine⟨p,r,o,m,rfl,rfl,l,n,.inl ⟨by omega,?_⟩⟩;cases neg<;>exact q
    ·rw[T6 C] at a;by_cases d:(xs.all VM.flat&&f.all VM.flat)=af
     ·rw[T5 d] at a;rw[T'] at d;have h:=Ug a;refine⟨p,r,o,m,rfl,rfl,l,n,.inr ⟨by omega,bq.flat k d.1,bq.flat j d.2,?_⟩⟩;rw[bq.fQ k j d.1 d.2,h];exact q
     ·rw[T6 d] at a;cases a
def EO(g:X.A.units<cLine):b9 X (compareOp .Eq) (λx y H Q=>∃p xs,x=.aA/\y=.ref p/\bH X.K H p xs/\Q (.bl ag) H):=by intro a s i H x y v u Q I c d h;obtain⟨p,xs,rfl,rfl,b,q⟩:=h;cases c;cases d;obtain⟨f,r,e,j⟩:=I.list b;exact SeqAt.RcAt.none_list e.isList g _ _ _ _ ⟨.bl ag,H,I,rfl,q⟩
def L6(d:X.A.units<cLine):eO X (compareOp .Eq) VM.oEq:=by
 refine⟨_,b9.or (b9.or (b9.or Lv<|DP d)<|EL d)<|EO d,λl M H x y v u Q R f h q=>?_⟩;unfold VM.oEq at q;cases e:dt M x y with
 |none=>
  rw[e] at q;have c:=q;by_cases a:vQ M x y=af
  ·rw[T5 a] at c;unfold vQ at a;rw[T'] at a;cases x with
   |aA=>
    cases g:VM.a8 M y with
    |none=>rw[g] at a;cases a.2
    |some k=>obtain⟨p,j,rfl,i,_⟩:=R.a8 g h;cases f;exact .inr ⟨p,j,rfl,rfl,i,ay.ok c R rfl⟩
   |bl _=>cases a.1
   |int _=>cases a.1
   |str _=>cases a.1
   |ref _=>cases a.1
  ·rw[T6 a] at c;exact(c).elim
 |some b=>rw[e] at q;exact .inl<|zm (neg:=ag) R f h e<|ay.ok q R rfl
def L7(a:X.A.units<cLine):eO X (compareOp .NotEq) bp:=by
 refine⟨_,b9.or (b9.or Lx<|DQ a)<|EN a,λf M H x y v u Q R c d q=>?_⟩;unfold bp at q;cases e:dt M x y with
 |none=>rw[e] at q;exact(q).elim
 |some b=>rw[e] at q;exact zm (neg:=af) R c d e<|ay.ok q R rfl
theorem vu{x:VM.W}{v:V}(a:RV ι x v)(b:VM.flat x=af):∀{xs:List VM.W} {vs:List V},bq ι xs vs->xs.all VM.flat=af->rJ v vs=i0 x xs
 |_,_,.nil,_=>rfl
 |_,_,.cons r t,h=>by rw[Vp,T'] at h;have c:=vu a b t h.2;show(dj _ v||rJ v _)=(VM.eK _ x||i0 x _);rw[RV.eK r a h.1 b,c]
def L8:eO X (compareOp .In) dP:=by
 refine⟨_,D',λh M H x y v u Q R c g q=>?_⟩;unfold dP at q;cases e:VM.bu M y with
 |none=>rw[e] at q;exact(q).elim
 |some xs=>
  rw[e] at q;have b:ay RV X.K h (if(VM.flat x&&xs.all VM.flat)=af then .ok (.bl<|i0 x xs) M else .bad) Q:=q;by_cases a:(VM.flat x&&xs.all VM.flat)=af
  ·rw[T5 a] at b;rw[T'] at a;obtain⟨p,i,rfl,f,d⟩:=R.bu e g;refine⟨p,i,rfl,f,c.flat a.1,bq.flat d a.2,?_⟩;rw[vu c a.1 d a.2];exact ay.ok b R rfl
  ·rw[T6 a] at b;exact(b).elim
def Ga:eO X (compareOp .NotIn) jd:=by
 refine⟨_,C_,λh M H x y v u Q R c g q=>?_⟩;unfold jd at q;cases e:VM.bu M y with
 |none=>rw[e] at q;exact(q).elim
 |some xs=>
  rw[e] at q;have b:ay RV X.K h (if(VM.flat x&&xs.all VM.flat)=af then .ok (.bl<|!i0 x xs) M else .bad) Q:=q;by_cases a:(VM.flat x&&xs.all VM.flat)=af
  ·rw[T5 a] at b;rw[T'] at a;obtain⟨p,i,rfl,f,d⟩:=R.bu e g;refine⟨p,i,rfl,f,c.flat a.1,bq.flat d a.2,?_⟩;rw[vu c a.1 d a.2];exact ay.ok b R rfl
  ·rw[T6 a] at b;exact(b).elim
def Ia{xs:List VM.W}{vs:List V}(r:bq ι xs vs){i:Int}{w:VM.W}(e:VM.cA xs i=aa w):∃v,L2.cA vs i=aa v/\RV ι w v:=by
 have a:=Paired.len r;unfold VM.cA at e;unfold L2.cA;have c:L2.cq vs.length i=VM.cq xs.length i:=by rw[<-a];rfl
 rw[c];cases h:VM.cq xs.length i with
 |none=>rw[h] at e;cases e
 |some j=>rw[h] at e;obtain⟨v,b,d⟩:=Paired.at r<|e;exact⟨v,b,d⟩
def L9{m n:VM.EM}{pos}(B:SE X a m)(P:SE X b n)(D:zK b:=by intro _ _;rfl):SE X (.Subscript a b pos) (ao ax m n):=by
 obtain⟨W,I,T⟩:=B;obtain⟨Z,E,L⟩:=P;refine⟨_,LJ (Hc.or JA) I E D,λO M H s l Q R S h=>?_⟩;refine T O M H s l _ R S<|ay.seq h λj F x M1 u U A V z=>?_
 refine L j M1 F s l _ A (S.mono U)<|ay.seq z λd Y y M2 v J R2 N q=>?_
 have C:=V.mono J;cases y with
 |int i=>
  cases N;have g:ay RV X.K d (match VM.bu M2 x with|some xs=>(match VM.cA xs i with|some v=>VM.R.ok v M2|none=>.bad)|none=>.bad) Q:=q;cases e:VM.bu M2 x with
  |none=>rw[e] at g;exact(g).elim
  |some xs=>
   rw[e] at g;have f:ay RV X.K d (match VM.cA xs i with|some v=>VM.R.ok v M2|none=>.bad) Q:=g;cases k:VM.cA xs i with
   |none=>rw[k] at f;exact(f).elim
   |some w=>
    rw[k] at f;obtain⟨p,r,rfl,c,G⟩:=R2.bu e C;obtain⟨v,t,o⟩:=Ia G k;rcases c with c|c
    ·exact .inl ⟨p,r,i,v,rfl,rfl,c,t,ay.ok f R2 o⟩
    ·exact .inr ⟨p,r,i,v,rfl,rfl,c,t,ay.ok f R2 o⟩
 |_=>cases x<;>exact(q).elim
noncomputable def SO(X:Cx)(e:Option Expr)(m:VM.PM):Prop:=∃t,PO X e t/\∀c M H f d Q,Rel X.K c M H->bM c f d->ay (λ_ (a b)=>a=b) X.K c (m f M) Q->t d H Q
def Ic:SO X ae j3:=⟨_,Ha,λb M H c a Q R S h=>ay.ok h R rfl⟩
def Ie{m:VM.EM}(d:SE X e m):SO X (aa e) (gg m):=by
 obtain⟨o,j,l⟩:=d;refine⟨_,Hb j,λk M H g f Q R S h=>?_⟩;refine l k M H g f _ R S<|ay.seq h λb p x M1 u q c n a=>?_
 cases x with
 |int i=>cases n;exact⟨i,rfl,ay.ok a c rfl⟩
 |_=>exact(a).elim
def Am{xs:List VM.W}{vs:List V}(r:bq ι xs vs)(lo hi):bq ι (VM.cut xs lo hi) (mK vs lo hi):=by
 have a:=Paired.len r;unfold VM.cut mK;have e:∀n d o,HT.bh n d o=VM.bh n d o:=λn d o=>by cases o<;>rfl
 rw[e,e,<-a];exact Paired.vD _<|Paired.Bk _ r
def L_{lo I:Option Expr}{m:VM.EM}{l h:VM.PM}{k pos}(U:SE X a m)(z:SO X lo l)(P:SO X I h):SE X (.Subscript a (.Slice lo I ae k) pos) (iu m l h):=by
 obtain⟨ta,pa,ka⟩:=U;obtain⟨tl,pl,V⟩:=z;obtain⟨th,Z,kh⟩:=P;refine⟨_,Fp (j_.or Hd Jz) pa pl Z,λι M H C A Q R S q=>?_⟩;refine ka ι M H C A _ R S<|ay.seq q λv W x M1 u N T r1 O=>?_
 refine V v M1 W C A _ T (S.mono N)<|ay.seq O λD H2 b M2 J k R2 r2 h2=>?_
 refine kh D M2 H2 C A _ R2 (S.mono<|Vk N k)<|ay.seq h2 λg H3 c f L p3 i Y h3=>?_
 cases r2;cases Y;have F:=(r1.mono k).mono p3;have j:ay RV X.K g (match VM.a8 f x with|some xs=>bb (VM.cut xs b c) f|none=>(match VM.cm f x with|some xs=>(if VM.bh xs.length 0 b=0/\VM.bh xs.length xs.length c=xs.length then .bad else gN (VM.cut xs b c) f)|none=>.bad)) Q:=h3;cases e:VM.a8 f x with
 |some xs=>rw[e] at j;obtain⟨p,B,rfl,w,r⟩:=i.a8 e F;exact .inl ⟨p,B,rfl,w,(i_ i (Am r b c) j).2⟩
 |none=>
  rw[e] at j;have t:=j;cases y:VM.cm f x with
  |none=>rw[y] at t;exact(t).elim
  |some xs=>
   rw[y] at t;obtain⟨p,B,rfl,w,r⟩:=i.cm y F;have s:ay RV X.K g (if VM.bh xs.length 0 b=0/\VM.bh xs.length xs.length c=xs.length then .bad else gN (VM.cut xs b c) f) Q:=t;by_cases E:VM.bh xs.length 0 b=0/\VM.bh xs.length xs.length c=xs.length
   ·rw[T5 E] at s;exact(s).elim
   ·rw[T6 E] at s;have z:=Paired.len r;refine .inr ⟨p,B,rfl,dD.of w,?_,(yB i (Am r b c) s).2⟩;have G:∀n d o,HT.bh n d o=VM.bh n d o:=λn d o=>by cases o<;>rfl
    rw[G,G,<-z];exact E
end
section
variable{X:Cx}
def RV.kY(r:RV ι x v):ai (v=.aA)=VM.kY x:=by
 cases x with
 |ref a=>obtain⟨p,_,rfl⟩:=r;rfl
 |aA=>cases r;rfl
 |bl _=>cases r;rfl
 |int _=>cases r;rfl
 |str _=>cases r;rfl
def u7(g:∀a M H σ c Q,Rel X.K a M H->bM a σ c->ay RV X.K a (m σ M) Q->ta c H Q)(R:Rel X.K a M H)(S:bM a σ c)(h:ay rB X.K a (VM.tB m σ M) Q):L2.tB ta c H Q:=by
 refine g a M H σ c _ R S<|ay.seq h λe j x M1 u k f i d=>?_
 cases x with
 |bl b=>cases i;exact⟨b,rfl,ay.ok d f rfl⟩
 |_=>exact(d).elim
def Ks{j p pos}(i:SE X a m):fF X (.Compare a [.Is] [.Constant .none j p] pos) (VM.tB<|jk m):=by
 obtain⟨o,k,l⟩:=i;refine⟨_,Ax<|Jb k,λd M H c b Q R S h=>u7 (λd M H c b Q R S h=>?_) R S h⟩;refine l d M H c b _ R S<|ay.seq h λf q x M1 u r g n e=>?_
 rw[n.kY];exact ay.ok e g rfl
def Ig{j p pos}(i:SE X a m):fF X (.Compare a [.IsNot] [.Constant .none j p] pos) (VM.tB<|mE m):=by
 obtain⟨o,k,l⟩:=i;refine⟨_,Ax<|GX k,λd M H c b Q R S h=>u7 (λd M H c b Q R S h=>?_) R S h⟩;refine l d M H c b _ R S<|ay.seq h λf q x M1 u r g n e=>?_
 rw[n.kY];exact ay.ok e g rfl
def Kt{e:Expr}{m:VM.EM}(f:SE X e m)(c:∀a,isTrue e X.env a=(do let v<-a;standAt e.pos;holding [v] (truthy v)):=by intro _;rfl):fF X e (VM.tB m):=by obtain⟨k,b,d⟩:=f;exact⟨_,Jc b c,λi M H j g Q R S h=>u7 d R S h⟩
def Ih{pos}(c:fF X a m):SW X (.BoolOp .And [a] pos) m:=by obtain⟨e,d,b⟩:=c;exact⟨_,GY d,b⟩
def Ku{pos}(c:fF X a m):SW X (.BoolOp .Or [a] pos) m:=by obtain⟨e,d,b⟩:=c;exact⟨_,Jd d,b⟩
def Kv{rest:List Expr}{pos}(i:fF X a m)(q:SW X (.BoolOp .And (b::rest) pos) n):SW X (.BoolOp .And (a::b::rest) pos) (VM.fP m n):=by
 obtain⟨v,l,r⟩:=i;obtain⟨w,j,o⟩:=q;refine⟨_,Je l j,λp M H g f Q R S h=>?_⟩;refine r p M H g f _ R S<|ay.seq h λc k x M1 u s e t d=>?_
 cases t;cases x with
 |true=>exact o c M1 k g f Q e (S.mono s) d
 |false=>exact ay.ok d e rfl
def Ma{rest:List Expr}{pos}(i:fF X a m)(q:SW X (.BoolOp .Or (b::rest) pos) n):SW X (.BoolOp .Or (a::b::rest) pos) (VM.bg m n):=by
 obtain⟨v,l,r⟩:=i;obtain⟨w,j,o⟩:=q;refine⟨_,Lk l j,λp M H g f Q R S h=>?_⟩;refine r p M H g f _ R S<|ay.seq h λc k x M1 u s e t d=>?_
 cases t;cases x with
 |true=>exact ay.ok d e rfl
 |false=>exact o c M1 k g f Q e (S.mono s) d
def Ii(h:SW X e m):fF X e m:=by obtain⟨t,p,k⟩:=h;exact⟨t,p.pt,k⟩
def Kw{pos}(e:fF X a m):fF X (.UnaryOp .Not a pos) (VM.bB m):=by
 obtain⟨n,i,k⟩:=e;refine⟨_,Jf i,λj M H g f Q R S h=>?_⟩;refine k j M H g f _ R S<|ay.seq h λc o x M1 u p d l b=>?_
 cases l;exact ay.ok b d rfl
def Kx{op}{pos}(c:SE X a m):SE X (.BoolOp op [a] pos) m:=by obtain⟨e,d,b⟩:=c;exact⟨_,Jg d,b⟩
def Ky{rest:List Expr}{pos}(j:SE X a m)(r:SE X (.BoolOp .And (b::rest) pos) n):SE X (.BoolOp .And (a::b::rest) pos) (eZ m n):=by
 obtain⟨w,o,s⟩:=j;obtain⟨y,k,p⟩:=r;refine⟨_,Jh o k,λq M H i g Q R S h=>?_⟩;refine s q M H i g _ R S<|ay.seq h λe l x M1 u t f v d=>?_
 cases x with
 |bl c=>
  cases v;refine⟨c,rfl,?_⟩;cases c with
  |true=>rw[T5 rfl];exact p e M1 l i g Q f (S.mono t) d
  |false=>rw[T6 Uq];exact ay.ok d f rfl
 |_=>exact(d).elim
def Mb{rest:List Expr}{pos}(j:SE X a m)(r:SE X (.BoolOp .Or (b::rest) pos) n):SE X (.BoolOp .Or (a::b::rest) pos) (rL m n):=by
 obtain⟨w,o,s⟩:=j;obtain⟨y,k,p⟩:=r;refine⟨_,Ln o k,λq M H i g Q R S h=>?_⟩;refine s q M H i g _ R S<|ay.seq h λe l x M1 u t f v d=>?_
 cases x with
 |bl c=>
  cases v;refine⟨c,rfl,?_⟩;cases c with
  |true=>rw[T5 rfl];exact ay.ok d f rfl
  |false=>rw[T6 Uq];exact p e M1 l i g Q f (S.mono t) d
 |_=>exact(d).elim
def Kz{pos}(f:SE X a m):SE X (.UnaryOp .Not a pos) (vS m):=by
 obtain⟨o,j,l⟩:=f;refine⟨_,Ji j,λk M H i g Q R S h=>?_⟩;refine l k M H i g _ R S<|ay.seq h λd p x M1 u q e n b=>?_
 cases x with
 |bl c=>cases n;exact⟨c,rfl,ay.ok b e rfl⟩
 |_=>exact(b).elim
def KA:SC X (.builtin "len") aZ:=by
 refine⟨_,xw,λc M H g i Q R r h=>?_⟩;cases r with
 |nil=>exact(h).elim
 |cons f t=>
  cases t with
  |cons _ _=>exact(h).elim
  |nil=>
   rename_i x v
   have q:ay RV X.K c (match VM.bu M x with|some xs=>VM.R.ok (.int xs.length) M|none=>.bad) Q:=h;cases e:VM.bu M x with
   |none=>rw[e] at q;exact(q).elim
   |some xs=>rw[e] at q;obtain⟨p,d,rfl,a,b⟩:=R.bu e f;exact⟨p,d,rfl,a,by rw[<-Paired.len b];exact ay.ok q R rfl⟩
def Ij:SC X (.type "list") gh:=by
 refine⟨_,Dc,λc M H g i Q R r h=>?_⟩;cases r with
 |nil=>exact(h).elim
 |cons f t=>
  cases t with
  |cons _ _=>exact(h).elim
  |nil=>
   rename_i x v
   have q:ay RV X.K c (match VM.bu M x with|some xs=>bb xs M|none=>.bad) Q:=h;cases e:VM.bu M x with
   |none=>rw[e] at q;exact(q).elim
   |some xs=>rw[e] at q;obtain⟨p,d,rfl,a,b⟩:=R.bu e f;exact⟨p,d,rfl,a,(i_ R b q).2⟩
def KC:SC X (.type "int") iT:=by
 refine⟨_,D7,λd M H c e Q R r h=>?_⟩;cases r with
 |nil=>exact(h).elim
 |cons a t=>
  cases t with
  |cons _ _=>rename_i x _ _ _ _ _ _ _;cases x<;>exact(h).elim
  |nil=>
   rename_i x v
   cases x with
   |int i=>cases a;exact .inl ⟨i,rfl,ay.ok h R rfl⟩
   |bl b=>cases a;exact .inr ⟨b,rfl,ay.ok h R rfl⟩
   |_=>exact(h).elim
def uM{g:String}(m:SC X (.builtin g) f)(A:X.mg x=ae)(k:SA X (e::es) a)(q:Gl X x:=by rfl)(y:bootBuiltins x=aa (.builtin g):=by rfl)(v:x≠"__name__":=by decide+kernel)(b:(x==("__debug__":Str))=ag:=by decide+kernel)(he:starEach (e::es) X.env=(ag,eval e X.env)::starEach es X.env:=by rfl)(d:(backTo pos<|starEach es X.env).any (·.1)=ag:=by rfl):SE X (.Call (.Name x p) (e::es) [] pos) (av f a):=by obtain⟨r,l,w⟩:=m;obtain⟨D,t,B⟩:=k;refine⟨_,qi l q A y t v b he d,λz M H s o Q R S h=>?_⟩;exact B z M H s o _ R S<|ay.seq h λc n x M1 u E j C i=>w c M1 n x u Q j C i
def yC(l:SC X (.type T) f)(z:X.mg x=ae)(j:SA X (e::es) a)(o:Gl X x:=by rfl)(w:bootBuiltins x=aa (.type T):=by rfl)(t:x≠"__name__":=by decide+kernel)(b:(x==("__debug__":Str))=ag:=by decide+kernel)(he:starEach (e::es) X.env=(ag,eval e X.env)::starEach es X.env:=by rfl)(d:(backTo pos<|starEach es X.env).any (·.1)=ag:=by rfl):SE X (.Call (.Name x p) (e::es) [] pos) (av f a):=by obtain⟨r,k,v⟩:=l;obtain⟨C,s,A⟩:=j;refine⟨_,x9 k o z w s t b he d,λy M H q n Q R S h=>?_⟩;exact A y M H q n _ R S<|ay.seq h λc m x M1 u D i B g=>v c M1 m x u Q i B g
noncomputable def ny(K:Fg)(n:Nat)(f:VM.CM):Sp:=λc H Q _=>c.length=n/\∃a M b,Rel K a M H/\bq a b c/\ay RV K a (f b M) Q
structure kr(P:Program)(w:World)(K:Fg)(mg:Str->Option ah)(base:Heap)(k:Nat)(x:Str)(f:Addr)(fd:FuncData)(ps:List Str)(c:VM.CM):Prop where
 ok:eG P w K mg base fD k f fd ps (ny K ps.length c)
 mg:mg x=aa (.ref f)
 kp:PySem.W.keepIn K (.ref f)=af
 bi:Binds K fd ps []
 ln:∀ws M,ws.length≠ps.length->c ws M=.bad
def Ik(F:kr X.prog X.w X.K X.mg X.base k x f fd ps c)(n:bY k X.A)(q:SA X (e::es) a)(t:Gl X x:=by rfl)(d:(x==("__debug__":Str))=ag:=by decide+kernel)(r:starEach (e::es) X.env=(ag,eval e X.env)::starEach es X.env:=by rfl)(j:(backTo pos<|starEach es X.env).any (·.1)=ag:=by rfl):
 SE X (.Call (.Name x p) (e::es) [] pos) (av c a):=by
 obtain⟨B,v,z⟩:=q;refine⟨_,G8 F.ok n t F.mg F.kp F.bi .nil qX v d r j,λy M H u s Q R S h=>?_⟩;refine z y M H u s _ R S<|ay.seq h λg C i M1 D E o m b=>?_
 rw[UY];by_cases l:i.length=ps.length
 ·exact⟨by rw[<-Paired.len m];exact l,g,M1,i,o,m,b⟩
 ·rw[F.ln i M1 l] at b;exact(b).elim
end
section
variable{X:Cx}
noncomputable def SM(X:Cx)(d:String)(f:VM.W->VM.CM):Prop:=∃r,iY X d r/\∀a M H x v b c Q,Rel X.K a M H->RV a x v->bq a b c->ay RV X.K a (f x b M) Q->(∃p e,v=.ref p/\bH X.K H p e)/\r v c H Q
def ER:SM X "list.append" cZ:=by
 refine⟨_,Ea,λj M H x v o s Q R k r h=>?_⟩;cases r with
 |nil=>exact(h).elim
 |cons n t=>
  cases t with
  |cons _ _=>exact(h).elim
  |nil=>
   rename_i y u
   have q:ay RV X.K j (match VM.bQ M x with|some (a,b)=>(if b.length<VM.lim then .ok .aA (M.set a<|.lst<|b++[y]) else .bad)|none=>.bad) Q:=by
    unfold cZ at h;cases e:VM.bQ M x with
    |none=>rw[e] at h;exact h
    |some z=>rw[e] at h;exact h
   cases e:VM.bQ M x with
   |none=>rw[e] at q;exact(q).elim
   |some z=>
    obtain⟨a,b⟩:=z;rw[e] at q;have c:ay RV X.K j (if b.length<VM.lim then .ok .aA (M.set a<|.lst<|b++[y]) else .bad) Q:=q;obtain⟨p,g,rfl,l,m,rfl,f,i⟩:=R.bQ e k;by_cases d:b.length<VM.lim
    ·rw[T5 d] at c;refine⟨⟨p,g,rfl,bH.of f⟩,p,g,u,rfl,rfl,f,by rw[<-Paired.len i];exact d,?_⟩;exact ay.ok c (R.set l m<|Paired.app i<|.cons n .nil) rfl
    ·rw[T6 d] at c;exact(c).elim
def Ds(e:Addr)(a:Array ah)(k:Nat)(h:Addr)(b:Array ah)(j:Nat)(m:Option Addr)(n:Array<|Option ah)(h0:¬(!a.isEmpty&&Builtin.List.listTooLong (a.size+b.size))=af)(i:a.size<=sizeLine)(o:a.size+b.size<=sizeLine+1):
 Meets (Builtin.«list.extend» ⟨[.ref e,.ref h],[]⟩) (λ_ R s=>
  s.heap.get? e=aa {cls:=.type "list",dict:=ae,data:=.seq a k,slots:= #[]}/\
  s.heap.get? h=aa {cls:=.type "tuple",dict:=m,data:=.seq b j,slots:=n}/\
  R (.ok (.ret Value.none)) {s with heap:=s.heap.update e (Obj.mapSeq λx=>x++b),toks:=s.toks}):=
 .of_wp λg w A R s q=>by
  obtain⟨v,u,d,r,t⟩:=s;obtain⟨f,l,q⟩:=q;have C:=AutoSeq1.idx_int;have y:=AutoSeq1.sub_tuple_tuple;have z:=AutoSeq1.sub_list_list;have B:=AutoSeq1.sub_tuple_list;have p:=AutoSeq1.sub_list_tuple;have c:(a++b).size<=sizeLine+1:=by rw[Array.size_append];exact o
  wp_walk using(WU f rfl (hz:=i) (_hz':=c)),Vf f,Vf l
  exact⟨_,rfl,q⟩
noncomputable def Gb:V->List V->Hp->VK->Prop:=λx d H Q=>∃l b c a,x=.ref l/\d=[.ref b]/\H l=aa (.lst c)/\H b=aa (.tup a)/\c.length+a.length<=sizeLine/\Q .aA (upd H l<|.lst<|c++a)
def DR:iY X "list.extend" Gb:=by
 intro j s S H x R v K Q I t C h;obtain⟨l,b,L,G,rfl,rfl,k,w,N,q⟩:=h;cases t;obtain⟨u,rfl,D⟩:=C.one;cases D;obtain⟨z,c,n,r,O,e⟩:=I.j6 k;obtain⟨P,a,m,o,B,d,A,i⟩:=I.aL b _ w;have E:=m.length;obtain⟨M,p,J,y⟩:=o;simp only at d i;subst d i;have g:c.toArray.size+a.toArray.size<=sizeLine:=by rw[Ul,Ul];omega
 have f:¬(!c.toArray.isEmpty&&Builtin.List.listTooLong (c.toArray.size+a.toArray.size))=af:=by rw[yP g,VQ];exact Uq
 refine VP W9 ⟨_,e,rfl⟩ F.entry_list_extend (F.args_list_extend_2 _ _) (Ds l c.toArray n b a.toArray A p y f (by rw[Ul];omega)<|by omega) ⟨e,B,?_⟩;refine⟨.aA,_,I.ri k e (by simp) (r.append m) ?_,rfl,q⟩;rw[Us];omega
def Rel.litOf(R:Rel K ι M H)(e:VM.litOf M w=aa xs)(r:RV ι w v):∃p vs,v=.ref p/\(H p=aa (.lst vs)\/H p=aa (.tup vs))/\bq ι xs vs:=by
 cases w with
 |ref a=>
  obtain⟨p,j,rfl⟩:=r;simp only[VM.litOf] at e;cases h:M[a]? with
  |none=>rw[h] at e;cases e
  |some o=>
   rw[h] at e;have i:=R.obj a p o j h;cases o with
   |lst b=>cases e;obtain⟨vs,d,f⟩:=i;exact⟨p,vs,rfl,.inl d,f⟩
   |tup b=>cases e;obtain⟨vs,d,f⟩:=i;exact⟨p,vs,rfl,.inr d,f⟩
   |a6 b=>cases e
   |aG b=>cases e
   |ins c b=>cases e
   |dr x=>cases e
   |ba g x=>cases e
   |bZ=>cases e
   |eR c=>cases e
 |aA=>cases e
 |bl _=>cases e
 |int _=>cases e
 |str _=>cases e
def ES:SM X "list.extend" kJ:=by
 refine⟨_,iY.or Eb DR,λA M H x v F G Q R B r h=>?_⟩;cases r with
 |nil=>exact(h).elim
 |cons E t=>
  cases t with
  |cons _ _=>exact(h).elim
  |nil=>
   rename_i y u
   have q:ay RV X.K A (match VM.bQ M x,VM.litOf M y with|some (a,g),aa f=>(if g.length+f.length<=VM.lim then .ok .aA (M.set a<|.lst<|g++f) else .bad)|_,_=>.bad) Q:=h;cases e:VM.bQ M x with
   |none=>rw[e] at q;exact(q).elim
   |some z=>
    cases n:VM.litOf M y with
    |none=>rw[e,n] at q;exact(q).elim
    |some f=>
     obtain⟨a,g⟩:=z;rw[e,n] at q;have l:ay RV X.K A (if g.length+f.length<=VM.lim then .ok .aA (M.set a<|.lst<|g++f) else .bad) Q:=q;obtain⟨p,k,rfl,C,D,rfl,m,w⟩:=R.bQ e B;obtain⟨s,d,rfl,b,j⟩:=R.litOf n E;by_cases o:g.length+f.length<=VM.lim
     ·rw[T5 o] at l;have i:=ay.ok l (R.set C D<|Paired.app w j) rfl;have c:k.length+d.length<=sizeLine:=by rw[<-Paired.len w,<-Paired.len j];exact o
      refine⟨⟨p,k,rfl,bH.of m⟩,?_⟩;rcases b with b|b
      ·exact .inl ⟨p,s,k,d,rfl,rfl,m,b,c,i⟩
      ·exact .inr ⟨p,s,k,d,rfl,rfl,m,b,c,i⟩
     ·rw[T6 o] at l;exact(l).elim
def KD:SM X "list.pop" iU:=by
 refine⟨_,JD,λj M H x v s t Q R k r h=>?_⟩;cases r with
 |cons _ _=>exact(h).elim
 |nil=>
  have q:ay RV X.K j (match VM.bQ M x with|some (a,b)=>(match b[b.length-1]? with|some y=>.ok y (M.set a<|.lst b.dropLast)|none=>.bad)|none=>.bad) Q:=by
   unfold iU at h;cases e:VM.bQ M x with
   |none=>rw[e] at h;exact h
   |some z=>rw[e] at h;exact h
  cases e:VM.bQ M x with
  |none=>rw[e] at q;exact(q).elim
  |some z=>
   obtain⟨a,b⟩:=z;rw[e] at q;have c:ay RV X.K j (match b[b.length-1]? with|some y=>.ok y (M.set a<|.lst b.dropLast)|none=>.bad) Q:=q;obtain⟨p,i,rfl,l,o,rfl,g,f⟩:=R.bQ e k;cases d:b[b.length-1]? with
   |none=>rw[d] at c;exact(c).elim
   |some y=>rw[d] at c;obtain⟨v,n,m⟩:=Paired.at f d;refine⟨⟨p,i,rfl,bH.of g⟩,p,i,v,rfl,rfl,g,by rw[<-Paired.len f];exact n,?_⟩;exact ay.ok c (R.set l o<|Paired.EK f) m
def Gd{l:String}(g:Slot "list" name l)(k:typeOf (.builtin l)=pure (.type "method_descriptor"))(E:SM X l f)(A:SE X o m)(b:attributeBase o name X.env (eval o X.env)=eval o X.env:=by rfl)(c:(apos.endLine==bF.line)=af:=by rfl):SE X (.Call (.Attribute o name apos) [] [] bF) (bD f m aq):=by
 obtain⟨r,w,t⟩:=E;obtain⟨J,C,G⟩:=A;refine⟨_,JC X3 g k w C b c,λD M H B z Q R S h=>?_⟩;refine G D M H B z _ R S<|ay.seq h λd y x M1 u L s I j=>?_
 have a:ay RV X.K d (match VM.a8 M1 x with|some _=>f x [] M1|none=>.bad) Q:=by
  cases i:VM.a8 M1 x with
  |none=>rw[i] at j;exact j
  |some n=>rw[i] at j;exact j
 cases i:VM.a8 M1 x with
 |none=>rw[i] at a;exact(a).elim
 |some n=>rw[i] at a;obtain⟨⟨p,n,e,v⟩,q⟩:=t d M1 y x u [] [] Q s I .nil a;subst e;exact⟨.inl ⟨rfl,n,v⟩,q⟩
def u9{o e:Expr}{i:List Expr}{name:Str}{q:String}{f:VM.W->VM.CM}{m:VM.EM}{a:VM.AM}{g b:Pos}(l:Slot "list" name q)(s:typeOf (.builtin q)=pure (.type "method_descriptor"))(hm:SM X q f)(P:SE X o m)(E:SA X (e::i) a)(j:attributeBase o name X.env (eval o X.env)=eval o X.env:=by rfl)(n:((backTo b<|starEach (e::i) X.env).all (λx=>!x.1)&&(backToKw b<|keywordEach [] X.env).all (λx=>x.1.isSome)
  &&ai ((e::i).length+([]:List Keyword).length+(if([]:List Keyword).isEmpty then 0 else 1)<30))=af:=by rfl)
 (k:(g.endLine==b.line)=af:=by rfl) (I:starEach (e::i) X.env=(ag,eval e X.env)::starEach i X.env:=by rfl) (c:(backTo b<|starEach i X.env).any (·.1)=ag:=by rfl):
 SE X (.Call (.Attribute o name g) (e::i) [] b) (bD f m a):=by
 obtain⟨r,J,G⟩:=hm;obtain⟨ta,V,ka⟩:=P;obtain⟨tb,K,Z⟩:=E;refine⟨_,LM X3 l s J V K j n k I c,λι M H B A Q R S h=>?_⟩;refine ka ι M H B A _ R S<|ay.seq h λt O x M1 u p1 z C D=>?_
 have d:=D;cases y:VM.a8 M1 x with
 |none=>rw[y] at d;exact(d).elim
 |some xs=>rw[y] at d;obtain⟨p,L,e0,w,_⟩:=z.a8 y C;subst e0;refine⟨.inl ⟨rfl,L,w⟩,Z t M1 O B A _ z (S.mono p1)<|ay.seq d λv H2 N M2 U Y R2 r2 T=>?_⟩;exact(G v M2 H2 x _ N U Q R2 (C.mono Y) r2 T).2
def Il{pos}(c:X.N.Nodup)(d:X.N[i]? =aa x:=by rfl)(a:Loc X.env.scope x:=by first|exact Or.inl rfl|exact Or.inr rfl)(b:X.fn x=af\/X.env.scope.names.lookup x=aa .local:=by first|exact .inl rfl|exact .inr rfl|assumption):SG X (.Name x pos) (VM.az i):=by refine⟨_,zB c d a b,λf M H g e w v Q R S r h=>?_⟩;exact ay.ok h R<|Paired.mT (x:=aa w) ⟨v,rfl,r⟩ i S
def Im:sf X [] []:=by
 refine⟨rfl,_,G2,λc M H e b a d Q R S r h=>?_⟩;cases r with
 |nil=>exact⟨rfl,ay.ok h R S⟩
 |cons _ _=>exact(h).elim
def Ge(a:SG X t g)(p:sf X ts gs)(k:(assignEach (t::ts) X.env).map (·.2)=assign t X.env::(assignEach ts X.env).map (·.2):=by rfl):sf X (t::ts) (g::gs):=by
 obtain⟨B,y,k1⟩:=a;obtain⟨m,A,s,k2⟩:=p;refine⟨by simp[m],_,Fi y s k,λx M H q o f d Q R S r h=>?_⟩;cases r with
 |nil=>exact(h).elim
 |cons z u=>
  rename_i w v f d
  refine⟨v,d,rfl,k1 x M H q o w v _ R S z<|ay.seq h λb n c M1 e i j l a=>?_⟩;exact k2 b M1 n c e f d Q j l (bq.mono i u) a
def KG{pos}(m:X.calm=af)(h:sf X es gs)(q:(assignEach es X.env).length=es.length:=by rfl)(b:(assignEach es X.env).findIdx? (·.1)=ae:=by rfl):SG X (.Tuple es k pos) (VM.dd gs):=by
 obtain⟨l,s,o,k2⟩:=h;refine⟨_,Jm m o q b,λi M H f n w v Q R S r h=>?_⟩;unfold VM.dd at h;cases e:VM.cm M w with
 |none=>rw[e] at h;exact(h).elim
 |some xs=>
  rw[e] at h;have a:ay bM X.K i (if xs.length=gs.length then iL gs xs f M else .bad) Q:=h;by_cases c:xs.length=gs.length
  ·rw[T5 c] at a;obtain⟨p,d,rfl,j,g⟩:=R.cm e r;exact⟨p,d,rfl,dD.of j,by rw[<-Paired.len g,c,l],k2 i M H f n xs d Q R S g a⟩
  ·rw[T6 c] at a;exact(a).elim
def KH{pos}(P:SE X o m)(O:SE X i n)(G:∀v,assign (.Subscript o i pos) X.env v=(do
  let f<-holding [v] (eval o X.env)
  let A<-holding [v,f] (eval i X.env)
  standAt pos
  holding [v,f,A] (setItem f A v)
  release [v,f,A] []):=by intro _;rfl):SG X (.Subscript o i pos) (VM.eE m n):=by
 obtain⟨t1,Z,k1⟩:=P;obtain⟨t2,T,k2⟩:=O;refine⟨_,Jn Z T set_list G,λW M H l C w v Q R S r h=>?_⟩;refine k1 W M H l C _ R S<|ay.seq h λs N x M1 u q F I E=>?_
 refine k2 s M1 N l C _ F (S.mono q)<|ay.seq E λd H2 y M2 u2 B R2 V c=>?_
 cases y with
 |int k=>
  cases V;have h3:ay bM X.K d (match VM.bQ M2 x with|some (a,b)=>(match VM.cq b.length k with|some j=>.ok l (M2.set a<|.lst<|b.set j w)|none=>.bad)|none=>.bad) Q:=by
   cases e:VM.bQ M2 x with
   |none=>rw[e] at c;exact c
   |some z=>rw[e] at c;exact c
  cases e:VM.bQ M2 x with
  |none=>rw[e] at h3;exact(h3).elim
  |some z=>
   obtain⟨a,b⟩:=z;rw[e] at h3;have g:ay bM X.K d (match VM.cq b.length k with|some j=>.ok l (M2.set a<|.lst<|b.set j w)|none=>.bad) Q:=h3;obtain⟨p,J,rfl,L,Y,rfl,U,D⟩:=R2.bQ e<|I.mono B;cases t:VM.cq b.length k with
   |none=>rw[t] at g;exact(g).elim
   |some j=>rw[t] at g;refine⟨p,J,k,j,rfl,rfl,U,by rw[<-Paired.len D];exact t,?_⟩;exact ay.ok g (R2.set L Y<|Paired.mT (RV.mono B<|RV.mono q r) j D)<|S.mono<|Vk q B
 |_=>exact(c).elim
def bx.Nl(h:bx K ι (r.andThen f) D)(k:∀a d c e b,ι<+:a->Rel K a e d->bM a c b->bx K a (f c e) D->N b d):bx K ι r {D with nx:=N}:=by
 cases r with
 |nx σ M=>exactλa d b p R S=>k a d σ M b p R S<|bx.mono p h
 |rt w M=>exact h
 |bk σ M=>exact h
 |ct σ M=>exact h
 |ex _ _=>exact h
 |bad=>exact h
def Io:fY X [] aO:=⟨_,GZ,λb M H c a D R S h=>h b H a dR R S⟩
def An(h:SS X st m):fY X [st] m:=by obtain⟨t,p,k⟩:=h;exact⟨t,G0 p,k⟩
def Gf{rest:List Stmt}(h:SS X st m)(e:fY X rest n):fY X (st::rest) (au m n):=by obtain⟨t,p,k⟩:=h;obtain⟨u,q,l⟩:=e;refine⟨_,Fe p q,λr M H o j D R S h=>?_⟩;exact k r M H o j _ R S<|bx.Nl h λa i b M1 c s f g d=>l a M1 i b c D f g d
def KI{pos}(n:SE X e m)(w:SG X tg g)(o:swapsWithSole [tg] e pos.line X.env=pure ag:=by rfl)(B:swappedStores [tg] e X.env=pure ae:=by rfl)(a:(assignEach [tg] X.env).map (·.2)=[assign tg X.env]:=by rfl):SS X (.Assign [tg] e pos) (aN m g):=by
 obtain⟨t,p,k⟩:=n;obtain⟨u,q,l⟩:=w;refine⟨_,Jo p q o B a,λA M H i f D R S h=>?_⟩;refine k A M H i f _ R S<|bx.seq h λb r x M1 v E j F a=>?_
 exact l b M1 r i f x v D.nx j (S.mono E) F<|bx.seq a λc z s M2 d G R2 C y=>y c z d dR R2 C
def KJ{pos pos'}(c:X.N.Nodup)(f:SE X e m)(o:X.N[i]? =aa x:=by rfl)(j:Loc X.env.scope x:=by first|exact Or.inl rfl|exact Or.inr rfl)(g:swapsWith e (aa<|.Name x pos') pos.line X.env=pure ag:=by rfl)(hf:X.fn x=af\/X.env.scope.names.lookup x=aa .local:=by first|exact .inl rfl|exact .inr rfl|assumption):SS X (.Assign [.Name x pos'] e pos) (aN m<|VM.az i):=by
 obtain⟨t,p,k⟩:=f;refine⟨_,Jp c o j p g hf,λr M H q n D R S h=>?_⟩;refine k r M H q n _ R S<|bx.seq h λa l w M1 v s d u b=>?_
 exact b a l _ dR d<|Paired.mT (x:=aa w) ⟨v,rfl,u⟩ i<|S.mono s
def Ip{pos}(f:SE X e m)(g:swapsWith e ae pos.line X.env=pure ag:=by rfl):SS X (.Expr e pos) (cg m):=by obtain⟨t,p,k⟩:=f;refine⟨_,G1 p g,λl M H j b D R S h=>?_⟩;exact k l M H j b _ R S<|bx.seq h λa i x M1 v n d o c=>c a i b dR d<|S.mono n
def AY{pos}(d:SE X e m):SS X (.Return (aa e) pos) (aK m):=by obtain⟨t,p,k⟩:=d;refine⟨_,Jk p,λj M H i g D R S h=>?_⟩;exact k j M H i g _ R S<|bx.seq h λa f x M1 v n c l b=>b a f v dR c l
def Gg{pos}:SS X (.Break pos) wm:=⟨_,Ff,λb M H c a D R S h=>h b H a dR R S⟩
def Gh:SS X st vU:=⟨_,Fh,λb M H c a D R S h=>h⟩
def Mc{pos}(q:fF X c t)(l:fY X a m)(y:fY X b n):SS X (.If c a b pos) (aM t m n):=by
 obtain⟨B,o,v⟩:=q;obtain⟨C,r,z⟩:=l;obtain⟨E,p,s⟩:=y;refine⟨_,Lq o r p,λw M H f e D R S h=>?_⟩;refine v w M H f e _ R S<|bx.seq h λd j x M1 u k i A g=>?_
 cases A;cases x with
 |true=>rw[T5 rfl];exact z d M1 j f e D i (S.mono k) g
 |false=>rw[T6 Uq];exact s d M1 j f e D i (S.mono k) g
def Gi{pos}(I:PassesOwn (model X.prog X.w) X.A X.env X.xe)(J:fF X c t)(P:fY X body m):SS X (.While c body [] pos) (qM n t m):=by
 obtain⟨T,F,N⟩:=J;obtain⟨U,G,L⟩:=P;refine⟨_,Fj I F G,λg M H f l D R S h=>?_⟩;refine⟨λk l H=>∃g M f,Rel X.K g M H/\bM g f l/\bx X.K g (dW t m k f M) D,⟨n,g,M,f,R,S,h⟩,?_⟩;rintro k l H ⟨g,M,f,R,S,h⟩;cases k with
 |zero=>exact(h).elim
 |succ k=>
  refine N g M H f l _ R S<|bx.seq h λi C x M1 u E z Q y=>?_
  cases Q;cases x with
  |false=>rw[T6 Uq];exact y i C l dR z<|S.mono E
  |true=>
   rw[T5 rfl];refine⟨λo B=>∃g M f,Rel X.K g M B/\bM g f o/\bx X.K g (dW t m k f M) D,λo B q=>⟨k,W2 _,q⟩,?_⟩;refine L i M1 C f l _ z (S.mono E) ?_;have d:bx X.K i (match m f M1 with
    |.nx a b=>dW t m k a b
    |.ct a b=>dW t m k a b
    |.bk a b=>.nx a b
    |.rt v b=>.rt v b
    |.ex v b=>.ex v b
    |.bad=>.bad) D:=y
   cases e:m f M1 with
   |nx a b=>rw[e] at d;exactλj O r p R2 s=>⟨j,b,a,R2,s,bx.mono p d⟩
   |ct a b=>rw[e] at d;exactλj O r p R2 s=>⟨j,b,a,R2,s,bx.mono p d⟩
   |bk a b=>rw[e] at d;exact d
   |rt v b=>rw[e] at d;exact d
   |ex v b=>rw[e] at d;exact d
   |bad=>rw[e] at d;exact d
end
structure iq(K:Fg)(ι:List Addr)(J:It)(a7:List VM.Src)(iz:VM.bN):Prop where
 go:∀i cK M H x,ι<+:cK->Rel K cK M H->iz.ok M=af->a7[i]? =aa x->J.go i H
 lz:∀i cK M H x v H',ι<+:cK->Rel K cK M H->iz.ok M=af->a7[i]? =aa x->J.lz i H v H'->∃jC w M2,cK<+:jC/\x.get M=.ok w M2/\Rel K jC M2 H'/\RV jC w v
 stop:∀i cK M H,ι<+:cK->Rel K cK M H->iz.ok M=af->a7.length<=i->J.stop i H
noncomputable abbrev rI(K:Fg):List Addr->(List VM.Src×VM.bN)->It->Prop:=λb a J=>iq K b J a.1 a.2
noncomputable def SI(X:Cx)(f a:Expr)(m:VM.IM):Prop:=∃e,PI X f a e/\∀b M H d c Q,Rel X.K b M H->bM b d c->ay (rI X.K) X.K b (m d M) Q->e c H Q
section
variable{X:Cx}{tg:Expr}
def rz(h:VM.bN.ok [(a,o)] M=af):M[a]? =aa o:=by simpa[VM.bN.ok] using h
def qD{xs:List VM.W}{i:Nat}(h:(xs.map VM.Src.val)[i]? =aa x):∃w,xs[i]? =aa w/\x=.val w:=by
 rw[U7] at h;cases e:xs[i]? with
 |none=>rw[e] at h;cases h
 |some w=>rw[e] at h;exact⟨w,rfl,(Ug h).symm⟩
def AZ(n:ι[a]? =aa p)(s:o=.lst xs\/o=.a6 xs):iq K ι (v8 K p) (xs.map .val) [(a,o)]:=by
 have d:∀{b M H},ι<+:b->Rel K b M H->VM.bN.ok [(a,o)] M=af->∃c,bH K H p c/\bq b xs c:=λ{b M H} q R h=>by
  have u:=rz h;have m:=R.obj a p o (fK q n) u;rcases s with rfl|rfl
  ·obtain⟨c,f,g⟩:=m;exact⟨c,bH.of f,g⟩
  ·obtain⟨c,f,g⟩:=m;exact⟨c,f.sq,g⟩
 refine⟨λi b M H x q R h j=>?_,λi b M H x v z q R h j y=>?_,λi b M H q R h r=>?_⟩
 ·obtain⟨c,f,g⟩:=d q R h;obtain⟨w,l,rfl⟩:=qD j;obtain⟨v,k,_⟩:=Paired.at g l;exact⟨c,v,f,k⟩
 ·obtain⟨c,f,g⟩:=d q R h;obtain⟨w,l,rfl⟩:=qD j;obtain⟨rfl,y⟩:=y;obtain⟨A,k,t⟩:=Paired.at g l;have e:=y c f;rw[k] at e;cases e;exact⟨b,w,M,dR,rfl,R,t⟩
 ·obtain⟨c,f,g⟩:=d q R h;exact⟨c,f,by rw[<-Paired.len g];simpa using r⟩
def KL(m:ι[a]? =aa p):iq K ι (v9 K p) (xs.map .val) [(a,.tup xs)]:=by
 have c:∀{b M H},ι<+:b->Rel K b M H->VM.bN.ok [(a,.tup xs)] M=af->∃d,dD K H p d/\bq b xs d:=λ{b M H} q R g=>by have r:=rz g;obtain⟨d,f,h⟩:=R.obj a p _ (fK q m) r;exact⟨d,dD.of f,h⟩
 refine⟨λi b M H x q R g j=>?_,λi b M H x v s q R g j y=>?_,λi b M H q R g n=>?_⟩
 ·obtain⟨d,f,h⟩:=c q R g;obtain⟨w,l,rfl⟩:=qD j;obtain⟨v,k,_⟩:=Paired.at h l;exact⟨d,v,f,k⟩
 ·obtain⟨d,f,h⟩:=c q R g;obtain⟨w,l,rfl⟩:=qD j;obtain⟨rfl,y⟩:=y;obtain⟨t,k,o⟩:=Paired.at h l;have e:=y d f;rw[k] at e;cases e;exact⟨b,w,M,dR,rfl,R,o⟩
 ·obtain⟨d,f,h⟩:=c q R g;exact⟨d,f,by rw[<-Paired.len h];simpa using n⟩
def A0(lo)(n):iq K ι (o_ lo n) (VM.cS lo n) []:=by
 have e:(VM.cS lo n).length=n:=by simp[VM.cS]
 have a:∀{i:Nat} {x:VM.Src},(VM.cS lo n)[i]? =aa x->i<n/\x=.val (.int<|lo+(i)):=λ{i x} h=>by
  have c:i<n:=by rw[<-e];exact(Ub.mp h).1
  unfold VM.cS at h;rw[U7,List.getElem?_range c] at h;exact⟨c,(Ug h).symm⟩
 refine⟨λi b M H x q R f d=>(a d).1,λi b M H x v g q R f d y=>?_,λi b M H q R f c=>by rw[e] at c;exact c⟩;obtain⟨rfl,rfl⟩:=y;obtain⟨_,rfl⟩:=a d;exact⟨b,.int<|lo+i,M,dR,rfl,R,rfl⟩
def Md{a:Expr}{c d:TI}(e:PI X tg a c)(f:PI X tg a d):PI X tg a (λσ H R=>c σ H R\/d σ H R):=by
 intro b s σ H R I q;rcases q with q|q
 ·exact e b s σ H R I q
 ·exact f b s σ H R I q
end
section
variable{X:Cx}{tg:Expr}
def KN(he:SE X e m):SI X tg e (a9 m):=by
 obtain⟨t,p,k⟩:=he;refine⟨_,Md (G3 p)<|Jr p,λy M H w z Q R S h=>?_⟩;unfold a9 at h;cases j:m w M with
 |ok x M1=>
  rw[j] at h;cases x with
  |ref a=>
   have b:ay (rI X.K) X.K y (match M1[a]? with|some (.lst xs)=>.ok (xs.map .val,[(a,.lst xs)]) M1|some (.a6 xs)=>.ok (xs.map .val,[(a,.a6 xs)]) M1|some (.tup xs)=>.ok (xs.map .val,[(a,.tup xs)]) M1|_=>.bad) Q:=h;cases e:M1[a]? with
   |none=>rw[e] at b;exact(b).elim
   |some o=>
    rw[e] at b;cases o with
    |lst xs=>refine .inl<|k y M H w z _ R S ?_;rw[j];intro d l u s f v;obtain⟨q,i,rfl⟩:=v;obtain⟨n,r,A⟩:=f.obj a q _ i e;exact⟨q,rfl,⟨n,bH.of r⟩,b d l _ s f<|AZ i<|.inl rfl⟩
    |a6 xs=>refine .inl<|k y M H w z _ R S ?_;rw[j];intro d l u s f v;obtain⟨q,i,rfl⟩:=v;obtain⟨n,r,A⟩:=f.obj a q _ i e;exact⟨q,rfl,⟨n,r.sq⟩,b d l _ s f<|AZ i<|.inr rfl⟩
    |tup xs=>refine .inr<|k y M H w z _ R S ?_;rw[j];intro d l u s f v;obtain⟨q,i,rfl⟩:=v;obtain⟨n,r,A⟩:=f.obj a q _ i e;exact⟨q,rfl,⟨n,dD.of r⟩,b d l _ s f<|KL i⟩
    |aG xs=>exact(b).elim
    |ins c xs=>exact(b).elim
    |dr x=>exact(b).elim
    |ba g x=>exact(b).elim
    |bZ=>exact(b).elim
    |eR c=>exact(b).elim
  |_=>exact(h).elim
 |ex _ _=>rw[j] at h;exact(h).elim
 |bad=>rw[j] at h;exact(h).elim
def Iq(hm:X.mg "range"=ae)(l:SE X e m)(o:Gl X "range":=by rfl)(f:starEach [e] X.env=[(ag,eval e X.env)]:=by rfl):SI X tg (.Call (.Name "range" p) [e] [] pos) (VM.cc m):=by
 obtain⟨t,i,k⟩:=l;refine⟨_,D5 o hm (f9 i iG f) f,λr M H q n Q R S h=>?_⟩;refine k r M H q n _ R S<|ay.seq h λc v x M1 u w g s d=>?_
 cases x with
 |int j=>
  cases s;have b:ay (rI X.K) X.K c (if j.natAbs<bV then .ok (VM.cS 0 j.toNat,[]) M1 else .bad) Q:=d;by_cases a:j.natAbs<bV
  ·rw[T5 a] at b;exact⟨j,rfl,by unfold bV at a;omega,by unfold bV at a;omega,ay.ok b g<|A0 0 j.toNat⟩
  ·rw[T6 a] at b;exact(b).elim
 |_=>exact(d).elim
def Ir(hm:X.mg "range"=ae)(C:SE X e m)(w:SE X f n)(F:Gl X "range":=by rfl)(o:starEach [e,f] X.env=[(ag,eval e X.env),(ag,eval f X.env)]:=by rfl)(a:starEach [f] X.env=[(ag,eval f X.env)]:=by rfl):SI X tg (.Call (.Name "range" p) [e,f] [] pos) (VM.dZ m n):=by
 obtain⟨t,A,k⟩:=C;obtain⟨u,E,l⟩:=w;refine⟨_,D6 F hm (f9 A (f9 E iG a)<|o.trans<|by rw[a]) o a,λJ M H r q Q R S h=>?_⟩;refine k J M H r q _ R S<|ay.seq h λb D x M1 u L z N s=>?_
 refine l b M1 D r q _ z (S.mono L)<|ay.seq s λg O y M2 v G R2 I d=>?_
 have B:=N.mono G;cases x with
 |int i=>
  cases y with
  |int j=>
   cases B;cases I;have h3:ay (rI X.K) X.K g (if i.natAbs<bV/\j.natAbs<bV then .ok (VM.cS i (j-i).toNat,[]) M2 else .bad) Q:=d;by_cases c:i.natAbs<bV/\j.natAbs<bV
   ·rw[T5 c] at h3;exact⟨i,j,rfl,by unfold bV at c;omega,ay.ok h3 R2<|A0 i (j-i).toNat⟩
   ·rw[T6 c] at h3;exact(h3).elim
  |_=>exact(d).elim
 |_=>cases y<;>exact(d).elim
def yD{F:TG}{tb:TS}{g:VM.GM}{m:VM.SM}(kg:∀u M H σ n w v Q,Rel X.K u M H->bM u σ n->RV u w v->ay bM X.K u (g w σ M) Q->F v n H Q)(kb:∀u M H σ n D,Rel X.K u M H->bM u σ n->bx X.K u (m σ M) D->tb D n H){f:List Addr}{M1:VM.Mem}{H1:Hp}{σ:VM.St}{n:L2.St}{J:It}{a7:List VM.Src}{a:VM.bN}{D:Ends}(R1:Rel X.K f M1 H1)(S1:bM f σ n)(Z:iq X.K f J a7 a)(h1:bx X.K f (VM.loop a g m a7 σ M1) D):
 ∃W:Nat->Nat->L2.St->Hp->Prop,(∃m,W 0 m n H1)/\∀i m σ H,W i m σ H->(J.stop i H/\D.nx σ H)\/(J.go i H/\∃N:L2.St->Hp->Prop,(∀P p,N P p->∃m',m'<m/\W (i+1) m' P p)/\∀x p,J.lz i H x p->F x σ p λb H2=>tb {D with nx:=N,ct:=N,bk:=D.nx} b H2):=by
 refine⟨λi k n H=>i<=a7.length/\k=a7.length-i/\∃c M σ,f<+:c/\Rel X.K c M H/\bM c σ n/\bx X.K c (VM.loop a g m (a7.drop i) σ M) D,
  ⟨a7.length,UX _,rfl,f,M1,σ,dR,R1,S1,h1⟩,?_⟩
 rintro i k n H ⟨hi,rfl,c,M,σ,q,R,S,h⟩;by_cases B:i<a7.length
 ·have ex:a7[i]? =aa a7[i]:=by simp[B]
  rw[V6 B] at h;have r:bx X.K c (if a.ok M=af then (a7[i].get M).cz λv M1=>(g v σ M1).cz λC M2=>match m C M2 with
    |.nx b d=>VM.loop a g m (a7.drop<|i+1) b d
    |.ct b d=>VM.loop a g m (a7.drop<|i+1) b d
    |.bk b d=>.nx b d
    |.rt v d=>.rt v d
    |.ex v d=>.ex v d
    |.bad=>.bad
   else .bad) D:=h
  by_cases j:a.ok M=af
  ·rw[T5 j] at r;refine .inr ⟨Z.go i c M H _ q R j ex,λL p=>∃l M σ,f<+:l/\Rel X.K l M p/\bM l σ L/\bx X.K l (VM.loop a g m (a7.drop<|i+1) σ M) D,λL p z=>⟨a7.length-(i+1),by omega,B,rfl,z⟩,λv p y=>?_⟩;obtain⟨l,w,M2,q2,eg,R2,rv⟩:=Z.lz i c M H _ v p q R j ex y;rw[eg] at r;have h2:bx X.K l ((g w σ M2).cz λC M2=>match m C M2 with
    |.nx b d=>VM.loop a g m (a7.drop<|i+1) b d
    |.ct b d=>VM.loop a g m (a7.drop<|i+1) b d
    |.bk b d=>.nx b d
    |.rt v d=>.rt v d
    |.ex v d=>.ex v d
    |.bad=>.bad) D:=bx.mono q2 r
   refine kg l M2 p σ n w v _ R2 (S.mono q2) rv<|bx.seq h2 λs H3 O d Y q3 R3 S3 h3=>?_
   refine kb s d H3 O Y _ R3 S3 ?_;have G:f<+:s:=Vk q<|Vk q2 q3;cases e:m O d with
   |nx o t=>rw[e] at h3;have E:bx X.K s (VM.loop a g m (a7.drop<|i+1) o t) D:=h3;exactλA H4 U I V T=>⟨A,t,o,Vk G I,V,T,bx.mono I E⟩
   |ct o t=>rw[e] at h3;have E:bx X.K s (VM.loop a g m (a7.drop<|i+1) o t) D:=h3;exactλA H4 U I V T=>⟨A,t,o,Vk G I,V,T,bx.mono I E⟩
   |bk o t=>rw[e] at h3;exact h3
   |rt v t=>rw[e] at h3;exact h3
   |ex v t=>rw[e] at h3;exact h3
   |bad=>rw[e] at h3;exact h3
  ·rw[T6 j] at r;exact(r:False).elim
 ·have hz:i=a7.length:=by omega
  subst hz;rw[WG] at h;have r:bx X.K c (if a.ok M=af then .nx σ M else .bad) D:=h;by_cases j:a.ok M=af
  ·rw[T5 j] at r;exact .inl ⟨Z.stop _ c M H q R j<|Uc _,r c H n dR R S⟩
  ·rw[T6 j] at r;exact(r:False).elim
def KO{pos}(p:PassesOwn (model X.prog X.w) X.A X.env X.xe)(q:X.calm=af)(s:SI X tg iter mi)(t:SG X tg g)(B:fY X body m)(l:∀x,foldedSetIterable iter X.env x=pure x:=by intro _;rfl):SS X (.For tg iter body [] pos) (bz mi g m):=by
 obtain⟨G,i,j⟩:=s;obtain⟨f,c,n⟩:=t;obtain⟨I,o,v⟩:=B;refine⟨_,Ay p q i c o l,λz M H u r D R S h=>?_⟩;refine j z M H u r _ R S<|bx.seq h λd F C M1 J E e y b=>?_
 obtain⟨a,k⟩:=C;exact yD n v e (S.mono E) y b
end
open PySem PySem.Spec PyProof.Rows L2
theorem Df{prog:Program}{w:World}{A:Around}{R:Result->Shared->Prop}{s:Shared}{elt a j:Expr}{u:List Expr}{scope:Scope}{pos:Pos}{it t:ah}{env:Env}(I:Nat->Shared->Prop)(turn:∀n s,I n s->wpAny (model prog w) A (pyNext it) (λr f=>match r with
  |none=>R (.ok .next) f
  |some v=>wpAny (model prog w) A (letOwnedTupleGo a it v) (λ_ b=>wpAny (model prog w) A (assign a env v) (λ_ l=>
   wpAny (model prog w) A (forIn u af λc r=>if r=af then do let ok<-isTrue c env (eval c env);pure (ForInStep.yield ok) else pure (ForInStep.yield r)) (λok g=>
    if ok=af then wpAny (model prog w) A (eval elt env) (λx k=>wpAny (model prog w) A (call (.builtin "list.append") [t,x]) (λ_ p=>∃m,m<n/\I m p) (notedBy (model prog w) A env λe d=>R (.error e) d) k) (notedBy (model prog w) A env λe d=>R (.error e) d) g
    else∃m,m<n/\I m g) (notedBy (model prog w) A env λe d=>R (.error e) d) l) (notedBy (model prog w) A env λe d=>R (.error e) d) b) (notedBy (model prog w) A env λe d=>R (.error e) d) f) (notedBy (model prog w) A env λe d=>R (.error e) d) s)
 (n:Nat) (h:I n s):
 codeAny (model prog w) A (.compLoop (.ListComp elt [⟨a,j,u,0⟩] scope pos) 0 it t env) R s:=by
 refine codeAny_loop rfl I (λn s D=>?_) n h;show wpAny _ A ((compTurn (.ListComp elt [⟨a,j,u,0⟩] scope pos) 0 it t env).onRaise (λx=>do noteFrame x env;theTreesLotGoes x)) _ _ s;refine wpAny_noted ?_;rw[compTurn_list];refine T8<|wpAny_standAt<|T8<|UL (turn n s D) (λr f q=>?_) λ_ _ i=>i
 cases r with
 |none=>exact Uk q
 |some v=>
  refine T8<|UL q (λ_ b y=>?_) λ_ _ i=>i
  refine T8<|UL y (λ_ l B=>T8<|UL B (λok g o=>?_) λ_ _ i=>i) λ_ _ i=>i
  cases ok with
  |false=>exact Uk ⟨rfl,o⟩
  |true=>exact T8<|T8<|UL o (λx k C=>T8<|UL C (λ_ p z=>Uk<|Uk ⟨rfl,z⟩) λ_ _ i=>i) λ_ _ i=>i
noncomputable def Nm(ifs:List Expr)(env:Env):Sem Bool:=forIn ifs af λc r=>if r=af then do let ok<-isTrue c env (eval c env);pure (ForInStep.yield ok) else pure (ForInStep.yield r)
noncomputable def jr(X:Cx)(c:List Expr)(m:VM.TM):Prop:=∃f:TT,(∀(a) (s) (b) (H) (Q),Inv X a b H s->f b H Q->wpAny (model X.prog X.w) X.A (Nm c X.env) (TP X a b Q) X.xe s)/\
 ∀d M H b e Q,Rel X.K d M H->bM d b e->ay rB X.K d (m b M) Q->f e H Q
def Gj:jr X [] cX:=by refine⟨λ_ H Q=>Q af H,λa s b H Q I h=>?_,λd M H b c Q R S h=>ay.ok h R rfl⟩;exact Uk ⟨H,I,h⟩
def Gk(h:fF X c m):jr X [c] m:=by obtain⟨t,p,k⟩:=h;exact⟨t,λa s b H Q I h=>wpAny_tests_one<|p a s b H Q I h,k⟩
noncomputable def dv(X:Cx)(N:List Str)(scope:Scope)(cl:List<|Str×Addr)(C:Addr)(b:Shared)(a:Hp)(c:List Addr):Cx:=
 {X with N:=N,dn:=b,k_:=a,env:=compEnvC scope cl C X.env,outer:=X.stack,stack:=X.stack,ex:=c,fn:=λ_=>ag,pn:=[],xe:=λ_ _=>False}
noncomputable def bW(cells:List<|Str×Addr):List (Str×NameKind)->List (Str×Addr)->List (Str×Addr)
 |[],acc=>acc
 |(n,k)::r,acc=>if k==.free then(match cells.lookup n with|some c=>bW cells r ((n,c)::acc)|none=>bW cells r acc) else bW cells r acc
noncomputable def freeOk(env:Env):List (Str×NameKind)->Bool
 |[]=>af
 |(n,k)::r=>(!(k==.free)||((env.cells.lookup n).isSome&&(env.kindOf n==aa .cell||env.kindOf n==aa .free)))&&freeOk env r
def yE(cells)(n)(k)(r)(acc):bW cells ((n,k)::r) acc=if k==.free then(match cells.lookup n with|some c=>bW cells r ((n,c)::acc)|none=>bW cells r acc) else bW cells r acc:=rfl
theorem t5:∀(names) (b),freeOk env names=af-> (forIn (m:=Sem) names b λ(x) (j)=>if x.2==.free then do let a<-cellOf env x.1;pure (ForInStep.yield<|(x.1,a)::j) else pure (ForInStep.yield j))=pure (bW env.cells names b)
 |[],b,_=>by simp[bW]
 |(n,k)::r,b,h=>by
  unfold freeOk at h;rw[T'] at h;rw[List.forIn_cons];by_cases d:(k==NameKind.free)=af
  ·have f:=h.1;rw[d] at f;simp only[WK,Vs,T'] at f;cases e:env.cells.lookup n with
   |none=>rw[e] at f;exact absurd f.1<|by simp
   |some c=>
    have g:=t5 r ((n,c)::b) h.2;simp only[d];have ec:cellOf env n=pure c:=by unfold cellOf;rw[e]
    rw[ec];show(forIn (m:=Sem) r ((n,c)::b) _)=_;rw[g];rw[yE,T5 d,e]
  ·have g:=t5 r b h.2;have i:(k==NameKind.free)=ag:=by simpa using d
   simp only[i];show(forIn (m:=Sem) r b _)=_;rw[g];rw[yE,T6 d]
def tS(h:freeOk env scope.names=af):closureFor scope env=pure (bW env.cells scope.names []):=by unfold closureFor;have e:=t5 scope.names [] h;simp only[bind_pure];exact e
theorem mq:∀(names) (a) {x:Str} {c:Addr},(∀y d,(y,d)∈a->cells.lookup y=aa d)->(x,c)∈bW cells names a->cells.lookup x=aa c
 |[],a,x,c,h,e=>h x c e
 |(n,k)::r,a,x,c,h,e=>by
  unfold bW at e;by_cases b:(k==NameKind.free)=af
  ·rw[T5 b] at e;cases q:cells.lookup n with
   |none=>rw[q] at e;exact mq r a h e
   |some d=>
    rw[q] at e;refine mq r ((n,d)::a) (λy f g=>?_) e;rcases T7.mp g with z|z
    ·cases z;exact q
    ·exact h y f z
  ·rw[T6 b] at e;exact mq r a h e
theorem pY:∀(names) (a) {p:Str×Addr},p∈a->p∈bW cells names a
 |[],a,p,h=>h
 |(n,k)::r,a,p,h=>by
  unfold bW;split
  ·split
   ·exact pY r _<|Ut _ h
   ·exact pY r _ h
  ·exact pY r _ h
theorem ox:∀(names) (a) {x:Str} {c:Addr},(x,NameKind.free)∈names->cells.lookup x=aa c->(x,c)∈bW cells names a
 |[],a,x,c,h,e=>by simp at h
 |(n,k)::r,a,x,c,h,e=>by
  unfold bW;rcases T7.mp h with z|z
  ·cases z;rw[T5<|by rfl,e];exact pY r _ UE
  ·split
   ·split
    ·exact ox r _ z e
    ·exact ox r _ z e
   ·exact ox r _ z e
theorem tQ:∀{l:List (Str×α)} {x:Str} {c:α},(x,c)∈l->∃d,l.lookup x=aa d
 |[],x,c,h=>by simp at h
 |(n,d)::r,x,c,h=>by
  rw[VC];cases a:x==n with
  |true=>exact⟨d,rfl⟩
  |false=>
   rcases T7.mp h with z|z
   ·cases z;simp at a
   ·exact tQ z
theorem xy{env:Env}:∀{names:List (Str×NameKind)} {x:Str} {k:NameKind},(∀y∈names,y.2≠.cell)-> (names.map λ(n,k)=>if(k==NameKind.free&&env.scope.kind==.function&&env.kindOf n==aa .cell) then(n,NameKind.cell) else(n,k)).lookup x=aa k->k=.cell\/k=.free->(x,NameKind.free)∈names
 |[],x,k,_,h,_=>by simp at h
 |(n,k0)::r,x,k,e,h,d=>by
  have f:=@xy env r x k<|λy i=>e y<|Ut _ i
  rw[Ux] at h;by_cases b:(k0==NameKind.free&&env.scope.kind==.function&&env.kindOf n==aa .cell)=af
  ·have g:=by rw[T',T'] at b;exact U'.mp b.1.1
   subst g;have c:(match((n,NameKind.free):Str×NameKind) with|(n,k)=>if(k==NameKind.free&&env.scope.kind==.function&&env.kindOf n==aa .cell) then(n,NameKind.cell) else(n,k))=(n,NameKind.cell):=T5 b;rw[c,VC] at h;cases a:x==n with
   |true=>rw[U'.mp a];exact UE
   |false=>rw[a] at h;exact Ut _<|f h d
  ·have c:(match((n,k0):Str×NameKind) with|(n,k)=>if(k==NameKind.free&&env.scope.kind==.function&&env.kindOf n==aa .cell) then(n,NameKind.cell) else(n,k))=(n,k0):=T6 b;rw[c,VC] at h;cases a:x==n with
   |true=>
    rw[a] at h;have j:=Ug h;subst j;rcases d with z|z
    ·exact absurd z<|e (n,k0) UE
    ·subst z;rw[U'.mp a];exact UE
   |false=>rw[a] at h;exact Ut _<|f h d
theorem t6:∀{names:List (Str×NameKind)} {x:Str},freeOk env names=af->(x,NameKind.free)∈names->(∃c,env.cells.lookup x=aa c)/\(env.kindOf x=aa .cell\/env.kindOf x=aa .free)
 |[],x,_,h=>by simp at h
 |(n,k)::r,x,h,hm=>by
  unfold freeOk at h;rw[T'] at h;rcases T7.mp hm with z|z
  ·cases z;have d:=h.1;simp only[VX,WK,Vs,T',VB] at d;obtain⟨a,b⟩:=d;refine⟨W4.mp a,?_⟩;rcases b with b|b
   ·exact .inl<|U'.mp b
   ·exact .inr<|U'.mp b
  ·exact t6 h.2 z
noncomputable def mU(cl:List Nat)(a:L2.St):L2.St:=cl.foldl (λa j=>a.set j ae) a
theorem Ao:∀(cl) {σ:VM.St} {a:L2.St},bM ι σ a->bM ι (dE cl σ) (mU cl a)
 |[],_,_,h=>h
 |j::r,_,_,h=>Ao r<|Paired.mT (x:=ae) trivial j h
theorem zo:∀(cl) (a),(mU cl a).length=a.length
 |[],_=>rfl
 |j::r,a=>by show(mU r<|a.set j ae).length=_;rw[zo r,Va]
theorem zp:∀(cl) (b) {i:Nat} {v:V},(mU cl b)[i]? =aa (aa v)->i∉cl/\b[i]? =aa (aa v)
 |[],_,i,v,h=>⟨by simp,h⟩
 |j::r,b,i,v,h=>by
  obtain⟨d,a⟩:=zp r (b.set j ae) h;by_cases c:i=j
  ·subst c;by_cases e:i<b.length
   ·rw[UH e] at a;cases a
   ·rw[Xx (by rw[Va];omega)] at a;cases a
  ·rw[UG<|Uz c] at a;exact⟨by simp[d,c],a⟩
theorem Ap:∀k:Nat,bM ι (List.replicate k ae) (List.replicate k ae)
 |0=>.nil
 |k+1=>.cons trivial<|Ap k
structure jD(X:Cx)(N:List Str)(k:Nat)(cl:List Nat)(scope:Scope):Prop where
 len:N.length=X.N.length+k
 pre:∀i,i<X.N.length->N[i]? =X.N[i]?
 free:freeOk X.env scope.names=af
 cell:∀y∈scope.names,y.2≠.cell
 kind:scope.kind=.function
 names:∀y∈scope.names,y.2=.local->scope.names.lookup y.1=aa .local
 own:∀i x,N[i]? =aa x->(relabel scope X.env).names.lookup x=aa .local->i∈cl\/X.N.length<=i
def ET{X:Cx}{N:List Str}{k:Nat}{cl:List Nat}{scope:Scope}{pins:List (Addr×Obj)}{L:L2.St}{H:Hp}{s s4:Shared}{R:List Addr}{C D:Addr}{F:Obj}{mC:Str->Option ah}(B:jD X N k cl scope)(I:Inv X pins L H s)(n:∀b∈R,eY X pins H b)(S:∀b∈R,b<s.heap.objs.size)(l:∀b o,s.heap.get? b=aa o->s4.heap.get? b=aa o)(V:s4.os=s.os)(A:AllBare s4.gens)(hC:s.heap.objs.size<=C)(hD:s.heap.objs.size<=D)(pF:D≠C)(hn:s4.heap.Ns C mC)(U:s4.heap.get? D=aa F)(T:∀v,F.data≠.cell v):
 Inv (dv X N scope (bW X.env.cells scope.names []) C s H R) [(D,F)] (mU cl<|L++List.replicate k ae) H s4:=by
 have a:∀x c,(bW X.env.cells scope.names []).lookup x=aa c->X.env.cells.lookup x=aa c:=λx c e=>mq scope.names [] (λy d hy=>by simp at hy)<|Vr e
 have w:∀x j,(relabel scope X.env).names.lookup x=aa j->j=.cell\/j=.free->(x,NameKind.free)∈scope.names:=λx j h hk=>xy B.cell h hk
 have P:∀b∈fT X.stack,b<s.heap.objs.size:=λb g=>by obtain⟨_,o,O,_⟩:=I.stack.mem g;exact Ur O
 refine⟨⟨I.ok.mod,B.kind,I.ok.glob,I.ok.blt,hC,λx y c Q r=>I.ok.inj x y c (a x c Q)<|a y c r,λx hx=>?_,λx c h _=>absurd (show ag=af from h)<|by decide,I.ok.hd,I.ok.frames,.inl rfl,λb g=>⟨?_,λx c h=>?_⟩,I.bs,Uh I.ok.jt I.sz,λb o e g=>?_,λb g Y=>?_,I.stack,I.uQ⟩,
  V,A,Un.kept l,⟨mC,hn,λi x v Q r h3=>?_⟩,λx c h=>?_,I.aL.fresh hC,λx c h=>I.gf x c (a x c h),λp hp=>?_,I.aL.kept l,?_⟩
 ·have Z:(relabel scope X.env).names.lookup x=aa .cell\/(relabel scope X.env).names.lookup x=aa .free:=hx;have K:(x,NameKind.free)∈scope.names:=by
   rcases Z with z|z
   ·exact w x _ z<|.inl rfl
   ·exact w x _ z<|.inr rfl
  obtain⟨⟨c,hc⟩,_⟩:=t6 B.free K;exact tQ<|ox scope.names [] K hc
 ·exact UI<|Up (S b g) hC
 ·exact(n b g).2.2.2.2.1 x c<|a x c h
 ·rcases(n b g).2.2.2.1 with z|z
  ·exact I.ok.gL b o e z
  ·exact absurd (Up (Ur (I.ok.bs b o e).1) z)<|Vh _
 ·rcases T7.mp (I.qF b Y) with z|z
  ·exact(n b g).2.1 z
  ·exact(n b g).2.2.1 z
 ·obtain⟨G,r⟩:=zp cl _ r;have M:i<L.length:=by
   by_cases M:i<L.length
   ·exact M
   ·rw[Vn<|V4 M,XJ] at r;split at r<;>cases r
  rw[U6 M] at r;have PU:i<X.N.length:=by rw[<-I.len];exact M
  have PV:X.N[i]? =aa x:=by rw[<-B.pre i PU];exact Q
  have PX:(relabel scope X.env).names.lookup x=aa .local\/(relabel scope X.env).names.lookup x=aa .cell\/(relabel scope X.env).names.lookup x=aa .free:=h3;have PY:∃j,(relabel scope X.env).names.lookup x=aa j/\(j=.cell\/j=.free):=by
   rcases PX with z|z|z
   ·rcases B.own i x Q z with q|q
    ·exact absurd q G
    ·omega
   ·exact⟨_,z,.inl rfl⟩
   ·exact⟨_,z,.inr rfl⟩
  obtain⟨j,E,J⟩:=PY;have K:=w x j E J;obtain⟨⟨c,hc⟩,f⟩:=t6 B.free K;obtain⟨m,_,hl⟩:=I.loc;obtain⟨u,ru,lk⟩:=hl i x v PV r (by rcases f with z|z;exact .inr<|.inl z;exact .inr<|.inr z);refine⟨u,ru,.inr ⟨by rcases J with z|z<;>subst z;exact .inl E;exact .inr E,?_⟩⟩;obtain⟨d,hd⟩:=tQ<|ox scope.names [] K hc;have ed:=a x d hd;rcases lk with⟨q,_⟩|⟨_,c',pD,qW⟩
  ·rcases f with z|z
   ·rw[z] at q;cases q
   ·rw[z] at q;cases q
  ·rw[pD] at ed;cases ed;refine⟨d,hd,?_⟩;obtain⟨o,O,t⟩:=qW;exact⟨o,l _ o O,t⟩
 ·obtain⟨v,o,O,t⟩:=I.cell x c (a x c h);exact⟨v,o,l _ o O,t⟩
 ·have W:p∈([]:List<|Addr×Obj)++[(D,F)]:=hp;have e:p=(D,F):=by simpa using W
  subst e;refine⟨U,I.aL.fresh hD,pF,λg=>?_,T⟩;exact absurd (Up (P D g) hD)<|Vh _
 ·show(mU cl<|L++List.replicate k ae).length=N.length;rw[zo,Us,W5,I.len,B.len]
def Iu{X:Cx}{N:List Str}{scope:Scope}{i:List (Str×Addr)}{pins h:List (Addr×Obj)}{I E:L2.St}{x H:Hp}{l f:Shared}{s:List Addr}{C D:Addr}{y:Obj}{j:List ah}{vs:List V}{n:Nat}(M:Inv X pins I x l)(d:∀b∈s,eY X pins x b)(t:Inv (dv X N scope i C l x s) h E H f)(S:l.heap.objs.size<=C)(Z:l.heap.objs.size<=D)(J:D≠C)(G:H D=ae)(B:f.heap.get? D=aa {cls:=.type "list",data:=.seq j.toArray n})(r:Vals vs j)(hz:vs.length<=sizeLine)(F:f.heap.get? C=aa y)(K:∀v,y.data≠.cell v):
 Inv X (pins++[(C,y)]) I (upd H D<|.lst vs) f:=by
 have c:∀{b:Addr} {u:HO},H b=aa u->b≠D:=λe=>dJ e G
 have k:Un (fT X.stack) s x H l.heap f.heap:=t.base;have O:H C=ae:=t.free;have u:Un (fT X.stack) s x (upd H D<|.lst vs) l.heap f.heap:=⟨k.keep,k.slot,λb o e T W=>by rw[aS<|UI<|Up (Ur e) Z];exact k.free b o e T W,k.there,
  λb Q e=>by have g:=k.ij b Q e;rw[aS (c g)];exact g,λb o w e=>by have g:=k.iP b o w e;rw[aS (c g)];exact g,λb Y e=>by obtain⟨m,g⟩:=k.jh b Y e;exact⟨m,by rw[aS (c g)];exact g⟩⟩
 have L:cp X.prog X.w (upd H D<|.lst vs) f.heap:=λa o e=>by
  by_cases P:a=D
  ·subst P;rw[cG] at e;cases e;exact⟨hz,j,n,r,B⟩
  ·rw[aS P] at e;exact(t.aL a o e).gK (λb w _ q=>q) (λb q=>by rw[aS<|c q];exact q) λb Q q=>by rw[aS<|c q];exact q
 have R:Inv X pins I (upd H D<|.lst vs) f:=M.Lh (ch:=s) t.os u L t.bare λb A=>⟨(d b A).2.2.2.1,(d b A).2.1,(d b A).2.2.2.2.1,(d b A).2.2.2.2.2⟩
 refine R.jM λp U=>?_
 rcases U0.mp U with z|z
 ·exact R.pin p<|Uu _ z
 ·have e:p=(C,y):=by simpa using z
  subst e;exact⟨F,by rw[aS<|Uz J];exact O,VZ<|Up M.lt S,M.rg S,K⟩
def uN{X:Cx}{pins:List (Addr×Obj)}{n a:L2.St}{r H:Hp}{h d:Shared}{C:Addr}{i:Obj}{h':Heap}(f:Inv X pins n r h)(g:h.heap.objs.size<=C)(I:Inv X (pins++[(C,i)]) a H d)(j:Heap.SameBut C d.heap h'):Inv X pins a H {d with heap:=h'}:=by
 obtain⟨_,k,m,_,_⟩:=I.pin (C,i)<|Uu _<|Uu _<|by simp
 refine Inv.turned (t':=d.toks) (it:=C) I.n4 (λb o s e=>j.extBut b o s e) k m (.inr<|Uh f.sz g) (λx c e z=>?_) λp l z=>?_
 ·obtain⟨v,q⟩:=f.cell x c e;exact absurd (Up q.lt (by rw[z];exact g))<|Vh _
 ·exact absurd (Up (Ur (f.pin p l).1) (by rw[z];exact g))<|Vh _
def bind_assoc(r:VM.R α)(f)(h:β->VM.Mem->VM.R γ):(r.bind f).bind h=r.bind λa M=>(f a M).bind h:=by cases r<;>rfl
def EU(iz)(g)(t)(m)(x)(r)(σ)(M)(ws)(h:iz.ok M=af): (VM.comp iz g t m (x::r) σ M ws).bind bb=(x.get M).bind λv M1=>(g v σ M1).bind λbS M2=>(t bS M2).bind λb M3=>if b then(m bS M3).bind λy a=>(VM.comp iz g t m r bS a<|ws++[y]).bind bb else(VM.comp iz g t m r bS M3 ws).bind bb:=by
 rw[VM.comp,T5 h,bind_assoc];congr 1;funext v M1;rw[bind_assoc];congr 1;funext bS M2;rw[bind_assoc];congr 1;funext b M3;cases b
 ·rfl
 ·exact bind_assoc _ _ _
theorem uO:∀{a7:List VM.Src} {σ:VM.St} {M:VM.Mem} {ws r:List VM.W} {i:VM.Mem},VM.comp iz g t m a7 σ M ws=.ok r i->ws.length<=r.length
 |[],σ,M,ws,r,i,h=>by
  rw[VM.comp] at h;split at h
  ·cases h;exact Uc _
  ·cases h
 |x::rest,σ,M,ws,r,i,h=>by
  rw[VM.comp] at h;split at h
  ·cases c:x.get M with
   |ok v M1=>
    rw[c] at h;cases f:g v σ M1 with
    |ok a M2=>
     simp only[VM.R.bind,f] at h;cases d:t a M2 with
     |ok b j=>
      simp only[d] at h;cases b with
      |true=>
       simp only[Uv] at h;cases e:m a j with
       |ok y k=>simp only[e] at h;have:=uO h;rw[Us,WB] at this;omega
       |ex _ _=>simp only[e] at h;cases h
       |bad=>simp only[e] at h;cases h
      |false=>simp only[Vc] at h;exact uO h
     |ex _ _=>simp only[d] at h;cases h
     |bad=>simp only[d] at h;cases h
    |ex _ _=>simp only[VM.R.bind,f] at h;cases h
    |bad=>simp only[VM.R.bind,f] at h;cases h
   |ex _ _=>rw[c] at h;cases h
   |bad=>rw[c] at h;cases h
  ·cases h
def Gm{K:Fg}(h:ay RV K ι ((VM.comp iz g t m a7 σ M ws).bind bb) Q):ws.length<=sizeLine:=by
 cases e:VM.comp iz g t m a7 σ M ws with
 |ok r d=>
  rw[e] at h;have a:ay RV K ι (bb r d) Q:=h;have c:=uO e;unfold bb at a;by_cases b:r.length<=VM.lim
  ·exact Uh c b
  ·rw[T6 b] at a;exact(a).elim
 |ex _ _=>rw[e] at h;exact(h).elim
 |bad=>rw[e] at h;exact(h).elim
def uk{X:Cx}{N:List Str}{k:Nat}{cl:List Nat}{scope:Scope}{tg iter elt:Expr}{ifs:List Expr}{pos:Pos}{g:VM.GM}{t:VM.TM}{m:VM.EM}{pins:List (Addr×Obj)}{τ:L2.St}{H2:Hp}{P:Shared}{J:It}{O:List Addr}{it:Addr}{tn:Nat->Heap->Prop}{ι:List Addr}{M:VM.Mem}{σ:VM.St}{a7:List VM.Src}{j:VM.bN}{Qv:VK}{RR:ah->Addr->Result->Shared->Prop}{E:ah->Shared->Prop}(B:jD X N k cl scope)(calm:X.calm=af)(hg:∀C s H O,SG (dv X N scope (bW X.env.cells scope.names []) C s H O) tg g)(ht:∀C s H O,jr (dv X N scope (bW X.env.cells scope.names []) C s H O) ifs t)(hm:∀C s H O,SE (dv X N scope (bW X.env.cells scope.names []) C s H O) elt m)(I2:Inv X pins τ H2 P)(T:Turn X.prog X.w X.K tg J O it tn)(st:tn 0 P.heap)(nA:∀b∈O,eY X pins H2 b)(R2:Rel X.K ι M H2)(S2:bM ι σ τ)(J2:iq X.K ι J a7 j)(Me:ay RV X.K ι ((VM.comp j g t m a7 (dE cl<|σ++List.replicate k ae) M []).bind bb) Qv)(PZ:∀D C oC mC s' H',P.heap.objs.size<=C->s'.heap.Ns C mC->Inv X (pins++[(C,oC)]) τ H' s'->Qv (.ref D) H'->RR (.ref D) C (.ok .next) s'):
 wpAny (model X.prog X.w) X.A (newList []) (λacc Nn=>wpAny (model X.prog X.w) X.A (newFunctionEnv scope X.env.globals (bW X.env.cells scope.names []) [] X.env.qual ae .none<|aa X.env) (λBJ Np=>codeAny (model X.prog X.w) X.A (.compStart (.ListComp elt [⟨tg,iter,ifs,0⟩] scope pos) 0 (.ref it) acc {BJ with scope:=relabel scope X.env}) (RR acc BJ.locals) Np) E Nn) E P:=by
 refine Wa<|wpAny_newFunctionEnv B.cell (by intro y hy;simp at hy) (λj8 G a=>?_) B.kind;dsimp only at G a⊢;generalize xh:P.heap.push {cls:=.type "list",dict:=ae,data:=.seq ([]:List ah).toArray}=HP at G a⊢;generalize P0:HP.objs.size=C at G a⊢;generalize CS:P.heap.objs.size=D at G a⊢;have hC:C=D+1:=by rw[<-P0,<-xh,Wv,CS]
 have pF:D≠C:=by omega
 have sg:P.heap.objs.size<=D:=by omega
 have xi:P.heap.objs.size<=C:=by omega
 have below:∀b,b<P.heap.objs.size->b≠C/\b≠D:=λb Z=>⟨by omega,by omega⟩
 have old:∀b o,P.heap.get? b=aa o->j8.get? b=aa o:=λb o e=>a.extBut b o (below b<|Ur e).1<|Uw _<|xh▸Uw _ e
 have Nq:j8.get? D=aa {cls:=.type "list",data:=.seq ([]:List ah).toArray 0}:=a.extBut _ _ pF<|Uw _ (by rw[<-xh,<-CS];exact UU _ rfl);have si:∀b∈O,b<P.heap.objs.size:=λb Z=>by obtain⟨o,e,_⟩:=T.obj 0 _ st b Z;exact Ur e
 have xj:∀{q9:List (Addr×Obj)} {H:Hp},(∀b∈O,H b=ae)->(∀p∈q9,p.1=D)->∀b∈O,eY (dv X N scope (bW X.env.cells scope.names []) C P H2 O) q9 H b:=λ{q9 H} hn hp b Z=>by
  refine⟨hn b Z,(below b<|si b Z).1,λz=>?_,.inl Z,λx c e=>?_,λp P1 z=>?_⟩
  ·rcases T7.mp (I2.qF b z) with q|q
   ·exact(nA b Z).2.1 q
   ·exact(nA b Z).2.2.1 q
  ·exact(nA b Z).2.2.2.2.1 x c<|mq scope.names [] (λy d hy=>by simp at hy)<|Vr e
  ·have lD:p∈([]:List<|Addr×Obj)++q9:=P1;rw[UJ] at lD;exact(below b<|si b Z).2<|by rw[<-z,hp p lD]
 have loop:∀s3:Shared,s3={P with heap:=j8,toks:=P.toks+([]:List<|Str×ah).length}->
  codeAny (model X.prog X.w) X.A (.compLoop (.ListComp elt [⟨tg,iter,ifs,0⟩] scope pos) 0 (.ref it) (.ref D)<|compEnvC scope (bW X.env.cells scope.names []) C X.env) (RR (.ref D) C) s3:=by
  rintro s3 rfl;have Ib:=ET (s4:={P with heap:=j8,toks:=P.toks+([]:List<|Str×ah).length}) B I2 nA si old rfl I2.bare xi sg pF G Nq<|λv z=>nomatch z
  refine Df (λn s=>∃i h M' i4 U H' ws vs l nn,i<=a7.length/\n=a7.length+1-i/\Inv (dv X N scope (bW X.env.cells scope.names []) C P H2 O) [(D,{cls:=.type "list",data:=.seq (l:List ah).toArray nn})] U H' s/\tn i s.heap/\(∀b∈O,H' b=ae)/\
   ι<+:h/\Rel X.K h M' H'/\bM h i4 U/\bq h ws vs/\Vals vs l/\ay RV X.K h ((VM.comp j g t m (a7.drop i) i4 M' ws).bind bb) Qv) ?_ (a7.length+1)
   ⟨0,ι,M,_,_,H2,[],[],[],0,UX _,rfl,Ib,T.keep _ _ _ st<|λb Z o e=>old b o e,λb Z=>(nA b Z).1,dR,R2,Ao cl<|Paired.app S2<|Ap k,.nil,.nil,Me⟩
  rintro n s ⟨i,h,M',i4,U,H',ws,vs,l,nn,hi,rfl,I,CT,hn,sj,R,S,sk,rv,hp⟩;by_cases nu:i<a7.length
  ·have ex:a7[i]? =aa a7[i]:=by simp[nu]
   rw[V6 nu] at hp;have Q:j.ok M'=af:=by
    by_cases Q:j.ok M'=af
    ·exact Q
    ·rw[VM.comp,T6 Q] at hp;exact(hp:False).elim
   rw[EU _ _ _ _ _ _ _ _ _ Q] at hp;refine aQ (T.item (dv X N scope (bW X.env.cells scope.names []) C P H2 O) rfl rfl rfl calm i _ s U H' _ I (xj hn<|by simp) CT<|J2.go i h M' H' _ sj R Q ex) λr s1 ⟨u,hr,h1⟩=>?_
   subst hr;refine aQ h1 λ_ pG ⟨x,H1,I1,rx,y1,xk,P2⟩=>?_
   obtain⟨jC,w,M2,q2,eg,P4,P5⟩:=J2.lz i h M' H' _ x H1 sj R Q ex y1;rw[eg] at hp;have P7:=I1.pinned (xj P2<|by simp)<|T.obj _ _ xk;obtain⟨gt,pg,kg⟩:=hg C P H2 O;obtain⟨tt,pt,kt⟩:=ht C P H2 O;obtain⟨te,pe,ke⟩:=hm C P H2 O;have P_:ay RV X.K jC ((g w i4 M2).bind λbS M2=>(t bS M2).bind λb M3=>if b then(m bS M3).bind λy M4=>(VM.comp j g t m (a7.drop (i+1)) bS M4 (ws++[y])).bind bb else(VM.comp j g t m (a7.drop (i+1)) bS M3 ws).bind bb) Qv:=ay.up q2 hp
   have again:∀{n':Nat} {sm:L2.St} {H7:Hp} {s7:Shared} {lE:List Addr} {M7:VM.Mem} {so:VM.St} {sr:List VM.W} {su:List V} {rA:List ah},Inv (dv X N scope (bW X.env.cells scope.names []) C P H2 O) ([(D,{cls:=.type "list",data:=.seq rA.toArray n'})]++jT O pG.heap) sm H7 s7->
    ι<+:lE->Rel X.K lE M7 H7->bM lE so sm->bq lE sr su->Vals su rA->ay RV X.K lE ((VM.comp j g t m (a7.drop<|i+1) so M7 sr).bind bb) Qv->
    ∃n,n<a7.length+1-i/\∃i h M' i4 U H' ws vs l nn,i<=a7.length/\n=a7.length+1-i/\Inv (dv X N scope (bW X.env.cells scope.names []) C P H2 O) [(D,{cls:=.type "list",data:=.seq (l:List ah).toArray nn})] U H' s7/\tn i s7.heap/\(∀b∈O,H' b=ae)/\
     ι<+:h/\Rel X.K h M' H'/\bM h i4 U/\bq h ws vs/\Vals vs l/\ay RV X.K h ((VM.comp j g t m (a7.drop i) i4 M' ws).bind bb) Qv:=by
    intro n' sm H7 s7 lE M7 so sr su rA I7 p7 R7 S7 Qa Qb Qc;refine⟨a7.length+1-(i+1),by omega,i+1,lE,M7,so,sm,H7,sr,su,rA,n',nu,rfl,I7.n4,T.keep _ _ _ xk λb Z o e=>(I7.pin (b,o)<|Uu _<|Uu _<|pQ Z e).1,λb Z=>?_,p7,R7,S7,Qa,Qb,Qc⟩;obtain⟨o,e,d⟩:=T.obj _ _ xk b Z;exact(I7.pin (b,o)<|Uu _<|Uu _<|pQ Z e).2.1
   refine UL (pg _ pG U H1 x u _ P7 rx (kg jC M2 H1 i4 U w x (λjE H3=>∃iA M3 L,jC<+:iA/\Rel X.K iA M3 H3/\bM iA L jE/\ay RV X.K iA ((t L M3).bind λb M4=>if b then(m L M4).bind λy M5=>(VM.comp j g t m (a7.drop (i+1)) L M5 (ws++[y])).bind bb else(VM.comp j g t m (a7.drop (i+1)) L M4 ws).bind bb) Qv) P4 (S.mono q2) P5 (ay.seq P_ λiA H3 L M3 jE q3 R3 S3 h3=>⟨iA,M3,L,q3,R3,S3,h3⟩))) (λ_ s3 ⟨jE,H3,I3,iA,M3,L,q3,R3,S3,h3⟩=>?_) λ_ _ f=>f.elim
   refine UL (pt _ s3 jE H3 (λb H4=>∃Y M4,iA<+:Y/\Rel X.K Y M4 H4/\ay RV X.K Y (if b then(m L M4).bind λy M5=>(VM.comp j g t m (a7.drop<|i+1) L M5<|ws++[y]).bind bb else(VM.comp j g t m (a7.drop<|i+1) L M4 ws).bind bb) Qv)
    I3 (kt iA M3 H3 L jE _ R3 S3 (ay.seq h3 λY H4 b M4 b' q4 R4 e4 h4=>by cases e4;exact⟨Y,M4,q4,R4,h4⟩))) (λb s4 ⟨H4,I4,Y,M4,q4,R4,h4⟩=>?_) λ_ _ f=>f.elim
   have r9:ι<+:Y:=sj.trans<|q2.trans<|q3.trans q4;have CU:h<+:Y:=q2.trans<|q3.trans q4;cases b with
   |false=>rw[T6 Uq];exact again I4 r9 R4 (S3.mono q4) (bq.mono CU sk) rv h4
   |true=>
    rw[T5 rfl];refine UL (pe _ s4 jE H4 (λv H5=>∃lF M5 y,Y<+:lF/\Rel X.K lF M5 H5/\RV lF y v/\ay RV X.K lF ((VM.comp j g t m (a7.drop<|i+1) L M5<|ws++[y]).bind bb) Qv)
     I4 (ke Y M4 H4 L jE _ R4 (S3.mono q4) (ay.seq h4 λlF H5 y M5 v q5 R5 r5 h5=>⟨lF,M5,y,q5,R5,r5,h5⟩))) (λyv s5 ⟨v,H5,I5,Qd,lF,M5,y,q5,R5,r5,h5⟩=>?_) λ_ _ f=>f.elim
    have Nr:=Gm h5;have m_:ws.length=l.length:=(Paired.len sk).trans rv.length;obtain⟨eD,nD,xl,CV,_⟩:=I5.pin (D,{cls:=.type "list",data:=.seq l.toArray nn}) (by show _∈([]:List<|Addr×Obj)++_;simp);refine VP W8 ⟨_,eD,rfl⟩ F.entry_list_append (F.args_list_append_2 _ _) (PySem.list_append D l.toArray nn yv (by rw[Ul,<-m_];rw[Us,WB] at Nr;omega)) ⟨eD,?_⟩;obtain⟨n',Qe⟩:∃n':Nat,(s5.heap.update D<|Obj.mapSeq λlG=>lG.push yv).get? D=aa {cls:=.type "list",data:=.seq (l++[yv]).toArray n'}:=by
     have q:=PySem.IsL.update eD<|λlG=>lG.push yv
     have e3:l.toArray.push yv=(l++[yv]).toArray:=by simp
     rw[e3] at q;exact⟨_,q⟩
    have I6:Inv (dv X N scope (bW X.env.cells scope.names []) C P H2 O) (jT O pG.heap) jE H5 {s5 with heap:=s5.heap.update D (Obj.mapSeq λlG=>lG.push yv),toks:=s5.toks}:=by
     refine Inv.turned (it:=D) (t':=s5.toks) (I5.jM λp hp=>I5.pin p<|Uu _<|Uu _ hp) (λb o Z e=>(W7 _ _<|Uz Z).trans e) nD xl (.inr sg) (λx c e z=>?_) λp hp z=>?_
     ·obtain⟨vv,q⟩:=I2.cell x c (mq scope.names [] (λy d hy=>by simp at hy)<|Vr e);exact absurd (Up q.lt (by rw[z];exact sg))<|Vh _
     ·have lD:p∈([]:List<|Addr×Obj)++jT O pG.heap:=hp;rw[UJ] at lD;exact(below p.1<|si p.1 (x3 lD).1).2 z
    have I7:Inv (dv X N scope (bW X.env.cells scope.names []) C P H2 O) ([(D,{cls:=.type "list",data:=.seq (l++[yv]).toArray n'})]++jT O pG.heap) jE H5 {s5 with heap:=s5.heap.update D (Obj.mapSeq λlG=>lG.push yv),toks:=s5.toks}:=by
     refine I6.jM λp hp=>?_
     rcases U0.mp hp with z|z
     ·have e:p=(D,{cls:=.type "list",data:=.seq (l++[yv]).toArray n'}):=by simpa using z
      subst e;exact⟨Qe,nD,xl,CV,λv z=>nomatch z⟩
     ·exact I6.pin p<|Uu _ z
    refine again I7 (r9.trans q5) R5 (S3.mono<|q4.trans q5) (Paired.app (bq.mono (CU.trans q5) sk)<|.cons r5 .nil) (rv.append<|.cons Qd .nil) h5
  ·have hz:i=a7.length:=by omega
   subst hz;rw[WG] at hp;have Q:j.ok M'=af:=by
    by_cases Q:j.ok M'=af
    ·exact Q
    ·rw[VM.comp,T6 Q] at hp;exact(hp).elim
   have lD:=by rw[VM.comp,T5 Q] at hp;exact hp
   refine aQ (T.done (dv X N scope (bW X.env.cells scope.names []) C P H2 O) rfl rfl rfl calm a7.length _ s U H' _ I (xj hn<|by simp) CT<|J2.stop _ h M' H' sj R Q<|Uc _) λr s1 ⟨hr,I1⟩=>?_
   subst hr;obtain⟨eD,nD,xl,CV,_⟩:=I1.pin (D,{cls:=.type "list",data:=.seq l.toArray nn})<|by simp
   obtain⟨mC,sv,_⟩:=I1.loc;obtain⟨oC,es,ep,Qf,Qg,_⟩:=id sv;have fin:=i_ R sk lD;refine PZ D C oC mC s1 _ xi sv (Iu I2 nA I1 xi sg pF nD eD rv fin.1 Qf λv z=>by rw[Qg] at z;cases z)<|fin.2 D nD
 exact codeAny_compStart_list (loop _ rfl)<|T.self _ 0 _ _ _ (T.keep _ _ _ st λb Z o e=>old b o e)<|loop _ rfl
theorem xv{env:Env}:∀{names:List (Str×NameKind)} {x:Str}, (names.map λ(n,k)=>if(k==NameKind.free&&env.scope.kind==.function&&env.kindOf n==aa .cell) then(n,NameKind.cell) else(n,k)).lookup x=aa .local->names.lookup x=aa .local
 |[],x,h=>by simp at h
 |(n,k0)::r,x,h=>by
  have c:=@xv env r x;rw[Ux] at h;by_cases d:(k0==NameKind.free&&env.scope.kind==.function&&env.kindOf n==aa .cell)=af
  ·have b:(match((n,k0):Str×NameKind) with|(n,k)=>if(k==NameKind.free&&env.scope.kind==.function&&env.kindOf n==aa .cell) then(n,NameKind.cell) else(n,k))=(n,NameKind.cell):=T5 d;rw[b,VC] at h;rw[VC];cases a:x==n with
   |true=>rw[a] at h;cases h
   |false=>rw[a] at h;exact c h
  ·have b:(match((n,k0):Str×NameKind) with|(n,k)=>if(k==NameKind.free&&env.scope.kind==.function&&env.kindOf n==aa .cell) then(n,NameKind.cell) else(n,k))=(n,k0):=T6 d;rw[b,VC] at h;rw[VC];cases a:x==n with
   |true=>rw[a] at h;exact h
   |false=>rw[a] at h;exact c h
noncomputable def Mf(N:List Str)(cl:List Nat)(n:Nat)(names:List<|Str×NameKind):Bool:=(List.range N.length).all λi=>match N[i]? with
 |some x=>!(names.lookup x==aa NameKind.local)||cl.contains i||ai (n<=i)
 |none=>af
def KP(free:freeOk X.env scope.names=af)(a:∀y∈scope.names,y.2≠.cell)(kind:scope.kind=.function)(names:∀y∈scope.names,y.2=.local->scope.names.lookup y.1=aa .local)(own:Mf (X.N++ex) cl X.N.length scope.names=af):jD X (X.N++ex) ex.length cl scope:=by refine⟨by simp,λi b=>by rw[U6 b],free,a,kind,names,λi x d f=>?_⟩;have h3:=xv f;have b:=(Ub.mp d).1;have e:=US.mp own i<|UD.mpr b;rw[d] at e;have c:(!(scope.names.lookup x==aa NameKind.local)||cl.contains i||ai (X.N.length<=i))=af:=e;rw[h3] at c;simp only[VX,WK,Vs,VB,List.contains_eq_mem,U4] at c;exact c
def Aq{X:Cx}{ex:List Str}{cl:List Nat}{scope:Scope}{r b elt:Expr}{n:List Expr}{pos:Pos}{L:VM.IM}{g:VM.GM}{t:VM.TM}{m:VM.EM}(B:jD X (X.N++ex) ex.length cl scope)(o:X.calm=af)(hi:SI X r b L)(hg:∀C s H k,SG (dv X (X.N++ex) scope (bW X.env.cells scope.names []) C s H k) r g)(Z:∀C s H k,jr (dv X (X.N++ex) scope (bW X.env.cells scope.names []) C s H k) n t)(hm:∀C s H k,SE (dv X (X.N++ex) scope (bW X.env.cells scope.names []) C s H k) elt m)(hs:∀x,foldedSetIterable b X.env x=pure x:=by intro _;rfl):SE X (.ListComp elt [⟨r,b,n,0⟩] scope pos) (bE ex.length cl L g t m):=by
 obtain⟨wi,W,Y⟩:=hi;refine⟨λl H Q=>∃f M j,Rel X.K f M H/\bM f j l/\ay RV X.K f (bE ex.length cl L g t m j M) Q,λd s l H Q I h=>?_,λf M H j l Q R S h=>⟨f,M,j,R,S,h⟩⟩;obtain⟨f,M,j,R,S,h⟩:=h;rw[eval_ListComp];refine XA (use:=ae) rfl hs (tS B.free) B.kind B.names (aQ (W d s l H (λJ P=>∃a M1 c i,f<+:a/\Rel X.K a M1 P/\iq X.K a J c i/\ay RV X.K a ((VM.comp i g t m c (dE cl<|j++List.replicate ex.length ae) M1 []).bind bb) Q) I (Y f M H j l _ R S (ay.seq h λa P V M1 J O u G p=>⟨a,M1,V.1,V.2,O,u,G,p⟩))) λv s1 p=>aQ p λv_ s2 h2=>?_)
 obtain⟨it,k,tn,J,H2,e,U,T,F,f2,a,M1,c,i,O,u,G,hp⟩:=h2;subst e;exact uk (RR:=λz C=>compPost (model X.prog X.w) X.A X.xe ae (EP X d l Q) z C) B o hg Z hm U T F f2 u (S.mono O) G hp λD C oC mC s' H' hC y I' q=>⟨mC,y,λh' E=>⟨.ref D,H',uN U hC I' E,rfl,q⟩⟩
def Iv{X:Cx}{ex:List Str}{cl:List Nat}{scope:Scope}{U b elt:Expr}{k:List Expr}{pos p G:Pos}{y:Str}{i:Nat}{mi:VM.IM}{g:VM.GM}{t:VM.TM}{m:VM.EM}(hN:X.N.Nodup)(B:jD X (X.N++ex) ex.length cl scope)(Y:X.calm=af)(hi:SI X U b mi)(hg:∀C s H z,SG (dv X (X.N++ex) scope (bW X.env.cells scope.names []) C s H z) U g)(ht:∀C s H z,jr (dv X (X.N++ex) scope (bW X.env.cells scope.names []) C s H z) k t)(hm:∀C s H z,SE (dv X (X.N++ex) scope (bW X.env.cells scope.names []) C s H z) elt m)(hy:X.N[i]? =aa y:=by rfl)(hx:Loc X.env.scope y:=by first|exact Or.inl rfl|exact Or.inr rfl)(hf:X.fn y=af\/X.env.scope.names.lookup y=aa .local:=by first|exact .inl rfl|exact .inr rfl|assumption)(Qh:swapsWith (.ListComp elt [⟨U,b,k,0⟩] scope pos) (aa<|.Name y G) p.line X.env=pure af:=by rfl)(hs:∀x,foldedSetIterable b X.env x=pure x:=by intro _;rfl):SS X (.Assign [.Name y G] (.ListComp elt [⟨U,b,k,0⟩] scope pos) p) (aN (bE ex.length cl mi g t m)<|VM.az i):=by
 obtain⟨wi,pi,ki⟩:=hi;refine⟨λD j H=>∃f M n,Rel X.K f M H/\bM f n j/\bx X.K f (aN (bE ex.length cl mi g t m) (VM.az i) n M) D,λc s j H D I h=>?_,λf M H n j D R S h=>⟨f,M,n,R,S,h⟩⟩;obtain⟨f,M,n,R,S,h⟩:=h;have h0:ay RV X.K f (bE ex.length cl mi g t m n M) (λv l=>D.nx (j.set i<|aa v) l):=bx.seq h λa l w M1 v Z O r1 L=>L a l _ dR O (Paired.mT (F:=nv a) (x:=aa w) (y:=aa v) ⟨v,rfl,r1⟩ i<|S.mono Z)
 rw[exec_Assign_Name_used _ _ _ _ Qh];refine T8<|wpAny_standAt<|T8 ?_;show wpAny _ X.A (do let _<-comprehension (.ListComp elt [⟨U,b,k,0⟩] scope pos) scope X.env _ (newList []) ag (eval b X.env) (aa<|assign (.Name y G) X.env)) _ _ s;refine T8 (UL (XA (use:=aa<|assign (.Name y G) X.env) (Q:=λ_ E=>SP X c D .next E) rfl hs (tS B.free) B.kind B.names (aQ (pi c s j H (λJ l=>∃a M1 d u,f<+:a/\Rel X.K a M1 l/\iq X.K a J d u/\ay RV X.K a ((VM.comp u g t m d (dE cl<|n++List.replicate ex.length ae) M1 []).bind bb) (λv l=>D.nx (j.set i<|aa v) l)) I (ki f M H n j _ R S (ay.seq h0 λa l pr M1 J Z O J1 L=>⟨a,M1,pr.1,pr.2,Z,O,J1,L⟩))) λv s1 L=>aQ L λv_ s2 h2=>?_)) (λ_ E hq=>Uk (Uk hq)) λ_ _ e=>e)
 obtain⟨it,z,tn,J,H2,e,I2,T,Qi,f2,a,M1,d,u,Z,O,J1,hp⟩:=h2;subst e;refine uk (RR:=λacc C=>compPost (model X.prog X.w) X.A X.xe (aa<|assign (.Name y G) X.env) (λ_ E=>SP X c D .next E) acc C) B Y hg ht hm I2 T Qi f2 O (S.mono Z) J1 hp λA' C oC mC E H' hC sv I' q=>?_
 obtain⟨eC,_⟩:=I'.pin (C,oC)<|Uu _<|Uu _<|by simp
 refine aQ (zB hN hy hx hf _ E j H' (.ref A') (.ref A') (λP V=>P=j.set i (aa<|.ref A')/\V=H') I' rfl ⟨rfl,rfl⟩) λ_ SR ⟨P,V,W,e1,e2⟩=>?_
 subst e1 e2;obtain⟨Qj,_⟩:=W.pin (C,oC)<|Uu _<|Uu _<|by simp
 refine⟨mC,?_,λh' Qk=>⟨_,_,uN I2 hC W Qk,q⟩⟩;obtain⟨o,es,ep,ho,r⟩:=sv;rw[eC] at ho;cases ho;exact⟨oC,es,ep,Qj,r⟩
def um(r:bq ι ws vs)(N):bM ι (ws.map aa++List.replicate (N.length-ws.length) ae) (L2.start N vs):=by
 unfold L2.start;have c:∀{ws:List VM.W} {vs:List V},bq ι ws vs->bM ι (ws.map aa) (vs.map aa):=by
  intro ws vs r;induction r with
  |nil=>exact .nil
  |cons h _ a=>exact .cons ⟨_,rfl,h⟩ a
 have b:∀n:Nat,bM ι (List.replicate n ae) (List.replicate n ae):=by
  intro n;induction n with
  |zero=>exact .nil
  |succ n a=>exact .cons trivial a
 rw[Paired.len r];exact Paired.app (c r)<|b _
def A1{K:Fg}{st:Stmt}(F:iZ K x qual st f fd)(S:ja N ps<|cY st)(L:mg x=aa (.ref f))(J:Binds K fd ps [])(D:∀(c) (A) (outer) (s) (H) (E),bY k (A.deeper<|envOfC qual (cY st) s.heap.objs.size f c)->fY (iS fD P w K mg base N qual (cY st) f c A outer s H E).iX (gC st) body)(G:N.length=n:=by rfl)(z:ps.length=np:=by rfl):kr P w K mg base (k+1) x f fd ps (VM.fn np n body):=by
 subst G z;refine⟨F.ok S (λC H Q E h=>h.1)<|λc A outer s H C Q E o h=>?_,L,F.kp,J,λd M i=>T6 i⟩;obtain⟨B,l,M,d,R,r,h⟩:=h;obtain⟨t,y,q⟩:=D c A outer s H E o;refine⟨t,y,q l M H _ _ _ R (um r N) ?_⟩;have i:d.length=ps.length:=by rw[Paired.len r];exact B
 have b:ay RV K l (match body (d.map aa++List.replicate (N.length-ps.length) ae) M with
  |.rt v a=>.ok v a
  |.nx _ a=>.ok .aA a
  |.ex v a=>.ex v a
  |_=>.bad) Q:=by
  have m:ay RV K l (if d.length=ps.length then(match body (d.map aa++List.replicate (N.length-ps.length) ae) M with
   |.rt v a=>.ok v a
   |.nx _ a=>.ok .aA a
   |.ex v a=>.ex v a
   |_=>.bad) else .bad) Q:=h
  rw[T5 i] at m;exact m
 rw[i];cases e:body (d.map aa++List.replicate (N.length-ps.length) ae) M with
 |nx g a=>rw[e] at b;exactλj u I p O T=>b j u .aA p O rfl
 |rt v a=>rw[e] at b;exact b
 |bk g a=>rw[e] at b;exact(b).elim
 |ct g a=>rw[e] at b;exact(b).elim
 |ex v a=>rw[e] at b;exact(b).elim
 |bad=>rw[e] at b;exact(b).elim
def Gn{P:Program}{w:World}{K:Fg}{g:Str->Option ah}{base:Heap}{x:Str}{f:Addr}{e:FuncData}{b:List Str}(j:g x=aa (.ref f))(i:PySem.W.keepIn K (.ref f)=af)(k:Binds K e b []):
 kr P w K g base 0 x f e b (λ_ _=>.bad):=by
 have d:∀a H Q E,¬ny K b.length (λ_ _=>.bad) a H Q E:=λa H Q E h=>by obtain⟨_,_,_,_,_,_,h⟩:=h;exact h
 exact⟨⟨λa H Q E h=>absurd h<|d a H Q E,λA c s H args l a Q E _ _ _ _ h=>absurd h<|d a H Q E⟩,j,i,k,λ_ _ _=>rfl⟩
noncomputable def oU(K:Fg):Sp:=λf H Q _=>∃(a:Addr) (c:List Int),f=[.ref a]/\bH K H a (c.map V.int)/\c.length<=63/\(∀b,H b=ae\/(∃o g,H b=aa (.a6 o<|.lst g))\/∃d,H b=aa (.c8 d))/\Tb K H/\∀e,Q (.bl af) e
def KQ{K:Fg}(F:kr P w K mg base k x f fd [a0] c)(math:∀d:List Int,d.length<=63->∃M,c [.ref 0] [.a6<|d.map .int]=.ok (.bl af) M):eG P w K mg base fD k f fd [a0] (oU K):=by
 refine F.ok.imp λL H Q E h=>?_
 obtain⟨a,d,rfl,j,i,G,y,q⟩:=h;obtain⟨I,l⟩:=math d i;have s:bq [a] (d.map VM.W.int) (d.map V.int):=by
  clear j i q l;induction d with
  |nil=>exact .nil
  |cons n r D=>exact .cons rfl D
 have C:se K H a (d.map V.int):=by
  rcases j with(h|⟨o,h⟩)|h
  ·rcases G a with z|⟨o,xs,z⟩|⟨ps,z⟩
   ·rw[z] at h;cases h
   ·rw[z] at h;cases h
   ·rw[z] at h;cases h
  ·exact .inl ⟨o,h⟩
  ·exact .inr h
 refine⟨rfl,[a],[.a6<|d.map .int],[.ref 0],⟨rfl,λb p o g e=>?_,λb R p J A g e h3 N u O=>?_,y⟩,.cons ⟨a,rfl,rfl⟩ .nil,?_⟩
 ·cases b with
  |zero=>cases g;cases e;exact⟨_,C,s⟩
  |succ b=>cases e
 ·cases b with
  |zero=>cases h3;cases u
  |succ b=>cases h3
 ·rw[l];intro m t v _ _ B;cases B;exact q t
noncomputable def gn:VM.Kd->String
 |.int=>"int"
 |.bool=>"bool"
 |.str=>"str"
 |.list=>"list"
 |.tuple=>"tuple"
inductive iB where
 |aA|bl|int|str|lst|tup
noncomputable def iB.name:iB->String
 |.aA=>"NoneType"
 |.bl=>"bool"
 |.int=>"int"
 |.str=>"str"
 |.lst=>"list"
 |.tup=>"tuple"
noncomputable def iB.is:iB->VM.Kd->Bool
 |.aA,_=>ag
 |.bl,k=>ai<|k=.bool\/k=.int
 |.int,k=>ai<|k=.int
 |.str,k=>ai<|k=.str
 |.lst,k=>ai<|k=.list
 |.tup,k=>ai<|k=.tuple
def zq(K:Fg)(t:iB)(k):PySem.W.kitOne K (.type t.name) (.type<|gn k)=aa (t.is k):=by cases t<;>cases k<;>kernel_rfl
theorem yF(K:Fg)(t:iB):∀a:List VM.Kd,PySem.W.kitAny K (.type t.name) (a.map λk=>.type<|gn k)=aa (a.any t.is)
 |[]=>rfl
 |k::r=>by rw[Ux,PySem.W.kitAny,zq,yF K t r,U3];cases t.is k<;>rfl
def Bl{K:Fg}{n:List Addr}{M:VM.Mem}{H:Hp}{w:VM.W}{v:V}{d:List VM.Kd}{b:Bool}(R:Rel K n M H)(r:RV n w v)(e:cW M w d=aa b)(h:d≠[]):∃t:iB,dU K H v (.type t.name)/\d.any t.is=b:=by
 have m:∃t:iB,dU K H v (.type t.name)/\∀k,cD M w k=aa (t.is k):=by
  cases w with
  |aA=>cases r;exact⟨.aA,.aA,λk=>rfl⟩
  |bl x=>cases r;exact⟨.bl,.bl x,λk=>rfl⟩
  |int i=>cases r;exact⟨.int,.int i,λk=>rfl⟩
  |str x=>cases r;exact⟨.str,.str _,λk=>rfl⟩
  |ref a=>
   obtain⟨p,z,rfl⟩:=r;cases f:M[a]? with
   |none=>
    exfalso;cases d with
    |nil=>exact h rfl
    |cons k rest=>
     have:cD M (.ref a) k=ae:=by unfold cD;simp only[f]
     rw[cW,this] at e;cases e
   |some o=>
    have q:=R.obj a p o z f;cases o with
    |lst xs=>obtain⟨y,j,_⟩:=q;exact⟨.lst,.lst j,λk=>by unfold cD;simp only[f]<;>rfl⟩
    |tup xs=>obtain⟨y,j,_⟩:=q;exact⟨.tup,.tup j,λk=>by unfold cD;simp only[f]<;>rfl⟩
    |a6 xs=>
     exfalso;cases d with
     |nil=>exact h rfl
     |cons k rest=>
      have:cD M (.ref a) k=ae:=by unfold cD;simp only[f]
      rw[cW,this] at e;cases e
    |aG xs=>
     exfalso;cases d with
     |nil=>exact h rfl
     |cons k rest=>
      have:cD M (.ref a) k=ae:=by unfold cD;simp only[f]
      rw[cW,this] at e;cases e
    |ins c xs=>
     exfalso;cases d with
     |nil=>exact h rfl
     |cons k rest=>
      have:cD M (.ref a) k=ae:=by unfold cD;simp only[f]
      rw[cW,this] at e;cases e
    |dr xs=>
     exfalso;cases d with
     |nil=>exact h rfl
     |cons k rest=>
      have:cD M (.ref a) k=ae:=by unfold cD;simp only[f]
      rw[cW,this] at e;cases e
    |ba g xs=>
     exfalso;cases d with
     |nil=>exact h rfl
     |cons k rest=>
      have:cD M (.ref a) k=ae:=by unfold cD;simp only[f]
      rw[cW,this] at e;cases e
    |bZ=>
     exfalso;cases d with
     |nil=>exact h rfl
     |cons k rest=>
      have:cD M (.ref a) k=ae:=by unfold cD;simp only[f]
      rw[cW,this] at e;cases e
    |eR c=>
     exfalso;cases d with
     |nil=>exact h rfl
     |cons k rest=>
      have:cD M (.ref a) k=ae:=by unfold cD;simp only[f]
      rw[cW,this] at e;cases e
 obtain⟨t,j,u⟩:=m;refine⟨t,j,?_⟩;have l:∀d,cW M w d=aa (d.any t.is):=by
  intro d;induction d with
  |nil=>rfl
  |cons k r s=>rw[cW,u k,s,U3]
 rw[l d] at e;exact Ug e
section
variable{X:Cx}{pins:List (Addr×Obj)}{σ:L2.St}{H:Hp}{s:Shared}
def Bm{t:iB}(I:Inv X pins σ H s)(b:RelV x u)(ty:dU X.K H x<|.type t.name):∃g:Heap->Prop,PySem.W.KitX X.K u (.type t.name) g/\g s.heap/\u≠.builtin "__main__.__loader__#opaque":=by
 generalize e:Value.type t.name=tv at ty;cases ty with
 |aA=>cases(b);exact⟨_,PySem.W.kitx_none,trivial,λz=>nomatch z⟩
 |bl y=>cases(b);exact⟨_,PySem.W.kitx_bool,trivial,λz=>nomatch z⟩
 |int i=>obtain⟨f,q⟩:=(b);cases q;exact⟨_,PySem.W.kitx_int,trivial,λz=>nomatch z⟩
 |str y=>obtain⟨f,q⟩:=(b);cases q;exact⟨_,PySem.W.kitx_str,trivial,λz=>nomatch z⟩
 |iW y=>obtain⟨f,q⟩:=(b);cases q;exact⟨_,PySem.W.kitx_float,trivial,λz=>nomatch z⟩
 | @lst a xs c=>cases(b);obtain⟨_,_,n,_,d⟩:=(I.aL a _ c);exact⟨_,PySem.W.kitx_list,⟨_,d,rfl⟩,λz=>nomatch z⟩
 | @a6 a l xs c=>cases(b);obtain⟨_,_,_,n,_,d⟩:=(I.aL a _ c);exact⟨_,PySem.W.kitx_list,⟨_,d,rfl⟩,λz=>nomatch z⟩
 | @tup a xs c=>cases(b);obtain⟨_,_,_,p⟩:=(I.aL a _ c);obtain⟨o,d,h,_⟩:=p;exact⟨_,PySem.W.kitx_tuple,⟨o,d,h⟩,λz=>nomatch z⟩
 |dK c=>cases t<;>(injection e with z;exact absurd z<|by decide)
 |dT c=>cases t<;>(injection e with z;exact absurd z<|by decide)
 |ins c cl k m j hm=>cases e
def EV:hV X (.builtin "isinstance") (λxs H Q=>∃(x:V) (t:iB) (k:VM.Kd),xs=[x,.ty<|gn k]/\dU X.K H x (.type t.name)/\Q (.bl<|t.is k) H):=by
 intro pins s σ H xs j Q I r h;obtain⟨x,t,k,rfl,ty,q⟩:=h;cases r with
 |cons d f=>
  cases f with
  |cons rc e=>
   cases e
   rename_i u c
   have ec:=rc;subst ec;obtain⟨i,Z,b,a⟩:=Bm I d ty;exact PySem.W.kia_one Z I.eI b (zq X.K t k) a λg=>⟨.bl<|t.is k,H,I.tok _,rfl,q⟩
theorem Ar:∀{a:List VM.Kd} {b:List ah},Vals (a.map λk=>V.ty<|gn k) b->b=a.map λk=>Value.type (gn k)
 |[],_,.nil=>rfl
 |k::r,_,.cons h t=>by have e:=h;rw[Ux,e,Ar t]
def EW:hV X (.builtin "isinstance") (λxs H Q=>∃(x:V) (t:iB) (b:List VM.Kd) (p:Addr),xs=[x,.ref p]/\H p=aa (.tup<|b.map λk=>V.ty<|gn k)/\dU X.K H x (.type t.name)/\Q (.bl<|b.any t.is) H):=by
 intro pins s σ H xs C Q I r h;obtain⟨x,t,b,p,rfl,i,ty,q⟩:=h;cases r with
 |cons f y=>
  cases y with
  |cons rc l=>
   cases l
   rename_i u c
   have ec:=rc;subst ec;obtain⟨_,g,v,o,m,a,n,e⟩:=I.aL p _ i;have w:=Ar v;subst w;obtain⟨D,z,A,E⟩:=o;simp only at a e;subst a e;obtain⟨F,Z,j,d⟩:=Bm I f ty;exact PySem.W.kia_tup Z I.eI j m (yF X.K t b) d λB=>⟨.bl<|b.any t.is,H,I.tok _,rfl,q⟩
end
def Rel.other{K:Fg}{h:List Addr}{M:VM.Mem}{H:Hp}(R:Rel K h M H){p:Addr}(b:H p=ae)(u:HO):Rel K h M (upd H p u):=by
 refine⟨R.len,λa q o i j=>?_,R.inj,R.tb.new b⟩;have r:=R.obj a q o i j;refine RO.other r (λf=>?_) λm d e=>by rw[b] at e;cases e
 rintro rfl;cases o with
 |lst xs=>obtain⟨d,e,_⟩:=r;rw[b] at e;cases e
 |tup xs=>obtain⟨d,e,_⟩:=r;rw[b] at e;cases e
 |a6 xs=>cases f
 |aG xs=>obtain⟨d,e,_⟩:=r;rw[b] at e;cases e
 |ins c xs=>obtain⟨_,_,_,_,e,_⟩:=r;rw[b] at e;cases e
 |dr x=>cases f
 |ba g xs=>obtain⟨o,l,d,k,_,e,_⟩:=r;rw[b] at e;cases e
 |bZ=>cases f
 |eR c=>obtain⟨C,_,e⟩:=r;rw[b] at e;cases e
def dU.other{K:Fg}(h:dU K H v t)(a:H p=ae)(u):dU K (upd H p u) v t:=by
 cases h with
 |aA=>exact .aA
 |bl x=>exact .bl x
 |int x=>exact .int x
 |str x=>exact .str x
 |iW x=>exact .iW x
 |lst e=>exact .lst (by rw[aS<|dJ e a];exact e)
 |a6 e=>exact .a6 (by rw[aS<|dJ e a];exact e)
 |tup e=>exact .tup (by rw[aS<|dJ e a];exact e)
 |dK e=>exact .dK (by rw[aS<|dJ e a];exact e)
 |dT e=>exact .dT (by rw[aS<|dJ e a];exact e)
 |ins e cl d c b hm=>exact .ins (by rw[aS<|dJ e a];exact e) cl d c b hm
section
variable{X:Cx}
def Bn(k):bootBuiltins (Str.ofString<|gn k)=aa (.type<|gn k):=by cases k<;>kernel_rfl
def KR{a:Expr}{m:VM.EM}{x:Str}(k:VM.Kd)(F:X.mg "isinstance"=ae)(j:X.mg x=ae)(r:SE X a m)(s:x=Str.ofString (gn k):=by rfl)(z:Gl X "isinstance":=by rfl)(i:Gl X x:=by rfl)(C:x≠"__name__":=by decide+kernel)(d:(x==("__debug__":Str))=ag:=by decide+kernel)(he:starEach [a,.Name x p2] X.env=(ag,eval a X.env)::starEach [.Name x p2] X.env:=by rfl)(l:(backTo pos<|starEach [.Name x p2] X.env).any (·.1)=ag:=by rfl)(g:starEach [.Name x p2] X.env=(ag,eval (.Name x p2) X.env)::starEach [] X.env:=by rfl):
 SE X (.Call (.Name "isinstance" p) [a,.Name x p2] [] pos) (bt [k] m):=by
 obtain⟨J,B,G⟩:=r;have u:PE X (.Name x p2) (tC<|.ty<|gn k):=zA i j (by rw[s];exact Bn k) (rfl) C d;refine⟨_,qi EV z F (by kernel_rfl) (f9 B (f9 u iG g) he) (by decide+kernel) (by decide+kernel) he l,λE M H A y Q R S h=>?_⟩;refine G E M H A y _ R S<|ay.seq h λq K w M1 v L n I o=>?_
 have c:=o;cases e:cW M1 w [k] with
 |none=>rw[e] at c;exact(c).elim
 |some b=>
  rw[e] at c;obtain⟨t,ty,D⟩:=Bl n I e<|by simp
  refine⟨v,t,k,rfl,ty,?_⟩;have f:=by simpa using D
  rw[f];exact ay.ok c n rfl
noncomputable def rC(X:Cx)(a:List Expr)(b:List VM.Kd):Prop:=PA X a<|λ_ H Q=>Q (b.map λk=>V.ty<|gn k) H
def Gp:rC X [] []:=iG
def EX(k)(c:X.mg x=ae)(d:rC X es ks)(e:x=Str.ofString (gn k):=by rfl)(b:Gl X x:=by rfl)(h:x≠"__name__":=by decide+kernel)(a:(x==("__debug__":Str))=ag:=by decide+kernel)(g:starEach (.Name x p2::es) X.env=(ag,eval (.Name x p2) X.env)::starEach es X.env:=by rfl):
 rC X (.Name x p2::es) (k::ks):=by
 have f:PE X (.Name x p2) (tC<|.ty<|gn k):=zA b c (by rw[e];exact Bn k) (rfl) h a;exact f9 f d g
def Iw{x1}(B:X.mg "isinstance"=ae)(l:SE X a m)(o:rC X es ks)(y:ks≠[]:=by simp)(n:ks.length<=64:=by decide)(s:Gl X "isinstance":=by rfl)(he:starEach [a,.Tuple es x1 p2] X.env=(ag,eval a X.env)::starEach [.Tuple es x1 p2] X.env:=by rfl)(f:(backTo pos<|starEach [.Tuple es x1 p2] X.env).any (·.1)=ag:=by rfl)(d:starEach [.Tuple es x1 p2] X.env=(ag,eval (.Tuple es x1 p2) X.env)::starEach [] X.env:=by rfl):
 SE X (.Call (.Name "isinstance" p) [a,.Tuple es x1 p2] [] pos) (bt ks m):=by
 obtain⟨E,x,C⟩:=l;refine⟨_,qi EW s B (by kernel_rfl) (f9 x (f9 (AA o) iG d) he) (by decide+kernel) (by decide+kernel) he f,λA M H u r Q R S h=>?_⟩;refine C A M H u r _ R S<|ay.seq h λk F w M1 v G g D j=>?_
 have c:=j;cases e:cW M1 w ks with
 |none=>rw[e] at c;exact(c).elim
 |some b=>rw[e] at c;obtain⟨t,ty,z⟩:=Bl g D e y;refine⟨by rw[Ua];exact Uh n (by decide),λq i=>?_⟩;refine⟨v,t,ks,q,rfl,cG,dU.other ty i _,?_⟩;rw[z];exact ay.ok c (g.other i _) rfl
end
section
variable{X:Cx}{elts:List Expr}{x1:Nat}{tpos:Pos}
def EY{K:Fg}{h:List Addr}{M:VM.Mem}{H:Hp}(R:Rel K h M H){w:VM.W}{v:V}{a:Nat}{o:VM.O}{xs:List VM.W}(e:oO M w=aa (a,o,xs))(r:RV h w v):
 ∃p vs,h[a]? =aa p/\v=.ref p/\bH K H p vs/\(o=.lst xs\/o=.a6 xs):=by
 cases w with
 |ref b=>
  obtain⟨p,j,rfl⟩:=r;simp only[oO] at e;cases i:M[b]? with
  |none=>rw[i] at e;cases e
  |some k=>
   rw[i] at e;have l:=R.obj b p k j i;cases k with
   |lst d=>cases e;obtain⟨vs,f,m⟩:=l;exact⟨p,vs,j,rfl,bH.of f,.inl rfl⟩
   |a6 d=>cases e;obtain⟨vs,f,m⟩:=l;exact⟨p,vs,j,rfl,f.sq,.inr rfl⟩
   |tup d=>cases e
   |aG d=>cases e
   |ins c d=>cases e
   |dr x=>cases e
   |ba g x=>cases e
   |bZ=>cases e
   |eR c=>cases e
 |aA=>cases e
 |bl _=>cases e
 |int _=>cases e
 |str _=>cases e
end
theorem zr:∀{ws:List VM.W} {vs:List V} {b:List Int},bq ι ws vs->VM.intsOf ws=aa b->vs=b.map V.int
 |_,_,_,.nil,e=>by cases e;rfl
 |_,_,b,.cons (a:=w) r t,e=>by
  cases w with
  |int i=>
   cases r;simp only[VM.intsOf] at e;cases c:VM.intsOf _ with
   |none=>rw[c] at e;cases e
   |some ms=>rw[c] at e;cases e;rw[zr t c];rfl
  |aA=>cases e
  |bl _=>cases e
  |str _=>cases e
  |ref _=>cases e
theorem intsAre_of:∀{b:List Int} {a:List ah},Vals (b.map V.int) a->IntsAre a b
 |[],_,.nil=>.nil
 |n::r,_,.cons h t=>by obtain⟨c,rfl⟩:=(h);exact .cons n c<|intsAre_of t
section
variable{X:Cx}
def EZ(i:X.A.handled=ae):hV X (.builtin "sum") (λxs H Q=>∃(p:Addr) (b:List Int),xs=[.ref p]/\bH X.K H p (b.map V.int)/\Q (.int b.sum) H):=by
 intro f s z H xs x Q I r h;obtain⟨p,b,rfl,k,q⟩:=h;obtain⟨u,rfl,j⟩:=vals1 r;cases j;obtain⟨a,m,n,_⟩:=I.list k;have e:=intsAre_of m;obtain⟨d,g⟩:=e.allInts.items;have o:numsOf a.toArray.toList=b:=by rw[show a.toArray.toList=a from rfl];exact e.numsOf
 have c:(d.toList.map (·.1))=b:=by rw[<-nums_intItems,<-g];exact o
 have l:s.heap.IsList p (intItems d):=by rw[<-g];exact n.isList
 refine sum_intListG i l λy w t v=>?_
 refine⟨.int b.sum,H,I.kept v,⟨t,?_⟩,q⟩;rw[preSum_eq,List.take_of_length_le<|by simp,c]
def KS(d:X.A.handled=ae):SC X (.builtin "sum") rn:=by
 refine⟨_,EZ d,λc M H k l Q R r h=>?_⟩;cases r with
 |nil=>exact(h).elim
 |cons i t=>
  cases t with
  |cons _ _=>exact(h).elim
  |nil=>
   rename_i x v
   have q:ay RV X.K c (match(VM.a8 M x).bind VM.intsOf with|some ns=>VM.R.ok (.int ns.sum) M|none=>.bad) Q:=h;cases e:VM.a8 M x with
   |none=>rw[e] at q;exact(q).elim
   |some xs=>
    rw[e] at q;obtain⟨p,j,rfl,f,g⟩:=R.a8 e i;have a:ay RV X.K c (match VM.intsOf xs with|some ns=>VM.R.ok (.int ns.sum) M|none=>.bad) Q:=q;cases b:VM.intsOf xs with
    |none=>rw[b] at a;exact(a).elim
    |some ns=>rw[b] at a;have:=zr g b;subst this;exact⟨p,ns,rfl,f,ay.ok a R rfl⟩
theorem xX(a:RV ι x v)(b:VM.flat x=af):∀{xs:List VM.W} {vs:List V},bq ι xs vs->xs.all VM.flat=af->(vs.countP λy=>dj y v)=xs.countP λz=>VM.eK z x
 |_,_,.nil,_=>rfl
 |_,_,.cons r t,h=>by rw[Vp,T'] at h;have c:=xX a b t h.2;rw[Vx,Vx,c,RV.eK r a h.1 b]
theorem xY:∀{xs:List V} {a:List ah},Vals xs a->xs.all dN=af->a.countP (eQ x)=xs.countP λy=>dj y x
 |_,_,.nil,_=>rfl
 |_,_,.cons r t,f=>by rw[Vp,T'] at f;rw[Vx,Vx,xY t f.2,vj r f.1]
noncomputable def KU(K:Fg):V->List V->Hp->VK->Prop:=λx b H Q=>∃p a y,x=.ref p/\b=[y]/\H p=aa (.lst a)/\dN y=af/\a.all dN=af/\Q (.int<|a.countP λz=>dj z y) H
def Gq:iY X "list.count" (KU X.K):=by intro c s A H x w v o Q I f j h;obtain⟨p,g,y,rfl,rfl,l,i,b,q⟩:=h;cases f;obtain⟨u,rfl,k⟩:=j.one;obtain⟨z,a,n,r,t,e⟩:=I.j6 l;refine VP F.slot_list_count ⟨_,e,rfl⟩ F.entry_list_count (F.args_list_count_2 _ _) (SeqAt.list_countAt p a.toArray n ae #[] u (eQ y)) ⟨e,λd m=>ma k i r b d<|by simpa using m,?_⟩;refine⟨.int<|g.countP λz=>dj z y,H,I.tok _,⟨s.toks,?_⟩,q⟩;rw[show a.toArray.toList=a from rfl,xY r b]
def Gr:SM X "list.count" iH:=by
 refine⟨_,Gq,λj M H x v n o Q R l r h=>?_⟩;cases r with
 |nil=>exact(h).elim
 |cons k t=>
  cases t with
  |cons _ _=>exact(h).elim
  |nil=>
   rename_i y u
   have q:ay RV X.K j (match VM.bQ M x with|some (_,c)=>(if(VM.flat y&&c.all VM.flat)=af then .ok (.int<|c.countP λz=>VM.eK z y) M else .bad)|none=>.bad) Q:=by
    unfold iH at h;cases e:VM.bQ M x with
    |none=>rw[e] at h;exact h
    |some z=>rw[e] at h;exact h
   cases e:VM.bQ M x with
   |none=>rw[e] at q;exact(q).elim
   |some z=>
    obtain⟨a,c⟩:=z;rw[e] at q;have d:ay RV X.K j (if(VM.flat y&&c.all VM.flat)=af then .ok (.int<|c.countP λz=>VM.eK z y) M else .bad) Q:=q;obtain⟨p,g,rfl,m,s,rfl,f,i⟩:=R.bQ e l;by_cases b:(VM.flat y&&c.all VM.flat)=af
    ·rw[T5 b] at d;rw[T'] at b;refine⟨⟨p,g,rfl,bH.of f⟩,p,g,u,rfl,rfl,f,k.flat b.1,bq.flat i b.2,?_⟩;rw[xX k b.1 i b.2];exact ay.ok d R rfl
    ·rw[T6 b] at d;exact(d).elim
end
section
variable{X:Cx}
end
def dI.val(r:dI ι kvs ks)(k): (aW kvs k=ae/\cM ks (Sum.inl k)=ae)\/∃w v,aW kvs k=aa w/\cM ks (Sum.inl k)=aa v/\RV ι w v:=by
 induction r with
 |nil=>exact .inl ⟨rfl,rfl⟩
 | @cons p q b c h t i=>
   obtain⟨a,f⟩:=h;by_cases e:p.1=k
   ·refine .inr ⟨p.2,q.2,by simp[aW,e],n8<|by rw[a,e],f⟩
   ·have d:aW (p::b) k=aW b k:=by simp[aW,e]
    have g:cM (q::c) (Sum.inl k:Key)=cM c (Sum.inl k):=n9 (by rw[a];intro z;exact e<|Wr z);rw[d,g];exact i
def dI.oW(r:dI ι kvs ks)(k)(b:RV ι w v):
 dI ι (kvs.map λkv=>if kv.1=k then(kv.1,w) else kv) (ks.map λkv=>if kv.1=(Sum.inl k:Key) then(kv.1,v) else kv):=by
 induction r with
 |nil=>exact .nil
 | @cons p q f g h t d=>
   obtain⟨a,c⟩:=h;rw[Ux,Ux];refine .cons ?_ d;by_cases e:p.1=k
   ·rw[T5 e,T5<|by rw[a,e]];exact⟨a,b⟩
   ·rw[T6 e,T6 (by rw[a];intro z;exact e<|Wr z)];exact⟨a,c⟩
def mf(k)(kvs):(kvs.any λkv=>ai<|kv.1=k)=(aW kvs k).isSome:=by unfold aW;rw[W',List.isSome_find?]
def dI.put(r:dI ι kvs ks)(k)(c:RV ι w v):dI ι (VM.dput kvs k w) (putK ks (Sum.inl k) v):=by
 unfold VM.dput putK;rw[mf,uo];rcases r.val k with⟨a,b⟩|⟨_,_,a,b,_⟩
 ·rw[a,b];exact Paired.app r<|.cons ⟨rfl,c⟩ .nil
 ·rw[a,b];exact r.oW k c
def dI.drop(r:dI ι kvs ks)(k):dI ι (gj kvs k) (j0 ks<|Sum.inl k):=by
 induction r with
 |nil=>exact .nil
 | @cons p q c d h t a=>
   unfold gj j0 at a⊢;rw[Vu,Vu];by_cases e:p.1=k
   ·rw[T6<|by simp[e],T6<|by simp[h.1,e]];exact a
   ·have b:¬q.1=(Sum.inl k:Key):=by rw[h.1];intro z;exact e (Wr z)
    rw[T5<|by simp[e],T5<|by simp[b]];exact .cons h a
section
variable{K:Fg}{ι:List Addr}{M:VM.Mem}{H:Hp}
def Rel.bC(R:Rel K ι M H)(e:VM.bC M w=aa (a,kvs))(r:RV ι w v):∃p h,w=.ref a/\ι[a]? =aa p/\M[a]? =aa (.aG kvs)/\v=.ref p/\H p=aa (.dK h)/\dI ι kvs h:=by
 cases w with
 |ref b=>
  obtain⟨p,i,rfl⟩:=r;simp only[VM.bC] at e;cases f:M[b]? with
  |none=>rw[f] at e;cases e
  |some o=>
   rw[f] at e;have m:=R.obj b p o i f;cases o with
   |aG d=>cases e;obtain⟨l,j,k⟩:=m;exact⟨p,l,rfl,i,f,rfl,j,k⟩
   |lst d=>cases e
   |a6 d=>cases e
   |tup d=>cases e
   |ins c d=>cases e
   |dr x=>cases e
   |ba g x=>cases e
   |bZ=>cases e
   |eR c=>cases e
 |aA=>cases e
 |bl _=>cases e
 |int _=>cases e
 |str _=>cases e
def Rel.eo(R:Rel K ι M H)(e:VM.eo M w=aa (a,c,fs))(r:RV ι w v):
 ∃p C i f,w=.ref a/\ι[a]? =aa p/\M[a]? =aa (.ins c fs)/\v=.ref p/\PySem.W.nsIn K mainGlobals (txt c)=aa (aa<|.ref C)/\H p=aa (.ins C i f)/\iy ι fs f:=by
 cases w with
 |ref b=>
  obtain⟨p,j,rfl⟩:=r;simp only[VM.eo] at e;cases h:M[b]? with
  |none=>rw[h] at e;cases e
  |some o=>
   rw[h] at e;have m:=R.obj b p o j h;cases o with
   |ins q d=>cases e;obtain⟨C,i,f,n,k,l⟩:=m;exact⟨p,C,i,f,rfl,j,h,rfl,n,k,l⟩
   |lst d=>cases e
   |a6 d=>cases e
   |tup d=>cases e
   |aG d=>cases e
   |dr x=>cases e
   |ba g x=>cases e
   |bZ=>cases e
   |eR c=>cases e
 |aA=>cases e
 |bl _=>cases e
 |int _=>cases e
 |str _=>cases e
def vx(R:Rel K ι M H)(e:mF M w=af)(r:RV ι w v):∃p,v=.ref p/\pf H p:=by
 unfold mF at e;cases h:VM.bC M w with
 |none=>rw[h] at e;cases e
 |some z=>obtain⟨a,d⟩:=z;obtain⟨p,c,_,_,_,rfl,b,_⟩:=R.bC h r;exact⟨p,rfl,.inl ⟨c,.inl b⟩⟩
end
def DS(x y)(M):(mL x y M=.bad)\/∃(i:Int) (a:Nat) (kvs:List<|Int×VM.W),y=.int i/\VM.bC M x=aa (a,kvs)/\mL x y M=(match aW kvs i with|some v=>.ok v M|none=>.bad):=by
 unfold mL;cases y with
 |int i=>cases e:VM.bC M x with
  |none=>exact .inl rfl
  |some q=>exact .inr ⟨i,q.1,q.2,rfl,rfl,rfl⟩
 |aA=>exact .inl rfl
 |bl _=>exact .inl rfl
 |str _=>exact .inl rfl
 |ref _=>exact .inl rfl
def Dt(x y)(M)(z):(fv x y z M=.bad)\/∃(i:Int) (a:Nat) (kvs:List<|Int×VM.W),y=.int i/\VM.bC M x=aa (a,kvs)/\fv x y z M=.ok ((aW kvs i).getD z) M:=by
 unfold fv;cases y with
 |int i=>cases e:VM.bC M x with
  |none=>exact .inl rfl
  |some q=>exact .inr ⟨i,q.1,q.2,rfl,rfl,rfl⟩
 |aA=>exact .inl rfl
 |bl _=>exact .inl rfl
 |str _=>exact .inl rfl
 |ref _=>exact .inl rfl
def Du(x y)(M)(z):(gG x y z M=.bad)\/∃(i:Int) (a:Nat) (kvs:List<|Int×VM.W),y=.int i/\VM.bC M x=aa (a,kvs)/\gG x y z M=(match aW kvs i with|some v=>.ok v M|none=>if kvs.length<VM.lim then .ok z (M.set a<|.aG<|VM.dput kvs i z) else .bad):=by
 unfold gG;cases y with
 |int i=>cases e:VM.bC M x with
  |none=>exact .inl rfl
  |some q=>exact .inr ⟨i,q.1,q.2,rfl,rfl,rfl⟩
 |aA=>exact .inl rfl
 |bl _=>exact .inl rfl
 |str _=>exact .inl rfl
 |ref _=>exact .inl rfl
def DT(x y)(M):(mM x y M=.bad)\/∃(i:Int) (a:Nat) (kvs:List<|Int×VM.W),y=.int i/\VM.bC M x=aa (a,kvs)/\mM x y M=(match aW kvs i with|some v=>.ok v (M.set a<|.aG<|gj kvs i)|none=>.bad):=by
 unfold mM;cases y with
 |int i=>cases e:VM.bC M x with
  |none=>exact .inl rfl
  |some q=>exact .inr ⟨i,q.1,q.2,rfl,rfl,rfl⟩
 |aA=>exact .inl rfl
 |bl _=>exact .inl rfl
 |str _=>exact .inl rfl
 |ref _=>exact .inl rfl
def E1(x y)(M)(neg):(j' neg y x M=.bad)\/∃(i:Int) (a:Nat) (kvs:List<|Int×VM.W),y=.int i/\VM.bC M x=aa (a,kvs)/\j' neg y x M=.ok (.bl<|(aW kvs i).isSome != neg) M:=by
 unfold j';cases y with
 |int i=>cases e:VM.bC M x with
  |none=>exact .inl rfl
  |some q=>exact .inr ⟨i,q.1,q.2,rfl,rfl,rfl⟩
 |aA=>exact .inl rfl
 |bl _=>exact .inl rfl
 |str _=>exact .inl rfl
 |ref _=>exact .inl rfl
def DU(x y)(M)(v)(σ):(mO x y v σ M=.bad)\/∃(i:Int) (a:Nat) (kvs:List<|Int×VM.W),y=.int i/\VM.bC M x=aa (a,kvs)/\mO x y v σ M=(if kvs.length<VM.lim then .nx σ (M.set a<|.aG<|VM.dput kvs i v) else .bad):=by
 unfold mO;cases y with
 |int i=>cases e:VM.bC M x with
  |none=>exact .inl rfl
  |some q=>exact .inr ⟨i,q.1,q.2,rfl,rfl,rfl⟩
 |aA=>exact .inl rfl
 |bl _=>exact .inl rfl
 |str _=>exact .inl rfl
 |ref _=>exact .inl rfl
section
variable{X:Cx}
def Iy{pos}:SE X (.Dict [] [] pos) oK:=by refine⟨_,yR,λa M H e d Q R S h p c=>?_⟩;refine h (a++[p]) _ _ ⟨[p],rfl⟩ (R.new c λb pre=>⟨[],cG,.nil⟩) ⟨p,?_,rfl⟩;rw[<-R.len];simp
def Iz{pos}(w:X.A.units+1<cLine)(E:SE X o d)(D:SE X i k)(z:vP i:=by intro _ _;rfl):SE X (.Subscript o i pos) (ib d k):=by
 obtain⟨O,pd,I⟩:=E;obtain⟨P,r,m⟩:=D;refine⟨_,zL w pd r z,λK M H l j Q R S h=>?_⟩;refine I K M H l j _ R S<|ay.seq h λf C x M1 u L s N q=>?_
 refine m f M1 C l j _ s (S.mono L)<|ay.seq q λG U y M2 v F R2 J b=>?_
 rcases DS x y M2 with g|⟨n,a,kvs,rfl,e,g⟩
 ·rw[g] at b;exact(b).elim
 rw[g] at b;have h3:=b;obtain⟨p,T,_,_,_,rfl,B,t⟩:=R2.bC e<|N.mono F;cases J;rcases t.val n with⟨c,_⟩|⟨w',v',c,e2,rv⟩
 ·rw[c] at h3;exact(h3).elim
 ·rw[c] at h3;exact⟨p,v',rfl,by have:=fy.k (k:=(Sum.inl n:Key)) B;rw[e2] at this;exact this,ay.ok h3 R2 rv⟩
def DV(R:Rel X.K ι M H)(f:RV ι x<|.ref p)(l:RV ι y v)(j:RV ι z u)(h:ay RV X.K ι (fv x y z M) Q):∃o,fy H p v o/\Q (o.getD u) H:=by
 rcases Dt x y M z with c|⟨n,a,kvs,rfl,e,c⟩
 ·rw[c] at h;exact(h).elim
 rw[c] at h;have h3:=h;obtain⟨r,i,_,_,_,g,q,m⟩:=R.bC e f;cases g;cases l;refine⟨cM i<|Sum.inl n,fy.k (k:=(Sum.inl n:Key)) q,?_⟩;rcases m.val n with⟨b,d⟩|⟨w',v',b,d,rv⟩
 ·rw[b] at h3;rw[d];exact ay.ok h3 R j
 ·rw[b] at h3;rw[d];exact ay.ok h3 R rv
def qu{a:List Addr->α->β->Prop}{K:Fg}{r:VM.R α}{Q:β->Hp->Prop}(h:ay a K ι (if c=af then r else .bad) Q):c=af/\ay a K ι r Q:=by
 cases c with
 |true=>rw[T5 rfl] at h;exact⟨rfl,h⟩
 |false=>rw[T6 Uq] at h;exact(h).elim
def Gs{apos bF}(F:X.A.units+1<cLine)(N:SE X o d)(G:SE X e k)(D:SE X f z)(m:M2 X o "get" apos e f bF):SE X (.Call (.Attribute o "get" apos) [e,f] [] bF) (fe fv d k z):=by
 obtain⟨td,pd,U⟩:=N;obtain⟨tk,C,s⟩:=G;obtain⟨Z,V,J⟩:=D;refine⟨_,Ft F pd C V m,λY M H g c Q R S h=>?_⟩;refine U Y M H g c _ R S<|ay.seq h λb K x M1 u q j r a=>?_
 obtain⟨B,a⟩:=qu a;obtain⟨p,rfl,I⟩:=vx j B r;refine⟨p,rfl,I,s b M1 K g c _ j (S.mono q)<|ay.seq a λi T y M2 v l R2 W O=>?_⟩;refine J i M2 T g c _ R2 ((S.mono q).mono l)<|ay.seq O λP H3 w M3 t n E L h3=>?_
 exact DV E ((r.mono l).mono n) (W.mono n) L h3
noncomputable def KW(g ty h:TE):TE:=λc H Q=>g c H λx e=>∃a,x=.ref a/\pf e a/\ty c e λy f=>h c f λz d=>∃b k,d a=aa (.dK b)/\y=kV k/\ (∀v,cM b k=aa v->Q v d)/\(cM b k=ae->b.length<sizeLine/\Q z (upd d a<|.dK<|putK b k z))
def Gu(I:Inv X pins σ H s)(e:H a=aa (.dK kvs))(D:RelV (kV k) u)(n:RelV z r)(j:∀v g d,cM kvs k=aa v->Inv X pins σ H d->RelV v g->Q g d)(x:cM kvs k=ae->kvs.length<sizeLine/\∀d,Inv X pins σ (upd H a<|.dK<|putK kvs k z) d->Q r d):wpAny (model X.prog X.w) A (call (.builtin "dict.setdefault") [.ref a,u,r]) Q E s:=by
 obtain⟨o,h,y,b,i⟩:=oJ I.aL e;refine V5 X4 i.typeIs PySem.F.entry_dict_setdefault (PySem.F.args_dict_setdefault_3 _ _ _) (kt_meets_setdefault (dk X.prog X.w) a (j1 D) h r)
  ⟨y,i,by rw[<-b.length];exact o,λg G=>?_,λC t f m=>?_⟩
 ·have c:=b.val k;rw[G] at c;cases q:cM kvs k with
  |none=>rw[q] at c;exact(c).elim
  |some v=>rw[q] at c;exact j v g _ q (I.tok _) c
 ·have c:=b.val k;rw[C] at c;cases q:cM kvs k with
  |some v=>rw[q] at c;exact(c).elim
  |none=>
   obtain⟨J,B⟩:=x q;have l:∃q,t.get? a=aa q:=let⟨q,_,_,p,_⟩:=f;⟨q,p⟩
   refine B _<|oA I (by rw[e];exact True.intro) m l<|qJ ?_ h (b.put k n) f;have:=tW kvs k z;omega
def Gv(L:PE X o td)(C:PE X e ty)(q:PE X f tx)(m:M2 X o "setdefault" apos e f bF):PE X (.Call (.Attribute o "setdefault" apos) [e,f] [] bF) (KW td ty tx):=by
 intro b s g H Q I h;refine WD m.base m.ju m.line WE X4 PySem.F.type_dict_setdefault<|aQ (L b s g H _ I h) λu M ⟨x,K,n,B,a,ex,d,r⟩=>?_
 subst ex;obtain rfl:u=Value.ref a:=B;obtain⟨U,T,_⟩:=qK n d;refine⟨U,T,?_⟩;rw[m.trees];refine V3 rfl (WA (V1 (aQ (C b M g K _ n r) λZ G ⟨y,R,O,S,E⟩=>V1 (aQ (q b G g R _ O E) λY W ⟨z,A,J,j,w,k,D,P,N,p⟩=>Ww ?_))))
 subst P;exact Gu J D S j (λv V t l c i=>⟨v,A,c,i,N v l⟩) λl=>⟨(p l).1,λt c=>⟨z,_,c,j,(p l).2⟩⟩
def Gw{apos bF}(ho:SE X o d)(Y:SE X e k)(U:SE X f z)(m:M2 X o "setdefault" apos e f bF):SE X (.Call (.Attribute o "setdefault" apos) [e,f] [] bF) (fe gG d k z):=by
 obtain⟨td,pd,kd⟩:=ho;obtain⟨tk,P,O⟩:=Y;obtain⟨tz,pz,kz⟩:=U;refine⟨_,Gv pd P pz m,λι M H E D Q R S h=>?_⟩;refine kd ι M H E D _ R S<|ay.seq h λs H1 x M1 u L I N q=>?_
 obtain⟨T,q⟩:=qu q;obtain⟨p,rfl,hp⟩:=vx I T N;refine⟨p,rfl,hp,O s M1 H1 E D _ I (S.mono L)<|ay.seq q λF H2 y M2 v K R2 r2 h2=>?_⟩;refine kz F M2 H2 E D _ R2 ((S.mono L).mono K)<|ay.seq h2 λG H3 w M3 t p3 r J h3=>?_
 rcases Du x y M3 w with A|⟨n,a,kvs,rfl,e,A⟩
 ·rw[A] at h3;exact(h3).elim
 rw[A] at h3;have i:=h3;obtain⟨p',Z,_,V,hm,W,B,g⟩:=r.bC e<|(N.mono K).mono p3;cases W;cases r2;refine⟨Z,Sum.inl n,B,rfl,λv' l=>?_,λl=>?_⟩
 ·rcases g.val n with⟨_,b⟩|⟨w',v2,c,b,rv⟩
  ·rw[b] at l;cases l
  ·rw[b] at l;cases l;rw[c] at i;exact ay.ok i r rv
 ·rcases g.val n with⟨c,_⟩|⟨w',v2,c,b,rv⟩
  ·rw[c] at i;have j:=i;by_cases C:kvs.length<VM.lim
   ·rw[T5 C] at j;refine⟨by rw[<-Paired.len g];exact C,?_⟩;exact j G _ _ dR (r.lu V hm rfl rfl ⟨_,cG,g.put n J⟩) J
   ·rw[T6 C] at j;exact(j).elim
  ·rw[b] at l;cases l
def Gx{apos bF}(K:SE X o d)(F:SE X e k)(m:M1 X o "pop" apos e bF):SE X (.Call (.Attribute o "pop" apos) [e] [] bF) (wj mM d k):=by
 obtain⟨V,pd,N⟩:=K;obtain⟨W,C,A⟩:=F;refine⟨_,Fu pd C m,λP M H w t Q R S h=>?_⟩;refine N P M H w t _ R S<|ay.seq h λi J x M1 u U r z f=>?_
 obtain⟨B,f⟩:=qu f;obtain⟨p,rfl,I⟩:=vx r B z;refine⟨p,rfl,I,A i M1 J w t _ r (S.mono U)<|ay.seq f λq Z y M2 v L R2 O b=>?_⟩;rcases DT x y M2 with j|⟨n,a,kvs,rfl,e,j⟩
 ·rw[j] at b;exact(b).elim
 rw[j] at b;have c:=b;obtain⟨Y,G,_,D,T,E,l,s⟩:=R2.bC e<|z.mono L;cases E;cases O;rcases s.val n with⟨g,_⟩|⟨w',v2,g,e2,rv⟩
 ·rw[g] at c;exact(c).elim
 ·rw[g] at c;exact⟨G,Sum.inl n,v2,l,rfl,e2,c q _ _ dR (R2.lu D T rfl rfl ⟨_,cG,s.drop n⟩) rv⟩
def Gy(R:Rel X.K ι M H)(g:RV ι x u)(j:RV ι y v)(h:ay RV X.K ι (j' neg y x M) Q):∃a o,u=.ref a/\fy H a v o/\Q (.bl<|o.isSome != neg) H:=by
 rcases E1 x y M neg with b|⟨n,a,kvs,rfl,e,b⟩
 ·rw[b] at h;exact(h).elim
 rw[b] at h;have h3:=h;obtain⟨p,d,_,_,_,rfl,m,l⟩:=R.bC e g;cases j;refine⟨p,cM d<|Sum.inl n,rfl,fy.k (k:=(Sum.inl n:Key)) m,?_⟩;have i:(aW kvs n).isSome=(cM d (Sum.inl n:Key)).isSome:=by rcases l.val n with⟨c,f⟩|⟨w',v',c,f,rv⟩<;>rw[c,f]<;>rfl
 rw[i] at h3;exact ay.ok h3 R rfl
def E2(f:X.A.units+1<cLine):eO X (compareOp .NotIn) (j' af):=by
 refine⟨λx y H Q=>∃a o,y=.ref a/\fy H a x o/\Q (.bl<|!o.isSome) H,λd s k H x y v u Q I b c h=>?_,λl M H x y v u Q R b c h=>?_⟩
 ·obtain⟨a,o,rfl,g,q⟩:=h;obtain rfl:u=Value.ref a:=c;exact Hg f I g b λj i=>⟨.bl<|!o.isSome,H,i,rfl,q⟩
 ·obtain⟨a,o,e,g,q⟩:=Gy R c b h;exact⟨a,o,e,g,by simpa using q⟩
def IA{pos pos'}(J:X.A.units+1<cLine)(U:SE X o d)(T:SE X i k)(Y:SE X value e)(L:swapsWith value (aa<|.Subscript o i pos') pos.line X.env=pure ag:=by rfl):
 SS X (.Assign [.Subscript o i pos'] value pos) (VM.ia d k e):=by
 obtain⟨td,pd,kd⟩:=U;obtain⟨tk,G,E⟩:=T;obtain⟨tv,pv,kv⟩:=Y;refine⟨_,Hi J pd G pv L,λι M H b l D R S h=>?_⟩;refine kv ι M H b l _ R S<|bx.seq h λf P v M1 t w I r1 F=>?_
 refine kd f M1 P b l _ I (S.mono w)<|bx.seq F λq Z x M2 u m R2 r2 V=>?_
 refine E q M2 Z b l _ R2 ((S.mono w).mono m)<|bx.seq V λs H3 y N z r B Q h3=>?_
 rcases DU x y N v b with g|⟨n,a,kvs,rfl,e,g⟩
 ·rw[g] at h3;exact(h3).elim
 rw[g] at h3;have W:=h3;obtain⟨p,ks,_,K,hm,rfl,O,C⟩:=B.bC e<|r2.mono r;cases Q;have c:=W;by_cases j:kvs.length<VM.lim
 ·rw[T5 j] at c;refine⟨p,_,rfl,oX.k (k:=(Sum.inl n:Key)) O (by rw[<-Paired.len C];exact j),?_⟩;exact c s _ _ dR (B.lu K hm rfl rfl ⟨_,cG,C.put n<|(r1.mono m).mono r⟩)<|((S.mono w).mono m).mono r
 ·rw[T6 j] at c;exact(c).elim
def iy.get(r:iy ι fs gs)(f):(cP f fs=ae/\gs.lookup (txt f)=ae)\/∃w v,cP f fs=aa w/\gs.lookup (txt f)=aa v/\RV ι w v:=by
 induction r with
 |nil=>exact .inl ⟨rfl,rfl⟩
 | @cons p q a b h t k=>
   obtain⟨g,x⟩:=p;obtain⟨l,y⟩:=q;obtain⟨c,i⟩:=h;subst c;by_cases e:g=f
   ·subst e;refine .inr ⟨x,y,T5 rfl,?_,i⟩;simp[List.lookup]
   ·have d:cP f ((g,x)::a)=cP f a:=T6 e;have j:List.lookup (txt f) ((txt g,y)::b)=List.lookup (txt f) b:=by
     have:(txt f==txt g)=ag:=by rw[Vm];exactλz=>e (qC z).symm
     simp only[List.lookup,this]
    rw[d,j];exact k
def iy.bK(r:iy ι fs gs)(f)(i:RV ι w v):iy ι (VM.bK f w fs) (L2.bK (txt f) v gs):=by
 induction r with
 |nil=>exact .cons ⟨rfl,i⟩ .nil
 | @cons p q a b h t l=>
   obtain⟨g,x⟩:=p;obtain⟨m,y⟩:=q;obtain⟨j,k⟩:=h;subst j;by_cases e:g=f
   ·subst e;have c:VM.bK g w ((g,x)::a)=(g,w)::a:=T5 rfl;have d:L2.bK (txt g) v ((txt g,y)::b)=(txt g,v)::b:=T5 rfl;rw[c,d];exact .cons ⟨rfl,i⟩ t
   ·have c:VM.bK f w ((g,x)::a)=(g,x)::VM.bK f w a:=T6 e;have d:L2.bK (txt f) v ((txt g,y)::b)=(txt g,y)::L2.bK (txt f) v b:=T6 λz=>e<|qC z
    rw[c,d];exact .cons ⟨rfl,k⟩ l
structure js(K:Fg)(c:List Nat)(C:Addr):Prop where
 at_:PySem.W.nsIn K mainGlobals (txt c)=aa (aa<|.ref C)
 cl:eJ K C
def KY{pos}(T:js X.K c C)(J:fq X.K C g)(F:SE X o m)(G:g=txt f:=by first|rfl|decide+kernel)(N:attributeBase o g X.env (eval o X.env)=eval o X.env:=by rfl):SE X (.Attribute o g pos) (aT c f m):=by
 subst G;obtain⟨U,B,O⟩:=F;refine⟨_,vd B N,λL M H I E Q R S h=>?_⟩;refine O L M H I E _ R S<|ay.seq h λb V x M1 u Z l A r=>?_
 have i:ay RV X.K b (match VM.eo M1 x with|some (_,d,k)=>if d=c then(match cP f k with|some v=>.ok v M1|none=>.bad) else .bad|none=>.bad) Q:=r;cases e:VM.eo M1 x with
 |none=>rw[e] at i;exact(i).elim
 |some z=>
  obtain⟨a,d,k⟩:=z;rw[e] at i;obtain⟨p,W,t,s,_,P,Y,rfl,q,D,y⟩:=l.eo e A;have h3:ay RV X.K b (if d=c then(match cP f k with|some v=>.ok v M1|none=>.bad) else .bad) Q:=i;by_cases n:d=c
  ·subst n;rw[T5 rfl] at h3;rw[T.at_] at q;cases q;rcases y.get f with⟨j,_⟩|⟨w,v,j,e2,rv⟩
   ·rw[j] at h3;exact(h3).elim
   ·rw[j] at h3;exact⟨p,C,t,s,v,rfl,D,T.cl,J,e2,ay.ok h3 l rv⟩
  ·rw[T6 n] at h3;exact(h3).elim
def KZ{pos pos'}(T:js X.K c C)(W:fq X.K C g)(Q:SE X o m)(Y:SE X value e)(U:g=txt f:=by first|rfl|decide+kernel)(J:swapsWith value (aa<|.Attribute o g pos') pos.line X.env=pure ag:=by rfl):
 SS X (.Assign [.Attribute o g pos'] value pos) (VM.iR c f m e):=by
 subst U;obtain⟨to,L,ko⟩:=Q;obtain⟨tv,pv,kv⟩:=Y;refine⟨_,Jw L pv J,λι M H l w D R S h=>?_⟩;refine kv ι M H l w _ R S<|bx.seq h λn P v M1 t B F r1 E=>?_
 refine ko n M1 P l w _ F (S.mono B)<|bx.seq E λd H2 x M2 u y R2 Z V=>?_
 have b:bx X.K d (match VM.eo M2 x with|some (a,k,i)=>if k=c/\i.length<1000 then .nx l (M2.set a<|.ins c<|VM.bK f v i) else .bad|none=>.bad) D:=V;cases e:VM.eo M2 x with
 |none=>rw[e] at b;exact(b).elim
 |some z=>
  obtain⟨a,k,i⟩:=z;rw[e] at b;obtain⟨p,C',r,G,_,I,hm,rfl,A,N,s⟩:=R2.eo e Z;have h3:bx X.K d (if k=c/\i.length<1000 then .nx l (M2.set a<|.ins c<|VM.bK f v i) else .bad) D:=b;by_cases q:k=c/\i.length<1000
  ·rw[T5 q] at h3;obtain⟨rfl,O⟩:=q;have j:=A;rw[T.at_] at j;cases j;refine⟨p,C,r,G,rfl,N,T.cl,W,by rw[<-Paired.len s];exact O,?_⟩;exact h3 d _ _ dR (R2.lu I hm rfl rfl ⟨C,r,_,A,cG,s.bK f<|r1.mono y⟩)<|(S.mono B).mono y
  ·rw[T6 q] at h3;exact(h3).elim
structure pH(P:Program)(w:World)(K:Fg)(mg:Str->Option ah)(base:Heap)(k:Nat)(f:Addr)(fd:FuncData)(ps:List Str)(c:VM.CM):Prop where
 ok:eG P w K mg base fD k f fd ps (ny K ps.length c)
 bi:Binds K fd ps []
 ln:∀ws M,ws.length≠ps.length->c ws M=.bad
def K0{K:Fg}{st:Stmt}(F:iZ K x qual st f fd)(S:ja N ps<|cY st)(J:Binds K fd ps [])(D:∀(c) (A) (outer) (s) (H) (E),bY k (A.deeper<|envOfC qual (cY st) s.heap.objs.size f c)->fY (iS fD P w K mg base N qual (cY st) f c A outer s H E).iX (gC st) body)(G:N.length=n:=by rfl)(z:ps.length=np:=by rfl):pH P w K mg base (k+1) f fd ps (VM.fn np n body):=by
 subst G z;refine⟨F.ok S (λC H Q E h=>h.1)<|λc A outer s H C Q E o h=>?_,J,λd M i=>T6 i⟩;obtain⟨B,l,M,d,R,r,h⟩:=h;obtain⟨t,y,q⟩:=D c A outer s H E o;refine⟨t,y,q l M H _ _ _ R (um r N) ?_⟩;have i:d.length=ps.length:=by rw[Paired.len r];exact B
 have b:ay RV K l (match body (d.map aa++List.replicate (N.length-ps.length) ae) M with
  |.rt v a=>.ok v a
  |.nx _ a=>.ok .aA a
  |.ex v a=>.ex v a
  |_=>.bad) Q:=by
  have m:ay RV K l (if d.length=ps.length then(match body (d.map aa++List.replicate (N.length-ps.length) ae) M with
   |.rt v a=>.ok v a
   |.nx _ a=>.ok .aA a
   |.ex v a=>.ex v a
   |_=>.bad) else .bad) Q:=h
  rw[T5 i] at m;exact m
 rw[i];cases e:body (d.map aa++List.replicate (N.length-ps.length) ae) M with
 |nx g a=>rw[e] at b;exactλj u I p L O=>b j u .aA p L rfl
 |rt v a=>rw[e] at b;exact b
 |bk g a=>rw[e] at b;exact(b).elim
 |ct g a=>rw[e] at b;exact(b).elim
 |ex v a=>rw[e] at b;exact(b).elim
 |bad=>rw[e] at b;exact(b).elim
def Gz{K:Fg}(d:Binds K fd ps []):pH P w K mg base 0 f fd ps (λ_ _=>.bad):=by
 have c:∀a H Q E,¬ny K ps.length (λ_ _=>.bad) a H Q E:=λa H Q E h=>by obtain⟨_,_,_,_,_,_,h⟩:=h;exact h
 exact⟨⟨λa H Q E h=>absurd h<|c a H Q E,λA b s H args e a Q E _ _ _ _ h=>absurd h<|c a H Q E⟩,d,λ_ _ _=>rfl⟩
def GA{K:Fg}(T:js K c C)(R:Rel K ι M H)(e:kZ c m M w=af)(r:RV ι w v):∃p d b,v=.ref p/\H p=aa (.ins C d b)/\b.lookup (txt m)=ae:=by
 unfold kZ at e;cases h:VM.eo M w with
 |none=>rw[h] at e;cases e
 |some z=>
  obtain⟨a,l,o⟩:=z;rw[h] at e;rw[T',U4] at e;obtain⟨rfl,g⟩:=e;obtain⟨p,k,d,b,_,s,n,rfl,f,j,i⟩:=R.eo h r;rw[T.at_] at f;cases f;refine⟨p,d,b,rfl,j,?_⟩;rcases i.get m with⟨_,q⟩|⟨w',v',q,_⟩
  ·exact q
  ·rw[q] at g;cases g
def vE{K:Fg}{a:List Str}(d:∀ws M,ws.length≠a.length->c ws M=.bad)(R:Rel K ι M H)(r:bq ι ws vs)(h:ay RV K ι (c ws M) Q)(E):ny K a.length c vs H Q E:=by
 by_cases b:ws.length=a.length
 ·exact⟨by rw[<-Paired.len r];exact b,ι,M,ws,R,r,h⟩
 ·rw[d ws M b] at h;exact(h).elim
def GB{k:Nat}{c r:List Nat}{m:Str}{C f:Addr}{W:FuncData}{O:List Str}{s:VM.CM}{o e:Expr}{d:List Expr}{z:VM.EM}{a:VM.AM}{b pos:Pos}{pl:Sem Bool}(T:js X.K c C)(hm:Meth X.K C m f)(F:pH X.prog X.w X.K X.mg X.base k f W O s)(B:bY k X.A)(V:SE X o z)(E:SA X (e::d) a)(Y:m=txt r:=by first|rfl|decide+kernel)(j:starEach (e::d) X.env=(ag,eval e X.env)::starEach d X.env:=by rfl)(l:(backTo pos<|starEach d X.env).any (·.1)=ag:=by rfl)(G:eval (.Call (.Attribute o m b) (e::d) [] pos) X.env=(do
  let q<-eval o X.env
  standAt b.atName
  let(f,first)<-holding [q] (getMethod q m pl)
  callWith pos f first (backTo pos (starEach (e::d) X.env)) (backToKw pos (keywordEach [] X.env))):=by rfl):
 SE X (.Call (.Attribute o m b) (e::d) [] pos) (fu c r s z a):=by
 subst Y;obtain⟨to,J,ko⟩:=V;obtain⟨ta,pa,ka⟩:=E;refine⟨_,G9 J T.cl hm F.ok B F.bi .nil qX pa j l G,λι M H y v Q R S h=>?_⟩;refine ko ι M H y v _ R S<|ay.seq h λi P x M1 u p1 n t g=>?_
 obtain⟨U,g⟩:=qu g;obtain⟨p,I,D,rfl,L,N⟩:=GA T n U t;refine⟨p,I,D,rfl,L,N,ka i M1 P y v _ n (S.mono p1)<|ay.seq g λjC H2 ws M2 vs p2 R2 r2 Z=>?_⟩;rw[UY];exact vE F.ln R2 (.cons (t.mono p2) r2) Z _
structure nB(P:Program)(w:World)(K:Fg)(mg:Str->Option ah)(base:Heap)(k:Nat)(x:Str)(np:Nat)(c:VM.CM):Prop where
 run:∀(X:Cx),X.prog=P->X.w=w->X.K=K->X.mg=mg->X.base=base->bY k X.A->∀(e:Expr) (es:List Expr) (a:VM.AM) (p pos:Pos),SA X (e::es) a->Gl X x->(x==("__debug__":Str))=ag->
  starEach (e::es) X.env=(ag,eval e X.env)::starEach es X.env->(backTo pos<|starEach es X.env).any (·.1)=ag->SE X (.Call (.Name x p) (e::es) [] pos) (av c a)
def GC(h:∀σ M,m σ M=.bad\/∃v b,m σ M=.ex v b):SE X e m:=by
 refine⟨λ_ _ _=>False,λa s σ H Q I h=>(h).elim,λd M H σ c Q R S q=>?_⟩;rcases h σ M with z|⟨v,b,z⟩
 ·rw[z] at q;exact q
 ·rw[z] at q;exact q
def GD{K:Fg}:nB P w K mg base 0 x np (λ_ _=>.bad):=
 ⟨λX _ _ _ _ _ _ e f a p d _ _ _ _ _=>GC λc M=>by
  unfold av;cases a c M with
  |ok v b=>exact .inl rfl
  |ex v b=>exact .inr ⟨v,b,rfl⟩
  |bad=>exact .inl rfl⟩
def K1{K:Fg}(M:Mk K C f)(T:js K cn C)(hm:mg x=aa (.ref C))(F:pH P w K mg base k f fd ps c):nB P w K mg base (k+1) x (ps.length-1) (mW cn c):=by
 refine⟨λX D hw Z j hb A e es a p W G N i m r=>?_⟩;subst D hw Z j hb;obtain⟨ta,V,ka⟩:=G;refine⟨_,G_ M F.ok A N hm F.bi .nil qX V i m r,λι M H U L Q R S h=>?_⟩;refine ka ι M H U L _ R S<|ay.seq h λb n ws M1 vs p1 u r1 z=>?_
 intro q d J s o;rw[UY];have l:upd n d (.own q) q=ae:=by rw[aS<|Uz o];exact J
 have R2:Rel X.K b M1 (upd n d<|.own q):=u.other s _;have B:Rel X.K (b++[q]) (M1++[.ins cn []]) (upd (upd n d<|.own q) q<|.ins C d []):=R2.new l λE pre=>⟨C,d,[],T.at_,cG,.nil⟩
 have y:RV (b++[q]) (.ref M1.length) (.ref q):=⟨q,by rw[<-u.len];simp,rfl⟩;refine vE F.ln B (.cons y<|r1.mono ⟨[q],rfl⟩) ?_ _;have O:=z;refine ay.seq (O.up ⟨[q],rfl⟩) λjC H2 v M2 t Y R4 I g=>?_
 cases v with
 |aA=>cases I;exact⟨rfl,ay.ok g R4<|y.mono Y⟩
 |bl _=>exact(g).elim
 |int _=>exact(g).elim
 |str _=>exact(g).elim
 |ref _=>exact(g).elim
def IB(F:nB X.prog X.w X.K X.mg X.base k x np c)(f:bY k X.A)(h:SA X (e::es) a)(g:Gl X x:=by rfl)(d:(x==("__debug__":Str))=ag:=by decide+kernel)(he:starEach (e::es) X.env=(ag,eval e X.env)::starEach es X.env:=by rfl)(b:(backTo pos<|starEach es X.env).any (·.1)=ag:=by rfl):SE X (.Call (.Name x p) (e::es) [] pos) (av c a):=
 F.run X rfl rfl rfl rfl rfl f e es a p pos h g d he b
end
noncomputable def xm(K:Fg)(l:Addr):It:=
 ⟨λi H=>∃a x,bH K H l a/\a[i]? =aa x,
  λi H v b=>∃p x,H p=ae/\v=.ref p/\b=upd H p (.tup [.int i,x])/\∀a,bH K H l a->a[i]? =aa x,
  λi H=>∃a,bH K H l a/\a.length<=i⟩
def E3{P:Program}{w:World}{K:Fg}{elts:List Expr}{x1:Nat}{pos:Pos}(l e it:Addr)(N:e≠it):
 Turn P w K (.Tuple elts x1 pos) (xm K l) [e,it] e (λi h=>(∃j,IsEnum h e it i j)/\h.IsListIter it l i) where
 mem:=by simp
 obj:=λi h C c M=>by
  obtain⟨⟨j,y⟩,D⟩:=C;simp only[T7,Ud,Ue] at M;rcases M with rfl|rfl
  ·exact⟨_,y,λv z=>nomatch z⟩
  ·obtain⟨o,e,c,d⟩:=D;exact⟨o,e,λv z=>by rw[d] at z;cases z⟩
 keep:=λi h h' C k=>by obtain⟨⟨j,y⟩,D⟩:=C;exact⟨⟨j,k e (by simp) _ y⟩,D.at λo q=>k it (by simp) o q⟩
 item:=by
  intro X U hw hK M i F s σ H E I b C hg;subst U hw hK;obtain⟨⟨j,y⟩,D⟩:=C;obtain⟨xs,x,R,hx⟩:=hg;obtain⟨rK,rv,p,_⟩:=I.list R;obtain⟨ux,V,xn⟩:=rv.get hx;refine wpAny_pyNext_enum_item y D p.isList (x:=ux) (by simpa using V) N λh' a1 a2 a3 a4 S=>?_
  refine⟨_,rfl,wpAny_letOwnedTupleGo_enum a1 λG Z L=>?_⟩;have fr:H s.heap.objs.size=ae:=I.aL.fresh<|Uc _;have O:∀{c:Addr} {o:Obj},s.heap.get? c=aa o->c≠s.heap.objs.size:=λe=>UI<|Ur e
  have Y:e≠s.heap.objs.size:=O y;have g:∀c o,c∉([e,it]:List Addr)->s.heap.get? c=aa o->G.get? c=aa o:=λc o a q=>by simp only[T7,Ud,Ue,U5] at a;exact L.extBut c o a.1<|S c o a.1 a.2 q
  have B:∀{c:Addr} {o:HO},H c=aa o->c∉([e,it]:List Addr):=λ{c o} q a=>by rw[(b c a).1] at q;cases q
  have A:∀{c:Addr} {o:HO},H c=aa o->c≠s.heap.objs.size:=λq=>dJ q fr
  have aL:cp X.prog X.w (upd H s.heap.objs.size<|.tup [.int i,x]) G:=λc o q=>by
   by_cases f:c=s.heap.objs.size
   ·subst f;rw[cG] at q;cases q;exact⟨by show 2<=sizeLine;decide,[.int i s.toks,ux],.cons ⟨_,rfl⟩<|.cons xn .nil,⟨_,L.extBut _ _ (Uz Y) a3,rfl,_,rfl⟩⟩
   ·rw[aS f] at q;refine(I.aL c o q).gK (λd v J z=>?_) (λd z=>by rw[aS<|A z];exact z) λd Q z=>by rw[aS<|A z];exact z
    rcases J with rfl|J
    ·exact g _ v (B q) z
    ·exact g _ v (B J) z
  have I':Inv X F σ (upd H s.heap.objs.size<|.tup [.int i,x]) {s with heap:=G,toks:=s.toks+1}:=by
   refine I.step (λc a=>⟨(b c a).2.2.2.1,(b c a).2.1,(b c a).2.2.2.2.1,(b c a).2.2.2.2.2⟩) (λc o _ _ a q _=>g c o a q) (λc o _ _ a q _=>⟨o.slots,g c o a q⟩) (λc o _ q n=>by rw[aS<|O q];exact n) (λc o a q=>⟨o,g c o a q⟩) (λc Q q=>by rw[aS<|A q];exact q) (λc o u q=>by rw[aS<|A q];exact q) (λc ps q=>⟨#[],by rw[aS<|A q,q];simp⟩) (λm hm=>?_) aL I.bare
   obtain⟨o,T,W,ho,r⟩:=hm;refine⟨o,T,W,g _ o (λa=>?_) ho,r⟩;exact(b _ a).2.1 rfl
  refine⟨.ref s.heap.objs.size,_,I',rfl,⟨s.heap.objs.size,x,fr,rfl,rfl,λQ pw=>by rw[I.yM pw R];exact hx⟩,?_,λc a=>?_⟩
  ·exact⟨⟨_,Z⟩,a2.extBut L.extBut<|Uz N⟩
  ·have Ql:=(b c a).1;by_cases f:c=s.heap.objs.size
   ·exfalso;simp only[T7,Ud,Ue] at a;obtain⟨o1,e1,_⟩:=D;rcases a with q|q
    ·exact O y<|q▸f
    ·exact O e1<|q▸f
   ·rw[aS f];exact Ql
 done:=by
  intro X U hw hK M i F s σ H E I b C hg;subst U hw hK;obtain⟨⟨j,y⟩,D⟩:=C;obtain⟨xs,R,hl⟩:=hg;obtain⟨rK,rv,p,_⟩:=I.list R;have l1:=rv.length;refine wpAny_pyNext_enum_end (I.ok.hd M) y D p.isList (by simp;omega) λh' S=>⟨rfl,?_⟩
  have g:∀c o,c∉([it]:List Addr)->s.heap.get? c=aa o->h'.get? c=aa o:=λc o a q=>by simp only[T7,Ud,Ue] at a;exact S c o a q
  have t:∀c∈([it]:List Addr),c∈([e,it]:List Addr):=λc a=>Ut _ a
  have B:∀{c:Addr} {o:HO},H c=aa o->c∉([it]:List Addr):=λ{c o} q a=>by rw[(b c<|t c a).1] at q;cases q
  refine I.step (λc a=>⟨(b c<|t c a).2.2.2.1,(b c<|t c a).2.1,(b c<|t c a).2.2.2.2.1,(b c<|t c a).2.2.2.2.2⟩) (λc o _ _ a q _=>g c o a q) (λc o _ _ a q _=>⟨o.slots,g c o a q⟩) (λc o _ q n=>n) (λc o a q=>⟨o,g c o a q⟩) (λc Q q=>q) (λc o u q=>q) (λc ps q=>⟨#[],by rw[q];simp⟩) (λm hm=>?_) (λc o q=>?_) I.bare
  ·obtain⟨o,T,W,ho,r⟩:=hm;refine⟨o,T,W,g _ o (λa=>?_) ho,r⟩;exact(b _<|t _ a).2.1 rfl
  ·refine(I.aL c o q).gK (λd v J z=>?_) (λd z=>z) λd Q z=>z
   rcases J with rfl|J
   ·exact g _ v (B q) z
   ·exact g _ v (B J) z
 self:=λ_ _ _ _ _ C h=>let⟨⟨_,y⟩,_⟩:=C;wpAny_pyIter_enum y h
section
variable{X:Cx}{elts:List Expr}{x1:Nat}{tpos:Pos}
noncomputable def K3(K:Fg)(e:TA):TI:=λb H R=>e b H λc a=>∃l,c=[.ref l]/\(∃d,bH K a l d)/\R (xm K l) a
def E4:bootBuiltins "enumerate"=aa (.type "enumerate"):=by kernel_rfl
def IC(D:Gl X "enumerate")(G:X.mg "enumerate"=ae)(u:PA X [a] ta)(w:starEach [a] X.env=[(ag,eval a X.env)]:=by rfl):
 PI X (.Tuple elts x1 tpos) (.Call (.Name "enumerate" p) [a] [] pos) (K3 X.K ta):=by
 intro b s m H R I h;refine Call_<|kR I D G E4 (Wu (aQ (u pos b s m H _ I h) λM d ⟨P,l,g,L,t⟩=>?_) (by rw[w];rfl)<|by rfl) (by decide+kernel)<|by decide+kernel
 obtain⟨x,e,⟨N,z⟩,q⟩:=t;subst e;cases L with
 |cons r E=>
  cases E;have n:=r;subst n;obtain⟨y,O,J,_⟩:=g.list z;refine call_enumerate_list J.isList λC j B A v=>?_
  have F:Inv X b m l {d with heap:=C}:=g.kept λc o e=>v c o e
  refine wpAny_pyIter_enum j ?_;refine⟨d.heap.objs.size+1,[d.heap.objs.size+1,d.heap.objs.size],_,_,l,rfl,F,
   E3 x (d.heap.objs.size+1) d.heap.objs.size (Nat.succ_ne_self _),⟨⟨_,j⟩,B⟩,λc k=>?_,q⟩
  have f:d.heap.objs.size<=c:=by simp only[T7,Ud,Ue] at k;rcases k with q|q<;>rw[q]<;>first|exact Uc _|exact Nat.le_add_right _ _
  exact g.lb f<|g.aL.fresh f
theorem l9:∀(xs) (i j:Nat) (x),(eX i xs)[j]? =aa x->∃w,xs[j]? =aa w/\x=.pair (.int ((i+j:Nat):Int)) w
 |[],_,_,_,h=>by simp[eX] at h
 |y::r,i,0,x,h=>by simp only[eX] at h;exact⟨y,rfl,(Ug h).symm⟩
 |y::r,i,j+1,x,h=>by simp only[eX] at h;obtain⟨w,a,b⟩:=l9 r (i+1) j x h;exact⟨w,by simpa using a,by rw[b,show i+1+j=i+(j+1) by omega]⟩
theorem l_:∀(xs) (i),(eX i xs).length=xs.length
 |[],_=>rfl
 |_::r,i=>by simp[eX,l_ r]
def K4{K:Fg}(s:ι[a]? =aa p)(t:o=.lst xs\/o=.a6 xs):iq K ι (xm K p) (eX 0 xs) [(a,o)]:=by
 have d:∀{b M H},ι<+:b->Rel K b M H->VM.bN.ok [(a,o)] M=af->∃c,bH K H p c/\bq b xs c:=λ{b M H} q R h=>by
  have B:=rz h;have r:=R.obj a p o (fK q s) B;rcases t with rfl|rfl
  ·obtain⟨c,f,g⟩:=r;exact⟨c,bH.of f,g⟩
  ·obtain⟨c,f,g⟩:=r;exact⟨c,f.sq,g⟩
 refine⟨λi b M H x q R h k=>?_,λi b M H x v C q R h k y=>?_,λi b M H q R h n=>?_⟩
 ·obtain⟨c,f,g⟩:=d q R h;obtain⟨w,m,rfl⟩:=l9 _ _ _ _ k;obtain⟨v,l,_⟩:=Paired.at g m;exact⟨c,v,f,l⟩
 ·obtain⟨c,f,g⟩:=d q R h;obtain⟨w,m,rfl⟩:=l9 _ _ _ _ k;obtain⟨T,D,u,rfl,rfl,k1⟩:=y;obtain⟨E,l,z⟩:=Paired.at g m;have e:=k1 c f;rw[l] at e;cases e;rw[Nat.zero_add];refine⟨b++[T],.ref M.length,M++[.tup [.int<|i,w]],⟨[T],rfl⟩,rfl,R.new (o:=.tup [.int<|i,w]) u λA j=>⟨_,cG,.cons rfl<|.cons (z.mono j) .nil⟩,T,?_,rfl⟩;rw[<-R.len];simp
 ·obtain⟨c,f,g⟩:=d q R h;rw[l_] at n;exact⟨c,f,by rw[<-Paired.len g];exact n⟩
def ID(hm:X.mg "enumerate"=ae)(i:SE X a m)(n:Gl X "enumerate":=by rfl)(d:starEach [a] X.env=[(ag,eval a X.env)]:=by rfl):
 SI X (.Tuple elts x1 tpos) (.Call (.Name "enumerate" p) [a] [] pos) (qY m):=by
 obtain⟨A,r,v⟩:=i;refine⟨_,IC n hm (f9 r iG d) d,λt M H q k Q R S h=>?_⟩;refine v t M H q k _ R S<|ay.seq h λg B x M1 u D c w e=>?_
 have h3:=e;cases ex:oO M1 x with
 |none=>rw[ex] at h3;exact(h3).elim
 |some l=>obtain⟨C,y,z⟩:=l;rw[ex] at h3;obtain⟨f,o,b,rfl,s,j⟩:=EY c ex w;exact⟨f,rfl,⟨o,s⟩,ay.ok h3 c<|K4 b j⟩
end
noncomputable def NF(X:Cx)(d:Addr):Prop:=∀o u,X.k_ d≠aa (.a6 o u)
def Inv.swap(I:Inv X pins σ H s)(h:H d=aa u)(i:∀xs,u≠.tup xs)(A:∀g,u≠.c8 g)(h3:∀y,u≠.own y)(t:NF X d)(ok:dA X.prog X.w (upd H d u') s.heap d u'):Inv X pins σ (upd H d u') s:=by
 have f:∀{b:Addr} {o:HO},H b=aa o->o≠u->b≠d:=λ{b o} e n z=>by subst z;rw[h] at e;exact n (Ug e).symm
 have aA:∀{b:Addr},H b=ae->b≠d:=λ{b} e z=>by subst z;rw[h] at e;cases e
 refine⟨I.ok,I.os,I.bare,⟨I.base.keep,I.base.slot,λb o e n r=>?_,I.base.there,λb xs e=>?_,λb o v e=>?_,λb g e=>?_⟩,I.loc,I.cell,?_,λx c e=>?_,λp l=>?_,λb o e=>?_,I.len⟩
 ·have z:=I.base.free b o e n r;rw[aS<|aA z];exact z
 ·have z:=I.base.ij b xs e;rw[aS<|f z<|λq=>i xs q.symm];exact z
 ·by_cases a:b=d
  ·subst a;exact(t o v e).elim
  ·rw[aS a];exact I.base.iP b o v e
 ·obtain⟨m,z⟩:=I.base.jh b g e;exact⟨m,by rw[aS<|f z<|λq=>A _ q.symm];exact z⟩
 ·rw[aS<|aA I.free];exact I.free
 ·rw[aS<|aA<|I.gf x c e];exact I.gf x c e
 ·obtain⟨B,j,k⟩:=I.pin p l;exact⟨B,by rw[aS<|aA j];exact j,k⟩
 ·by_cases a:b=d
  ·subst a;rw[cG] at e;cases e;exact ok
  ·rw[aS a] at e;exact(I.aL b o e).gK (λc v _ q=>q) (λc q=>by rw[aS<|f q<|λz=>h3 _ z.symm];exact q) λc xs q=>by rw[aS<|f q<|λz=>i xs z.symm];exact q
def Inv.nf(I:Inv X pins σ H s)(h:H d=aa (.dK ks)):NF X d:=λo u e=>by have:=I.base.iP d o u e;rw[h] at this;cases this
def Inv.freeze(I:Inv X pins σ H s)(h:H d=aa (.dK ks))(a:s.heap.get? d=aa o):Inv X pins σ (upd H d<|.a6 o<|.dK ks) s:=
 Inv.swap I h (λ_ z=>nomatch z) (λ_ z=>nomatch z) (λ_ z=>nomatch z) (Inv.nf I h) ⟨a,I.aL d _ h⟩
def Inv.de(I:Inv X pins σ H s)(h:H d=aa (.a6 o<|.dK ks))(a:NF X d):Inv X pins σ (upd H d<|.dK ks) s:=
 Inv.swap I h (λ_ z=>nomatch z) (λ_ z=>nomatch z) (λ_ z=>nomatch z) a (I.aL d _ h).2
noncomputable def xo(d:Addr)(ep n:Nat):It:=
 ⟨λi H=>∃o b a k v,H d=aa (.a6 o<|.dK a)/\o.data=.dict b ep/\a.length=n/\a[i]? =aa (k,v),
  λi H x c=>∃p k v,H p=ae/\x=.ref p/\c=upd H p (.tup [kV k,v])/\∀o a,H d=aa (.a6 o<|.dK a)->a[i]? =aa (k,v),
  λi H=>∃o b a,H d=aa (.a6 o (.dK a))/\o.data=.dict b ep/\a.length=n/\n<=i⟩
def A2(h:(dk P w).is k u=af):RelV (kV k) u:=by
 rcases iD h with⟨i,t,rfl,rfl⟩|⟨x,t,rfl,rfl⟩
 ·exact⟨t,rfl⟩
 ·exact⟨t,rfl⟩
def KV.at(r:KV kvs vs):∀{i:Nat} {k:Key} {v:V},kvs[i]? =aa (k,v)->∃u,vs[i]? =aa (k,u)/\RelV v u:=by intro i k v h;obtain⟨q,e,a,b⟩:=Paired.at r h;exact⟨q.2,by rw[e,show k=q.1 from a],b⟩
def As(e:o.data=.dict es ep)(x:dA P w H h d<|.a6 o<|.dK ks):∃vs,KV ks vs/\h.DictAt (dk P w) d vs ep/\vs.length=ks.length:=by obtain⟨a,z,k,vs,b,p,l,j,g,c,f,i,m,n⟩:=x;rw[a] at g;cases g;rw[e] at f;cases f;exact⟨vs,b,⟨o,es,a,c,e,i,m,n⟩,b.length.symm⟩
def DW{P:Program}{w:World}{K:Fg}{elts:List Expr}{x1:Nat}{pos:Pos}(d it:Addr)(ep n:Nat):
 Turn P w K (.Tuple elts x1 pos) (xo d ep n) [it] it (λi h=>∃ok D,IsItemIter h it d i n ep ok D) where
 mem:=by simp
 obj:=λi h x c O=>by obtain⟨ok,D,g⟩:=x;simp only[T7,Ud,Ue] at O;subst O;exact⟨_,g,λv z=>nomatch z⟩
 keep:=λi h h' x k=>by obtain⟨ok,D,g⟩:=x;exact⟨ok,D,k it (by simp) _ g⟩
 item:=by
  intro X U hw hK O i y s σ H E I b x hg;subst U hw hK;obtain⟨ok,D,g⟩:=x;obtain⟨o0,G,ks,k,v,j,B,C,hk⟩:=hg;obtain⟨vs,J,da,F⟩:=As B<|I.aL d _ j;rw[C] at F;obtain⟨ux,V,xn⟩:=KV.at J hk;rw[<-F] at g;refine wpAny_pyNext_items_item g da V λkey h' L a1 a3 a4 S=>?_
  refine⟨_,rfl,wpAny_letOwnedTupleGo_items a1 λA M Q=>?_⟩;have fr:=I.aL.fresh<|Uc _;have T:∀{c:Addr} {o:Obj},s.heap.get? c=aa o->c≠s.heap.objs.size:=λe=>UI<|Ur e
  have Y:=T g;have f:∀c o,c∉([it]:List Addr)->s.heap.get? c=aa o->A.get? c=aa o:=λc o a q=>by simp only[T7,Ud,Ue] at a;exact Q.extBut c o a<|S c o a q
  have t:∀{c:Addr} {o:HO},H c=aa o->c∉([it]:List Addr):=λ{c o} q a=>by rw[(b c a).1] at q;cases q
  have p:∀{c:Addr} {o:HO},H c=aa o->c≠s.heap.objs.size:=λq=>dJ q fr
  have aL:cp X.prog X.w (upd H s.heap.objs.size<|.tup [kV k,v]) A:=λc o q=>by
   by_cases l:c=s.heap.objs.size
   ·subst l;rw[cG] at q;cases q;exact⟨by show 2<=sizeLine;decide,[key,ux],.cons (A2 L)<|.cons xn .nil,⟨_,Q.extBut _ _ (Uz Y) a3,rfl,_,rfl⟩⟩
   ·rw[aS l] at q;refine(I.aL c o q).gK (λd v j z=>?_) (λd z=>by rw[aS<|p z];exact z) λd R z=>by rw[aS<|p z];exact z
    rcases j with rfl|j
    ·exact f _ v (t q) z
    ·exact f _ v (t j) z
  have I':Inv X y σ (upd H s.heap.objs.size<|.tup [kV k,v]) {s with heap:=A}:=by
   refine I.step (λc a=>⟨(b c a).2.2.2.1,(b c a).2.1,(b c a).2.2.2.2.1,(b c a).2.2.2.2.2⟩) (λc o _ _ a q _=>f c o a q) (λc o _ _ a q _=>⟨o.slots,f c o a q⟩) (λc o _ q n=>by rw[aS<|T q];exact n) (λc o a q=>⟨o,f c o a q⟩) (λc R q=>by rw[aS<|p q];exact q) (λc o u q=>by rw[aS<|p q];exact q) (λc ps q=>⟨#[],by rw[aS<|p q,q];simp⟩) (λm hm=>?_) aL I.bare
   obtain⟨o,G,ep,ho,r⟩:=hm;refine⟨o,G,ep,f _ o (λa=>?_) ho,r⟩;exact(b _ a).2.1 rfl
  refine⟨.ref s.heap.objs.size,_,I',rfl,⟨s.heap.objs.size,k,v,fr,rfl,rfl,λoz R N=>by rw[j] at N;cases N;exact hk⟩,?_,λc a=>?_⟩
  ·rw[F] at M;exact⟨_,_,M⟩
  ·have Z:=(b c a).1;by_cases l:c=s.heap.objs.size
   ·exfalso;simp only[T7,Ud,Ue] at a;exact T g<|a▸l
   ·rw[aS l];exact Z
 done:=by
  intro X U hw hK O i y s σ H E I b x hg;subst U hw hK;obtain⟨ok,D,g⟩:=x;obtain⟨o0,G,ks,j,B,C,hl⟩:=hg;obtain⟨vs,J,da,F⟩:=As B<|I.aL d _ j;rw[C] at F;rw[<-F] at g;refine wpAny_pyNext_items_end (I.ok.hd O) g da (by simp;omega) λh' S=>⟨rfl,?_⟩
  have f:∀c o,c∉([it]:List Addr)->s.heap.get? c=aa o->h'.get? c=aa o:=λc o a q=>by simp only[T7,Ud,Ue] at a;exact S c o a q
  have t:∀{c:Addr} {o:HO},H c=aa o->c∉([it]:List Addr):=λ{c o} q a=>by rw[(b c a).1] at q;cases q
  refine I.step (λc a=>⟨(b c a).2.2.2.1,(b c a).2.1,(b c a).2.2.2.2.1,(b c a).2.2.2.2.2⟩) (λc o _ _ a q _=>f c o a q) (λc o _ _ a q _=>⟨o.slots,f c o a q⟩) (λc o _ q n=>n) (λc o a q=>⟨o,f c o a q⟩) (λc R q=>q) (λc o u q=>q) (λc ps q=>⟨#[],by rw[q];simp⟩) (λm hm=>?_) (λc o q=>?_) I.bare
  ·obtain⟨o,G,ep,ho,r⟩:=hm;refine⟨o,G,ep,f _ o (λa=>?_) ho,r⟩;exact(b _ a).2.1 rfl
  ·refine(I.aL c o q).gK (λd v j z=>?_) (λd z=>z) λd R z=>z
   rcases j with rfl|j
   ·exact f _ v (t q) z
   ·exact f _ v (t j) z
 self:=λ_ _ _ _ _ x h=>let⟨_,_,g⟩:=x;PySem.W.kcp_self g h
section
variable{X:Cx}{elts:List Expr}{x1:Nat}{tpos:Pos}
structure M0(X:Cx)(o:Expr)(m:Str)(apos bF:Pos):Prop where
 base:attributeBase o m X.env (eval o X.env)=eval o X.env
 ju:((backTo bF<|starEach [] X.env).all (λx=>!x.1)&&(backToKw bF<|keywordEach [] X.env).all (λx=>x.1.isSome)
  &&ai (([]:List Expr).length+([]:List Keyword).length+(if([]:List Keyword).isEmpty then 0 else 1)<30))=af
 line:(apos.endLine==bF.line)=af
 trees:backTo bF (starEach [] X.env)=[]
noncomputable def BK(X:Cx)(g:TE):TI:=λf H R=>g f H λx b=>∃d a,x=.ref d/\b d=aa (.dK a)/\∀o e c,o.data=.dict e c->NF X d->R (xo d c a.length) (upd b d<|.a6 o<|.dK a)
def zt{e:Expr}{D:TE}{f a:Pos}(K:PE X e D)(m:M0 X e "items" f a):PI X (.Tuple elts x1 tpos) (.Call (.Attribute e "items" f) [] [] a) (BK X D):=by
 intro n s P H R I h;refine WD m.base m.ju m.line WE X5 PySem.F.type_dict_items<|aQ (K n s P H _ I h) λu g ⟨x,Z,i,J,d,v,ex,j,q⟩=>?_
 subst ex;obtain rfl:u=Value.ref d:=J;obtain⟨W,V,y⟩:=qK i<|.inl ⟨v,.inl j⟩;refine⟨W,V,?_⟩;rw[m.trees];obtain⟨Y,_,p,t,r⟩:=oJ i.aL j;refine V3 rfl<|PySem.evalArgs_none ?_;refine V5 X5 r.typeIs PySem.F.entry_dict_items (PySem.F.args_dict_items_1 _) (meets_dict_items (dk X.prog X.w) d y) ⟨⟨p,r⟩,?_⟩;obtain⟨o,B,l,O,G,C,L,S,M⟩:=r;have A:=Uw {cls:=.type "dict_items",data:=.fields #[.ref d]} O;have U:(g.heap.push {cls:=.type "dict_items",data:=.fields #[.ref d]}).IsItemsView g.heap.objs.size d:=⟨_,UU _ rfl,rfl,rfl⟩;refine wpAny_pyIter_items (knd:=dk X.prog X.w) (kvs:=p) (ep:=l) U ⟨o,B,A,G,C,L,S,M⟩ ?_;have T:=i.kept (t':=g.toks) (h':=((g.heap.push {cls:=.type "dict_items",data:=.fields #[.ref d]}).push {cls:=.type "dict_itemiterator",data:=.fields #[.none,.bool ag,.ref d,.int 0 0,.int p.length 0,.int l 0,.none,.none]})) λb u q=>Uw _<|Uw _ q
 have N:=Inv.freeze T j<|Uw _ A;have Q:p.length=v.length:=t.length.symm;refine⟨(g.heap.push {cls:=.type "dict_items",data:=.fields #[.ref d]}).objs.size,[(g.heap.push {cls:=.type "dict_items",data:=.fields #[.ref d]}).objs.size],_,_,_,rfl,N,DW d _ l v.length,⟨_,_,by rw[<-Q];exact UU _ rfl⟩,λc E=>?_,q o B l C<|Inv.nf i j⟩;have k:g.heap.objs.size<=c:=by simp only[T7,Ud,Ue] at E;rw[E,Wv];exact Nat.le_add_right _ _
 refine i.lb k ?_;have:=i.aL.fresh k;rw[aS (λz=>by rw[z,j] at this;cases this)];exact this
end
def Rel.ghost{K:Fg}{c:List Addr}{M:VM.Mem}{H:Hp}(R:Rel K c M H){p:Addr}{o:VM.O}(r:live o=ag)(v:RO K (c++[p]) H p o):Rel K (c++[p]) (M++[o]) H:=by
 have pre:c<+:c++[p]:=⟨[p],rfl⟩;have split:∀a q x,(c++[p])[a]? =aa q->(M++[o])[a]? =aa x->(c[a]? =aa q/\M[a]? =aa x)\/(q=p/\x=o):=λa q x h d=>by
  by_cases e:a<c.length
  ·rw[U6 e] at h;rw[U6 (by rw[<-R.len];exact e)] at d;exact .inl ⟨h,d⟩
  ·rw[Vn<|V4 e] at h;rw[Vn (by rw[<-R.len];exact V4 e)] at d;rw[R.len] at h;cases t:a-M.length with
   |zero=>rw[t] at h d;simp at h d;exact .inr ⟨h.symm,d.symm⟩
   |succ k=>rw[t] at h;simp at h
 refine⟨by simp[R.len],λa q x f j=>?_,λa b q n s f j h3 w g m=>?_,R.tb⟩
 ·rcases split a q x f j with⟨l,i⟩|⟨rfl,rfl⟩
  ·exact RO.mono pre<|R.obj a q x l i
  ·exact v
 ·rcases split a q n f h3 with⟨l,u⟩|⟨_,rfl⟩
  ·rcases split b q s j w with⟨i,y⟩|⟨_,rfl⟩
   ·exact R.inj a b q n s l i u y g m
   ·rw[r] at m;cases m
  ·rw[r] at g;cases g
def Rel.freeze{K:Fg}(R:Rel K ι M H)(k:ι[a]? =aa d)(g:M[a]? =aa (.aG kvs))(j:dI ι kvs ks)(c:o.data=.dict es ep):
 Rel K (ι++[ep]) (M.set a (.ba M.length kvs)++[VM.O.bZ]) (upd H d<|.a6 o<|.dK ks):=by
 have b:=(Ub.mp g).1;have pre:ι<+:ι++[ep]:=⟨[ep],rfl⟩;have h:Rel K (ι++[ep]) (M++[VM.O.bZ]) H:=R.ghost rfl trivial;have e:M.set a (.ba M.length kvs)++[VM.O.bZ]=(M++[VM.O.bZ]).set a (.ba M.length kvs):=by rw[Xk _ _ b]
 have i:(ι++[ep])[M.length]? =aa ep:=by rw[<-R.len];simp
 have l:RO K (ι++[ep]) (upd H d<|.a6 o<|.dK ks) d (.ba M.length kvs):=⟨o,es,ks,ep,i,cG,c,j.mono pre⟩;have f:(M++[VM.O.bZ])[a]? =aa (.aG kvs):=by rw[U6 b];exact g
 have:=h.lu (fK pre k) f rfl rfl l;rw[<-e] at this;exact this
def A3{K:Fg}(E:ι[a]? =aa d)(I:ι[g]? =aa ep):iq K ι (xo d ep kvs.length) (kvs.map λ(kv)=>VM.Src.pair (.int kv.1) kv.2) [(a,.ba g kvs)]:=by
 have t:∀{b M H},ι<+:b->Rel K b M H->VM.bN.ok [(a,.ba g kvs)] M=af->∃o f c,H d=aa (.a6 o<|.dK c)/\o.data=.dict f ep/\dI b kvs c:=λ{b M H} q R l=>by obtain⟨o,f,c,G,A,B,D,F⟩:=R.obj a d _ (fK q E)<|rz l;rw[fK q I] at A;cases A;exact⟨o,f,c,B,D,F⟩
 have p:∀{i:Nat} {x:VM.Src},(kvs.map λ(kv)=>VM.Src.pair (.int kv.1) kv.2)[i]? =aa x->∃kv,kvs[i]? =aa kv/\x=.pair (.int kv.1) kv.2:=λ{i x} h=>by
  rw[U7] at h;cases q:kvs[i]? with
  |none=>rw[q] at h;cases h
  |some kv=>rw[q] at h;exact⟨kv,rfl,(Ug h).symm⟩
 refine⟨λi b M H x q R l u=>?_,λi b M H x v O q R l u y=>?_,λi b M H q R l z=>?_⟩
 ·obtain⟨o,f,c,n,s,m⟩:=t q R l;obtain⟨kv,j,rfl⟩:=p u;obtain⟨⟨k,v⟩,w,_⟩:=Paired.at m j;exact⟨o,f,c,k,v,n,s,(Paired.len m).symm,w⟩
 ·obtain⟨o,f,c,n,s,m⟩:=t q R l;obtain⟨kv,j,rfl⟩:=p u;obtain⟨T,k,Q,J,rfl,rfl,k1⟩:=y;obtain⟨⟨k2,P⟩,w,C,L⟩:=Paired.at m j;have e:=k1 o c n;rw[w] at e;cases e;subst C;refine⟨b++[T],.ref M.length,M++[.tup [.int kv.1,kv.2]],⟨[T],rfl⟩,rfl,R.new (o:=.tup [.int kv.1,kv.2]) J λN r=>⟨_,cG,.cons rfl<|.cons (L.mono r) .nil⟩,T,?_,rfl⟩;rw[<-R.len];simp
 ·obtain⟨o,f,c,n,s,m⟩:=t q R l;rw[Ua] at z;exact⟨o,f,c,n,s,(Paired.len m).symm,z⟩
section
variable{X:Cx}{elts:List Expr}{x1:Nat}{tpos:Pos}
noncomputable def vH(X:Cx)(D:Ends):Ends where
 nx:=λb H=>∃d o a,NF X d/\H d=aa (.a6 o<|.dK a)/\D.nx b (upd H d<|.dK a)
 rt:=λv H=>∃d o a,NF X d/\H d=aa (.a6 o<|.dK a)/\D.rt v (upd H d<|.dK a)
 bk:=D.bk
 ct:=D.ct
def uP{K:Fg}(h:ι[a]? =aa d)(e:VM.de [(a,.ba g kvs)] M=aa M')(R:Rel K ι M H):∃o b,H d=aa (.a6 o<|.dK b)/\Rel K ι M' (upd H d<|.dK b):=by
 have c:(if M[a]? =aa (.ba g kvs) then aa (M.set a<|.aG kvs) else ae)=aa M':=e;by_cases f:M[a]? =aa (.ba g kvs)
 ·rw[T5 f] at c;cases c;obtain⟨o,l,b,k,_,i,_,j⟩:=R.obj a d _ h f;exact⟨o,b,i,R.lu h f rfl rfl ⟨b,cG,j⟩⟩
 ·rw[T6 f] at c;cases c
def bx.de(k:ι[a]? =aa d)(j:NF X d)(h:bx X.K ι (r.de [(a,.ba g kvs)]) D):bx X.K ι r (vH X D):=by
 cases r with
 |nx σ M=>
  intro c l b p R S;cases e:VM.de [(a,.ba g kvs)] M with
  |none=>simp only[VM.RS.de,e] at h;exact(h).elim
  |some m=>simp only[VM.RS.de,e] at h;obtain⟨o,i,f,R2⟩:=uP (fK p k) e R;exact⟨d,o,i,j,f,h c _ b p R2 S⟩
 |rt v M=>
  intro c l b p R S;cases e:VM.de [(a,.ba g kvs)] M with
  |none=>simp only[VM.RS.de,e] at h;exact(h).elim
  |some m=>simp only[VM.RS.de,e] at h;obtain⟨o,i,f,R2⟩:=uP (fK p k) e R;exact⟨d,o,i,j,f,h c _ b p R2 S⟩
 |bk σ M=>exact(h).elim
 |ct σ M=>exact(h).elim
 |ex v M=>exact(h).elim
 |bad=>exact(h).elim
def xG(x)(M):(match VM.bC M x with|some (a,kvs)=>(.ok (kvs.map λ(kv:Int×VM.W)=>VM.Src.pair (.int kv.1) kv.2,[(a,.ba M.length kvs)]) (M.set a (.ba M.length kvs)++[VM.O.bZ]):VM.R<|List VM.Src×VM.bN)|none=>.bad)=.bad\/
 ∃a kvs,VM.bC M x=aa (a,kvs)/\(match VM.bC M x with|some (a,kvs)=>(.ok (kvs.map λ(kv:Int×VM.W)=>VM.Src.pair (.int kv.1) kv.2,[(a,.ba M.length kvs)]) (M.set a (.ba M.length kvs)++[VM.O.bZ]):VM.R<|List VM.Src×VM.bN)|none=>.bad)=.ok (kvs.map λ(kv)=>VM.Src.pair (.int kv.1) kv.2,[(a,.ba M.length kvs)]) (M.set a (.ba M.length kvs)++[VM.O.bZ]):=by
 cases VM.bC M x with
 |none=>exact .inl rfl
 |some z=>exact .inr ⟨z.1,z.2,rfl,rfl⟩
def DX(r:VM.R α)(f:α->VM.Mem->VM.R β)(h):(r.bind f).cz h=r.cz λa M=>(f a M).cz h:=by cases r<;>rfl
def IE(hp:PassesOwn (model X.prog X.w) X.A X.env X.xe)(hc:X.calm=af)(V:SE X e me)(N:M0 X e "items" apos bF)(hg:SG X (.Tuple elts x1 tpos) g)(hb:fY X body m)(Y:∀x,foldedSetIterable (.Call (.Attribute e "items" apos) [] [] bF) X.env x=pure x:=by intro _;rfl):SS X (.For (.Tuple elts x1 tpos) (.Call (.Attribute e "items" apos) [] [] bF) body [] pos) (mG me g m):=by
 obtain⟨U,T,Q⟩:=V;obtain⟨t,P,Z⟩:=hg;obtain⟨tb,pb,kb⟩:=hb;refine⟨λD=>Br (BK X U) t tb<|vH X D,λk s l H D I h=>aQ (Ay hp hc (zt T N) P pb Y k s l H (vH X D) I h) λfl s' q=>?_,λJ M H l τ D R S h=>?_⟩
 ·cases fl with
  |next=>obtain⟨c,H',E,d,o,B,j,f,q⟩:=q;exact⟨c,_,Inv.de E f j,q⟩
  |brk=>exact q
  |cont=>exact q
  |ret u=>obtain⟨v,c,H',E,rv,d,o,B,j,f,q⟩:=q;exact⟨v,c,_,Inv.de E f j,rv,q⟩
 ·have h0:bx X.K J ((me l M).cz λx M1=>((match VM.bC M1 x with|some (a,b)=>(.ok (b.map λ(L:Int×VM.W)=>VM.Src.pair (.int L.1) L.2,[(a,.ba M1.length b)]) (M1.set a (.ba M1.length b)++[VM.O.bZ]):VM.R<|List VM.Src×VM.bN)|none=>.bad)).cz λp M1=>(VM.loop p.2 g m p.1 l M1).de p.2) D:=by unfold mG jU at h;rw[DX] at h;exact h
  refine Q J M H l τ _ R S<|bx.seq h0 λi H1 x M1 u p1 r r1 n=>?_
  rcases xG x M1 with z|⟨a,b,ed,z⟩
  ·rw[z] at n;exact(n).elim
  ·rw[z] at n;obtain⟨d,B,_,y,hm,rfl,f,F⟩:=r.bC ed r1;refine⟨d,B,rfl,f,λo es G C j=>?_⟩;have h2:=n;have pre:i<+:i++[G]:=⟨[G],rfl⟩;have R2:=r.freeze y hm F C;rw[<-Paired.len F];refine yD Z kb R2 ((S.mono p1).mono pre) (A3 (fK pre y) (by rw[<-r.len];simp))<|bx.de (fK pre y) j<|bx.mono pre h2
def GF(B:jD X (X.N++ex) ex.length cl scope)(G:X.calm=af)(he:SE X e me)(m0:M0 X e "items" apos bF)(hg:∀C s H r,SG (dv X (X.N++ex) scope (bW X.env.cells scope.names []) C s H r) (.Tuple elts x1 tpos) g)(ht:∀C s H r,jr (dv X (X.N++ex) scope (bW X.env.cells scope.names []) C s H r) ifs t)(hm:∀C s H r,SE (dv X (X.N++ex) scope (bW X.env.cells scope.names []) C s H r) elt m)(hs:∀x,foldedSetIterable (.Call (.Attribute e "items" apos) [] [] bF) X.env x=pure x:=by intro _;rfl):SE X (.ListComp elt [⟨.Tuple elts x1 tpos,.Call (.Attribute e "items" apos) [] [] bF,ifs,0⟩] scope pos) (kT ex.length cl me g t m):=by
 obtain⟨td,pe,ke⟩:=he;refine⟨λE H Q=>∃j M k,Rel X.K j M H/\bM j k E/\ay RV X.K j (kT ex.length cl me g t m k M) Q,λy s E H Q I h=>?_,λj M H k E Q R S h=>⟨j,M,k,R,S,h⟩⟩;obtain⟨j,M,k,R,S,h⟩:=h;rw[eval_ListComp];refine XA rfl hs (tS B.free) B.kind B.names (aQ (zt (elts:=elts) (x1:=x1) (tpos:=tpos) pe m0 y s E H (λJ H1=>∃d c M1 i l,NF X d/\j<+:c/\Rel X.K c M1 H1/\iq X.K c J i l/\ay RV X.K c ((VM.comp l g t m i (dE cl<|k++List.replicate ex.length ae) M1 []).bind bb) (λv H'=>∃o A,H' d=aa (.a6 o<|.dK A)/\Q v (upd H' d<|.dK A))) I ?_) λv s1 n=>aQ n λv_ s2 V=>?_)
 ·have h0:ay RV X.K j ((me k M).bind λx M1=>((match VM.bC M1 x with|some (a,f)=>(.ok (f.map λ(kv:Int×VM.W)=>VM.Src.pair (.int kv.1) kv.2,[(a,.ba M1.length f)]) (M1.set a (.ba M1.length f)++[VM.O.bZ]):VM.R<|List VM.Src×VM.bN)|none=>.bad)).bind λp M1=>((VM.comp p.2 g t m p.1 (dE cl<|k++List.replicate ex.length ae) M1 []).bind bb).bind λv M2=>match VM.de p.2 M2 with|some P=>.ok v P|none=>.bad) Q:=by unfold kT jU at h;rw[bind_assoc] at h;exact h
  refine ke j M H k E _ R S<|ay.seq h0 λc H1 x M1 u p1 w r1 n=>?_
  rcases xG x M1 with z|⟨a,f,ed,z⟩
  ·rw[z] at n;exact(n).elim
  ·rw[z] at n;obtain⟨d,A,_,ha,Qm,rfl,hd,rk⟩:=w.bC ed r1;refine⟨d,A,rfl,hd,λo es L Qn nf=>?_⟩;have pre:c<+:c++[L]:=⟨[L],rfl⟩;have R2:=w.freeze ha Qm rk Qn;have F:=fK pre ha;rw[<-Paired.len rk];refine⟨d,c++[L],_,_,_,nf,p1.trans pre,R2,A3 (g:=M1.length) F (by rw[<-w.len];simp),?_⟩;have V:=n;refine ay.seq (V.up pre) λiA H3 v P b p3 R3 r3 h3=>?_
   cases et:VM.de [(a,.ba M1.length f)] P with
   |none=>rw[et] at h3;exact(h3).elim
   |some M4=>rw[et] at h3;obtain⟨o',Qo,g1,R4⟩:=uP (fK p3 F) et R3;exact⟨o',Qo,g1,h3 iA _ _ dR R4 r3⟩
 ·obtain⟨it,r,tn,J,H2,e',I2,T,Z,f2,d,c,M1,i,l,nf,p1,w,J1,hp⟩:=V;subst e';exact uk B G hg ht hm I2 T Z f2 w (S.mono p1) J1 hp λD C oC mC s' H' hC Y I' ⟨o,A,hd,q⟩=>⟨mC,Y,λh' U=>⟨.ref D,_,Inv.de (uN I2 hC I' U) hd nf,rfl,q⟩⟩
end
section
variable{P:Program}{w:World}{K:Fg}{mg:Str->Option ah}{base:Heap}{N:List Str}{qual:Str}{scope:Scope}{f:Addr}{cd:ah}{A:Around}{outer:List Env}{s0:Shared}{H0:Hp}{E:XK}
end
section
variable{X:Cx}{E:XK}
end
section
variable{P:Program}{w:World}{K:Fg}{mg:Str->Option ah}{base:Heap}
end
section
variable{X:Cx}{pins:List (Addr×Obj)}{σ:L2.St}{H H':Hp}{s s':Shared}
end
section
variable{X:Cx}{pins:List (Addr×Obj)}{τ:L2.St}{H H':Hp}{s s':Shared}{ea C:Addr}{h h2 B:Heap}{a0:ah}
end
section
variable{X:Cx}
end
section
variable{prog:Program}{w:World}{A:Around}{E:ah->Shared->Prop}{h:Heap}{g:Array GenState}{d:Drawn}{t:Nat}{os:OsState}{a C:Addr}{o:Obj}{K:Fg}
open Builtin Builtin.ObjectAttr Builtin.Getset_descriptor in
end
section
variable{X:Cx}
end
section
variable{X:Cx}
def Mg(cs)(d:X.mg x=aa (.ref f))(e:PySem.W.nsIn X.K mainGlobals (txt cs)=aa (aa<|.ref f))(b:Gl X x:=by rfl)(a:(x==("__debug__":Str))=ag:=by decide+kernel):SE X (.Name x pos) (ph cs):=by refine⟨_,zy (v:=.ref f) b d rfl a,λc M H i g Q R S h=>?_⟩;refine h (c++[f]) H (.ref f) ⟨[f],rfl⟩ (R.ghost rfl e) ⟨f,?_,rfl⟩;rw[<-R.len];simp
noncomputable def sy(X:Cx)(k:Nat)(tab:List<|List Nat×VM.CM):Prop:=∀e∈tab,∃x f b a,kr X.prog X.w X.K X.mg X.base k x f b a e.2/\PySem.W.nsIn X.K mainGlobals (txt e.1)=aa (aa<|.ref f)
def GG(ht:sy X k tab)(hr:bY k X.A)(ha:SA X (e::es) a)(hN:X.N[i]? =aa y:=by rfl)(O:o7 X.env.scope y:=by first|exact Or.inl rfl|exact Or.inr (Or.inl rfl)|exact Or.inr<|Or.inr rfl)(hd:(y==("__debug__":Str))=ag:=by decide+kernel)(V:(y==("__classdict__":Str))=ag:=by decide+kernel)(he:starEach (e::es) X.env=(ag,eval e X.env)::starEach es X.env:=by rfl)(L:(backTo pos<|starEach es X.env).any (·.1)=ag:=by rfl):
 SE X (.Call (.Name y p) (e::es) [] pos) (qL tab (aj i) a):=by
 obtain⟨ta,pa,ka⟩:=ha;refine⟨λl H Q=>∃x f E B c,kr X.prog X.w X.K X.mg X.base k x f E B c/\l[i]? =aa (aa<|.ref f)/\ta l H λJ z=>ny X.K B.length c J z Q E0,λj s l H Q I h=>?_,λT M H C l Q R S h=>?_⟩
 ·obtain⟨x,f,E,B,c,F,G,h⟩:=h;refine V2<|aQ (mx hN O hd V j s l H (λw z=>w=.ref f/\z=H) I ⟨_,G,rfl,rfl⟩) λu s1 ⟨w,z,Y,r,t,g⟩=>?_
  subst t g;cases r;refine Wy Y.ok.mod.mV F.kp (aQ (pa pos j s1 l z _ Y h) λus s2 ⟨J,H2,I2,r2,q⟩=>⟨I2.eI,?_⟩) he L;refine vi F.ok hr F.bi .nil qX I2 r2 ?_;rw[UY];exact q
 ·have m:ay RV X.K T ((aj i C M).bind λx M1=>match VM.pick tab x M1 with|some c=>(a C M1).bind c|none=>.bad) Q:=h;unfold aj at m;cases t:C[i]? with
  |none=>rw[t] at m;exact(m).elim
  |some o=>
   cases o with
   |none=>rw[t] at m;exact(m).elim
   |some w=>
    rw[t] at m;have D:ay RV X.K T (match VM.pick tab w M with|some c=>(a C M).bind c|none=>.bad) Q:=m;cases g:VM.pick tab w M with
    |none=>rw[g] at D;exact(D).elim
    |some c=>
     rw[g] at D;have h2:=D;unfold VM.pick at g;cases d:VM.fnOf M w with
     |none=>rw[d] at g;cases g
     |some n=>
      rw[d] at g;obtain⟨en,et,rfl⟩:=XO.mp g;obtain⟨x,f,E,B,F,Z⟩:=ht en<|Xo et;have U:=by simpa using Xp et
      obtain⟨q,hq,v,rfl,rv⟩:=Paired.at S t;have O:v=.ref f:=by
       cases w with
       |ref b=>
        obtain⟨fp,hb,rfl⟩:=rv;unfold VM.fnOf at d;cases P:M[b]? with
        |none=>simp only[P] at d;cases d
        |some o=>
         simp only[P] at d;have ro:=R.obj b fp o hb P;cases o<;>first|cases d|skip
         rw[U,ro] at Z;cases Z;rfl
       |aA=>cases d
       |bl _=>cases d
       |int _=>cases d
       |str _=>cases d
      subst O;refine⟨x,f,E,B,en.2,F,hq,ka T M H C l _ R S<|ay.seq h2 λsA z ws M1 J p1 R1 r1 h3=>?_⟩;exact vE F.ln R1 r1 h3 _
end
def IF(b:vs.length=acc.length)(h:∀(j:Nat) (v),acc[j]? =aa v->∃x,vs[j]? =aa x/\RelV x v):Vals vs acc:=by
 induction acc generalizing vs with
 |nil=>cases vs with
  |nil=>exact .nil
  |cons _ _=>simp at b
 |cons a r d=>
  cases vs with
  |nil=>simp at b
  |cons x t=>
   obtain⟨y,e,q⟩:=h 0 a rfl;have e:=by simpa using e
   subst e;exact .cons q (d (by simpa using b) λj v c=>by
    obtain⟨y,e,q⟩:=h (j+1) v<|by simpa using c
    exact⟨y,by simpa using e,q⟩)
section
variable{X:Cx}
section
variable{prog:Program}{w:World}{A:Around}{s:Shared}{R:Result->Shared->Prop}{I:Addr}{fp wr:List Addr}{G:Array GenState->Array GenState->Prop}{n:Nat}{P:Nat->ah->Prop}{St:Nat->Shared->Prop}
end
end
noncomputable abbrev oH(K:Fg)(x:Str)(f:Addr):Prop:=PySem.W.nsIn K mainGlobals x=aa (aa<|.ref f)
section
variable{P:Program}{w:World}{K:Fg}{mg:Str->Option ah}{base:Heap}{k:Nat}{x q:Str}{st:Stmt}{ps N:List Str}{np n:Nat}{body:VM.SM}{C:Addr}
noncomputable def FK(K:Fg)(mg:Str->Option ah)(x:Str)(st:Stmt)(ps:List Str):Prop:=∃f a,iZ K x x st f a/\mg x=aa (.ref f)/\Binds K a ps []/\oH K x f
noncomputable def lH(K:Fg)(J:Addr->Prop)(x q:Str)(st:Stmt)(ps:List Str):Prop:=∃f a,iZ K x q st f a/\J f/\Binds K a ps []
noncomputable abbrev Au(x q:Str)(st:Stmt)(ps:List Str):Prop:=∀(kV a e:ah) (d:Option Addr) (c ct:ah) (b:List ah),b.length=ps.length->bindArgs (PySem.W.fnOf x q (kI st) (gC st) (cY st) .none kV a e d c ct) ⟨b,[]⟩=pure (ps.zip b)
def Mh{h:Heap}{f:Addr}{m:ah}{p i:Option Addr}{d:Array (Option ah)}{kV e j b ct:ah}(X:K.In h)(G:h.Ns mainGlobals mg)(a:oH K x f)(l:K.lookup f=aa ⟨m,p,.func<|PySem.W.fnOf x x (kI st) (gC st) (cY st) .none kV e j i b ct,d⟩)(c:PySem.W.codeIn K b x=af)(g:PySem.W.keepIn K (.ref f)=af)(o:Au x x st ps):FK K mg x st ps:=
 have F:=AD (st:=st) l c g
 ⟨f,_,F,XB X G a,F.binds o,a⟩
def A4{J:Addr->Prop}{f:Addr}{j:ah}{o h:Option Addr}{d:Array (Option ah)}{kV e i b ct:ah}(a:J f)(l:K.lookup f=aa ⟨j,o,.func<|PySem.W.fnOf x q (kI st) (gC st) (cY st) .none kV e i h b ct,d⟩)(c:PySem.W.codeIn K b q=af)(g:PySem.W.keepIn K (.ref f)=af)(m:Au x q st ps):lH K J x q st ps:=
 have F:=AD (st:=st) l c g
 ⟨f,_,F,a,F.binds m⟩
noncomputable def FV(P:Program)(w:World)(K:Fg)(mg:Str->Option ah)(base:Heap)(k:Nat)(c:VM.CM)(x:Str)(ps:List Str):Prop:=∃f a,kr P w K mg base k x f a ps c/\oH K x f
noncomputable def FM(P:Program)(w:World)(K:Fg)(mg:Str->Option ah)(base:Heap)(k:Nat)(c:VM.CM)(J:Addr->Prop)(ps:List Str):Prop:=∃f a,J f/\pH P w K mg base k f a ps c
noncomputable abbrev BL(c:ir)(P:Program)(w:World)(K:Fg)(mg:Str->Option ah)(base:Heap)(k:Nat)(N:List Str)(q:Str)(st:Stmt)(J:Cx->XK->List Stmt->Prop):Prop:=
 ∀(f:Addr) (a:ah) (A:Around) (b:List Env) (s:Shared) (H:Hp) (E:XK),N.Nodup->bY k (A.deeper<|envOfC q (cY st) s.heap.objs.size f a)->(A.deeper<|envOfC q (cY st) s.heap.objs.size f a).units<cLine->(A.deeper<|envOfC q (cY st) s.heap.objs.size f a).units+1<cLine->J (iS c P w K mg base N q (cY st) f a A b s H E) E (gC st)
def bP(h:FK K mg x st ps)(S:ja N ps<|cY st)(D:BL fD P w K mg base k N x st λX _ b=>fY X.iX b body)(l:N.length=n:=by rfl)(m:ps.length=np:=by rfl):FV P w K mg base (k+1) (VM.fn np n body) x ps:=by obtain⟨f,g,F,j,i,e⟩:=h;exact⟨f,g,A1 F S j i (λd A a s H E c=>D f d A a s H E S.nd c c.ve<|vA c) l m,e⟩
def bO(h:FK K mg x st ps):FV P w K mg base 0 (λ_ _=>.bad) x ps:=by obtain⟨f,b,F,d,c,a⟩:=h;exact⟨f,b,Gn d F.kp c,a⟩
def q_{J:Addr->Prop}(h:lH K J x q st ps)(S:ja N ps<|cY st)(D:BL fD P w K mg base k N q st λX _ b=>fY X.iX b body)(j:N.length=n:=by rfl)(l:ps.length=np:=by rfl):FM P w K mg base (k+1) (VM.fn np n body) J ps:=by obtain⟨f,e,F,i,g⟩:=h;exact⟨f,e,i,K0 F S g (λd A a s H E c=>D f d A a s H E S.nd c c.ve<|vA c) j l⟩
def qE{J:Addr->Prop}(h:lH K J x q st ps):FM P w K mg base 0 (λ_ _=>.bad) J ps:=by obtain⟨f,a,F,c,b⟩:=h;exact⟨f,a,c,Gz b⟩
def Mi{a:List Nat}{c:VM.CM}(h:FM P w K mg base k c (Mk K C) ps)(T:js K a C)(d:mg x=aa (.ref C)):nB P w K mg base (k+1) x (ps.length-1) (mW a c):=by obtain⟨f,e,b,F⟩:=h;exact K1 b T d F
end
section
variable{X:Cx}
def IG{i j:Int}{jj pos}(h:i=j):SE X (.Constant (.int i) jj pos) (VM.eC<|.int j):=h▸Kf
def GH{x:Str}{k:Nat}{i:List Str}{c:VM.CM}{e:Expr}{b:List Expr}{a:VM.AM}{p pos:Pos}(F:FV X.prog X.w X.K X.mg X.base k c x i)(h:bY k X.A)(m:SA X (e::b) a)(l:Gl X x)(g:(x==("__debug__":Str))=ag)(j:starEach (e::b) X.env=(ag,eval e X.env)::starEach b X.env)(d:(backTo pos<|starEach b X.env).any (·.1)=ag):
 SE X (.Call (.Name x p) (e::b) [] pos) (av c a):=by
 obtain⟨f,n,F,_⟩:=F;exact Ik F h m l g j d
def GI{k:Nat}{c i:List Nat}{m:Str}{C:Addr}{q:List Str}{j:VM.CM}{o e:Expr}{d:List Expr}{l:VM.EM}{a:VM.AM}{b pos:Pos}{u:Sem Bool}(T:js X.K c C)(F:FM X.prog X.w X.K X.mg X.base k j (Meth X.K C m) q)(p:bY k X.A)(s:SE X o l)(x:SA X (e::d) a)(t:m=txt i)(g:starEach (e::d) X.env=(ag,eval e X.env)::starEach d X.env)(h:(backTo pos<|starEach d X.env).any (·.1)=ag)(r:eval (.Call (.Attribute o m b) (e::d) [] pos) X.env=(do
  let n<-eval o X.env
  standAt b.atName
  let(f,first)<-holding [n] (getMethod n m u)
  callWith pos f first (backTo pos (starEach (e::d) X.env)) (backToKw pos (keywordEach [] X.env)))):
 SE X (.Call (.Attribute o m b) (e::d) [] pos) (fu c i j l a):=by
 obtain⟨f,y,v,F⟩:=F;exact GB T v F p s x t g h r
def K6{x:Str}{k:Nat}{d:List Str}{c:VM.CM}{b:List Nat}{pos:Pos}(F:FV X.prog X.w X.K X.mg X.base k c x d)(e:x=txt b)(h:Gl X x)(a:(x==("__debug__":Str))=ag):SE X (.Name x pos) (ph b):=by obtain⟨f,i,F,g⟩:=F;exact Mg b F.mg (by rw[<-e];exact g) h a
def IH{k:Nat}:sy X k []:=λ_ h=>nomatch h
def GJ{k:Nat}{d:List Nat}{c:VM.CM}{t:List (List Nat×VM.CM)}{x:Str}{b:List Str}(F:FV X.prog X.w X.K X.mg X.base k c x b)(g:x=txt d)(h:sy X k t):sy X k ((d,c)::t):=λe a=>by
 rcases T7.mp a with rfl|a
 ·obtain⟨f,j,F,i⟩:=F;exact⟨x,f,j,b,F,by rw[<-g];exact i⟩
 ·exact h e a
end
section
variable{X:Cx}{x y:Str}{cl:List Nat}{scope:Scope}{iter elt e:Expr}{ifs:List Expr}{pos tp CW apos bF:Pos}{x1:Nat}{mi:VM.IM}{me:VM.EM}{g:VM.GM}{t:VM.TM}{m:VM.EM}
noncomputable abbrev jF(X:Cx)(ex:List Str)(scope:Scope)(C:Addr)(s:Shared)(H:Hp)(a:List Addr):Cx:=dv X (X.N++ex) scope (bW X.env.cells scope.names []) C s H a
def GK(B:jD X (X.N++[x]) 1 cl scope)(b:X.calm=af)(f:SI X (.Name x tp) iter mi)(h:∀C s H a,SG (jF X [x] scope C s H a) (.Name x tp) g)(c:∀C s H a,jr (jF X [x] scope C s H a) ifs t)(i:∀C s H a,SE (jF X [x] scope C s H a) elt m)(d:∀x,foldedSetIterable iter X.env x=pure x:=by intro _;rfl):SE X (.ListComp elt [⟨.Name x tp,iter,ifs,0⟩] scope pos) (bE 1 cl mi g t m):=Aq (ex:=[x]) B b f h c i d
def E5{a:Pos}(B:jD X (X.N++[x,y]) 2 cl scope)(c:X.calm=af)(h:SE X e me)(d:M0 X e "items" a bF)(j:∀C s H b,SG (jF X [x,y] scope C s H b) (.Tuple [.Name x tp,.Name y CW] x1 apos) g)(f:∀C s H b,jr (jF X [x,y] scope C s H b) ifs t)(k:∀C s H b,SE (jF X [x,y] scope C s H b) elt m)(i:∀x,foldedSetIterable (.Call (.Attribute e "items" a) [] [] bF) X.env x=pure x:=by intro _;rfl):SE X (.ListComp elt [⟨.Tuple [.Name x tp,.Name y CW] x1 apos,.Call (.Attribute e "items" a) [] [] bF,ifs,0⟩] scope pos) (kT 2 cl me g t m):=GF (ex:=[x,y]) B c h d j f k i
def GL{i:Nat}{z:Str}{a f:Pos}(l:X.N.Nodup)(B:jD X (X.N++[x]) 1 cl scope)(c:X.calm=af)(o:SI X (.Name x tp) iter mi)(p:∀C s H b,SG (jF X [x] scope C s H b) (.Name x tp) g)(j:∀C s H b,jr (jF X [x] scope C s H b) ifs t)(r:∀C s H b,SE (jF X [x] scope C s H b) elt m)(q:X.N[i]? =aa z:=by rfl)(h:Loc X.env.scope z:=by first|exact Or.inl rfl|exact Or.inr rfl)(k:X.fn z=af\/X.env.scope.names.lookup z=aa .local:=by first|exact .inl rfl|exact .inr rfl|assumption)(d:swapsWith (.ListComp elt [⟨.Name x tp,iter,ifs,0⟩] scope pos) (aa<|.Name z f) a.line X.env=pure af:=by rfl)(n:∀x,foldedSetIterable iter X.env x=pure x:=by intro _;rfl):SS X (.Assign [.Name z f] (.ListComp elt [⟨.Name x tp,iter,ifs,0⟩] scope pos) a) (aN (bE 1 cl mi g t m)<|VM.az i):=Iv (ex:=[x]) l B c o p j r q h k d n
end
section
variable{X:Cx}
def K7(i:X.A.units<cLine):b9 X (compareOp .Eq) (λx y H Q=>∃p q a,x=.ref p/\y=.ref q/\H p=aa (.dK a)/\H q=aa (.dK [])/\Q (.bl a.isEmpty) H):=by
 intro c s E H x y v u Q I j w h;obtain⟨p,q,a,rfl,rfl,l,m,z⟩:=h;cases j;cases w;obtain⟨_,o,t,B,n⟩:=I.aL p _ l;obtain⟨_,f,D,d,g⟩:=I.aL q _ m;cases d;have b:=VD B;refine PySem.W.keq_eq o f n g i (r:=af) (λe=>?_)<|cH I z ?_
 ·have:=Xy.mp (by simpa using e);subst this;exact .nil
 ·cases a with
  |nil=>have:=Xy.mp (by rw[<-b];rfl)
        subst this;rfl
  |cons k r=>cases t with
   |nil=>cases b
   |cons y C=>rfl
def E6{M1:VM.Mem}(i:Rel X.K sA M1 H1)(m:RV sA x u)(d:ay RV X.K sA (match VM.bC M1 x with|some (_,kvs)=>.ok (.bl kvs.isEmpty) (M1++[.aG []])|none=>.bad) Q)(q)(h:H1 q=ae):
 ∃p j b,u=.ref p/\V.ref q=.ref j/\upd H1 q (.dK []) p=aa (.dK b)/\upd H1 q (.dK []) j=aa (.dK [])/\Q (.bl b.isEmpty) (upd H1 q<|.dK []):=by
 cases f:VM.bC M1 x with
 |none=>rw[f] at d;exact(d).elim
 |some c=>
  obtain⟨a,kvs⟩:=c;rw[f] at d;obtain⟨p,b,rfl,o,n,rfl,h3,l⟩:=i.bC f m;have g:=dJ h3 h;refine⟨p,q,b,rfl,rfl,by rw[aS g];exact h3,cG,?_⟩;have e:b.isEmpty=kvs.isEmpty:=by cases l<;>rfl
  rw[e];exact d (sA++[q]) _ _ ⟨[q],rfl⟩ (i.new h λk pre=>⟨[],cG,.nil⟩) rfl
def II(o:X.A.units+1<cLine)(p:SE X a m):fF X (.Compare a [.Eq] [.Dict [] [] o4] pos) (VM.tB<|oM m):=by
 obtain⟨D,w,B⟩:=p;refine⟨_,zG (K7<|Nat.lt_of_succ_lt o) w yR rfl,λf M H j s Q R S h=>?_⟩;have t:ay rB X.K f ((m j M).bind λx M1=>match VM.bC M1 x with|some (_,d)=>.ok d.isEmpty (M1++[.aG []])|none=>.bad) Q:=by
  unfold VM.tB oM at h;revert h;cases m j M with
  |ok x M1=>
   show ay rB X.K f ((match VM.bC M1 x with|some (_,d)=>VM.R.ok (VM.W.bl d.isEmpty) (M1++[VM.O.aG []])|none=>VM.R.bad).bind _) Q->ay rB X.K f (match VM.bC M1 x with|some (_,d)=>.ok d.isEmpty (M1++[.aG []])|none=>.bad) Q;cases VM.bC M1 x with
   |none=>exactλh=>h
   |some c=>exactλh=>h
  |ex _ _=>exactλh=>h
  |bad=>exactλh=>h
 refine B f M H j s _ R S<|ay.seq t λl E x M1 u F n C e q r=>?_
 refine E6 (Q:=λv i=>∃b,v=.bl b/\Q b i) n C ?_ q r;cases k:VM.bC M1 x with
 |none=>rw[k] at e;exact(e).elim
 |some c=>rw[k] at e;intro g i v y R2 z;cases z;exact⟨_,rfl,e g i _ y R2 rfl⟩
def K8(hm:X.mg x=aa (.int i t))(b:Gl X x)(a:(x==("__debug__":Str))=ag)(e:i=j):SE X (.Name x pos) (VM.eC<|.int j):=by subst e;exact⟨_,zy (v:=.int i) b hm ⟨t,rfl⟩ a,λd M H f c Q R S h=>ay.ok h R rfl⟩
end
section
variable{X:Cx}
def DY(D:X.A.handled=ae):hV X (.type "list") (λxs H Q=>∃p a,xs=[.ref p]/\H p=aa (.dK a)/\∀q,H q=ae->Q (.ref q) (upd H q<|.lst<|a.map λk=>kV k.1)):=by
 intro t s σ H xs Z Q I r h;obtain⟨p,a,rfl,M,q⟩:=h;obtain⟨u,rfl,J⟩:=vals1 r;cases J;obtain⟨m,P,R,z,o,E,G,g,c,K,B,V,S⟩:=I.aL p _ M;have f:=VD z;have O:s.heap.DictAt (dk X.prog X.w) p R G:=⟨o,E,g,c,K,B,V,S⟩;refine PySem.W.kdl_call (PySem.W.kdl_dict P) D O (by rw[<-f];exact m) λh' Y b F T N y=>?_
 have U:Vals (a.map λk=>kV k.1) b.toList:=by
  refine IF (by simp[y.1,f]) λj v C=>?_
  have e:b[j]? =aa v:=by rw[<-C,XN]
  obtain⟨k,x,l,L⟩:=y.2 j v e;have d:j<a.length:=by rw[f];exact(Ub.mp l).1
  obtain⟨u,n,_⟩:=KV.at z (i:=j) (k:=a[j].1) (v:=a[j].2)<|by simp[d]
  rw[l] at n;cases n;exact⟨kV a[j].1,by simp[d],A2 L⟩
 refine⟨.ref s.heap.objs.size,_,I.laid T (Uc _) (o:=.lst _) ⟨by rw[Ua];exact m,b.toList,F,U,?_⟩,rfl,q _<|I.aL.fresh<|Uc _⟩;rw[N]
end
noncomputable def pI(X:Cx)(scope:Scope)(f c':Addr)(cl:List<|Str×Addr)(N:List Str)(s:Shared)(H:Hp):Cx where
 prog:=X.prog
 w:=X.w
 K:=X.K
 mg:=X.mg
 base:=X.base
 A:=X.A.in1.deeper<|PySem.W.envX dC scope s.heap.objs.size f (.ref c') cl
 N:=N
 dn:=s
 k_:=H
 env:=PySem.W.envX dC scope s.heap.objs.size f (.ref c') cl
 outer:=X.stack
 stack:=PySem.W.envX dC scope s.heap.objs.size f (.ref c') cl::X.stack
 ex:=[]
 calm:=af
 fn:=λ_=>ag
 pn:=[]
 xe:=λ_ _=>False
structure o5(scope:Scope)(x y:Str):Prop where
 kind:scope.kind=.function
 loc:scope.names.lookup x=aa .local
 CY:scope.names.lookup y=aa .free
 ne:x≠y
 all:∀z,scope.names.lookup z=aa .cell\/scope.names.lookup z=aa .free->z=y
 nc:∀z∈scope.names,z.2≠.cell
 co:scope.isCoroutine=ag
 gen:scope.isGenerator=ag
section
variable{X:Cx}{pins:List (Addr×Obj)}{σ:L2.St}{H:Hp}{s:Shared}{scope:Scope}{f c' c:Addr}{x y:Str}{u v:ah}{a b:V}
def IJ(L:o5 scope x y)(I:Inv X pins σ H s)(E:X.A.handled=ae)(K:X.env.cells.lookup y=aa c)(D:s.heap.IsCell c<|aa u)(N:RelV a u)(F:RelV b v)(C:j8.Ns s.heap.objs.size<|λz=>[(x,v)].reverse.lookup z)(B:∀q o,s.heap.get? q=aa o->j8.get? q=aa o):
 Inv (pI X scope f c' [(y,c)] [x,y] s H) [] [aa b,aa a] H {s with heap:=j8,toks:=tk}:=by
 have g:∀z d,(pI X scope f c' [(y,c)] [x,y] s H).env.cells.lookup z=aa d->z=y/\d=c:=λz d e=>by
  have e:([(y,c)]:List<|Str×Addr).lookup z=aa d:=e;rw[VC] at e;cases t:z==y with
  |true=>rw[t] at e;cases e;exact⟨eq_of_beq t,rfl⟩
  |false=>rw[t] at e;cases e
 have j:=by show([(y,c)]:List<|Str×Addr).lookup y=aa c;rw[VC];simp
 have m:∀q:Addr,q∉(pI X scope f c' [(y,c)] [x,y] s H).ex:=λq z=>absurd (show q∈([]:List Addr) from z)<|by simp
 have h:∀d w,s.heap.IsCell d w->j8.IsCell d w:=λd w ⟨o,e,r⟩=>⟨o,B d o e,r⟩
 refine⟨⟨I.mod,L.kind,rfl,rfl,Uc _,λM G d k l=>?_,λz t=>?_,λz d e _=>?_,λ_=>E,Around.frames_deeper I.ok.frames,.inr ⟨rfl,rfl⟩,λq z=>absurd z<|m q,λq o e=>I.bs q o e,Uh I.ok.jt I.sz,λq _ _=>m q,λq z=>absurd z<|m q,I.stack,I.uQ⟩,
  rfl,I.bare,Un.kept B,⟨_,C,λi z w k l O=>?_⟩,λz d e=>?_,I.aL.fresh (Uc _),λz d e=>?_,λp J=>absurd (show p∈([]:List (Addr×Obj)) from J) (by simp),I.aL.kept B,rfl⟩
 ·rw[(g M d k).1,(g G d l).1]
 ·exact⟨c,by rw[L.all z t];exact j⟩
 ·cases e
 ·match i,k,l with
  |0,k,l=>cases k;cases l;exact⟨v,F,.inl ⟨L.loc,by simp⟩⟩
  |1,k,l=>cases k;cases l;exact⟨u,N,.inr ⟨.inr L.CY,c,j,h _ _ D⟩⟩
  |n+2,k,l=>cases k
 ·rw[(g z d e).2];exact⟨_,h _ _ D⟩
 ·rw[(g z d e).2];exact I.gf y c K
def GN{k n:Nat}{j:Arguments}{i:Expr}{P p:ah}{O:TE}{E:ah->Shared->Prop}(L:o5 scope x y)(I:Inv X pins σ H s)(M:bY k X.A)(hc:X.env.cells.lookup y=aa c)(T:s.heap.IsCell c<|aa u)(ra:RelV a u)(Y:RelV b v)(ho:s.heap.get? f=aa (PySem.W.kla_obj "<lambda>" dC j i scope [(y,c)] P c' p))(F:s.heap.CodeRec (.ref c') dC)(m:bindArgs (PySem.W.kla_fn "<lambda>" dC j i scope [(y,c)] P (.ref c') p) ⟨[v],[]⟩=pure [(x,v)])(hb:PE (pI X scope f c' [(y,c)] [x,y] s H) i O)(U:O [aa b,aa a] H λr Q=>r=.int n/\Q=H):
 wpAny (model X.prog X.w) X.A.in1 (call (.ref f) [v]) (λz l=>(∃t,z=.int n t)/\Inv X pins σ H l) E s:=by
 refine wpAny_call ?_;refine PySem.W.kla_callFunE (show X.A.in1.depth<recursionLimit from M.depth) ho rfl L.co L.gen rfl F ?_;rw[m];refine Uk<|wpAny_newFunctionEnv L.nc (λz Z=>?_) (λC K G=>?_) L.kind
 ·have:z=(x,v):=by simpa using Z
  subst this;exact L.loc
 ·have S:∀q o,s.heap.get? q=aa o->C.get? q=aa o:=λq o e=>G.extBut q o (UI<|Ur e) (Uw _ e)
  refine⟨I.nolimit.keeps S,?_⟩;show codeAny _ _ (.expr i<|PySem.W.envX dC scope s.heap.objs.size f (.ref c') [(y,c)]) _ _;have J:=IJ (f:=f) (c':=c') (tk:=s.toks+1) L I M.hd hc T ra Y K S;refine PySem.W.kla_codeExpr<|UL (hb [] _ _ H _ J U) (λz l B=>?_) λe l B=>(B:False).elim
  obtain⟨r,Q,D,rr,rfl,rfl⟩:=B;have R:=I.call (g':=l.gens) (t':=l.toks) (d':=l.drawn) (ch:=[]) D.base D.aL D.bare λq B=>absurd B<|by simp
  have e:({s with heap:=l.heap,gens:=l.gens,drawn:=l.drawn,toks:=l.toks}:Shared)=l:=by obtain⟨h,g,d,t,o⟩:=l;have:o=s.os:=D.os;subst this;rfl
  rw[e] at R;exact⟨rr,R⟩
end
noncomputable def iV(c:Str->Option ah)(h:Heap):Prop:=∃b a,c "__builtins__"=aa (.ref b)/\b≠builtinsNs/\h.get? b=aa a/\a.cls=.type "module"/\a.dict=aa builtinsNs/\a.data=.plain
noncomputable def j5(K:Fg)(c P:Addr):Prop:=∀h:Heap,K.In h->PySem.W.CodeHd h c P
def IK:∀{L:List ah},TriplesOk L->TriplesOk (L++[rawInt l,rawInt k,c]):=by
 intro L h
 fun_induction TriplesOk L with
 |case1=>trivial
 |case2 a b i d e rest f=>exact f h
 |case3 L g j=>exact h.elim
def E7:∀{L:List ah},TriplesOk L->codeAmong pos (L++[rawInt l,rawInt k,c])=aa cv->codeAmong pos L=aa cv\/cv=c:=by
 intro L h e
 fun_induction TriplesOk L with
 |case1=>
  have e:(if((l:Int)==pos.line&&(k:Int)==pos.col)=af then aa c else codeAmong pos [])=aa cv:=e;split at e
  ·exact .inr (Ug e).symm
  ·cases e
 |case2 a b m d j rest g=>
  simp only[VA,codeAmong] at e⊢;split at e
  ·rename_i f;rw[T5 f];exact .inl e
  ·rename_i f;rw[T6 f];exact g h e
 |case3 L i n=>exact h.elim
def jq.add(ok:jq H ps)(j:∀o c,H P≠aa (.a6 o<|.own c))(n:H c'=ae)(h:oc.data=.fields vs)(w:vs[1]? =aa (.str dC t)):
 jq (L2.upd (L2.upd H P u) c'<|.a6 oc<|.own c') (ps++ #[rawInt l,rawInt k,.ref c']):=by
 refine⟨by rw[Array.toList_append];exact IK ok.1,λb m e=>?_⟩;rw[Array.toList_append] at e;rcases E7 ok.1 e with z|z
 ·obtain⟨d,f,p,v,i,a,r,x⟩:=ok.2 b m z;have g:=dJ a n;have s:d≠P:=λq=>j f d (by rw[<-q];exact a)
  exact⟨d,f,p,v,i,by rw[aS g,aS s];exact a,r,x⟩
 ·exact⟨c',oc,vs,t,z,cG,h,w⟩
def Rel.tab{K:Fg}(R:Rel K ι M H)(m:PySem.W.tabIn K gF=aa (c0,P))(f:H P=aa (.c8 ps))(ok:jq H ps)(g:H c'=ae)(hd:oc.data=.fields vs)(s:vs[1]? =aa (.str dC t)):Rel K ι M (upd (upd H P<|.c8<|ps++ #[rawInt l,rawInt k,.ref c']) c'<|.a6 oc<|.own c'):=by
 have d:c'≠P:=λz=>by rw[z,f] at g;cases g
 have b:∀u,upd H P u c'=ae:=λu=>by rw[aS d];exact g
 refine⟨R.len,λa q o j n=>?_,R.inj,λc v e=>?_⟩
 ·have r:=R.obj a q o j n;have i:RO K ι (upd H P<|.c8<|ps++ #[rawInt l,rawInt k,.ref c']) q o:=RO.other r (λh z=>by subst z;exact(RO.apart r h).1 ps f) λp vs z=>by rw[f] at z;cases z
  exact RO.other i (λh z=>by subst z;exact RO.none i h<|b _) λp vs z=>by rw[b] at z;cases z
 ·rw[m] at e;cases e;exact⟨_,by rw[aS<|Uz d];exact cG,ok.add (λo c z=>by rw[f] at z;cases z) g hd s⟩
noncomputable def IL(X:Cx)(pins:List<|Addr×Obj)(σ:L2.St)(H:Hp)(a:Arguments)(b:Expr)(scope:Scope)(cl:List<|Str×Addr)(z:ah)(l:Shared):Prop:=
 ∃f d e k c g h t,z=.ref f/\Inv X ((f,PySem.W.kla_obj "<lambda>" dC a b scope cl k d e)::pins) σ c l/\(∀i M,Rel X.K i M H->Rel X.K i M c)/\(∀q o,H q=aa o->(∀j,o≠.c8 j)->c q=aa o)/\
  c d=aa (.a6 g<|.own d)/\g.data=.fields h/\h[1]? =aa (.str dC t)
section
variable{X:Cx}{pins:List (Addr×Obj)}{σ:L2.St}{H:Hp}{s:Shared}
def u_(I:Inv X pins σ H s)(c:s.heap.get? f=aa o)(g:H f=ae)(e:f≠X.env.locals)(d:f∉X.fs)(b:∀v,o.data≠.cell v):Inv X ((f,o)::pins) σ H s:=
 I.jM λp a=>by
  rcases T7.mp a with rfl|a
  ·exact⟨c,g,e,d,b⟩
  ·exact I.pin p<|Uu _ a
def GO{d:Arguments}{g:Expr}{scope:Scope}{f:Pos}{y:Str}{c c0 P:Addr}{l:Array ah}{E:ah->Shared->Prop}(I:Inv X pins σ H s)(hT:PySem.W.tabIn X.K gF=aa (c0,P))(CK:j5 X.K c0 P)(x:iV X.mg X.base)(B:X.env.code=.ref c0)(N:closureFor scope X.env=pure [(y,c)])(hq:X.env.qual++"<lambda>"=dC)(U:defaultsOf d X.env=([],[]))(D:H P=aa (.c8 l))(ok:jq H l):
 wpAny (model X.prog X.w) X.A (eval (.Lambda d g scope f) X.env) (IL X pins σ H d g scope [(y,c)]) E s:=by
 refine PySem.W.kla_eval U ?_;rw[hq];have O:=I.mod.glob.keeps I.bk;have oP:=I.aL P _ D;have nP:∀b o,X.base.get? b=aa o->b≠P:=λb o e z=>by have:=(I.bs b o e).2;rw[z,D] at this;cases this
 have Qp:mainGlobals≠P:=by obtain⟨o,_,_,e,_⟩:=I.mod.glob;exact nP _ _ e
 obtain⟨bm,ob,b1,b2,Y,b4,b5,b6⟩:=x;have Qq:bm≠mainGlobals:=λz=>by obtain⟨o,es,ep,e,Z,_⟩:=I.mod.glob;rw[z,e] at Y;cases Y;rw[Z] at b6;cases b6
 have L:s.heap.BuiltinsAt X.mg P:=⟨bm,ob,b1,b2,Qq,nP _ _ Y,I.bk _ _ Y,b4,b5,b6⟩;cases hf:codeAmong f l.toList with
 |some cv=>
  obtain⟨i,G,vs,t,rfl,e2,e3,e4⟩:=ok.2 f cv hf;refine PySem.W.kla_makeFunctionHit N I.ok.glob O B (CK _ I.eI) oP ok.1 hf L λk F tk hk j=>?_
  have m:∀b u,s.heap.get? b=aa u->(F.push<|PySem.W.kla_obj "<lambda>" dC d g scope [(y,c)] ((X.mg "__name__").getD .none) i k).get? b=aa u:=λb u e=>Uw _<|hk b u e
  have I':=I.un (t':=tk) (Un.kept m)<|I.aL.kept m;refine⟨_,i,k,(X.mg "__name__").getD .none,H,G,vs,t,rfl,u_ I' (UU _ rfl) (I.aL.fresh j) (VZ<|Up I.lt j) (I.rg j)<|λv z=>?_,λ_ _ R=>R,λ_ _ e _=>e,e2,e3,e4⟩;cases z
 |none=>
  refine PySem.W.kla_makeFunction N I.ok.glob O B (CK _ I.eI) oP ok.1 hf Qp L λi k F tk hx C Q T Qr=>?_
  obtain⟨c2,G,vs,t,e2,V,Z,hv⟩:=T;cases e2;have hc:=I.aL.fresh C;have Qs:i≠P:=λz=>by rw[z,D] at hc;cases hc
  have m:∀b u,b≠P->s.heap.get? b=aa u->(F.push<|PySem.W.kla_obj "<lambda>" dC d g scope [(y,c)] ((X.mg "__name__").getD .none) i k).get? b=aa u:=λb u x e=>Uw _<|hx b u x e
  have M:∀b u,H b=aa u->(∀l,u≠.c8 l)->b≠P:=λb u e n z=>by subst z;rw[D] at e;cases e;exact n _ rfl
  have p:∀b,H b=ae->b≠P:=λb n z=>by rw[z,D] at n;cases n
  have J:∀b u,H b=aa u->b≠i:=λb u e=>dJ e hc
  have S:(F.push<|PySem.W.kla_obj "<lambda>" dC d g scope [(y,c)] ((X.mg "__name__").getD .none) i k).get? P=aa (PySem.W.tabObj<|l++ #[rawInt f.line,rawInt f.col,.ref i]):=Uw _ Qr;have j:=Uh C<|VE Q;have h:∀q o,H q=aa o->(∀l,o≠.c8 l)->upd (upd H P<|.c8<|l++ #[rawInt f.line,rawInt f.col,.ref i]) i (.a6 G<|.own i) q=aa o:=λq o e n=>by rw[aS<|J q o e,aS<|M q o e n];exact e
  have un:Un X.fs [] H (upd (upd H P<|.c8<|l++ #[rawInt f.line,rawInt f.col,.ref i]) i<|.a6 G<|.own i) s.heap (F.push<|PySem.W.kla_obj "<lambda>" dC d g scope [(y,c)] ((X.mg "__name__").getD .none) i k):=by
   refine⟨λb o e n _ _=>m b o (p b n) e,λb o e n _ _=>⟨o.slots,m b o (p b n) e⟩,λb o e n _=>?_,λb o e _=>?_,λb xs e=>h b _ e (λl z=>nomatch z),λb o u e=>h b _ e (λl z=>nomatch z),λb qs e=>?_⟩
   ·rw[aS<|UI<|Up (Ur e) C,aS<|p b n];exact n
   ·by_cases x:b=P
    ·subst x;exact⟨_,S⟩
    ·exact⟨o,m b o x e⟩
   ·by_cases x:b=P
    ·subst x;rw[D] at e;cases e;exact⟨#[rawInt f.line,rawInt f.col,.ref i],by rw[aS<|Uz Qs];exact cG⟩
    ·exact⟨#[],by rw[aS<|J b _ e,aS x,e];simp⟩
  have aL:cp X.prog X.w (upd (upd H P<|.c8<|l++ #[rawInt f.line,rawInt f.col,.ref i]) i<|.a6 G<|.own i) (F.push<|PySem.W.kla_obj "<lambda>" dC d g scope [(y,c)] ((X.mg "__name__").getD .none) i k):=λa o e=>by
   by_cases ha:a=i
   ·subst ha;rw[cG] at e;cases e;exact⟨Uw _ V,_,Uw _ V⟩
   ·rw[aS ha] at e;by_cases hp:a=P
    ·subst hp;rw[cG] at e;cases e;exact S
    ·rw[aS hp] at e;refine(I.aL a o e).gK (λb u x q=>m b u ?_ q) (λb r=>h b _ r<|λl z=>nomatch z) λb xs r=>h b _ r<|λl z=>nomatch z
     rcases x with rfl|x
     ·exact hp
     ·exact M b _ x<|λl z=>nomatch z
  have I':=I.un (t':=tk) un aL;refine⟨_,i,k,(X.mg "__name__").getD .none,_,G,vs,t,rfl,u_ I' (UU _ rfl) ?_ (VZ<|Up I.lt j) (I.rg j)<|λv z=>?_,λ_ _ R=>R.tab hT D ok hc Z hv,h,cG,Z,hv⟩
  ·rw[aS<|VZ Q,aS<|p _<|I.aL.fresh j];exact I.aL.fresh j
  ·cases z
end
section
variable{X:Cx}{pins:List (Addr×Obj)}{σ:L2.St}{H:Hp}{l f:Addr}{xs:List Int}{kf:Nat->Int}
def vy(J:Inv X pins σ H s)(k:H l=aa (.lst<|xs.map V.int)):∃a:List ah,s.heap.IsList l a.toArray/\a.length=xs.length/\∀(j:Nat) (v),a[j]? =aa v->∃n t,xs[j]? =aa n/\v=.int n t:=by
 obtain⟨_,a,c,r,e⟩:=J.aL l _ k;have b:=by have:=VD r;rwa [Ua] at this
 refine⟨a,⟨_,e,rfl,c,rfl⟩,b.symm,λj v h=>?_⟩;have g:j<xs.length:=by rw[b];exact(Ub.mp h).1
 obtain⟨u,d,t,m⟩:=Paired.at r (i:=j) (x:=V.int xs[j])<|by simp[g]
 rw[h] at d;cases d;exact⟨xs[j],t,by simp[g],m⟩
def mw(B:eY X pins H b)(J:Inv X pins σ H s)(k:∀q o,q≠b->s.heap.get? q=aa o->h'.get? q=aa o):Inv X pins σ H {s with heap:=h',toks:=tk}:=
 J.turned k B.1 B.2.1 B.2.2.2.1 B.2.2.2.2.1 B.2.2.2.2.2
def jY(B:eY X pins H b)(J:Inv X p2 σ H s)(e:s.heap.get? b=aa o)(a:∀v,o.data≠.cell v):Inv X ((b,o)::p2) σ H s:=
 u_ J e B.1 B.2.1 B.2.2.1 a
def rb(J:Inv X (p::q::pins) σ H s):Inv X pins σ H s:=J.jM λr a=>J.pin r<|Uu _<|.tail _<|.tail _ a
noncomputable abbrev oV(n m:Int)(t u:Tok)(c:Nat):Obj:=seqObj "list" #[.int n t,.int m u] c
def GP(hh:X.A.handled=ae)(hl:H l=aa (.lst<|xs.map V.int))(turn:∀(i:Nat) (n:Int),xs[i]? =aa n->∀(t:Tok) (p2:List<|Addr×Obj) (s:Shared),(∀p∈pins,p∈p2)->Inv X p2 σ H s->
  wpAny (model X.prog X.w) X.A.in1 (call (.ref f) [.int n t]) (λz s'=>(∃t,z=.int (kf i) t)/\Inv X p2 σ H s') (λ_ _=>False) s)
 {R:Result->Shared->Prop} (hR:∀(i:Nat) (n:Int) (t:Tok) (s':Shared),xs[i]? =aa n->(∀j,j<xs.length->kf i<=kf j/\(j<i->kf i<kf j))->Inv X pins σ H s'->R (.ok<|.ret<|.int n t) s')
 {S I:Addr} (C:S≠I) (hS:eY X pins H S) (hI:eY X pins H I) (CZ:l≠I):
 ∀(r j i:Nat) (s:Shared) (n:Int) (t M:Tok) (c:Nat) (oI:Obj),xs.length-(j+1)=r->j+1<=xs.length->Inv X ((S,oV n (kf i) t M c)::(I,oI)::pins) σ H s->s.heap.IsListIter I l (j+1)->xs[i]? =aa n->i<=j-> (∀k,k<=j->kf i<=kf k/\(k<i->kf i<kf k))->codeAny (model X.prog X.w) X.A (.builtin "min.loop" ⟨[.ref I,.ref f,.ref S],[]⟩) R s:=by
 have nm:(toString "min"++toString ".loop":String)="min.loop":=by decide
 intro r;induction r with
 |zero=>
  intro j i s n t M c oI hr hj J K hn Qt b;obtain⟨m,hL,g,U⟩:=vy J hl;have Q:=(J.pin _<|Uu _<|.head _).1;have W:=Walks.list (prog:=X.prog) (w:=X.w) (A:=X.A.in1) hh I l CZ m.toArray;have hz:m.toArray.size=j+1:=by rw[Ul,g];omega
  refine Wn XC ?_;rw[Wo VY _];show wpAny _ X.A.in1 (seqItems? (.ref S) >>= _) _ _ _;refine T8<|XD (show s.heap.get? S=_ from Q) rfl ?_;show wpAny _ X.A.in1 (tryCatch (pyNext<|.ref I) _ >>= _) _ _ _;refine T8<|V_<|W.done _ _ _ ⟨by rw[hz];exact K,hL⟩ λh' E d=>?_
  have J1:=mw (tk:=E) hI (rb J) λq o L e=>d q o (by simpa using L) e
  have Qu:=d S _ (by simpa using C) Q;have a:=Wq h' S<|Obj.mapSeq λ_=>(#[]:Array ah)
  show wpAny _ X.A.in1 (updateSeq S (λ_=> #[]) >>= _) _ _ _;refine T8<|WU (show h'.get? S=_ from Qu) rfl<|T8<|WV<|Uk ?_;exact hR i n t _ hn (λk hk=>b k<|by omega)<|mw (tk:=E) hS J1 λq o L e=>(a.2 q L).trans e
 |succ r ih=>
  intro j i s n t M c oI hr hj J K hn Qt b;obtain⟨m,hL,g,U⟩:=vy J hl;have Q:=(J.pin _<|Uu _<|.head _).1;have W:=Walks.list (prog:=X.prog) (w:=X.w) (A:=X.A.in1) hh I l CZ m.toArray;have nu:j+1<m.toArray.size:=by rw[Ul,g];omega
  refine Wn XC ?_;rw[Wo VY _];show wpAny _ X.A.in1 (seqItems? (.ref S) >>= _) _ _ _;refine T8<|XD (show s.heap.get? S=_ from Q) rfl ?_;show wpAny _ X.A.in1 (tryCatch (pyNext<|.ref I) _ >>= _) _ _ _;refine T8<|V_<|W.item (j+1) _ _ _ nu ⟨K,hL⟩ λv h' E hP st d=>?_
  obtain⟨u,y,Z,rfl⟩:=U (j+1) v<|by simpa using hP
  obtain⟨O,xp,Y,D⟩:=id st.1;have J1:=mw (tk:=E) hI (rb J) λq o L e=>d q o (by simpa using L) e
  have J2:=jY (o:=oV n (kf i) t M c) hS (jY (o:=O) hI J1 xp λz e=>by rw[D] at e;cases e) (d S _ (by simpa using C) Q) λz e=>by cases e
  show wpAny _ X.A.in1 (tryCatch (holding [.int u y]<|call (.ref f) [.int u y]) _ >>= _) _ _ _;refine T8<|V_<|Vq<|UL (turn (j+1) u Z y _ _ (λp hp=>.tail _<|.tail _ hp) J2) (λx N he=>?_) λ_ _ z=>z.elim
  obtain⟨⟨B,rfl⟩,J3⟩:=he;have qS:=(J3.pin _<|Uu _<|.head _).1;have qI:=(J3.pin _<|Uu _<|.tail _<|.head _).1;have T:N.heap.IsListIter I l (j+1+1):=⟨O,qI,Y,D⟩;show wpAny _ X.A.in1 (tryCatch (holding [.int u y,.int (kf<|j+1) B]<|richCompare .Lt (.int (kf<|j+1) B) (.int (kf i) M) >>= _) _ >>= _) _ _ _;refine T8<|V_<|Vq<|T8<|CmpOf.ints_lt (prog:=X.prog) (w:=X.w) (A:=X.A.in1) (P:=λi v=>∃t,v=.int (kf i) t) kf (λi v h=>h) (j+1) i _ _ _ _ _ ⟨B,rfl⟩ ⟨M,rfl⟩ ?_;refine T8<|Vq<|VF<|T8<|WV<|Uk ?_;by_cases G:kf (j+1)<kf i
  ·have a:=Wq N.heap S (Obj.mapSeq λ_=> #[.int u y,.int (kf<|j+1) B]);obtain⟨c2,pA⟩:∃c2,(N.heap.update S<|Obj.mapSeq λ_=> #[.int u y,.int (kf<|j+1) B]).get? S=aa (oV u (kf<|j+1) y B c2):=⟨_,WW (show N.heap.get? S=_ from qS) λ_=> #[.int u y,.int (kf<|j+1) B]⟩;simp only[G,V7,Uv];refine T8<|WU (show N.heap.get? S=_ from qS) rfl<|T8<|WV ?_;rw[nm];have J4:=mw (tk:=N.toks) hS (rb J3)<|λq o L e=>(a.2 q L).trans e
   have J5:=jY (o:=oV u (kf<|j+1) y B c2) hS (jY (o:=O) hI J4 ((a.2 I C.symm).trans qI) λz e=>by rw[D] at e;cases e) pA λz e=>by cases e
   refine Uk ⟨V' VY _,ih (j+1) (j+1) _ u y B c2 O (by omega) (by omega) J5 ⟨O,(a.2 I C.symm).trans qI,Y,D⟩ Z (Uc _) λk hk=>?_⟩;by_cases e:k=j+1
   ·subst e;exact⟨by omega,λ_=>by omega⟩
   ·have b1:=b k (by omega);exact⟨by omega,λ_=>by omega⟩
  ·simp only[G];refine T8<|WV ?_;rw[nm];refine Uk ⟨V' VY _,ih (j+1) i _ n t M c O (by omega) (by omega) J3 T hn (by omega) λk hk=>?_⟩;by_cases e:k=j+1
   ·subst e;exact⟨by omega,λ_=>by omega⟩
   ·exact b k<|by omega
def IP{s:Shared}{E:ah->Shared->Prop}{Q:ah->Shared->Prop}(hh:X.A.handled=ae)(J:Inv X pins σ H s)(hl:H l=aa (.lst<|xs.map V.int))(P:0<xs.length)(turn:∀(i:Nat) (n:Int),xs[i]? =aa n->∀(t:Tok) (p2:List<|Addr×Obj) (s:Shared),(∀p∈pins,p∈p2)->Inv X p2 σ H s->
  wpAny (model X.prog X.w) X.A.in1 (call (.ref f) [.int n t]) (λz C=>(∃t,z=.int (kf i) t)/\Inv X p2 σ H C) (λ_ _=>False) s)
 (hQ:∀(i:Nat) (n:Int) (t:Tok) (C:Shared),xs[i]? =aa n->(∀j,j<xs.length->kf i<=kf j/\(j<i->kf i<kf j))->Inv X pins σ H C->Q (.int n t) C):
 wpAny (model X.prog X.w) X.A (call (.builtin "min") [.ref l] [(Str.ofString "key",.ref f)]) Q E s:=by
 have nm:(toString "min"++toString ".loop":String)="min.loop":=by decide
 obtain⟨N,hL,L,Qw⟩:=vy J hl;have Cr:l<s.heap.objs.size:=J.aL.lt hl;refine kmk_tree PySem.F.kind_min PySem.F.plain_min PySem.F.entry_min (kmk_min_key _ _) ?_;show wpAny _ X.A.in1 (Builtin.Builtins.bindParams "min" ["key","default"] 0 ⟨[],[(Str.ofString "key",.ref f)]⟩ >>= _) _ _ s;refine T8<|wpAny_of_eq (show Builtin.Builtins.bindParams "min" ["key","default"] 0 ⟨[],[(Str.ofString "key",.ref f)]⟩=pure [aa<|.ref f,ae] from rfl)<|T8<|Uk ?_;refine T8<|wpAny_pyIter_list hL<|T8<|wpAny_newList ?_<|UX _;rw[nm];have I0:s.heap.objs.size<(s.heap.push {cls:=.type "list_iterator",data:=.fields #[.ref l,.int 0 0]}).objs.size:=by rw[size_push'];omega
 generalize m:s.heap.objs.size=I at*;generalize T:s.heap.push {cls:=.type "list_iterator",data:=.fields #[.ref l,.int 0 0]}=h1 at*;have Qx:h1.get? I=aa {cls:=.type "list_iterator",data:=.fields #[.ref l,.int 0 0]}:=by rw[<-T,<-m];exact UU _ rfl
 have k1:∀b o,s.heap.get? b=aa o->h1.get? b=aa o:=λb o e=>by rw[<-T];exact Uw _ e
 generalize Qy:h1.objs.size=S at*;generalize K:h1.push (seqObj "list" #[] 0)=h2 at*;have O:h2.get? S=aa (seqObj "list" #[] 0):=by rw[<-K,<-Qy];exact UU _ rfl
 have k2:∀b o,h1.get? b=aa o->h2.get? b=aa o:=λb o e=>by rw[<-K];exact Uw _ e
 have Y:eY X pins H I:=J.lb (V0 m)<|J.aL.fresh<|V0 m;have G:s.heap.objs.size<=S:=by rw[m];exact VE I0
 have Z:eY X pins H S:=J.lb G<|J.aL.fresh G;have g:S≠I:=VZ I0;have U:l≠I:=UI Cr;have J0:Inv X pins σ H {s with heap:=h2}:=J.kept (t':=s.toks) λb o e=>k2 b o<|k1 b o e
 refine Uk ⟨V' VY _,Wn XC ?_⟩;rw[Wo VY _];show wpAny _ X.A.in1 (seqItems? (.ref _) >>= _) _ _ _;refine T8<|XD O rfl ?_;have W:=Walks.list (prog:=X.prog) (w:=X.w) (A:=X.A.in1) hh I l U N.toArray;have Qz:h2.IsList l N.toArray:=by obtain⟨o,e,r⟩:=hL;exact⟨o,k2 _ _<|k1 _ _ e,r⟩
 show wpAny _ X.A.in1 (tryCatch (pyNext<|.ref I) _ >>= _) _ _ _;refine T8<|V_<|W.item 0 _ _ _ (by rw[Ul,L];exact P) ⟨⟨_,k2 _ _ Qx,rfl,rfl⟩,Qz⟩ λv h' QA hP st D=>?_
 obtain⟨h,u,R,rfl⟩:=Qw 0 v<|by simpa using hP
 obtain⟨o2,xp,C0,y⟩:=id st.1;have J1:=mw (tk:=QA) Y J0 λq o hq e=>D q o (by simpa using hq) e
 have J2:=jY (o:=seqObj "list" #[] 0) Z (jY (o:=o2) Y J1 xp λz e=>by rw[y] at e;cases e) (D S _ (by simpa using g) O) λz e=>by cases e
 show wpAny _ X.A.in1 (tryCatch (holding [.int h u]<|call (.ref f) [.int h u]) _ >>= _) _ _ _;refine T8<|V_<|Vq<|UL (turn 0 h R u _ _ (λp hp=>.tail _<|.tail _ hp) J2) (λx M he=>?_) λ_ _ z=>z.elim
 obtain⟨⟨B,rfl⟩,J3⟩:=he;have qS:=(J3.pin _<|Uu _<|.head _).1;have qI:=(J3.pin _<|Uu _<|.tail _<|.head _).1;have d:=Wq M.heap S<|Obj.mapSeq λ_=> #[.int h u,.int (kf 0) B]
 obtain⟨c2,pA⟩:∃c2,(M.heap.update S<|Obj.mapSeq λ_=> #[.int h u,.int (kf 0) B]).get? S=aa (oV h (kf 0) u B c2):=⟨_,WW (show M.heap.get? S=_ from qS) λ_=> #[.int h u,.int (kf 0) B]⟩;show wpAny _ X.A.in1 (updateSeq S (λ_=> #[.int h u,.int (kf 0) B]) >>= _) _ _ _;refine T8<|WU (show M.heap.get? S=_ from qS) rfl ?_;rw[nm];have J4:=mw (tk:=M.toks) Z (rb J3)<|λq o hq e=>(d.2 q hq).trans e
 have J5:=jY Z (jY Y J4 ((d.2 I g.symm).trans qI) λz e=>by rw[y] at e;cases e) pA λz e=>by cases e
 refine Uk ⟨V' VY _,GP hh hl turn (λi n t C a b c=>hQ i n t C a b c) g Z Y U _ 0 0 _ h u B c2 o2 rfl P J5 ⟨o2,(d.2 I g.symm).trans qI,C0,y⟩ R (Uc _) λk hk=>?_⟩;have e:k=0:=by omega
 subst e;exact⟨by omega,λz=>absurd z<|Vh _⟩
end
noncomputable abbrev BM(x y g:Str)(d f a b c e:Pos):Expr:=.Call (.Name "len" d) [.Subscript (.Attribute (.Name y f) g a) (.Name x b) c] [] e
noncomputable abbrev fS(K:Fg)(H:Hp):List (Key×V)->List (Int×Nat)->Prop:=Paired λa q=>a.1=Sum.inl q.1/\∃c b,a.2=.ref c/\bH K H c b/\b.length=q.2
theorem fS.val{K:Fg}:∀{g:List (Key×V)} {L:List (Int×Nat)},fS K H g L->(g.map (·.1)).Nodup->∀{i:Nat} {n:Int} {m:Nat},L[i]? =aa (n,m)->∃d ys,cM g (Sum.inl n)=aa (.ref d)/\bH K H d ys/\ys.length=m
 |_,_,.nil,_,i,n,m,e=>by simp at e
 |_,_,.cons (a:=j) ⟨h1,d,ys,h2,h3,h4⟩ t,c,i,n,m,e=>by
  cases i with
  |zero=>cases e;exact⟨d,ys,by rw[n8 h1,h2],h3,h4⟩
  |succ i=>
   have c:=UQ.mp<|show(j.1::_).Nodup from c
   obtain⟨k,h,b,p,o⟩:=fS.val t c.2 e;refine⟨k,h,?_,p,o⟩;rw[n9 λz=>c.1 ?_]
   ·exact b
   ·obtain⟨v,s⟩:∃v,cM _ (Sum.inl n)=aa v:=⟨_,b⟩;rw[z];unfold cM at b;cases f:List.find? (λ(j:Key×V)=>ai<|j.1=Sum.inl n) _ with
    |none=>rw[f] at b;cases b
    |some w=>have r:=Xp f;have q:=Xo f;have l:=UM r;exact Um.mpr ⟨w,q,l⟩
theorem fS.keys{K:Fg}:∀{c:List (Key×V)} {L:List (Int×Nat)},fS K H c L->(c.map λk=>kV k.1)=(L.map (·.1)).map V.int
 |_,_,.nil=>rfl
 |_,_,.cons (a:=kv) (b:=q) ⟨h1,_⟩ t=>by show kV kv.1::_=V.int q.1::_;rw[h1];exact U1 _<|fS.keys t
def fS.mono{K:Fg}(h:fS K H ks L)(k:∀a ys,bH K H a ys->bH K H' a ys):fS K H' ks L:=
 Paired.mS (λ_ _ ⟨b,a,ys,c,h3,d⟩=>⟨b,a,ys,c,k a ys h3,d⟩) h
def KV.keys{a:List (Key×V)}(h:KV a vs):a.map (·.1)=vs.map (·.1):=by
 induction h with
 |nil=>rfl
 |cons h _ b=>exact congr (U1 List.cons h.1) b
noncomputable def jG(L:List<|Int×Nat)(j:Nat):Int:=(((L.map (·.2)).getD j 0:Nat):Int)
noncomputable def A5(L:List<|Int×Nat)(i:Nat):Prop:=∀j,j<L.length->jG L i<=jG L j/\(j<i->jG L i<jG L j)
section
variable{X:Cx}{i:Nat}{x y g:Str}{c0 P:Addr}{scope:Scope}{params:Arguments}{q1 q2 q3 q4 q5 q6 p1 p2 p3 p4 vY kp o4 pos:Pos}
noncomputable def Nt(K:Fg)(i:Nat)(g:Str):TE:=λk H Q=>∃f C h e d a L,k[i]? =aa (aa<|.ref f)/\H f=aa (.ins C h e)/\eJ K C/\fq K C g/\e.lookup g=aa (.ref d)/\H d=aa (.dK a)/\fS K H a L/\0<L.length/\Tb K H/\
 ∀j n m q b,L[j]? =aa (n,m)->A5 L j->H q=ae->(∀c M,Rel K c M (upd H q (.lst ((L.map (·.1)).map V.int)))->Rel K c M b)->Q (.int n) b
def K9{k:Nat}(hr:bY k X.A)(hT:PySem.W.tabIn X.K gF=aa (c0,P))(CK:j5 X.K c0 P)(hb:iV X.mg X.base)(S:X.env.code=.ref c0)(hq:X.env.qual++"<lambda>"=dC)(LS:o5 scope x y)(jx:∀c,X.env.cells.lookup y=aa c->closureFor scope X.env=pure [(y,c)])(Nu:defaultsOf params X.env=([],[]))(U:∀body cl pm cd sC v,bindArgs (PySem.W.kla_fn "<lambda>" dC params body scope cl pm cd sC) ⟨[v],[]⟩=pure [(x,v)])(hlen:X.mg "len"=ae)(Nv:X.mg "min"=ae)(Mj:X.mg "list"=ae)(pk:Gl X "min")(rN:Gl X "list")(xq:scope.names.lookup ("len":Str)=aa .globalImplicit)(hN:X.N[i]? =aa y)(hy:X.env.scope.names.lookup y=aa .cell)(dy:(y==("__debug__":Str))=ag)(cy:(y==("__classdict__":Str))=ag)(dx:(x==("__debug__":Str))=ag)(cx:(x==("__classdict__":Str))=ag):
 PE X (.Call (.Name "min" p1) [.Call (.Name "list" p2) [.Attribute (.Name y p3) g p4] [] o4] [⟨aa "key",.Lambda params (BM x y g q1 q2 q3 q4 q5 q6) scope vY,kp⟩] pos) (Nt X.K i g):=by
 intro pins s σ H Q I h;obtain⟨D,C,G,gs,R,ks,L,sD,ho,cl,na,lk,hd,hL,h0,tb,q⟩:=h;refine V2<|kR I pk Nv (show bootBuiltins "min"=aa (.builtin "min") by kernel_rfl) ?_;refine callWith_kw ?_;have pe:=x9 (X:=X) (p:=p2) (pos:=o4) (DY hr.hd) rN Mj (show bootBuiltins "list"=aa (.type "list") by kernel_rfl)<|f9 (vd (f:=g) (pos:=p4) (mx (X:=X) (pos:=p3) hN (.inr<|.inl hy) dy cy) rfl) iG;have pa:=f9 pe iG;refine aQ (pa pos pins s σ H (λvs H1=>∃r,vs=[.ref r]/\H r=ae/\H1=upd H r (.lst ((L.map (·.1)).map V.int))) I ?_) λus s1 ⟨vs,H1,I1,rv,r,e1,l,e2⟩=>?_
 ·refine⟨.ref D,sD,D,C,G,gs,.ref R,rfl,ho,cl,na,lk,R,ks,rfl,hd,λr l=>⟨r,rfl,l,?_⟩⟩;rw[fS.keys hL]
 subst e1 e2;obtain⟨u0,rfl,QB⟩:=vals1 rv;cases QB;have Nw:upd H r (.lst ((L.map (·.1)).map V.int)) D=aa (.ins C G gs):=by rw[aS<|dJ ho l];exact ho
 have Nx:upd H r (.lst ((L.map (·.1)).map V.int)) R=aa (.dK ks):=by rw[aS<|dJ hd l];exact hd
 have w:∀{p2:List (Addr×Obj)} {H3:Hp} {s3:Shared},Inv X p2 σ H3 s3->∃u c,RelV (.ref D) u/\X.env.cells.lookup y=aa c/\s3.heap.IsCell c (aa u):=λJ=>by
  obtain⟨m,_,Ny⟩:=J.loc;obtain⟨u,ru,look⟩:=Ny i y (.ref D) hN sD<|.inr<|.inl hy;rcases look with⟨z,_⟩|⟨_,c,e,z⟩
  ·have z:X.env.scope.names.lookup y=aa .local:=z;rw[hy] at z;cases z
  ·exact⟨u,c,ru,e,z⟩
 obtain⟨_,c,_,hc,_⟩:=w I1;obtain⟨ps,hP,ok⟩:=(tb.new (u:=.lst ((L.map (·.1)).map V.int)) l) c0 P hT;refine kws_cons<|UL (GO (E:=X.xe) I1 hT CK hb S (jx c hc) hq Nu hP ok) (λz s2 made=>kws_nil ?_) λ_ _ e=>e
 obtain⟨f,c',sC,pm,Z,oc,QC,t,rfl,I2,Nz,d,pD,QD,QE⟩:=made;have QF:Z r=aa (.lst ((L.map (·.1)).map V.int)):=d r _ cG<|λps z=>nomatch z
 have NA:Z D=aa (.ins C G gs):=d D _ Nw<|λps z=>nomatch z
 have O:Z R=aa (.dK ks):=d R _ Nx<|λps z=>nomatch z
 have QG:∀M ys,bH X.K H M ys->bH X.K Z M ys:=λM ys hs=>by
  rcases hs with(z|⟨o,z⟩)|z
  ·exact .inl<|.inl<|d M _ (by rw[aS<|dJ z l];exact z)<|λps z=>nomatch z
  ·exact .inl<|.inr ⟨o,d M _ (by rw[aS<|dJ z l];exact z)<|λps z=>nomatch z⟩
  ·exact .inr z
 have QH:=fS.mono hL QG;refine IP (X:=X) (xs:=L.map (·.1)) (kf:=jG L) hr.hd I2 QF (by rw[Ua];exact h0) (λj n B t2 SU s3 NC J=>?_) λj n t2 s3 B best J=>?_
 ·obtain⟨u,c2,ru,e2,Y⟩:=w J;rw[hc] at e2;cases e2;obtain⟨⟨T,m⟩,F,e3⟩:∃q,L[j]? =aa q/\q.1=n:=by
   rw[U7] at B;cases e:L[j]? with
   |none=>rw[e] at B;cases B
   |some q=>rw[e] at B;exact⟨q,rfl,Ug B⟩
  have e3:T=n:=e3;subst e3;have nd:(ks.map (·.1)).Nodup:=by obtain⟨_,_,vs,kv,o,es,ep,_,_,_,_,_,nd⟩:=J.aL R _ O;rw[KV.keys kv];exact nd
  obtain⟨M,ys,v1,v2,v3⟩:=fS.val QH nd F;have hm:jG L j=(m:Int):=by unfold jG;simp[List.getD,F]
  rw[hm];have QI:(pI X scope f c' [(y,c)] [x,y] s3 Z).A.units+1<cLine:=by have:=hr.un;show X.A.units+1+3+1<cLine;omega
  refine GN (a:=.ref D) (b:=.int T) LS J hr hc Y ru ⟨t2,rfl⟩ (J.pin _<|Uu _<|NC _<|.head _).1 ⟨c',oc,QC,t,rfl,(J.aL c' _ pD).1,QD,QE⟩ (U _ _ _ _ _ _) (qi xw xq hlen PySem.boot_len<|f9 (zL QI (vd (mx (i:=1) rfl (.inr<|.inr LS.CY) dy cy) rfl) (mx (i:=0) rfl (.inl LS.loc) dx cx)<|λ_ _=>rfl) iG) ?_
  refine⟨.ref D,rfl,D,C,G,gs,.ref R,rfl,NA,cl,na,lk,.int T,rfl,R,.ref M,rfl,?_,M,ys,rfl,.inl v2,by rw[v3],rfl⟩;rw[<-v1];exact fy.k (k:=Sum.inl T) O
 ·obtain⟨⟨T,m⟩,F,e3⟩:∃q,L[j]? =aa q/\q.1=n:=by
   rw[U7] at B;cases e:L[j]? with
   |none=>rw[e] at B;cases B
   |some q=>rw[e] at B;exact⟨q,rfl,Ug B⟩
  subst e3;refine⟨.int T,Z,J.jM λp hp=>J.pin p<|Uu _<|.tail _ hp,⟨t2,rfl⟩,q j T m r Z F (λk hk=>best k (by rw[Ua];exact hk)) l Nz⟩
end
noncomputable abbrev iO(M:VM.Mem):List (Int×VM.W)->List (Int×Nat)->Prop:=Paired λa q=>a.1=q.1/\∃b,VM.a8 M a.2=aa b/\b.length=q.2
theorem t7:∀{r:List (Int×VM.W)} {k:Int} {n:Nat} {f:Int},gH M k n r=aa f->
 ∃L:List (Int×Nat),iO M r L/\((f=k/\∀q∈L,n<=q.2)\/∃(j m:Nat),L[j]? =aa (f,m)/\m<n/\∀(i) (q),L[i]? =aa q->m<=q.2/\(i<j->m<q.2))
 |[],k,n,f,h=>⟨[],.nil,.inl ⟨(Ug h).symm,λq g=>nomatch g⟩⟩
 |(i,v)::r,k,n,f,h=>by
  unfold gH at h;cases e:VM.a8 M v with
  |none=>rw[e] at h;cases h
  |some xs=>
   rw[e] at h;have h:(if xs.length<n then gH M i xs.length r else gH M k n r)=aa f:=h;by_cases c:xs.length<n
   ·rw[T5 c] at h;obtain⟨L,o,d⟩:=t7 h;refine⟨(i,xs.length)::L,.cons ⟨rfl,xs,e,rfl⟩ o,.inr ?_⟩;rcases d with⟨rfl,d⟩|⟨j,m,p,l,s⟩
    ·refine⟨0,xs.length,rfl,c,λa q b=>?_⟩;cases a with
     |zero=>have b:=b
            cases b;exact⟨Uc _,λz=>absurd z<|Vh _⟩
     |succ a=>exact⟨d q<|U8<|by simpa using b,λz=>by omega⟩
    ·refine⟨j+1,m,by simpa using p,by omega,λa q b=>?_⟩;cases a with
     |zero=>have b:=b
            cases b;exact⟨VE l,λ_=>l⟩
     |succ a=>have:=s a q (by simpa using b);exact⟨this.1,λz=>this.2<|by omega⟩
   ·rw[T6 c] at h;obtain⟨L,o,d⟩:=t7 h;refine⟨(i,xs.length)::L,.cons ⟨rfl,xs,e,rfl⟩ o,?_⟩;rcases d with⟨rfl,d⟩|⟨j,m,p,l,s⟩
    ·exact .inl ⟨rfl,λq g=>by
      rcases T7.mp g with rfl|g
      ·exact V4 c
      ·exact d q g⟩
    ·refine .inr ⟨j+1,m,by simpa using p,l,λa q b=>?_⟩;cases a with
     |zero=>have b:=b
            cases b;exact⟨by omega,λ_=>by omega⟩
     |succ a=>have:=s a q (by simpa using b);exact⟨this.1,λz=>this.2<|by omega⟩
def qV(h:L[j]? =aa q):jG L j=(q.2:Int):=by unfold jG;simp[h]
def E8(h:VM.minD M kvs=aa k):∃L:List (Int×Nat),iO M kvs L/\0<L.length/\∀(j) (n) (m),L[j]? =aa (n,m)->A5 L j->n=k:=by
 cases kvs with
 |nil=>cases h
 |cons p r=>
  obtain⟨i,v⟩:=p;have h:(match VM.a8 M v with|some xs=>gH M i xs.length r|none=>ae)=aa k:=h;cases e:VM.a8 M v with
  |none=>rw[e] at h;cases h
  |some xs=>
   rw[e] at h;obtain⟨L,t,g⟩:=t7 h;refine⟨(i,xs.length)::L,.cons ⟨rfl,xs,e,rfl⟩ t,Wm _,λj n m d o=>?_⟩;have u:∀{a:Nat} {q:Int×Nat},((i,xs.length)::L)[a]? =aa q->a<((i,xs.length)::L).length:=λx=>(Ub.mp x).1
   rcases g with⟨rfl,g⟩|⟨b,w,l,B,y⟩
   ·cases j with
    |zero=>have d:=d
           cases d;rfl
    |succ j=>
     have q:=(o 0<|Wm _).2<|Wm _;rw[qV d,qV rfl] at q;have:=g (n,m)<|U8<|by simpa using d
     omega
   ·have s:((i,xs.length)::L)[b+1]? =aa (k,w):=by simpa using l
    have q:=o (b+1)<|u s;rw[qV d,qV s] at q;cases j with
    |zero=>cases d;omega
    |succ j=>
     have f:=by simpa using d
     have z:=y j (n,m) f;by_cases c:j<b
     ·have:=z.2 c;omega
     ·by_cases A:b<j
      ·have:=q.2 (by omega);omega
      ·have:j=b:=by omega
       subst this;rw[l] at f;cases f;rfl
theorem iO.BN{K:Fg}(R:Rel K ι M H):∀{kvs:List (Int×VM.W)} {a:List (Key×V)} {L:List (Int×Nat)},dI ι kvs a->iO M kvs L->fS K H a L
 |_,_,_,.nil,.nil=>.nil
 |_,_,_,.cons ⟨b,e⟩ t,.cons ⟨g1,xs,g2,g3⟩ h=>by obtain⟨p,g,c,f,d⟩:=R.a8 g2 e;exact .cons ⟨by rw[b,g1],p,g,c,f,by rw[<-Paired.len d];exact g3⟩<|iO.BN R t h
theorem iO.keys:∀{kvs:List (Int×VM.W)} {L:List (Int×Nat)},iO M kvs L->bq ι (kvs.map λkv=>VM.W.int kv.1) ((L.map (·.1)).map V.int)
 |_,_,.nil=>.nil
 |_,_,.cons ⟨a,_⟩ t=>.cons (by show V.int _=V.int _;rw[a])<|iO.keys t
section
variable{X:Cx}{i:Nat}{x y g:Str}{c0 P:Addr}{scope:Scope}{params:Arguments}{q1 q2 q3 q4 q5 q6 p1 p2 p3 p4 vY kp o4 pos:Pos}{cn f:List Nat}{C:Addr}
def K_{k:Nat}(hr:bY k X.A)(T:js X.K cn C)(hn:fq X.K C g)(hg:g=txt f)(hT:PySem.W.tabIn X.K gF=aa (c0,P))(CK:j5 X.K c0 P)(hb:iV X.mg X.base)(t:X.env.code=.ref c0)(hq:X.env.qual++"<lambda>"=dC)(LS:o5 scope x y)(jx:∀c,X.env.cells.lookup y=aa c->closureFor scope X.env=pure [(y,c)])(G:defaultsOf params X.env=([],[]))(u:∀F cl pm cd sC v,bindArgs (PySem.W.kla_fn "<lambda>" dC params F scope cl pm cd sC) ⟨[v],[]⟩=pure [(x,v)])(hlen:X.mg "len"=ae)(E:X.mg "min"=ae)(B:X.mg "list"=ae)(pk:Gl X "min")(rN:Gl X "list")(xq:scope.names.lookup ("len":Str)=aa .globalImplicit)(hN:X.N[i]? =aa y)(hy:X.env.scope.names.lookup y=aa .cell)(dy:(y==("__debug__":Str))=ag)(cy:(y==("__classdict__":Str))=ag)(dx:(x==("__debug__":Str))=ag)(cx:(x==("__classdict__":Str))=ag):
 SE X (.Call (.Name "min" p1) [.Call (.Name "list" p2) [.Attribute (.Name y p3) g p4] [] o4] [⟨aa "key",.Lambda params (BM x y g q1 q2 q3 q4 q5 q6) scope vY,kp⟩] pos) (oN<|aT cn f<|aj i):=by
 refine⟨_,K9 hr hT CK hb t hq LS jx G u hlen E B pk rN xq hN hy dy cy dx cx,λr M H σ τ Q R S h=>?_⟩;subst hg;unfold oN aT aj at h;cases e:σ[i]? with
 |none=>rw[e] at h;exact(h).elim
 |some o=>
  cases o with
  |none=>rw[e] at h;exact(h).elim
  |some w=>
   rw[e] at h;obtain⟨o',V,v,rfl,rv⟩:=Paired.at S e;have s:ay RV X.K r ((oY cn f w M).bind λx M1=>match VM.bC M1 x with|some (_,d)=>(match VM.minD M1 d with|some k=>.ok (.int k) (M1++[.lst<|d.map λl=>.int l.1])|none=>.bad)|none=>.bad) Q:=h;unfold oY at s;cases e2:VM.eo M w with
   |none=>rw[e2] at s;exact(s).elim
   |some z=>
    obtain⟨a,D,fs⟩:=z;rw[e2] at s;obtain⟨sp,C',QJ,gs,_,ha,hm,rfl,hC,hp,rf⟩:=R.eo e2 rv;by_cases hc:D=cn
    ·subst hc;rw[T.at_] at hC;cases hC;rcases rf.get f with⟨Z,_⟩|⟨w2,v2,Z,e4,QK⟩
     ·have p:ay RV X.K r ((if D=D then(match cP f fs with|some v=>VM.R.ok v M|none=>.bad) else .bad).bind _) Q:=s;rw[T5 rfl,Z] at p;exact(p).elim
     ·have p:ay RV X.K r ((if D=D then(match cP f fs with|some v=>VM.R.ok v M|none=>.bad) else .bad).bind _) Q:=s;rw[T5 rfl,Z] at p;have h3:ay RV X.K r (match VM.bC M w2 with|some (_,d)=>(match VM.minD M d with|some k=>.ok (.int k) (M++[.lst<|d.map λl=>.int l.1])|none=>.bad)|none=>.bad) Q:=p;cases Y:VM.bC M w2 with
      |none=>rw[Y] at h3;exact(h3).elim
      |some z=>
       obtain⟨b,d⟩:=z;rw[Y] at h3;have O:ay RV X.K r (match VM.minD M d with|some k=>.ok (.int k) (M++[.lst<|d.map λl=>.int l.1])|none=>.bad) Q:=h3;obtain⟨dp,ks,rfl,nr,SX,rfl,hd,rk⟩:=R.bC Y QK;cases e6:VM.minD M d with
       |none=>rw[e6] at O;exact(O).elim
       |some kk=>
        rw[e6] at O;obtain⟨L,vl,h0,J⟩:=E8 e6;refine⟨sp,C,QJ,gs,dp,ks,L,V,hp,T.cl,hn,e4,hd,iO.BN R rk vl,h0,R.tb,λj n m q H' ej hj U I=>?_⟩;rw[J j n m ej hj];have R2:=I (r++[q]) (M++[.lst<|d.map λl=>.int l.1])<|R.new (o:=.lst<|d.map λl=>.int l.1) U λcK pre=>⟨_,cG,iO.keys vl⟩
        exact O (r++[q]) H' (.int kk) ⟨[q],rfl⟩ R2 rfl
    ·have p:ay RV X.K r ((if D=cn then(match cP f fs with|some v=>VM.R.ok v M|none=>.bad) else .bad).bind _) Q:=s;rw[T6 hc] at p;exact(p).elim
end
open PySem PySem.Spec PyProof.Rows L2 PySem.W
open PySem.AutoSeq1 (wpAny_loadPart')
open PySem.MeetsSeq3 (entry_eq_loop plain_eq_loop)
section
variable{prog:Program}{w:World}{A:Around}{E:ah->Shared->Prop}{a b:Addr}
noncomputable abbrev jZ(vs:List ah)(c:List Int):Prop:=Vals (c.map V.int) vs
def zu(h:jZ vs ns):ns.length=vs.length:=by have:=VD h;rwa [Ua] at this
def Av(h:jZ vs ns){i:Nat}(hi):∃t,vs[i]? =aa (.int ns[i] t):=by
 obtain⟨u,c,t,d⟩:=Paired.at h (i:=i) (x:=V.int ns[i])<|by simp[hi]
 exact⟨t,by rw[c,d]⟩
def GQ:VM.ltI (x::xs) (y::ys)=if x=y then VM.ltI xs ys else ai (x<y):=rfl
def IQ{R:Result->Shared->Prop}{s:Shared}{vs o:List ah}{f c:List Int}{n P:Nat}{M v:Option Addr}{O x:Array (Option ah)}(q:s.heap.get? a=aa {cls:=.type "list",dict:=M,data:=.seq vs.toArray n,slots:=O})(t:s.heap.get? b=aa {cls:=.type "list",dict:=v,data:=.seq o.toArray P,slots:=x})(I:jZ vs f)(D:jZ o c):
 ∀(k i:Nat),f.length-i=k->i<=f.length->i<=c.length->R (.ok<|.ret<|.bool<|VM.ltI (f.drop i)<|c.drop i) s->codeAny (model prog w) A (.builtin "list.__eq__.loop" ⟨[.ref a,.ref b,rawInt i,rawInt 0],[]⟩) R s:=by
 have H:=zu I;have F:=zu D;obtain⟨X,g,d,V,W⟩:=s;intro k;induction k with
 |zero=>
  intro i T L Q h;refine Wn entry_eq_loop ?_;rw[Wo plain_eq_loop _]
  wp_walk using Vf q,Vf t
  have l:vs.toArray[((i:Nat):Int).toNat]? =ae:=by simp;omega
  rw[l]
  wp_walk using Vf q,Vf t
  show R (.ok<|.ret<|.bool<|ai<|vs.toArray.size<o.toArray.size) _;have u:f.drop i=[]:=XE<|by omega
  have B:VM.ltI (f.drop i) (c.drop i)=ai (vs.toArray.size<o.toArray.size):=by
   rw[u,Ul,Ul,<-H,<-F];cases e:c.drop i with
   |nil=>have:c.length<=i:=List.drop_eq_nil_iff.mp e;exact(Uy<|by omega).symm
   |cons y U=>
    have:i<c.length:=by apply Xz;intro z;rw[XE<|by omega] at e;cases e
    exact(UR<|by omega).symm
  rw[B] at h;exact h
 |succ k S=>
  intro i T L Q h;refine Wn entry_eq_loop ?_;rw[Wo plain_eq_loop _]
  wp_walk using Vf q,Vf t
  have p:i<f.length:=by omega
  obtain⟨K,u⟩:=Av I p;have l:vs.toArray[((i:Nat):Int).toNat]? =aa (.int f[i] K):=by simpa using u
  have G:f.drop i=f[i]::f.drop (i+1):=V6 p;rw[l];by_cases m:i<c.length
  ·obtain⟨J,B⟩:=Av D m;have j:o.toArray[((i:Nat):Int).toNat]? =aa (.int c[i] J):=by simpa using B
   have C:c.drop i=c[i]::c.drop (i+1):=V6 m;have N:((i:Int)+1)=((i+1:Nat):Int):=by push_cast;rfl
   rw[j];rw[G,C,GQ] at h;refine T8<|wpAny_eqBool_int ?_;by_cases e:f[i]=c[i]
   ·rw[T5 e] at h;rw[e,VX]
    wp_walk
    rw[N];exact⟨V' plain_eq_loop _,S (i+1) (by omega) (by omega) (by omega) h⟩
   ·rw[T6 e] at h;rw[Vm.mpr e]
    wp_walk using Vf q,Vf t
    rw[l,j];show wpAny _ _ (compareOp .Lt (.int f[i] K) (.int c[i] J) >>= λr=>ret r) _ _ _;exact T8<|lt_int<|Uk h
  ·have j:o.toArray[((i:Nat):Int).toNat]? =ae:=by simp;omega
   rw[j]
   wp_walk using Vf q,Vf t
   show R (.ok<|.ret<|.bool<|ai<|vs.toArray.size<o.toArray.size) _;have C:c.drop i=[]:=XE<|by omega
   rw[G,C] at h;rw[Uy (by rw[Ul,Ul,<-H,<-F];omega)];exact h
def zw{h:Heap}(x:h.IsList a xs):∃f n d,h.get? a=aa {cls:=.type "list",dict:=f,data:=.seq xs n,slots:=d}:=by obtain⟨⟨c,f,j,d⟩,e,g,n,i⟩:=x;cases g;cases i;exact⟨f,n,d,e⟩
def E9{vs j:List ah}{k i:List Int}{n m:Nat}{o c:Option Addr}(l:jZ vs k)(p:jZ j i):
 Meets (Builtin.«list.__lt__» ⟨[.ref a,.ref b],[]⟩) (λ_ R s=>s.heap.get? a=aa {cls:=.type "list",dict:=o,data:=.seq vs.toArray n,slots:=sl}/\s.heap.get? b=aa {cls:=.type "list",dict:=c,data:=.seq j.toArray m,slots:=CG}/\R (.ok<|.ret<|.bool<|VM.ltI k i) s):=by
 intro prog w A R s h;obtain⟨u,g,d,q,r⟩:=s;obtain⟨e,f,h⟩:=h;have t:=AutoSeq1.sub_list_list
 wp_walk using Vf e,Vf f
 exact⟨V' plain_eq_loop _,IQ e f l p _ 0 rfl (UX _) (UX _) h⟩
def IS(g:A.units<cLine)(m:s.heap.IsList a vs.toArray)(i:s.heap.IsList b us.toArray)(e:jZ vs ns)(l:jZ us ms)(h:Q (VM.ltI ns ms) s):
 wpAny (model prog w) A (keyLt' oneType' (.ref a)<|.ref b) Q E s:=by
 obtain⟨q,n,o,c⟩:=zw m;obtain⟨k,p,f,j⟩:=zw i;rw[keyLt'_oneType,oneLt'_eq];simp only[Uv];refine T8<|wpAny_cRoomFor g ?_;have d:s.TypeIs (.ref a) "list":=⟨_,c,rfl⟩;refine T8<|wpAny_callSpecialIfBound?_slot d X8<|VP X8 d PySem.F.entry_list_lt (PySem.F.args_list_lt_2 _ _) (E9 e l) ⟨c,j,?_⟩;exact VF h
def IT:kas_sort 2=.ask 1 0 λc=>if c=af then .ret #[1,0] else .ret #[0,1]:=by unfold kas_sort;show KasT.ask 1 0 _=_;congr 1;funext c;cases c<;>rfl
end
section
variable{prog:Program}{w:World}{A:Around}{E:ah->Shared->Prop}
noncomputable def gU(c:Bool)(vs:List ah):List ah:=if c=af then[vs.getD 1 .none,vs.getD 0 .none] else vs
def GR{s:Shared}{a:Addr}{vs:List ah}{n:Nat}{c:Bool}{P:PySem.Fin->Shared->Prop}(D:s.heap.get? a=aa (seqObj "list" vs.toArray n))(W:vs.length<=2)(T:vs.length<=1->c=ag)(ty:vs.length=2->∀v∈vs,∃r,v=.ref r/\r≠a/\s.TypeIs v "list")(ask:vs.length=2->∀(h:Heap) (Q:Bool->Shared->Prop),(∀b o,b≠a->s.heap.get? b=aa o->h.get? b=aa o)->Q c {s with heap:=h}->wpAny (model prog w) A (keyLt' oneType' (vs.getD 1 .none)<|vs.getD 0 .none) Q (λ_ _=>False) {s with heap:=h})(h:∀(h':Heap) (m:Nat),(∀b o,b≠a->s.heap.get? b=aa o->h'.get? b=aa o)->h'.get? a=aa (seqObj "list" (gU c vs).toArray m)->P (.done<|.ret .none) {s with heap:=h'}):
 wpAny (model prog w) A (Builtin.«list.sort» ⟨[.ref a],[]⟩) P E s:=by
 have la:a<s.heap.objs.size:=Ur D;have k:=Wq s.heap a<|Obj.mapSeq λ_=>(#[]:Array ah)
 obtain⟨q,K⟩:∃q,(s.heap.update a<|Obj.mapSeq λ_=>(#[]:Array ah)).get? a=aa (seqObj "list" #[] q):=⟨_,WW D λ_=> #[]⟩;generalize H:s.heap.update a (Obj.mapSeq λ_=>(#[]:Array ah))=g1 at*;have k1:∀b o,b≠a->s.heap.get? b=aa o->g1.get? b=aa o:=λb o t e=>(k.2 b t).trans e
 rw[list_sort_plain];refine T8<|listItems_at D rfl<|T8<|listUpdate_at D rfl ?_ (by rw[Ul,VG];omega)<|UX _;rw[H];refine T8<|seqEpoch_at K rfl<|T8<|wpAny_newTuple ?_ (by show vs.length<=_;rw[VG];omega);refine T8<|wpAny_newList (Vq ?_)<|UX _;have k2:∀b o,g1.get? b=aa o->((g1.push<|seqObj "tuple" vs.toArray 0).push<|seqObj "list" #[] 0).get? b=aa o:=λb o e=>Uw _<|Uw _ e
 show wpAny (model prog w) A _ P E {s with heap:=(g1.push<|seqObj "tuple" vs.toArray 0).push (seqObj "list" #[] 0)};generalize (g1.push<|seqObj "tuple" vs.toArray 0).push (seqObj "list" #[] 0)=g3 at k2⊢;have B:=k2 _ _ K;have j:=Wq g3 a<|Obj.mapSeq λ_=>(gU c vs).toArray
 obtain⟨F,Z⟩:∃F,(g3.update a<|Obj.mapSeq λ_=>(gU c vs).toArray).get? a=aa (seqObj "list" (gU c vs).toArray F):=⟨_,WW B λ_=>(gU c vs).toArray⟩;have hz:(gU c vs).length<=2:=by
  unfold gU;split
  ·exact Uc 2
  ·exact W
 have z:=h (g3.update a<|Obj.mapSeq λ_=>(gU c vs).toArray) F (λb o t e=>(j.2 b t).trans<|k2 b o<|k1 b o t e) Z;dsimp only;by_cases d:vs.toArray.size<2
 ·have J:c=ag:=T (by rw[Ul] at d;omega);subst J;rw[T5 d,T5 d];refine T8<|Uk<|T8<|Uk ?_;have f:(arrOf<|SortSt.mk' general' (vs.toArray.zip vs.toArray) #[] 7 ae).map (·.2)=(gU ag vs).toArray:=by show(vs.toArray.zip vs.toArray).map (·.2)=vs.toArray;apply Array.toList_inj.mp;simp only[Array.toList_map,Array.toList_zip];exact List.map_snd_zip<|Uc _
  dsimp only;rw[f];refine T8<|seqEpoch_at B rfl<|T8<|listUpdate_at B rfl ?_ (UX _) (by rw[Ul,VG];omega);show wpAny _ _ (if(q != q)=af then _ else _) _ _ _;rw[bne_self_eq_false];exact Uk z
 ·have C:vs.length=2:=by rw[Ul] at d;omega
  rw[T6 d,T6 d];have V:∀v∈vs,Looks (model prog w) g3 (typeOf v) (.type "list"):=λv X=>by obtain⟨r,rfl,M,o,U,N⟩:=ty C v X;exactλA' Q' E' l Y O=>wpAny_typeOf ⟨o,Y _ _<|k2 _ _<|k1 _ _ M U,N⟩ O
  refine T8<|kas_kind (s:={s with heap:=g3}) (V0 C.symm) V rfl rfl ?_;have I:SortSt.mk' oneType' (vs.toArray.zip vs.toArray) #[] 7 ae=kas_st oneType' (pairsOf vs) (List.toArray<|List.range 2):=by have e:=kas_range<|pairsOf vs;rw[pairsOf_size,C] at e;show SortSt.mk' oneType' (pairsOf vs) #[] 7 ae=SortSt.mk' oneType' ((List.toArray<|List.range 2).map<|kas_item<|pairsOf vs) #[] 7 ae;rw[e]
  have u:=kas_runs (prog:=prog) (w:=w) (A:=A) (E:=E) (κ:=oneType') (it:=pairsOf vs) (n:=2) (s:={s with heap:=g3}) (G:=λp l=>l={s with heap:=g3}/\p.toList.map (λi=>vs.getD i .none)=gU c vs) (Q:=λ_ g l=>l={s with heap:=g3}/\failedOf g=ae/\(arrOf g).map (·.2)=(gU c vs).toArray) (Uc 2) (by decide) (λp g l a1 R S L=>⟨L.1,S,by
    apply Array.toList_inj.mp;rw[R,Array.map_map,Array.toList_map,<-L.2];exact Wj λi _=>by show(kas_item (pairsOf vs) i).2=_;rw[kas_item_eq]⟩) (by
    rw[IT,<-kas_ask_eq];refine ask C g3 _ (λb o t e=>k2 b o<|k1 b o t e) ?_;match vs,C with
    |[x,y],_=>
     cases c with
     |true=>exact⟨rfl,rfl⟩
     |false=>exact⟨rfl,rfl⟩)
  rw[<-I] at u;refine T8<|UL u ?_ λ_ _ e=>e
  rintro⟨⟨⟩,g⟩ l ⟨rfl,hf,f⟩;dsimp only;rw[f];refine T8<|seqEpoch_at B rfl<|T8<|listUpdate_at B rfl ?_ (UX _) (by rw[Ul,VG];omega);rw[hf];show wpAny _ _ (if(q != q)=af then _ else _) _ _ _;rw[bne_self_eq_false];exact Uk z
def xZ(n:s.heap.IsList l vs.toArray)(z:vs.length<=2)(p:vs.length<=1->c=ag)(ty:vs.length=2->∀v∈vs,∃r,v=.ref r/\s.TypeIs v "list")(ask:vs.length=2->∀(h) (Q),(∀b o,s.heap.get? b=aa o->h.get? b=aa o)->Q c {s with heap:=h}->wpAny (model prog w) A.in1.in1 (keyLt' oneType' (vs.getD 1 .none)<|vs.getD 0 .none) Q (λ_ _=>False) {s with heap:=h})(B:∀(h') (D m),(∀b o,s.heap.get? b=aa o->h'.get? b=aa o)->s.heap.objs.size<=D->h'.get? D=aa (seqObj "list" (gU c vs).toArray m)->Q (.ref D) {s with heap:=h'}):
 wpAny (model prog w) A (call (.builtin "sorted") [.ref l]) Q E s:=by
 refine Calls.call_function_entry kind_sorted plain_sorted entry_sorted (args_sorted1 _) ?_;unfold Builtin.«sorted»;refine T8<|Uk<|T8<|collect_list n ?_ (by rw[VG];omega);refine T8<|wpAny_newList ?_ (by rw[VG];omega);have x:((s.heap.push<|seqObj "list" #[] 0).update s.heap.objs.size (Obj.mapSeq (·++vs.toArray))).objs.size=s.heap.objs.size+1:=by rw[Heap.size_update,size_push']
 have d:∀b o,s.heap.get? b=aa o->((s.heap.push<|seqObj "list" #[] 0).update s.heap.objs.size (Obj.mapSeq (·++vs.toArray))).get? b=aa o:=λb o q=>by have j:=Ur q;rw[Heap.get?_update_ne _ _ _ _<|UI j,Heap.get?_push_ne _ _ _<|UI j];exact q
 generalize (s.heap.push<|seqObj "list" #[] 0).update s.heap.objs.size (Obj.mapSeq (·++vs.toArray))=g1 at x d⊢;have i:(g1.push<|seqObj "list" vs.toArray 0).get? g1.objs.size=aa (seqObj "list" vs.toArray 0):=UU _ rfl;have k2:∀b o,s.heap.get? b=aa o->(g1.push<|seqObj "list" vs.toArray 0).get? b=aa o:=λb o e=>Uw _<|d b o e
 have f:s.heap.objs.size<=g1.objs.size:=by omega
 have a:∀b o,s.heap.get? b=aa o->b≠g1.objs.size:=λb o e=>UI<|Up (Ur e) f
 refine T8<|Vq<|wpAny_call_entry slot_list_sort ⟨_,i,rfl⟩ entry_list_sort ?body (args_list_sort _)
 case body=>
  refine GR i z p (λe v y=>?_) (λe h t k q=>?_) λh' m k e=>?_
  ·obtain⟨r,rfl,o,g,u⟩:=ty e v y;exact⟨r,rfl,a _ _ g,o,k2 _ _ g,u⟩
  ·exact ask e h t (λb o e=>k b o (a b o e)<|k2 b o e) q
  ·exact⟨_,rfl,Uk ⟨_,rfl,B h' _ m (λb o e=>k b o (a b o e)<|k2 b o e) f e⟩⟩
end
section
variable{X:Cx}
def Dv(N:bY k X.A):hV X (.builtin "sorted") (λxs H Q=>∃p ys,xs=[.ref p]/\H p=aa (.lst ys)/\((ys.length<=1/\∀q,H q=ae->Q (.ref q) (upd H q<|.lst ys))\/
 ∃a b i g,ys=[.ref a,.ref b]/\bH X.K H a (i.map V.int)/\bH X.K H b (g.map V.int)/\∀q,H q=ae->Q (.ref q) (upd H q (.lst (if VM.ltI g i then[.ref b,.ref a] else[.ref a,.ref b]))))):=by
 intro G s σ H xs us Q I r h;obtain⟨p,ys,rfl,T,h⟩:=h;obtain⟨u,rfl,R⟩:=vals1 r;cases R;obtain⟨S,J,n,f,e⟩:=I.aL p _ T;have F:s.heap.IsList p J.toArray:=⟨_,e,rfl,n,rfl⟩;have E:=VD f;rcases h with⟨h1,q⟩|⟨a,b,i,g,rfl,O,Z,q⟩
 ·refine xZ F (by omega) (λ_=>rfl) (λe=>by omega) (λe=>by omega) λU D m k j y=>?_
  refine⟨.ref D,_,I.laid k j (o:=.lst ys) ⟨S,J,m,f,y⟩,rfl,q D<|I.aL.fresh j⟩
 ·obtain⟨va,l,t,_⟩:=I.list O;obtain⟨vb,C,x,_⟩:=I.list Z;cases f with
  |cons r1 f=>
   cases f with
   |cons Y f=>
    cases f;cases r1;cases Y;have W:X.A.in1.in1.units<cLine:=by have:=N.un;show X.A.units+1+1<_;omega
    have L:=t.isList;have M:=x.isList;refine xZ F (Uc 2) (c:=VM.ltI g i) (λz=>absurd z (by show¬2<=1;decide)) (λ_ v B=>?_) (λ_ h Q' k P=>?_) λU D m k j y=>?_
    ·rcases T7.mp B with rfl|B
     ·obtain⟨o,d,w,_⟩:=L;exact⟨a,rfl,o,d,w⟩
     ·rw[UN.mp B];obtain⟨o,d,w,_⟩:=M;exact⟨b,rfl,o,d,w⟩
    ·exact IS W (by obtain⟨o,d,r⟩:=M;exact⟨o,k _ _ d,r⟩) (by obtain⟨o,d,r⟩:=L;exact⟨o,k _ _ d,r⟩) C l P
    ·refine⟨.ref D,_,I.laid k j (o:=.lst<|if VM.ltI g i then[.ref b,.ref a] else[.ref a,.ref b]) ⟨?_,_,m,?_,y⟩,rfl,q D<|I.aL.fresh j⟩
     ·cases VM.ltI g i
      ·show 2<=sizeLine;decide
      ·show 2<=sizeLine;decide
     ·cases VM.ltI g i
      ·exact .cons rfl<|.cons rfl .nil
      ·exact .cons rfl<|.cons rfl .nil
theorem yG:∀{xs:List VM.W} {a:List Int} {vs:List V},VM.intsOf xs=aa a->bq ι xs vs->vs=a.map V.int
 |[],a,_,e,.nil=>by cases e;rfl
 |.int i::r,a,_,e,.cons c t=>by
  cases b:VM.intsOf r with
  |none=>rw[VM.intsOf,b] at e;cases e
  |some ms=>rw[VM.intsOf,b] at e;cases e;cases c;rw[yG b t];rfl
 |.aA::_,_,_,e,_=>by cases e
 |.bl _::_,_,_,e,_=>by cases e
 |.str _::_,_,_,e,_=>by cases e
 |.ref _::_,_,_,e,_=>by cases e
def Aw(R:Rel X.K ι M H)(e:gO M w=aa ns)(r:RV ι w v):∃p,v=.ref p/\bH X.K H p (ns.map V.int):=by
 unfold gO at e;cases a:VM.a8 M w with
 |none=>rw[a] at e;cases e
 |some xs=>rw[a] at e;obtain⟨p,d,b,c,h3⟩:=R.a8 a r;exact⟨p,b,by rw[<-yG e h3];exact c⟩
def E_(o:bY k X.A):SC X (.builtin "sorted") mr:=by
 refine⟨_,Dv o,λj M H y C Q R r h=>?_⟩;unfold mr at h;cases r with
 |nil=>exact(h).elim
 | @cons x v y C l r=>
   cases r with
   |cons _ _=>exact(h).elim
   |nil=>
    have g:ay RV X.K j (match VM.bQ M x with
     |some (_,[])=>bb [] M
     |some (_,[a])=>bb [a] M
     |some (_,[a,b])=>(match gO M a,gO M b with
      |some p,aa q=>bb (if VM.ltI q p then[b,a] else[a,b]) M
      |_,_=>.bad)
     |_=>.bad) Q:=h
    cases e:VM.bQ M x with
    |none=>rw[e] at g;exact(g).elim
    |some z=>
     obtain⟨E,w⟩:=z;rw[e] at g;obtain⟨p,u,rfl,F,G,rfl,n,B⟩:=R.bQ e l;refine⟨p,u,rfl,n,?_⟩;match w,B,g with
     |[],.nil,h=>exact .inl ⟨UX _,(i_ R .nil h).2⟩
     |[a],.cons l .nil,h=>exact .inl ⟨Uc _,(i_ R (.cons l .nil) h).2⟩
     |[a,b],.cons i<|.cons f .nil,h=>
      have h:ay RV X.K j (match gO M a,gO M b with
       |some p,aa q=>bb (if VM.ltI q p then[b,a] else[a,b]) M
       |_,_=>.bad) Q:=h
      cases c:gO M a with
      |none=>rw[c] at h;exact(h).elim
      |some ns=>
       rw[c] at h;cases d:gO M b with
       |none=>rw[d] at h;exact(h).elim
       |some ms=>
        rw[d] at h;have h:ay RV X.K j (bb (if VM.ltI ms ns then[b,a] else[a,b]) M) Q:=h;obtain⟨D,rfl,s⟩:=Aw R c i;obtain⟨t,rfl,sb⟩:=Aw R d f;refine .inr ⟨D,t,ns,ms,rfl,s,sb,?_⟩;cases m:VM.ltI ms ns with
        |true=>rw[m] at h;exact(i_ R (.cons f<|.cons i .nil) h).2
        |false=>rw[m] at h;exact(i_ R (.cons i<|.cons f .nil) h).2
     |_::_::_::_,_,h=>exact(h).elim
end
def yH{K:Fg}(h:PySem.W.tabIn K x=aa (c,P)):∃f j k a g o,oH K x f/\K.lookup f=aa ⟨j,k,.func a,g⟩/\a.code=.ref c/\K.lookup c=aa o:=by
 unfold PySem.W.tabIn at h;split at h
 ·rename_i f e
  split at h
  ·rename_i b
   split at h
   ·rename_i l d
    split at h
    ·rename_i i
     split at h
     ·cases h;exact⟨f,_,_,_,_,_,e,b,d,i⟩
     ·cases h
    ·cases h
   ·cases h
  ·cases h
 ·cases h
def K'{K:Fg}(l:PySem.W.tabIn K x=aa (c,P))(X:K.In h)(C:PySem.W.CodeHd h c P):j5 K c P:=by obtain⟨_,_,_,_,_,o,_,_,_,i⟩:=yH l;intro q p;obtain⟨s,m,d,n,a,j,f,b,k,e,r⟩:=C;have g:=X _ _ i;rw[e] at g;cases g;exact⟨o,m,d,n,a,j,f,b,k,p _ _ i,r⟩
section
variable{P:Program}{w:World}{K:Fg}{mg:Str->Option ah}{base:Heap}{k:Nat}{x:Str}{st:Stmt}{ps N:List Str}{np n:Nat}{body:VM.SM}{c0 Pt:Addr}
def Lb(h:FK K mg x st ps)(X:PySem.W.tabIn K x=aa (c0,Pt))(S:ja N ps<|cY st)(D:∀(f) (A) (outer) (s) (H) (E),N.Nodup->bY k (A.deeper<|envOfC x (cY st) s.heap.objs.size f<|.ref c0)->fY (iS fD P w K mg base N x (cY st) f (.ref c0) A outer s H E).iX (gC st) body)(Z:N.length=n:=by rfl)(U:ps.length=np:=by rfl):FV P w K mg base (k+1) (VM.fn np n body) x ps:=by
 subst Z U;obtain⟨f,fd,F,hm,hb,y⟩:=h;obtain⟨f2,C0,SY,S4,L,o2,l,i,o,_⟩:=yH X;have c:PySem.W.nsIn K mainGlobals x=aa (aa<|.ref f):=y;rw[l] at c;cases c;obtain⟨oc,od,kV,J,pm,an,wh,ct,I,rfl,lk,u⟩:=id F.ex;rw[i] at lk;cases lk;have ec:=o;subst ec;refine⟨f,_,⟨A8 i u S (λY H Q E h=>h.1) λA outer s H Y Q E B h=>?_,hm,F.kp,hb,λd M j=>T6 j⟩,y⟩;obtain⟨V,q,M,d,R,r,h⟩:=h;obtain⟨t,T,G⟩:=D f A outer s H E S.nd B;refine⟨t,T.iX,G q M H _ _ _ R (um r N) ?_⟩;have j:d.length=ps.length:=by rw[Paired.len r];exact V
 have a:ay RV K q (match body (d.map aa++List.replicate (N.length-ps.length) ae) M with
  |.rt v b=>.ok v b
  |.nx _ b=>.ok .aA b
  |.ex v b=>.ex v b
  |_=>.bad) Q:=by
  have z:ay RV K q (if d.length=ps.length then _ else _) Q:=h;rw[T5 j] at z;exact z
 rw[j];cases e:body (d.map aa++List.replicate (N.length-ps.length) ae) M with
 |nx g b=>rw[e] at a;exactλm O S5 p C S'=>a m O .aA p C rfl
 |rt v b=>rw[e] at a;exact a
 |bk g b=>rw[e] at a;exact(a).elim
 |ct g b=>rw[e] at a;exact(a).elim
 |ex v b=>rw[e] at a;exact(a).elim
 |bad=>rw[e] at a;exact(a).elim
end
noncomputable def vI(H:Hp):Prop:=∀b,H b=ae\/(∃o c,H b=aa (.a6 o<|.lst c))\/∃a,H b=aa (.c8 a)
def Fb{P:Program}{w:World}{K:Fg}{G mb:Str->Option ah}{CX:ir}{k:Nat}{fa a c0 Pt:Addr}{fd:FuncData}{x:Str}{sp:Sp}{f:Shared}{vs:List ah}{X:List Int}(KX:K.In f.heap)(Y:f.heap.Ns mainGlobals G)(g:f.heap.Ns builtinsNs mb)(QL:∀x:Str,x≠"__name__"->mb x=bootBuiltins x)(O:f.heap.NoLimit)(hg:f.gens= #[])(I:f.heap.get? a=aa {cls:=.type "list",data:=.seq vs.toArray})(hi:IntsAre vs X)(hl:X.length<=sizeLine)(hr:bY k callerA)(hT:PySem.W.tabIn K gF=aa (c0,Pt))(hC:PySem.W.CodeHd f.heap c0 Pt)(N:f.heap.get? Pt=aa (PySem.W.tabObj #[]))(hK:PySem.W.noTabs K=af)(QM:iV G f.heap)(F:∀base:Heap,K.In base->base.Ns mainGlobals G->iV G base->eG P w K G base CX k fa fd [x] sp)(L:∀(s:Shared) (u:ah),BindsTo s fd ⟨[u],[]⟩ [(x,u)])(sD:∀H:Hp,vI H->bH K H a (X.map V.int)->Tb K H->sp [.ref a] H (λv _=>v=.bl af) λ_ _ _=>False)(QN:∀H e j,CX [] H f (λ_ _ _=>False) e j->False):
 codeAny (model P w) callerA (.call (.ref fa) ⟨[.ref a],[]⟩) (λr j=>r=.ok (.ret<|.bool af)/\OldK f.heap j.heap/\j.os=f.os/\AllBare j.gens) f:=by
 have rv:=x_ hi;have R:=hi.length;have QO:K.lookup Pt=ae:=by
  cases e:K.lookup Pt with
  |none=>rfl
  |some o=>have C:=KX _ _ e;rw[N] at C;cases C;have h2:=US.mp hK (Pt,PySem.W.tabObj #[])<|PySem.W.mem_of_lookupK e;exact absurd (h2) Uq
 have T:a≠Pt:=λz=>by rw[z,N] at I;cases I
 have A:∀H:Hp,vI H->bH K H a (X.map V.int)->Tb K H->cp P w H f.heap->(∀b,H b≠ae->b=a\/b=Pt)->(H a≠ae->K.lookup a=ae)->
  codeAny (model P w) callerA (.call (.ref fa) ⟨[.ref a],[]⟩) (λr j=>r=.ok (.ret<|.bool af)/\OldK f.heap j.heap/\j.os=f.os/\AllBare j.gens) f:=by
  intro H hO hS QP M hA QQ;have i:∀{b:Addr} {o:Obj},f.heap.get? b=aa o->H b=ae->(ji f.heap H).get? b=aa o:=λe n=>Fc e n
  have E:∀{b:Addr} {o:Obj},f.heap.get? b=aa o->(∀xs n,o.data≠.seq xs n)->(∀vs,o.data≠.fields vs)->H b=ae:=λ{b o} e d1 d2=>by
   cases q:H b with
   |none=>rfl
   |some u=>
    rcases hA b (by rw[q];simp) with rfl|rfl
    ·rw[I] at e;cases e;exact absurd rfl<|d1 _ _
    ·rw[N] at e;cases e;exact absurd rfl<|d2 _
  have t:∀{b:Addr} {m:Str->Option ah},f.heap.Ns b m->(ji f.heap H).Ns b m:=λ{b m} ⟨o,es,ep,e,d,r⟩=>⟨o,es,ep,i e (E e (λ_ _ z=>by rw[d] at z;cases z) λ_ z=>by rw[d] at z;cases z),d,r⟩
  have U:=λb o e=>i (KX b o e) (by
   cases q:H b with
   |none=>rfl
   |some u=>
    rcases hA b (by rw[q];simp) with rfl|rfl
    ·rw[QQ (by rw[q];simp)] at e;cases e
    ·rw[QO] at e;cases e)
  have hM:Mod K G (ji f.heap H):=⟨U,t Y,⟨mb,t g,QL⟩,let⟨mc,h1,h2⟩:=O;⟨mc,t h1,h2⟩⟩;have hB:iV G (ji f.heap H):=by obtain⟨bm,ob,b1,b2,b3,b4,b5,b6⟩:=QM;exact⟨bm,ob,b1,b2,i b3 (E b3 (λ_ _ z=>by rw[b6] at z;cases z) λ_ z=>by rw[b6] at z;cases z),b4,b5,b6⟩
  have e0:lj P w K G (ji f.heap H) callerA [] f H:=⟨rfl,hM,λb o e=>GV e,V0<|D1 _ _,trivial,λb g=>absurd (show b∈([]:List Addr) from g)<|by simp,M,.of_eq hg⟩;refine Wx ((F _ U (t Y) hB).run callerA [] f H ⟨[.ref a],[]⟩ [.ref a] [.ref a] _ _ hr e0 (L f<|.ref a) (.cons rfl .nil)<|sD H hO hS QP) λr j h=>?_
  cases r with
  |error e=>exact(QN H e j h).elim
  |ok fl=>
   cases fl with
   |next=>exact False.elim h
   |brk=>exact False.elim h
   |cont=>exact False.elim h
   |ret u=>
    obtain⟨v,H',os,Q,Z,D,r',q⟩:=h;have q':=q;subst q';obtain rfl:u=Value.bool af:=r';have y:∀b o,f.heap.get? b=aa o->j.heap.get? b=aa o\/(b=Pt/\o=PySem.W.tabObj #[]/\∃J,j.heap.get? b=aa (PySem.W.tabObj J)):=λb o e=>by
     cases q:H b with
     |none=>exact .inl<|Z.keep b o e q (by intro z;exact absurd (show b∈([]:List Addr) from z)<|by simp)<|by simp
     |some u=>
      rcases hO b with z|⟨ob,xs,z⟩|⟨J,z⟩
      ·rw[q] at z;cases z
      ·have z2:=Z.iP b ob _ z;obtain⟨C,_⟩:=M b _ z;obtain⟨e2,_⟩:=D b _ z2;rw[e] at C;cases C;exact .inl e2
      ·obtain⟨more,z2⟩:=Z.jh b J z;have e2:=D b _ z2;have C:f.heap.get? b=aa (PySem.W.tabObj J):=M b _ z;have g:b=Pt:=by
        rcases hA b (by rw[q];simp) with rfl|h
        ·rw[I] at C;cases C
        ·exact h
       subst g;rw[N] at e;exact .inr ⟨rfl,(Ug e).symm,_,e2⟩
    refine⟨rfl,⟨λb o e=>?_,λb o e=>?_⟩,os,Q⟩
    ·rcases y b o e with z|⟨rfl,rfl,J,z⟩
     ·exact .inl z
     ·exact .inr<|.inl ⟨(hC.tab N).isCodeTable,rfl,#[],J,rfl,by rw[Array.empty_append];exact z⟩
    ·rcases y b o e with z|⟨_,_,J,z⟩
     ·exact⟨_,z⟩
     ·exact⟨_,z⟩
 have S:=trivial;have B:∀H:Hp,H Pt=aa (.c8 #[])->Tb K H:=λH e c P' q=>by rw[hT] at q;cases q;exact⟨#[],e,S,λpos cv z=>by cases z⟩
 cases hk:K.lookup a with
 |some o=>
  have e:=KX a o hk;rw[I] at e;cases e;refine A (λb=>if b=Pt then aa (.c8 #[]) else ae) (λb=>?_) (.inr ⟨_,vs.toArray,_,hk,rfl,rfl,rfl,by rw[Ul,R];exact hl,by simpa using rv⟩) (B _<|T5 rfl) (λb u z=>?_) (λb z=>?_) λz=>absurd (T6 T) z
  ·by_cases g:b=Pt
   ·exact .inr<|.inr ⟨_,T5 g⟩
   ·exact .inl<|T6 g
  ·by_cases g:b=Pt
   ·have p:=(T5 g).symm.trans z;cases p;subst g;exact N
   ·have p:=(T6 g).symm.trans z;cases p
  ·by_cases g:b=Pt
   ·exact .inr g
   ·exact absurd (T6 g) z
 |none=>
  refine A (λb=>if b=a then aa (.a6 {cls:=.type "list",data:=.seq vs.toArray}<|.lst<|X.map V.int) else if b=Pt then aa (.c8 #[]) else ae) (λb=>?_) (.inl<|.inr ⟨{cls:=.type "list",data:=.seq vs.toArray},T5 rfl⟩) (B _<|(T6<|Uz T).trans<|T5 rfl) (λb u z=>?_) (λb z=>?_) λ_=>hk
  ·by_cases g:b=a
   ·exact .inr<|.inl ⟨_,_,T5 g⟩
   ·by_cases l:b=Pt
    ·exact .inr<|.inr ⟨#[],(T6 g).trans<|T5 l⟩
    ·exact .inl<|(T6 g).trans<|T6 l
  ·by_cases g:b=a
   ·have p:=(T5 g).symm.trans z;cases p;subst g;exact⟨I,by rw[Ua];exact hl,vs,_,rv,I⟩
   ·have z1:=(T6 g).symm.trans z;by_cases l:b=Pt
    ·have p:=(T5 l).symm.trans z1;cases p;subst l;exact N
    ·have p:=(T6 l).symm.trans z1;cases p
  ·by_cases g:b=a
   ·exact .inl g
   ·by_cases l:b=Pt
    ·exact .inr l
    ·exact absurd ((T6 g).trans<|T6 l) z
def GS{l:PySem.W.OpenLaw}{n k:Nat}{q:Program}{m:List Str}{U:(Str->Option ah)->Heap->Prop}{N:World->Heap->Prop}{d:DefRec}{K:Params->Fg}{sp:World->Sp}{x:Str}{c0 Pt:Addr}(hn:l.most=aa n)(J:n<=sizeLine)(M:d.params.defaults=[])(R:bY k callerA)(hY:∀(w:World) (h:Heap),N w h->(K w.params).In h)(r:((recsOf q).find? λe=>e.name==gF).isSome=af)(I:∀w:World,PySem.W.tabIn (K w.params) gF=aa (c0,Pt))(hK:∀w:World,PySem.W.noTabs (K w.params)=af)(F:∀(w:World) (i:Str->Option ah) (y:Addr) (h:Heap),(K w.params).In h->h.Ns mainGlobals i->i d.name=aa (.ref y)->j5 (K w.params) c0 Pt->
  ∃E:FuncData,(∀(s:Shared) (u:ah),BindsTo s E ⟨[u],[]⟩ [(x,u)])/\∀base:Heap,(K w.params).In base->base.Ns mainGlobals i->iV i base->eG l.prog w (K w.params) i base fD k y E [x] (sp w))
 (D:∀(w:World) (H:Hp) (a:Addr) (A:List Int),A.length<=n->vI H->bH (K w.params) H a (A.map V.int)->Tb (K w.params) H->sp w [.ref a] H (λv _=>v=.bl af) λ_ _ _=>False):
 PySem.W.WalkO q m U N l.row.toRowW d [] (λf vs=>PySem.call f vs):=by
 refine BV.Dj hn M λw O P i mb y o pm cd X a vs A G Y ho hd S6 C p j c hg=>?_
 have t:=hY w _ Y;obtain⟨dl,B⟩:=W4.mp r;obtain⟨Q,S⟩:=PySem.W.tab_of G.T t B<|I w;obtain⟨E,hb,Z⟩:=F w i y _ t G.T.g C<|K' (I w) t Q;exact Fb t G.T.g G.T.b G.T.builtins G.T.nolimit hg p j (Uh c J) R (I w) Q S (hK w) G.T.bmain Z hb (λH hO hS L=>D w H a A c hO hS L) λH e s' z=>z
def IU(k:scope.kind=.function)(l:scope.names.lookup x=aa .local)(f:scope.names.lookup y=aa .free)(n:x≠y)(a:∀q∈scope.names,q.2=.cell\/q.2=.free->q.1=y)(c:∀z∈scope.names,z.2≠.cell)(co:scope.isCoroutine=ag)(g:scope.isGenerator=ag):o5 scope x y:=
 ⟨k,l,f,n,λz h=>by
  rcases h with h|h
  ·exact a _ (Vr h)<|.inl rfl
  ·exact a _ (Vr h) (.inr rfl),c,co,g⟩
def Ml(h:scope.names=[(x,.local),(y,.free),(z,.globalImplicit)])(e:env.cells.lookup y=aa c):closureFor scope env=pure [(y,c)]:=by unfold closureFor cellOf;rw[h];simp[e]
end SV
namespace rD
open PySem PySem.Spec PyProof.Rows L2 SV
local macro_rules| `(tactic|walk_at "sc")=> `(tactic|exact⟨rfl,rfl,rfl,by decide+kernel,rfl,by decide+kernel,by decide+kernel⟩)
local macro_rules| `(tactic|walk_at "bl")=> `(tactic|exact KP (by kernel_rfl) (by decide+kernel) rfl (by decide+kernel) (by kernel_rfl))
local macro_rules| `(tactic|walk_at "in")=> `(tactic|(conv=>arg 2;whnf))
local macro_rules| `(tactic|walk_at "ix")=> `(tactic|(conv=>arg 3;whnf))
local macro_rules| `(tactic|walk_at $s:str)=>do
 let z::l:=s.getString.toList|Lean.Macro.throwUnsupported
 if z≠ '~' /\z≠ '!' /\z≠ '^' then Lean.Macro.throwUnsupported
 let f (n:List Lean.Name) (k:String):Lean.MacroM (Lean.TSyntax `tactic):=do
  if k="0" then return<- `(tactic|refine Aq (ex:=[]) (by walk_at "bl") rfl ?_ (λ_ _ _ _=>?_) (λ_ _ _ _=>?_) (λ_ _ _ _=>?_))
  let mut r:= #[]
  let mut m:=n
  for c in k.toList do
   if c= 'n' then m:=m.tail
   let x:=Lean.mkCIdent<|m.headD default
   r:=r.push (<-if c= 'n' then pure ⟨x⟩ else match c with
    | 'a'=> `(‹_›)
    | 'r'=> `(rfl)
    | '_'=> `(_)
    | 'b'=> `((by first|assumption|exact UM (by kernel_rfl)))
    | 'c'=> `((by walk_at "bl"))
    | 'd'=> `((λ_ _ _ _=>?_))
    | 'e'=> `((by decide+kernel))
    | 'f'=> `((by first|rfl|decide+kernel))
    | 'g'=> `((by constructor<;>rfl))
    | 'h'=> `((KS (bY.hd ‹_›)))
    | 'i'=> `((E_ ‹_›))
    |_=> `(?_))
  let x:=Lean.mkCIdent<|n.headD default
  `(tactic|refine $x $r*)
 let a<-l.toArray.mapM λc=>match[([``An],"?"),([``AY],"?"),([``Iq],"a?"),([``Ke],"_"),([``Il],"b"),([``Gj],""),([``L1],"???"),([``Kr],""),([``Ko],""),([``GK],"cr?ddd"),([``Gf],"??"),([``KJ],"a?"),([``Kp],""),([``Kq],""),([``Kj],"?"),([``Ki],""),([``KO,``XF],"nr???"),([``Ir],"a??"),([``Ip],"?"),([``u9,``W8,``PySem.F.type_list_append,``ER],"nnn??"),([``H9],"??"),([``GH],"aa?rerr"),([``GL],"acr?ddd"),([``Mc],"???"),([``Km],"???r"),([``L7],"a"),([``uM,``KA],"na?"),([``Gh],""),([``Io],""),([``KN],"?"),([``Ii],"?"),([``Ma],"??"),([``L3],""),([``IG],"f"),([``Ku],"?"),([``L4],""),([``KZ],"aa??"),([``yC,``Ij],"na?"),([``Iy],""),([``ID],"a?"),([``KG],"r?"),([``Ge],"??"),([``Im],""),([``L6],"a"),([``IA],"a???"),([``KY],"aa?"),([``GI],"aaa??frrr"),([``L9],"??"),([``L0],""),([``Gk],"?"),([``E2],"a"),([``KI],"??"),([``KH],"??"),([``Gx],"??g"),([``L8],""),([``Gs],"a???g"),([``Iz],"a??"),([``IB],"aa?"),([``Gw],"???g"),([``E5],"cr?gddd"),([],"0"),([``u9,``PySem.F.slot_list_count,``PySem.F.type_list_count,``Gr],"nnn??"),([``IH],""),([``GJ],"af?"),([``GG],"?a?"),([``Kk],"?"),([``Kg],""),([``Kh],"_"),([``K6],"afre"),([``IE,``XF],"nr?g??"),([``Ig],"?"),([``Gi,``XF],"n??"),([``Ks],"?"),([``Gg],""),([``K8],"arer"),([``II],"a?"),([``Ky],"??"),([``KR],"_aa?"),([``Kx],"?"),([``Kz],"?"),([``Gd,``PySem.F.slot_list_pop,``PySem.F.type_list_pop,``KD],"nnn?"),([``Kt],"?"),([``Iw],"a??"),([``EX],"_a?"),([``Gp],""),([``u9,``W9,``PySem.F.type_list_extend,``ES],"nnn??"),([``Kw],"?"),([``Kn],""),([``Kv],"??"),([``Ih],"?"),([``yC,``KC],"na?"),([``Kl],"???r"),([``L5],""),([``Ga],""),([``L_],"???"),([``Ie],"?"),([``Ic],""),([``uM],"ha?"),([``uM],"ia?"),([``Mb],"??")]["ekËaÈÑHÕØçdnÙÚScxÌv5b@ìm{ã,ofÏÁÃÜgÅÞs.UÍÉÇÆâtY4XiÒåuÊ3à1W[2êæ7]^+TjhZw}y|qðïM#OP8À!$%6_ÖÂÄ;IßáVÔÓ<=N".toList.idxOf c]? with
  |some (n,k)=>f n k
  |none=>Lean.Macro.throwUnsupported
 let p<-if z= '^' then `(tactic|walk_at "ix") else `(tactic|walk_at "in")
 if z= '~' then `(tactic|($[$a];*)) else `(tactic|((·walk_at "sc");intro _ _ _ _ _ _ _ _ _ _ _;$p;($[$a];*)))
def top(i:Nat):Stmt:=PySem.Challenge.pw_bedsheet_k05_whole_solved.main.body.getD i<|.Pass ⟨0,0,0,0⟩
structure Fs(K:Fg)(mg:Str->Option ah)(C:Addr):Prop where
 h0:FK K mg "row_fields" (top 4) ["size","row"]
 h1:FK K mg "column_fields" (top 5) ["size","column"]
 h2:FK K mg "box_fields" (top 6) ["high","wide","box"]
 h3:FK K mg "groups_of" (top 7) ["high","wide"]
 h4:FK K mg "refuse_no_sheet" (top 8) ["high","wide","sheet"]
 h5:FK K mg "groups_at" (top 10) ["high","wide","place"]
 h6:lH K (Mk K C) "__init__" "State.__init__" (inClass (top 11) 0) ["self","high","wide","sheet"]
 h7:lH K (Meth K C "numbers_for") "numbers_for" "State.numbers_for" (inClass (top 11) 1) ["self","place"]
 h8:lH K (Meth K C "put") "put" "State.put" (inClass (top 11) 2) ["self","place","number"]
 h9:lH K (Meth K C "behind") "behind" "State.behind" (inClass (top 11) 3) ["self","place","number"]
 sE:FK K mg "homes_in" (top 13) ["state","group"]
 sF:FK K mg "stuck_fields" (top 14) ["state"]
 sG:FK K mg "homeless_numbers" (top 15) ["state","group"]
 sH:FK K mg "twice_numbers" (top 16) ["state","group"]
 sI:FK K mg "first_in_groups" (top 17) ["state","kind","numbers_in"]
 sJ:FK K mg "first_twice" (top 18) ["state"]
 sL:FK K mg "first_dead_end" (top 19) ["state"]
 sM:FK K mg "first_step" (top 20) ["state"]
 sN:FK K mg "first_clash" (top 21) ["state"]
 sO:FK K mg "take_steps" (top 22) ["state"]
 sP:FK K mg "place_to_try" (top 25) ["state"]
 sQ:FK K mg "grown_tree" (top 26) ["state","found"]
 sR:FK K mg "solved" (top 27) ["high","wide","sheet"]
 sS:FK K mg "_law_whole" (top 29) ["_law_found"]
 sT:FK K mg "_law_at" (top 30) ["_law_script","_law_k"]
 sU:FK K mg "_law_same" (top 31) ["_law_found","_law_due"]
 sV:FK K mg "_law_shape_of" (top 32) ["_law_cell"]
 sW:FK K mg "_law_all_groups" (top 33) ["_law_high","_law_wide"]
 sX:FK K mg "_law_full_sheet" (top 34) ["_law_high","_law_wide","_law_cell"]
 sY:FK K mg "_law_sheet_by" (top 35) ["_law_filled","_law_cells","_law_share"]
 sZ:FK K mg "_law_barred" (top 36) ["_law_groups","_law_sheet","_law_place","_law_number"]
 s8:FK K mg "_law_can_have" (top 37) ["_law_groups","_law_sheet","_law_size"]
 s_:FK K mg "_law_put" (top 38) ["_law_groups","_law_sheet","_law_table","_law_place","_law_number"]
 ti:FK K mg "_law_spots" (top 39) ["_law_groups","_law_table","_law_group","_law_number"]
 tj:FK K mg "_law_lacks" (top 40) ["_law_groups","_law_sheet","_law_group","_law_number","_law_size"]
 tu:FK K mg "_law_step_right" (top 41) ["_law_groups","_law_sheet","_law_table","_law_step","_law_size"]
 tD:FK K mg "_law_clashes" (top 42) ["_law_groups","_law_sheet","_law_table","_law_clash","_law_size"]
 tF:FK K mg "_law_some_step" (top 43) ["_law_groups","_law_sheet","_law_table","_law_size"]
 tG:FK K mg "_law_is_step" (top 44) ["_law_found"]
 tH:FK K mg "_law_are_steps" (top 45) ["_law_found"]
 tI:FK K mg "_law_is_clash" (top 46) ["_law_found"]
 tJ:FK K mg "_law_no_twice" (top 47) ["_law_groups","_law_sheet","_law_size"]
 tK:FK K mg "_law_is_filled_by" (top 48) ["_law_groups","_law_sheet","_law_filled","_law_size"]
 tL:FK K mg "_law_is_end" (top 49) ["_law_found"]
 tM:FK K mg "_law_end_right" (top 50) ["_law_groups","_law_sheet","_law_table","_law_end","_law_size","_law_words"]
 tN:FK K mg "_law_tree_walked" (top 51) ["_law_groups","_law_sheet","_law_tree","_law_size"]
 tO:FK K mg "_law_shape_for" (top 52) ["_law_script"]
 tP:FK K mg "_law_emptied" (top 53) ["_law_sheet","_law_cell"]
 xr:FK K mg "law" (top 54) ["_law_script"]
structure Bs(K:Fg)(mg:Str->Option ah)(C:Addr)(c0 Pt:Addr)(tE:Tok):Prop where
 tT:PySem.W.tabIn K gF=aa (c0,Pt)
 tC:j5 K c0 Pt
 cE:mg "ENOUGH"=aa (.int 2 tE)
 cl:js K [83,116,97,116,101] C
 mC:mg "State"=aa (.ref C)
 A6:fq K C "high"
 A7:fq K C "wide"
 zx:fq K C "groups"
 yI:fq K C "numbers"
 Bo:fq K C "can"
 RD:mg "range"=ae
 RL:mg "len"=ae
 RA:mg "enumerate"=ae
 RJ:mg "list"=ae
 Ry:mg "isinstance"=ae
 RK:mg "bool"=ae
 RM:mg "int"=ae
 RE:mg "tuple"=ae
 RN:mg "str"=ae
 RP:mg "sum"=ae
 RC:mg "sorted"=ae
 RQ:mg "min"=ae
section
variable{P:Program}{w:World}{K:Fg}{mg:Str->Option ah}{base:Heap}{C:Addr}{k:Nat}
structure Al(P:Program)(w:World)(K:Fg)(mg:Str->Option ah)(base:Heap)(C:Addr)(k:Nat)(c:VM.CE):Prop where
 g0:FV P w K mg base k (c 0) "row_fields" ["size","row"]
 g1:FV P w K mg base k (c 1) "column_fields" ["size","column"]
 g2:FV P w K mg base k (c 2) "box_fields" ["high","wide","box"]
 g3:FV P w K mg base k (c 3) "groups_of" ["high","wide"]
 g4:FV P w K mg base k (c 4) "refuse_no_sheet" ["high","wide","sheet"]
 g5:FV P w K mg base k (c 5) "groups_at" ["high","wide","place"]
 g6:FM P w K mg base k (c 6) (Mk K C) ["self","high","wide","sheet"]
 g7:FM P w K mg base k (c 7) (Meth K C "numbers_for") ["self","place"]
 g8:FM P w K mg base k (c 8) (Meth K C "put") ["self","place","number"]
 g9:FM P w K mg base k (c 9) (Meth K C "behind") ["self","place","number"]
 S8:nB P w K mg base k "State" 3 (c 10)
 S9:FV P w K mg base k (c 11) "homes_in" ["state","group"]
 S_:FV P w K mg base k (c 12) "stuck_fields" ["state"]
 Ta:FV P w K mg base k (c 13) "homeless_numbers" ["state","group"]
 Tc:FV P w K mg base k (c 14) "twice_numbers" ["state","group"]
 Td:FV P w K mg base k (c 15) "first_in_groups" ["state","kind","numbers_in"]
 Te:FV P w K mg base k (c 16) "first_twice" ["state"]
 Tf:FV P w K mg base k (c 17) "first_dead_end" ["state"]
 Tg:FV P w K mg base k (c 18) "first_step" ["state"]
 Th:FV P w K mg base k (c 19) "first_clash" ["state"]
 Ti:FV P w K mg base k (c 20) "take_steps" ["state"]
 Tj:FV P w K mg base k (c 21) "place_to_try" ["state"]
 Tn:FV P w K mg base k (c 22) "grown_tree" ["state","found"]
 To:FV P w K mg base k (c 23) "solved" ["high","wide","sheet"]
 Tp:FV P w K mg base k (c 24) "_law_whole" ["_law_found"]
 Tq:FV P w K mg base k (c 25) "_law_at" ["_law_script","_law_k"]
 Ts:FV P w K mg base k (c 26) "_law_same" ["_law_found","_law_due"]
 Tt:FV P w K mg base k (c 27) "_law_shape_of" ["_law_cell"]
 Tu:FV P w K mg base k (c 28) "_law_all_groups" ["_law_high","_law_wide"]
 Tv:FV P w K mg base k (c 29) "_law_full_sheet" ["_law_high","_law_wide","_law_cell"]
 Tw:FV P w K mg base k (c 30) "_law_sheet_by" ["_law_filled","_law_cells","_law_share"]
 Tx:FV P w K mg base k (c 31) "_law_barred" ["_law_groups","_law_sheet","_law_place","_law_number"]
 Tz:FV P w K mg base k (c 32) "_law_can_have" ["_law_groups","_law_sheet","_law_size"]
 TB:FV P w K mg base k (c 33) "_law_put" ["_law_groups","_law_sheet","_law_table","_law_place","_law_number"]
 TC:FV P w K mg base k (c 34) "_law_spots" ["_law_groups","_law_table","_law_group","_law_number"]
 TF:FV P w K mg base k (c 35) "_law_lacks" ["_law_groups","_law_sheet","_law_group","_law_number","_law_size"]
 TH:FV P w K mg base k (c 36) "_law_step_right" ["_law_groups","_law_sheet","_law_table","_law_step","_law_size"]
 TJ:FV P w K mg base k (c 37) "_law_clashes" ["_law_groups","_law_sheet","_law_table","_law_clash","_law_size"]
 TK:FV P w K mg base k (c 38) "_law_some_step" ["_law_groups","_law_sheet","_law_table","_law_size"]
 TL:FV P w K mg base k (c 39) "_law_is_step" ["_law_found"]
 TN:FV P w K mg base k (c 40) "_law_are_steps" ["_law_found"]
 TQ:FV P w K mg base k (c 41) "_law_is_clash" ["_law_found"]
 TR:FV P w K mg base k (c 42) "_law_no_twice" ["_law_groups","_law_sheet","_law_size"]
 TU:FV P w K mg base k (c 43) "_law_is_filled_by" ["_law_groups","_law_sheet","_law_filled","_law_size"]
 TV:FV P w K mg base k (c 44) "_law_is_end" ["_law_found"]
 TX:FV P w K mg base k (c 45) "_law_end_right" ["_law_groups","_law_sheet","_law_table","_law_end","_law_size","_law_words"]
 TY:FV P w K mg base k (c 46) "_law_tree_walked" ["_law_groups","_law_sheet","_law_tree","_law_size"]
 TZ:FV P w K mg base k (c 47) "_law_shape_for" ["_law_script"]
 T4:FV P w K mg base k (c 48) "_law_emptied" ["_law_sheet","_law_cell"]
variable{c0 Pt:Addr}{tE:Tok}(h:Fs K mg C)(B:Bs K mg C c0 Pt tE)(A:Al P w K mg base C k<|bj K5.tab k)(bm:iV mg base)
include h B A bm
theorem kS:Al P w K mg base C (k+1) (bj K5.tab<|k+1):=by have x:nB P w K mg base (k+1) "State" 3 (bj K5.tab (k+1) 10):=Mi A.g6 B.cl B.mC;cases B;cases A;exact⟨by refine bP (N:=["size","row"]) h.h0 ?_ ?_;walk_at "!ekçËaÈÑHÕHØaaa",by refine bP (N:=["size","column"]) h.h1 ?_ ?_;walk_at "!ekçËaÈÑHÕHØaaa",by refine bP (N:=["high","wide","box","size","top","left","fields","row","column"]) h.h2 ?_ ?_;walk_at "!dnHØaadnHØHÙaaadnHØHÚaaadnScdxÌaHÕaaÈexÌaHÕaaÈev5abHÕHØaaaceka",by refine bP (N:=["high","wide","size","rows","columns","boxes"]) h.h3 ?_ ?_;walk_at "!dnHØaadìËaÈÑ@babacdìËaÈÑ@babacdìËaÈÑ@bababacekHÕHÕaaa",by refine bP (N:=["high","wide","sheet","size","number"]) h.h4 ?_ ?_;walk_at "!dnHØaadm{ã,bacHØaaeofexÏaÈemÁÃ{ÜagÅ{Þaaeof",by refine bP (N:=["high","wide","place","size","row","column","box"]) h.h5 ?_ ?_;walk_at "!dnHØaadnHÙaadnHÚaadnHÕHØHÙaaaHÙaaekSbabHÕaabHÕHØgaac",by refine q_ (N:=["self","high","wide","sheet","place","number"]) h.h6 ?_ ?_;walk_at "!dv@bababacdsaadsaadsa@babacdsa.bacdsaUexÍaÉÇÈÇÈÆem{âagetYaa4abacf",by refine q_ (N:=["self","place","seen","group","field"]) h.h7 ?_ ?_;walk_at "!dnUdxÏ@bYabYabacÈexÏXYaaÈetaXYaaiekçÌgHÕHØYaYagÈÒ{åaaa",by refine q_ (N:=["self","place","number","group","field"]) h.h8 ?_ ?_;walk_at "!duaÊYaadv3YaaexÏ@bYabYabacÈexÏXYaaÈem{àa1YaaScetYaaçÏWYaaÈÒ{ãaaaf",by refine q_ (N:=["self","place","number","state"]) h.h9 ?_ ?_;walk_at "!dn[bYabYabYacdv4ababaceka",x,by refine bP (N:=["state","group","homes","field","number"]) h.sE ?_ ?_;walk_at "!dnUdxÏXYaaÈexÏ1YaaScÈev52aaScbaceka",by refine bP (N:=["state"]) h.sF ?_ ?_;walk_at "!ekêYaÉÇÈÇÈÆÒ{âaSca",by refine bP (N:=["state","group","found","field","number"]) h.sG ?_ ?_;walk_at "!dnUdxÏXYaaÈdtaXYaaiexÏ1YaaScÈetaaiekæÌgHÕHØYaYagÈÒ{åaaa",by refine bP (N:=["state","group","numbers"]) h.sH ?_ ?_;walk_at "!dnçÏXYaaÈÑXYaaekçÌgHÕHØYaYagÈÒ{Þ7abacga",by refine bP (N:=["state","kind","numbers_in","group","numbers"]) h.sI ?_ ?_;walk_at "!dxË,bYacÈdn+^^]babacem{ãaScekTbababXagcfekj",by refine bP (N:=["state"]) h.sJ ?_ ?_;walk_at "!ek@babhbZc",by refine bP (N:=["state","fields"]) h.sL ?_ ?_;walk_at "!dn@bacdm{ãaScekTbhbXagcfek@babhbZc",by refine bP (N:=["state","place","numbers","group","number","fields"]) h.sM ?_ ?_;walk_at "!dwYaÉÇÈÇÈÆem{â,bacgekTbhbabXagcfdxË,bYacÈew@babacÉÇÈÇÈÆem{â,bacgekTbhbXagbabacfekj",by refine bP (N:=["state","twice"]) h.sN ?_ ?_;walk_at "!dn@bacdm}aekafek@bac",by refine bP (N:=["state","steps","clash","step"]) h.sO ?_ ?_;walk_at "!dnScdn@bacdy|adn@bacdm|aeqfdv4abXagbXagcdv5abacen@bacekTbabac",by refine Lb (N:=["state"]) h.sP ‹_› ?_ ?_;(·walk_at "sc");intro _ _ _ _ _ _ _ _;walk_at "in";exact An (AY (K_ ‹_› ‹_› ‹_› (by first|rfl|decide+kernel) ‹_› ‹_› ‹_› rfl (by kernel_rfl) (IU rfl rfl rfl (by decide+kernel) (by decide+kernel) (by decide+kernel) rfl rfl) (λ_ e=>Ml rfl e) rfl (λ_ _ _ _ _ _=>rfl) ‹_› ‹_› ‹_› rfl rfl rfl rfl rfl (by decide+kernel) (by decide+kernel) (by decide+kernel) (by decide+kernel))),by refine bP (N:=["state","found","steps","clash","place","branches","number"]) h.sQ ?_ ?_;walk_at "!dm{â,bacðekTbScbTbhccfdu@bacÉÇÈÇÈÆdm}aekTbabTbhbaccfdmïYadv5abYacekTbabTbhccfdn@bacdnScdxÏWYaaÈev5abTbab@b4ababacbacccekTbabTbhbabacc",by refine bP (N:=["high","wide","sheet","found","tree"]) h.sR ?_ ?_;walk_at "!dnScdn@b[bababacbacekTbabac",by refine bP (N:=["_law_found"]) h.sS ?_ ?_;walk_at "!ekM#aOP#a",by refine bP (N:=["_law_script","_law_k"]) h.sT ?_ ?_;walk_at "!dm{âaScekgfekHÕXaHÚa,bacHØgHÙa,bac",by refine bP (N:=["_law_found","_law_due","_law_left","_law_right","_law_one","_law_two"]) h.sU ?_ ?_;walk_at "!dnSbacdnSbacdy{ãaScdn8adn8aemÀ!a$$%dm{ã#a#aekifdmÁÃ{ã#a#aÅ{ã,bac,bacekifdv6abacev6abacem|aem}aekifemÀ#aemÁÃ_À#aÅ{ãaaekifemÀ#aemÁÃ_À#aÅ{ãaaekifemÁÃ_À@bacÅ{ãaaekifeki",by refine bP (N:=["_law_cell"]) h.sV ?_ ?_;walk_at "!ekXSbTbgbgcbTbgbgcbTbgbgcbTbgbgcbTbgbgcbTbgbgcbTbgbgcbTbgbgccHÚag",by refine bP (N:=["_law_high","_law_wide","_law_size","_law_groups","_law_place","_law_row","_law_column","_law_box","_law_group"]) h.sW ?_ ?_;walk_at "!dnHØaadìËHØgaÈÑScdxËHØaaÈdnHÙaadnHÚaadnHÕHØHÙaaaHÙaaexÏSbabHÕaabHÕHØgaacÈev5Xaabaceka",by refine bP (N:=["_law_high","_law_wide","_law_cell","_law_size","_law_turn","_law_filled","_law_row","_law_column","_law_number","_law_told","_law_place"]) h.sX ?_ ?_;walk_at "!dnHØaadnHÚaadnScdxËaÈexËaÈdnHÚHÕHÕHØaHÚaaHÙaaaaev5abHÕHÚHÕHØaXSbgbHÖagcHÚHÙaggaagcdmÁÂ{âHÚHÙagggÄ{âaadnScdxËHØaaÈev5abXaHÕHØHÚaaaHÙaacenafeka",by refine bP (N:=["_law_filled","_law_cells","_law_share","_law_sheet","_law_place","_law_cell"]) h.sY ?_ ?_;walk_at "!dnScdxË,bacÈdngdm{Üa,bacenXaafev5abHØXaa;bIßHÚHÕaagacceka",by refine bP (N:=["_law_groups","_law_sheet","_law_place","_law_number","_law_group","_law_one"]) h.sZ ?_ ?_;walk_at "!dxÏaÈem{àaaexÏaÈemÁÂ{ãaaÄ{âXaaaekiffeki",by refine bP (N:=["_law_groups","_law_sheet","_law_size","_law_table","_law_place","_law_row","_law_number"]) h.s8 ?_ ?_;walk_at "!dnScdxË,bacÈdnScdxÌgHÕagÈemÁÂ{âXaagÄ_À@babababacev5abacfev5abaceka",by refine bP (N:=["_law_groups","_law_sheet","_law_table","_law_place","_law_number","_law_group","_law_one"]) h.s_ ?_ ?_;walk_at "!duaÊaaduScÊaaexÏaÈem{àaaexÏaÈeuçÏXaaÈÒ{ãaaaÊaaf",by refine bP (N:=["_law_groups","_law_table","_law_group","_law_number"]) h.ti ?_ ?_;walk_at "!ekçÏXaaÈÒ{àaXaaa",by refine bP (N:=["_law_groups","_law_sheet","_law_group","_law_number","_law_size"]) h.tj ?_ ?_;walk_at "!dmÁÃ{ÜagÃ{ßa,bacÃ{ÜagÅ{ÞaaekifekIáaçÏXaaÈÑXaa",by refine bP (N:=["_law_groups","_law_sheet","_law_table","_law_step","_law_size","_law_place"]) h.tu ?_ ?_;walk_at "!dnXagdmÁÃ{ÜagÃ{ßa,bacÅ{ãXaagekifdm{âXaghekIâXaaSbXagcfdm_À@bababXagbXagbacekifekIâ@bababXagbXagcSbac",by refine bP (N:=["_law_groups","_law_sheet","_law_table","_law_clash","_law_size","_law_place"]) h.tD ?_ ?_;walk_at "!dm{âXaghdnXagdmÁÃ{ÜagÃ{ßa,bacÅ{ãXaagekifekIâXaaScfdm{âXaghdm_À@bababXagbXagbacekifekIâ@bababXagbXagcScfdmÁÃ{ÜXaggÃ{ßXag,bacÅ{ÜXaggekifekIÞ7æÏXaXagÈÑXaabXagcg",by refine bP (N:=["_law_groups","_law_sheet","_law_table","_law_size","_law_place","_law_group","_law_number"]) h.tF ?_ ?_;walk_at "!dxË,bacÈem{â,bXaacgekifdxË,bacÈexÌgHÕagÈemÀ@bababababacem{â,b@babababaccgekiffeki",by refine bP (N:=["_law_found","_law_part"]) h.tG ?_ ?_;walk_at "!dmÁÃ_À#aÃ{Ü,bacgÅ_À#XagekifdxÏVaÔgÓÈem_À@bacekifdm{âXaghekIâ,bacgfekMIâXaghOIâ,bacg",by refine bP (N:=["_law_found","_law_one"]) h.tH ?_ ?_;walk_at "!dm_À#aekifdxÏaÈem_À@bacekifeki",by refine bP (N:=["_law_found","_law_part"]) h.tI ?_ ?_;walk_at "!dmÁÃ_À#aÃ{Ü,bacgÅ_À#XagekifdxÏVaÔgÓÈem_À@bacekifdm{âXaghekIâ,bacgfekMIàXagSbhbhcOIâ,bacg",by refine bP (N:=["_law_groups","_law_sheet","_law_size","_law_group","_law_row","_law_number"]) h.tJ ?_ ?_;walk_at "!dxÏaÈdìÏaÈÑXaaexÌgHÕagÈem{Þ7abacgekifeki",by refine bP (N:=["_law_groups","_law_sheet","_law_filled","_law_size","_law_place"]) h.tK ?_ ?_;walk_at "!dxË,bacÈemÁÃ{âXaagÅ{áXaaSbgbXaacekifek@bababac",by refine bP (N:=["_law_found","_law_one"]) h.tL ?_ ?_;walk_at "!dmÁÃ_À#aÃ{âaTcÅ_À#Xagekifdm{âXaghekMIâ,bacgO@bXagcfdm{ãXaghekMIâ,bacgOIàXagSbhbhcfdmÁÃ{ã,bacgÃ_À@bXagcÅ_À#XagekifdxÏXagÈemÁÃ_À#aÃ{ã,bacgÅ_À@bXagcekifeki",by refine bP (N:=["_law_groups","_law_sheet","_law_table","_law_end","_law_size","_law_words","_law_place"]) h.tM ?_ ?_;walk_at "!dv5abXagcdm{âXaghekIágafdm{âXaghek@babababXagbacfdm{âXaghekifdnXagdmÁÃ{ÜagÃ{ßa,bacÅ{ãXaagekifekIâçÏXagÈÑXagXaa",by refine bP (N:=["_law_groups","_law_sheet","_law_tree","_law_size","_law_words","_law_fulls","_law_tried_late","_law_todo","_law_here","_law_table","_law_node","_law_step","_law_number","_law_inner","_law_there","_law_rest"]) h.tN ?_ ?_;walk_at "!dnScdnScdnidnSbTb.bacb@bababacbaccdy{ãaScdu8aÉÇÈÇÈÇÈÆdmÁÃ_À#aÃ{ã,bacgÅ_À@bXagcekjfdm_À@bXagcekjfdxÏXagÈdm_À@bababababacekjfev@babababXagbXagcdm_À@babababXagbabacekjfdm{âXXagghev5abacfem{âXXagghdmÀ@babababacenifexÏXXaggÉÇÈÇÈÆdn.bacdìÏaÈÑ.bacdv@babababXXaggbacev5abTbababaccfekTbababac",by refine bP (N:=["_law_script"]) h.tO ?_ ?_;walk_at "!dm{Þ,bacgekXSbTbgbgcbTbgbgcbTbgbgcbTbgbgccHÚ@babgcgfdm{âHÚ<bVaÓÔgcggekXSbTbgbgcbTbgbgccHÚHÙ@babgcggfek@b@babgcc",by refine bP (N:=["_law_sheet","_law_cell","_law_made","_law_place"]) h.tP ?_ ?_;walk_at "!dn.bacdxË,bacÈemÁÃ{àHÚagSbgbgbgcÅ{âHÚagHÚagem{Ü7abgcgeugÊaaffeka"⟩
omit A
theorem kA:∀k,Al P w K mg base C k (bj K5.tab k)
 |0=>⟨bO h.h0,bO h.h1,bO h.h2,bO h.h3,bO h.h4,bO h.h5,qE h.h6,qE h.h7,qE h.h8,qE h.h9,GD,bO h.sE,bO h.sF,bO h.sG,bO h.sH,bO h.sI,bO h.sJ,bO h.sL,bO h.sM,bO h.sN,bO h.sO,bO h.sP,bO h.sQ,bO h.sR,bO h.sS,bO h.sT,bO h.sU,bO h.sV,bO h.sW,bO h.sX,bO h.sY,bO h.sZ,bO h.s8,bO h.s_,bO h.ti,bO h.tj,bO h.tu,bO h.tD,bO h.tF,bO h.tG,bO h.tH,bO h.tI,bO h.tJ,bO h.tK,bO h.tL,bO h.tM,bO h.tN,bO h.tO,bO h.tP⟩
 |k+1=>kS h B (kA k) bm
def kL{f:Addr}{a:FuncData}(F:iZ K "law" "law" (top 54) f a)(g:mg "law"=aa (.ref f))(d:Binds K a ["_law_script"] []):eG P w K mg base fD 110 f a ["_law_script"] (oU K):=by
 have A:=kA (P:=P) (w:=w) (base:=base) h B bm 109;have S:ja ["_law_script","_law_high","_law_wide","_law_size","_law_groups","_law_filled","_law_share","_law_sheet","_law_cell","_law_spot","_law_handed","_law_found","_law_walked","_law_one"] ["_law_script"] (cY (top 54)):=by walk_at "sc"
 have j:=S.nd;have V:kr P w K mg base 110 "law" f a ["_law_script"] (bj K5.tab 110 49):=by
  cases B;cases A;refine A1 F S g d λe A b s H E c=>?_
  have l:=c.ve;have i:=vA c
  walk_at "in"
  walk_at "~du@bacÉÇÈÇÈÆdnHØaadn@babacdn@babab@babgccdnHÚ@babgcXSbgbgbgcHÕ;bIÞagc;bIÞagcdn@babVaÔgÔgbacdmÁÂ{âagÄ{âHÚHÙ@babgcgggen@babHÙ@babgcgcfdn@babgcdnHÚHÙag,bacdmÁÂ{ÜHÚaggÄ{âXaageuHÕgHÚ@babgcaÊaafdn.bacdn@bababacdmÁÃ_À@babacÃ_À#aÅ{ã,bacgekifdmÁÃ_À#XagÅ{Þ,bXagcgekifdn@bababXagbacdmÁÃ|aÅ_ÀXagekifdm_À@bababacekMIâXagScMIâXagSbhcOIâXXaggScfdm_À@b=bXagcb=bXagccekifdxÏXagÈemÁÃ{ã,bac,bacÅ_À@babababacekifdmÁÂ{àhXagÄ{Ü,bXagcgekifdmÁÂ{â,bXagcgÄ{âXXaggXXaggekifdm_À@babababacekifekMIãXagScONIâ,bXagcgOIâXXagga"
 exact KQ V K5.math
end
def all_mk{l:PySem.W.OpenLaw}{w:World}{K:Fg}{a:Str->Option ah}{d C c0 Pt:Addr}{i:Tok}(h:Fs K a C)(B:Bs K a C c0 Pt i)(c:a "law"=aa (.ref d)):∃b:FuncData,(∀(s:Shared) (v:ah),BindsTo s b ⟨[v],[]⟩ [("_law_script",v)])/\∀base:Heap,K.In base->base.Ns mainGlobals a->iV a base->eG l.prog w K a base fD 110 d b ["_law_script"] (oU K):=by obtain⟨f,b,F,g,n,_⟩:=h.xr;have e:=c.symm.trans g;cases e;refine⟨b,λs v=>?_,λbase _ _ m=>kL h B m F g n⟩;obtain⟨u,r,kV,k,q,t,o,ct,j,rfl,lk,p⟩:=F.ex;exact .of_eq rfl
def walk{l:PySem.W.OpenLaw}{q:Program}{b:List Str}{r:(Str->Option ah)->Heap->Prop}{m:World->Heap->Prop}{d:DefRec}{K:Params->Fg}{c0 Pt:Addr}(B:l.most=aa 63)(j:d.params.defaults=[])(t:∀(w:World) (h:Heap),m w h->(K w.params).In h)(g:((recsOf q).find? λe=>e.name==gF).isSome=af)(y:∀w:World,PySem.W.tabIn (K w.params) gF=aa (c0,Pt))(A:∀w:World,PySem.W.noTabs (K w.params)=af)(F:∀(w:World) (c:Str->Option ah) (p:Addr) (h:Heap),(K w.params).In h->h.Ns mainGlobals c->c d.name=aa (.ref p)->j5 (K w.params) c0 Pt->
  ∃o:FuncData,(∀(s:Shared) (u:ah),BindsTo s o ⟨[u],[]⟩ [("_law_script",u)])/\∀base:Heap,(K w.params).In base->base.Ns mainGlobals c->iV c base->eG l.prog w (K w.params) c base fD 110 p o ["_law_script"] (oU (K w.params))):
 PySem.W.WalkO q b r m l.row.toRowW d [] (λf vs=>PySem.call f vs):=
 GS (n:=63) (k:=110) (x:="_law_script") (sp:=λw=>oU<|K w.params) B (by decide) j ⟨rfl,by decide,by decide⟩ t g y A F λ_ _ a z v D C i=>⟨a,z,rfl,C,v,D,i,λ_=>rfl⟩
def Mm{K:Fg}{h:Heap}{t:Str->Option ah}{C c0 Pt:Addr}{s:Tok}(X:K.In h)(G:h.Ns mainGlobals t)(u:PySem.W.nsIn K mainGlobals "State"=aa (aa<|.ref C))(x:PySem.W.plainGet K C Str.empty=af)(v:PySem.W.hasDictIn K C=af)(z:PySem.W.plainOver K C=af)(w:PySem.W.findIn K (.ref C) "__setattr__"=aa (aa<|.builtin "object.__setattr__"))(i:PySem.W.findIn K (.ref C) "high"=aa ae)(k:PySem.W.findIn K (.ref C) "wide"=aa ae)(d:PySem.W.findIn K (.ref C) "groups"=aa ae)(c:PySem.W.findIn K (.ref C) "numbers"=aa ae)(n:PySem.W.findIn K (.ref C) "can"=aa ae)(y:PySem.W.tabIn K gF=aa (c0,Pt))(tC:j5 K c0 Pt)(A:PySem.W.nsIn K mainGlobals "ENOUGH"=aa (aa<|.int 2 s))(f:PySem.W.nsIn K mainGlobals "range"=aa ae)(m:PySem.W.nsIn K mainGlobals "len"=aa ae)(b:PySem.W.nsIn K mainGlobals "enumerate"=aa ae)(j:PySem.W.nsIn K mainGlobals "list"=aa ae)(a:PySem.W.nsIn K mainGlobals "isinstance"=aa ae)(l:PySem.W.nsIn K mainGlobals "bool"=aa ae)(q:PySem.W.nsIn K mainGlobals "int"=aa ae)(g:PySem.W.nsIn K mainGlobals "tuple"=aa ae)(r:PySem.W.nsIn K mainGlobals "str"=aa ae)(p:PySem.W.nsIn K mainGlobals "sum"=aa ae)(e:PySem.W.nsIn K mainGlobals "sorted"=aa ae)(o:PySem.W.nsIn K mainGlobals "min"=aa ae):Bs K t C c0 Pt s:=by exact⟨y,tC,XB X G A,⟨u,⟨x,v,z,w⟩⟩,XB X G u,i,k,d,c,n,Vl X G f,Vl X G m,Vl X G b,Vl X G j,Vl X G a,Vl X G l,Vl X G q,Vl X G g,Vl X G r,Vl X G p,Vl X G e,Vl X G o⟩
end rD
namespace PySem.W.Fast
def tw1181589954205887024:=trivial
def tw6770590999030004936:=trivial
def tw17692411370360515371:=trivial
def tw15079257152113106257:=trivial
def tw7527016955548670477:=trivial
def tw14491208708716672971:=trivial
def tw12014046969746412153:=trivial
def tw18211129458755177047:=trivial
def tw12169909409880516273:=trivial
def tw1621421743406933657:=trivial
def tw3748460749045662166:=trivial
def tw16098006330807837204:=trivial
def tw16638497922901439515:=trivial
def tw11314342283470074620:=trivial
def tw18231748136303136565:=trivial
def tw13861306030251255786:=trivial
def tw3587983654139355115:=trivial
def tw15325925397921062854:=trivial
def tw283144264004682459:=trivial
def tw6046978221248711341:=trivial
def tw12692985528092400879:=trivial
def tw11191356512659184952:=trivial
def tw14289731788281323023:=trivial
def tw4655353520036266555:=trivial
def tw9375212655719166082:=trivial
def tw15382499001189735054:=trivial
def tw3465023884449786174:=trivial
def tw3592521926170065644:=trivial
def tw10163332918445713963:=trivial
def tw6614169170293653461:=trivial
def tw12089206578288392252:=trivial
def tw7463225852767282957:=trivial
def tw172614949704062872:=trivial
def tw3104160090190395514:=trivial
def tw17870938489171914481:=trivial
def tw758571083537646048:=trivial
def tw9638028631119720913:=trivial
def tw6713495194547975807:=trivial
def tw9086834258727700281:=trivial
def tw10065195817928016509:=trivial
def tw14421305283146404540:=trivial
def tw733673468899829231:=trivial
def tw1873011047830224504:=trivial
def tw17853763362270398754:=trivial
def tw17841824712549723370:=trivial
def tw6948382603238407341:=trivial
def tw12663541216042418307:=trivial
def tw8141798514418994846:=trivial
def tw157010549929218398:=trivial
def tw7548225393650141960:=trivial
def tw12294915920934480219:=trivial
def tw2212774517347255519:=trivial
def tw10032902867301293885:=trivial
def tw6787660193470161022:=trivial
def tw9619551659435526443:=trivial
def tw2823787063886084451:=trivial
def tw15882208366591059256:=trivial
def tw12834206264195650149:=trivial
def tw94608445030470588:=trivial
def tw13160830895748584285:=trivial
def tw6739467975350372214:=trivial
def tw15147266398823748673:=trivial
def tw5107734085553099788:=trivial
def tw2404182047741271003:=trivial
def tw18013906049544036516:=trivial
def tw14477445215527477121:=trivial
def tw14694142263630837483:=trivial
def tw8444032891194892060:=trivial
def tw13086729232995576640:=trivial
def tw10781222190398361652:=trivial
def tw15211450271012326436:=trivial
def tw17885267594084745839:=trivial
def tw9722892545456961838:=trivial
def tw9902535988598019976:=trivial
def tw15839011550610872433:=trivial
def tw2822924108342282789:=trivial
def tw5678050800355489652:=trivial
def tw3309398831165855908:=trivial
def tw6723269867777316557:=trivial
def tw13327968059223739221:=trivial
def tw1605539878234952272:=trivial
def tw15774686866571680548:=trivial
def tw6949110177996871813:=trivial
def tw16404393246183469284:=trivial
def tw8591891527596172111:=trivial
def tw15285083653742180394:=trivial
def tw5288464809943938296:=trivial
def tw2976524482275360097:=trivial
def tw13143516707254289356:=trivial
def tw15009763567949947578:=trivial
def tw585690361643243261:=trivial
def tw1813191092946719659:=trivial
def tw8354645483971967652:=trivial
def tw14761882469894817821:=trivial
def tw750829521628710551:=trivial
def tw4354424864291516935:=trivial
def tw17726650679320491971:=trivial
def tw14905409938053963097:=trivial
def tw5727200022364723136:=trivial
def tw6062390369904793836:=trivial
def tw862456785988719687:=trivial
def tw5160237551437883090:=trivial
def tw1907122475539542269:=trivial
def tw6694172285993457707:=trivial
def tw10657567152806576077:=trivial
def tw17504437577630456304:=trivial
def tw9092954411031177329:=trivial
def tw3591167561099036854:=trivial
def tw7250006872386378909:=trivial
def tw1047222749195034416:=trivial
def tw16571389958719193291:=trivial
def tw2597397874408311775:=trivial
def tw2120118684701441945:=trivial
def tw5100647808432351196:=trivial
def tw13689877851282769429:=trivial
def tw5751063938664922238:=trivial
def tw3016496920882512718:=trivial
def tw10242879897207119679:=trivial
def tw9829768697292770065:=trivial
def tw9701844634649030452:=trivial
def tw10198487989881754973:=trivial
def tw3985827440174516998:=trivial
def tw3548635261131155901:=trivial
def tw14551081728411436584:=trivial
def tw7023205495831433607:=trivial
def tw12230875118102872831:=trivial
def tw6957121249216984819:=trivial
def tw8305742846748770:=trivial
def tw15662964531660402936:=trivial
def tw15587224525864256257:=trivial
def tw7709928990719369332:=trivial
def tw2714525593232065131:=trivial
def tw16786815032834251743:=trivial
def tw17182731706234954118:=trivial
def tw9204444976921781969:=trivial
def tw9735496075715585195:=trivial
def tw9094962116039143214:=trivial
def tw17565963775601944949:=trivial
def tw6260778237303709084:=trivial
def tw1550723983473521179:=trivial
def tw18120259435460251565:=trivial
def tw1813325666482898283:=trivial
def tw11333415243440132739:=trivial
def tw14590817426525356069:=trivial
def tw11118626814593819401:=trivial
def tw11399498925873459678:=trivial
def tw4312257547123549636:=trivial
def tw10099728051293771777:=trivial
def tw15788137729397753768:=trivial
def tw5637377893622076594:=trivial
def tw1778416394305684215:=trivial
def tw18331215519214602248:=trivial
def tw16981035092534905597:=trivial
def tw4997556076740810928:=trivial
def tw12069363135550409269:=trivial
def tw11339693604132899078:=trivial
def tw18000117512283862506:=trivial
def tw9054004813034631552:=trivial
def tw16945433585949182897:=trivial
def tw777998186687634703:=trivial
def tw11521695707239183748:=trivial
def tw12173876337891196429:=trivial
def tw840501268285983269:=trivial
def tw12893452769817630734:=trivial
def tw17762991574034156166:=trivial
def tw17904775504459892968:=trivial
def tw1706588304922072975:=trivial
def tw7765146739481329381:=trivial
def tw8470385933522098165:=trivial
def tw15215009707425368907:=trivial
end PySem.W.Fast
open PySem PySem.W PyProof.Rows SV
local macro_rules| `(tactic|walk_at "bi")=> `(tactic|(intro _ _ _ _ _ _ us hl;(iterate 8 (try (rcases us with _|⟨u,us⟩;·first|rfl|(simp at hl;done))));simp at hl))
local macro_rules| `(tactic|walk_at "fk")=> `(tactic|(refine' Mh (by assumption) (by assumption) ?a ?l ?c ?k ?b;(case a=>unfold oH;k_is);(case l=>k_is);(case c=>k_is);(case k=>k_is);(case b=>walk_at "bi")))
local macro_rules| `(tactic|walk_at "fm")=> `(tactic|(refine' A4 ⟨?a,?i,?k0⟩ ?l ?c ?k ?b;(case a=>k_is);(case i=>k_is);(case k0=>k_is);(case l=>k_is);(case c=>k_is);(case k=>k_is);(case b=>walk_at "bi")))
local macro_rules| `(tactic|walk_at "fi")=> `(tactic|(refine' A4 ⟨?m,?a,?i,?kc⟩ ?l ?c ?k ?b;(case m=>k_is);(case a=>k_is);(case i=>k_is);(case kc=>k_is);(case l=>k_is);(case c=>k_is);(case k=>k_is);(case b=>walk_at "bi")))
set_option maxRecDepth 100000 in
set_option maxHeartbeats 0 in
theorem PySem.Challenge.cw_bedsheet_k05_whole_solved_holds : PySem.Challenge.rw_bedsheet_k05_whole_solved.Holds := by
 w_on;o_law;k_head;(case hw=>w_witness2)
 k_fill
 refine' rD.walk (c0:=183) (Pt:=179) (l:=PySem.Challenge.rw_bedsheet_k05_whole_solved) rfl rfl (λw h Y=>PySem.W.km_in_of Y) ?rq ?tq ?nq ?F
 case tq=>intro w;kernel_rfl
 case rq=>kernel_rfl
 case nq=>intro w;kernel_rfl
 case F=>
  intro w mg fa h KX G Rw CK;refine' rD.all_mk ?fs ?bs Rw
  (case bs=>refine' rD.Mm KX G ?aC ?pg ?hd ?po ?sa ?A6 ?A7 ?zx ?yI ?Bo ?tT ?tC ?aE ?IV ?Mn ?Dw ?Lc ?Dg ?Ld ?Mo ?IW ?Mp ?Mq ?GU ?Mr;(case aC=>k_is);(case pg=>k_is);(case hd=>k_is);(case po=>k_is);(case sa=>k_is);(case A6=>k_is);(case A7=>k_is);(case zx=>k_is);(case yI=>k_is);(case Bo=>k_is);(case tT=>kernel_rfl);(case tC=>exact CK);(case aE=>k_is);(case IV=>k_is);(case Mn=>k_is);(case Dw=>k_is);(case Lc=>k_is);(case Dg=>k_is);(case Ld=>k_is);(case Mo=>k_is);(case IW=>k_is);(case Mp=>k_is);(case Mq=>k_is);(case GU=>k_is);(case Mr=>k_is))
  (case fs=>refine'⟨?h0,?h1,?h2,?h3,?h4,?h5,?h6,?h7,?h8,?h9,?sE,?sF,?sG,?sH,?sI,?sJ,?sL,?sM,?sN,?sO,?sP,?sQ,?sR,?sS,?sT,?sU,?sV,?sW,?sX,?sY,?sZ,?s8,?s_,?ti,?tj,?tu,?tD,?tF,?tG,?tH,?tI,?tJ,?tK,?tL,?tM,?tN,?tO,?tP,?xr⟩;(case h0=>walk_at "fk");(case h1=>walk_at "fk");(case h2=>walk_at "fk");(case h3=>walk_at "fk");(case h4=>walk_at "fk");(case h5=>walk_at "fk");(case h6=>walk_at "fi");(case h7=>walk_at "fm");(case h8=>walk_at "fm");(case h9=>walk_at "fm");(case sE=>walk_at "fk");(case sF=>walk_at "fk");(case sG=>walk_at "fk");(case sH=>walk_at "fk");(case sI=>walk_at "fk");(case sJ=>walk_at "fk");(case sL=>walk_at "fk");(case sM=>walk_at "fk");(case sN=>walk_at "fk");(case sO=>walk_at "fk");(case sP=>walk_at "fk");(case sQ=>walk_at "fk");(case sR=>walk_at "fk");(case sS=>walk_at "fk");(case sT=>walk_at "fk");(case sU=>walk_at "fk");(case sV=>walk_at "fk");(case sW=>walk_at "fk");(case sX=>walk_at "fk");(case sY=>walk_at "fk");(case sZ=>walk_at "fk");(case s8=>walk_at "fk");(case s_=>walk_at "fk");(case ti=>walk_at "fk");(case tj=>walk_at "fk");(case tu=>walk_at "fk");(case tD=>walk_at "fk");(case tF=>walk_at "fk");(case tG=>walk_at "fk");(case tH=>walk_at "fk");(case tI=>walk_at "fk");(case tJ=>walk_at "fk");(case tK=>walk_at "fk");(case tL=>walk_at "fk");(case tM=>walk_at "fk");(case tN=>walk_at "fk");(case tO=>walk_at "fk");(case tP=>walk_at "fk");(case xr=>walk_at "fk"))
